import PyProof.Rows.All
import Wide.All
import OpenK.AllK
import Wide.FinOn
import PyProof.EqAt
import PyProof.EqKinds
import PyProof.TupleCall
import HandS.Base
import HandS.Call
import HandS.List
import HandS.Ends
import HandS.Exc
import HandS.ExcInit
import HandS.Defaults
import HandS.ExcField
import HandS.ExcIs
import HandS.IsInst
import HandS.Words
import HandS.Wide
import HandS.Dict
import KE.KDictLaw
import PyProof.ReprRoads
import PyProof.ReprLen
import HandS.WordsList
import HandS.More
import HandS.Comp
import HandS.Iter
import HandS.Text
import HandS.Flow
import HandS.ForMost
import HandS.Conv
import HandS.Style
import HandS.ListItems
import HandS.Strs
import HandS.Walk
import HandS.WordsDict
import HandS.DictComp
import HandS.ExcOwn
import HandS.CallSlots
import HandS.DictEq
import KE.KDictList
import HandS.Lambda
import HandS.Nested
import KE.KOwnCellsLaws
import KE.KDictKeyed
import HandS.Property
import KE.KFmtOwn
import HandS.SlotsOwn
import HandS.Deep
import HandS.TupLe
import HandS.Zip
import HandS.EndBits
import KE.KStateDown
import HandS.Head0
import HandS.Head1
import HandS.Head2
import HandS.HeadEnd
import HandS.HeadHook1
import HandS.HeadHook2
import HandS.HeadHook3
import HandS.HeadHook4
import PySem.Challenge.RW_lateeditions_k06_desks_held_against_each
set_option Elab.async false
set_option linter.all false
set_option maxRecDepth 100000
set_option maxHeartbeats 4000000
namespace PySem
namespace ErK
open PySem.W PySem.Calls PyProof.Rows PySem.HandSPX
section
variable {prog : Program} {w : World} {M : Model} {A : Around} {E : Value → Shared → Prop} {R : Result → Shared → Prop} {h : Heap} {g : Array GenState} {d : Drawn} {t : Nat} {os : OsState}
variable {nm q : Str} {C N : Addr} {bs bm bmB : List Value} {hdct : Bool} {sn : List Str} {sub : List Value} {ab : Bool} {col : Option Bool} {dd : Option Addr} {k0 k1 k2 k3 k5 : Option Value} {B nw ini : String}
/-- the check ahead of the class's __new__, with keywords -/
theorem new_seen (F : ExcBaseFacts B nw ini bmB) (hT : ∀ X : String, bm.contains (.type X) = bmB.contains (.type X)) {us : List Value} {kws : List (Str × Value)} {Q : Unit → Shared → Prop}
    (cls : h.get? C = some (excClassObj nm q C N bs bm hdct sn sub ab col dd k0 k1 k2 k3 k5 nw)) (fin : Q () ⟨h, g, d, t, os⟩) :
    wpAny M A (checkBuiltinCall nw ⟨.ref C :: us, kws⟩) Q E ⟨h, g, d, t, os⟩ := by
  have has : (Value.ref C :: bm).contains (.type B) = true := by
    rw [List.contains_cons, hT, F.hasB, Bool.or_true]
  have star := F.noStar
  simp only [checkBuiltinCall, F.newKind, F.newSplit, F.newRow]
  repeat (first
    | refine wpAny_loadPart_at cls ?_
    | (refine wpAny_isSubtype_exc cls ?_
       rw [has])
    | refine wpAny_staticBase_exc cls ?_
    | refine wpAny_madeBy_exc cls ?_
    | simp only [bne_self_eq_false, Bool.false_eq_true, if_false]
    | wp_step)
  exact fin
/-- BaseException.__new__ of such a class, with keywords: they are not looked at -/
theorem new_runs (F : ExcBaseFacts B nw ini bmB) (hT : ∀ X : String, bm.contains (.type X) = bmB.contains (.type X)) {us : List Value} {kws : List (Str × Value)}
    (cls : h.get? C = some (excClassObj nm q C N bs bm hdct sn sub ab col dd k0 k1 k2 k3 k5 nw)) (short : us.length ≤ sizeLine)
    (fin : R (.ok (.ret (.ref (h.objs.size + 1)))) ⟨(h.push (W.kdv_tup us)).push (excO C h.objs.size), g, d, t, os⟩) :
    codeAny (model prog w) A (.builtin nw ⟨.ref C :: us, kws⟩) R ⟨h, g, d, t, os⟩ := by
  have ends := F.ends
  have isB : (Value.ref C :: bm).contains (.type B) = true := by
    rw [List.contains_cons, hT, F.hasB, Bool.or_true]
  have notA : (Value.ref C :: bm).contains (.type "AttributeError") = false := by
    rw [List.contains_cons, hT, F.noAttr]
    rfl
  have notN : (Value.ref C :: bm).contains (.type "NameError") = false := by
    rw [List.contains_cons, hT, F.noName]
    rfl
  refine codeAny_builtinAt F.entry ?_
  unfold Builtin.«BaseException.__new__»
  refine wpAt_bind ?_
  show wpAt _ _ _ (stack >>= _) _ _ _
  refine wpAt_bind (wpAt_stack fun p below => wpAt_of_wpAny ?_)
  wp_walk
  refine wpAt_of_wpAny ?_
  rw [F.owner]
  repeat (first
    | with_reducible refine wpAny_madeHere_exc F.canon cls ?_
    | with_reducible refine wpAny_loadPart_at cls ?_
    | (with_reducible refine wpAny_isSubtype_exc cls ?_
       first
         | rw [isB]
         | rw [notA]
         | rw [notN])
    | wp_step)
  show R _ _
  rw [Heap.size_push]
  exact fin
/-- type.__call__ of such a class, with keywords -/
theorem type_runs (F : ExcBaseFacts B nw ini bmB) (hT : ∀ X : String, bm.contains (.type X) = bmB.contains (.type X)) {us : List Value} {kws : List (Str × Value)} {fI : Addr} {Q : Fin → Shared → Prop}
    (cls : h.get? C = some (excClassObj nm q C N bs bm hdct sn sub ab col dd k0 k1 k2 k3 k5 nw)) (short : us.length ≤ sizeLine)
    (look : W.Looks (model prog w) h (typeLookup (.ref C) "__init__") (some (.ref fI))) (bind : ∀ self, W.Looks (model prog w) h (bindSpecial (.ref fI) self) (.ref fI, [self]))
    (run : codeAny (model prog w) A (.call (.ref fI) ⟨.ref (h.objs.size + 1) :: us, kws⟩)
      (fun r s' => match r with
        | .ok (.ret v) => v = .none ∧ Q (.done (.ret (.ref (h.objs.size + 1)))) s'
        | .ok _ => False
        | .error e => E e s')
      ⟨(h.push (W.kdv_tup us)).push (excO C h.objs.size), g, d, t, os⟩) :
    wpAny (model prog w) A (Builtin.«type.__call__» ⟨.ref C :: us, kws⟩) Q E ⟨h, g, d, t, os⟩ := by
  repeat (first
    | with_reducible refine wpAny_loadPart_at cls ?_
    | with_reducible refine wpAny_madeBy_exc cls ?_
    | wp_step)
  refine codeAny_call_builtin_code (Code.quiet_builtin _ F.quiet) (new_seen F hT cls ?_)
  refine new_runs F hT cls short ?_
  show wpAny _ _ _ _ _ _
  have old : ∀ b o, h.get? b = some o → ((h.push (W.kdv_tup us)).push (excO C h.objs.size)).get? b = some o :=
    fun b o e => Heap.get?_push_of_some _ (Heap.get?_push_of_some _ e)
  have cls1 := old _ _ cls
  have made : ((h.push (W.kdv_tup us)).push (excO C h.objs.size)).get? (h.objs.size + 1) = some (excO C h.objs.size) := by
    heap_get
  have self : (Value.ref C :: bm).contains (.ref C) = true := by simp
  have l1 := look.keeps old
  have l2 := (bind (.ref (h.objs.size + 1))).keeps old
  unfold isInstance
  repeat (first
    | with_reducible refine wpAny_loadPart_at made ?_
    | (with_reducible refine wpAny_isSubtype_exc cls1 ?_
       rw [self])
    | wp_step)
  show wpAny _ _ (typeLookup (.ref C) _) _ _ _
  refine l1.at ?_
  refine wpAny_holding (wpAny_bind (l2.at ?_))
  refine wpAny_bind (wpAny_call (codeAny_mono run fun r s' z => ?_))
  rcases r with e | (v | _ | _ | _) <;> first | exact z | exact z.elim | skip
  obtain ⟨rfl, z⟩ := z
  first
    | exact wpAny_pure (wpAny_pure z)
    | (wp_walk
       exact z)
/-- C(.., k = v): an exception of an own class over ValueError with its own __init__ -/
theorem call_kws (F : ExcBaseFacts B nw ini bmB) (hT : ∀ X : String, bm.contains (.type X) = bmB.contains (.type X)) {us : List Value} {kws : List (Str × Value)} {fI : Addr}
    (cls : h.get? C = some (excClassObj nm q C N bs bm hdct sn sub ab col dd k0 k1 k2 k3 k5 nw)) (short : us.length ≤ sizeLine)
    (look : W.Looks (model prog w) h (typeLookup (.ref C) "__init__") (some (.ref fI))) (bind : ∀ self, W.Looks (model prog w) h (bindSpecial (.ref fI) self) (.ref fI, [self]))
    (run : codeAny (model prog w) (A.under (.builtin "type.__call__" ⟨.ref C :: us, kws⟩)) (.call (.ref fI) ⟨.ref (h.objs.size + 1) :: us, kws⟩) (W.InitBack (h.objs.size + 1) R)
      ⟨(h.push (W.kdv_tup us)).push (excO C h.objs.size), g, d, t, os⟩) :
    codeAny (model prog w) A (.call (.ref C) ⟨us, kws⟩) R ⟨h, g, d, t, os⟩ := by
  have f1 := tc_lookup
  have f2 := tc_bind (.ref C)
  have ty : (⟨h, g, d, t, os⟩ : Shared).TypeIs (.ref C) "type" := ⟨_, cls, rfl⟩
  refine codeAny_of_tree ?_
  show wpAny _ _ (callAny (.ref C) _) _ _ _
  repeat (any_goals (first
    | assumption
    | with_reducible refine wpAny_loadPart_at cls ?_
    | wp_step))
  refine ⟨rfl, ?_⟩
  refine codeAny_call_builtin_at (Code.quiet_builtin _ (by decide +kernel)) entry_typeCall ?_
  refine wpAny_check_type_call_sub cls (type_runs F hT cls short look bind ?_)
  refine codeAny_mono run fun r s' z => ?_
  rcases r with e | (v | _ | _ | _) <;> exact z
end
end ErK
end PySem
set_option Elab.async false
set_option linter.all false
set_option maxRecDepth 100000
set_option maxHeartbeats 4000000
namespace PySem
namespace ErK
open PySem.W PySem.Calls PyProof.Rows PySem.HandSPX
/-! ### the text of an error's __init__: self.f = f -/
def tA (f : Str) (p1 p2 : Pos) : Arguments :=
  { posonlyargs := [], args := [{ arg := "self", annotation := none, pos := p1 }, { arg := f, annotation := none, pos := p2 }], vararg := none, kwonlyargs := [], kw_defaults := [], kwarg := none, defaults := [] }
def tB (f : Str) (q1 q2 q3 q4 : Pos) : List Stmt := [.Assign [.Attribute (.Name "self" q1) f q2] (.Name f q3) q4]
def tS (f : Str) : Scope :=
  { kind := .function, names := [(PySem.Str.ofString "self", .local), (f, .local)], isGenerator := false, isCoroutine := false, more := [] }
/-- the fields' names -/
def fields : List Str := ["value", "position", "spot", "limit", "deed", "count", "words"]
/-- what the written part says of an error's class, at C, and of its __init__, at fI -/
structure EC (K : Frag) (x f : Str) (C fI : Addr) : Prop where
  ox : L2.OexC K C
  noN : findIn K (.ref C) f = some none
  iC : findIn K (.ref C) "__init__" = some (some (.ref fI))
  tI : typeIn K (.ref fI) = some (.type "function")
  xf : L2.XfC K C
  xc : L2.ExcC K C
  fl : f ∈ fields
  fn : ∃ (oc : Value) (od : Option Addr) (kV doc pm : Value) (an : Option Addr) (cdv ct : Value) (osl : Array (Option Value)) (ql : Str) (p1 p2 q1 q2 q3 q4 : Pos),
    K.lookup fI = some ⟨oc, od, .func (fnOf "__init__" ql (tA f p1 p2) (tB f q1 q2 q3 q4) (tS f) .none kV doc pm an cdv ct), osl⟩ ∧ codeIn K cdv ql = true
/-- what __init__ leaves of a new exception at x -/
structure Left (h h' : Heap) (x C dx t1 : Addr) (f : Str) (v : Value) : Prop where
  keep : ∀ b o, b ≠ x → h.get? b = some o → h'.get? b = some o
  obj : h'.get? x = some { cls := .ref C, dict := some dx, data := .fields #[.ref t1, .none, .none, .none, .bool false, .none] }
  big : h.objs.size ≤ dx
  ne : dx ≠ x
  ns : h'.Ns1 dx (fun y => if y = f then some v else none)
theorem ld {M : Model} {s : Shared} {name : Str} {scope : Scope} {L a : Addr} {cd : Value} {m : Str → Option Value} {x : Str} {pos : Pos} {v : Value} {Q : Value → Shared → Prop} {A : Around} {E : Value → Shared → Prop}
    (ns : s.heap.Ns L m) (at_ : m x = some v) (fin : Q v s) (kd : scope.kind = .function := by rfl) (lo : (envOfC name scope L a cd).kindOf x = some .local := by rfl) (db : (x == ("__debug__" : Str)) = false := by decide) :
    wpAny M A (eval (.Name x pos) (envOfC name scope L a cd)) Q E s :=
  wpAny_Name (wpAny_loadName_local kd lo ns at_ fin) db
section
variable {prog : Program} {w : World} {A : Around} {R : Result → Shared → Prop} {s : Shared} {K : Frag} {x f : Str} {C fI : Addr}
theorem init_any (T : EC K x f C fI) {e t0 : Addr} {v : Value} {args : Args} (ha : args = ⟨[.ref e, v], []⟩ ∨ args = ⟨[.ref e], [(f, v)]⟩) (X : K.In s.heap) (lim : s.heap.NoLimit) (he : s.heap.get? e = some (excO C t0)) (room : A.depth < recursionLimit)
    (fin : ∀ h' tk dx, Left s.heap h' e C dx t0 f v → R (.ok (.ret .none)) { s with heap := h', toks := tk }) :
    codeAny (model prog w) A (.call (.ref fI) args) R s := by
  obtain ⟨oc, od, kV, doc, pm, an, cdv, ct, osl, ql, p1, p2, q1, q2, q3, q4, ho, hcd⟩ := T.fn
  obtain ⟨nm, q, N, bs, bm, sn, sub, ab, col, dd, k0, k1, k2, k3, k5, hC, hbm⟩ := T.ox.cls
  have hcl : clsIn K C = some { name := nm, bases := bs, mro := .ref C :: bm, ns := N, qualname := q, hasDict := true, slotNames := sn, subclasses := sub, abstract := ab, collection := col, hasDel := false } := by
    unfold clsIn
    rw [hC] <;> rfl
  have noN := T.noN
  have fl := T.fl
  have sa := T.ox.sa
  have step : ∀ {s₁ : Shared} {m : Str → Option Value} {sc : Scope} {cdv : Value} {A' : Around} {E' : Value → Shared → Prop} {Q' : Flow → Shared → Prop} {L : Addr} {ql : Str}, (∀ b o, s.heap.get? b = some o → s₁.heap.get? b = some o) → s₁.heap.Ns L m → s.heap.objs.size ≤ L → sc.kind = .function →
      (envOfC ql sc L fI cdv).kindOf "self" = some .local → (envOfC ql sc L fI cdv).kindOf f = some .local → (f == ("__debug__" : Str)) = false → m "self" = some (.ref e) → m f = some v → (swapsWith (.Name f q3) (some (.Attribute (.Name "self" q1) f q2)) q4.line (envOfC ql sc L fI cdv) = pure false) →
      (∀ (h₂ : Heap) (tk : Nat × Addr), Left s.heap h₂ e C tk.2 t0 f v → Q' .next { s₁ with heap := h₂, toks := tk.1 }) → wpAny (model prog w) A' (execs (tB f q1 q2 q3 q4) (envOfC ql sc L fI cdv)) Q' E' s₁ := by
    intro s₁ m sc cdv A' E' Q' L ql k hn hL kd l1 l2 db m1 m2 sw fin'
    have X₁ : K.In s₁.heap := X.keeps k
    have he₁ := k _ _ he
    refine wpAny_execs_cons (plainObj_wpAny_Assign_Attribute ?_ sw)
    refine ld (v := v) hn m2 (ld (v := .ref e) hn m1 ?_ kd l1) kd l2 db
    refine set_plain X₁ (ox := excO C t0) (od := none) ⟨he₁, rfl, rfl, trivial⟩ sa ?_
    obtain ⟨h₁, g₁, d₁, t₁, o₁⟩ := s₁
    refine exc_osa X₁ he₁ hcl (show refsVE (.ref C :: bm) = true from hbm) rfl noN (fun h₃ tk₃ dx k₃ dn dne hx₃ hn₃ => ?_)
    show wpAny _ _ (execs _ _) _ _ _
    have z : L < h₁.objs.size := hn.lt
    exact wpAny_execs_nil (fin' h₃ (tk₃, dx) ⟨fun b o hb q => k₃ b o hb (k b o q), hx₃, Nat.le_of_lt (Nat.lt_of_le_of_lt hL (Nat.lt_of_lt_of_le z dn)), dne, hn₃⟩)
  simp only [fields, List.mem_cons, List.not_mem_nil, or_false] at fl
  rcases ha with rfl | rfl <;> rcases fl with rfl | rfl | rfl | rfl | rfl | rfl | rfl
  all_goals
    refine Att.call_fn (binds := [("self", .ref e), (_, v)]) X lim ho hcd room (BindsTo.of_eq (by first | rfl | with_unfolding_all rfl)) (by first | rfl | decide | with_unfolding_all rfl) (fun s₁ IC => ?_) rfl rfl rfl
    obtain ⟨h₁, tk₁, rfl⟩ := IC.toInCall.same
    refine step (m := _) IC.toInCall.keep IC.toInCall.ns (Nat.le_refl _) rfl rfl rfl (by decide) (by first | rfl | with_unfolding_all rfl | kernel_rfl) (by first | rfl | with_unfolding_all rfl | kernel_rfl) (by rfl) fun h₂ tk z => fin h₂ tk.1 tk.2 z
end
end ErK
end PySem
set_option Elab.async false
set_option linter.all false
set_option maxRecDepth 100000
set_option maxHeartbeats 4000000
namespace Er
open PySem PySem.Spec PyProof.Rows L2
open PySem.ErK (EC)
/-- what stood stands -/
def Sm (H H' : Hp) : Prop := ∀ b o, H b = some o → H' b = some o
theorem Sm.refl (H : Hp) : Sm H H := fun _ _ e => e
theorem Sm.trans {H H1 H2 : Hp} (a : Sm H H1) (b : Sm H1 H2) : Sm H H2 := fun c o e => b c o (a c o e)
theorem Sm.new {H : Hp} {a : Addr} {o : HO} (n : H a = none) : Sm H (upd H a o) := fun b u e => by
  rw [upd_ne (ne_of_none e n)]
  exact e
section
variable {X : Cx} {pins : List (Addr × Obj)} {σ : L2.St} {H : Hp} {s : Shared}
/-- two new objects at once -/
theorem laid2 {h' : Heap} {a d : Addr} {o u : HO} {t' : Nat} (I : Inv X pins σ H s) (k : ∀ b v, s.heap.get? b = some v → h'.get? b = some v) (la : s.heap.objs.size ≤ a) (ld : s.heap.objs.size ≤ d) (ne : d ≠ a)
    (oa : ObjOk X.prog X.w (upd (upd H d u) a o) h' a o) (od : ObjOk X.prog X.w (upd (upd H d u) a o) h' d u) :
    Inv X pins σ (upd (upd H d u) a o) { s with heap := h', toks := t' } := by
  have na := I.hok.fresh la
  have nd := I.hok.fresh ld
  have lt : ∀ {b : Addr} {v : Obj} {c : Addr}, s.heap.get? b = some v → s.heap.objs.size ≤ c → b ≠ c := fun q z => Nat.ne_of_lt (Nat.lt_of_lt_of_le (Heap.lt_size q) z)
  have st : ∀ {b : Addr} {v : HO}, H b = some v → upd (upd H d u) a o b = some v := fun {b v} q => by
    rw [upd_ne (ne_of_none q na), upd_ne (ne_of_none q nd)]
    exact q
  have U : Un X.fs [] H (upd (upd H d u) a o) s.heap h' := {
    keep := fun b v q _ _ _ => k b v q
    slot := fun b v q _ _ _ => ⟨v.slots, k b v q⟩
    free := fun b v q n _ => by
      rw [upd_ne (lt q la), upd_ne (lt q ld)]
      exact n
    there := fun b v q _ => ⟨v, k b v q⟩
    tups := fun b xs q => st q
    frzs := fun b v xs q => st q
    tbls := fun b ps q => ⟨#[], by
      rw [st q]
      simp⟩ }
  refine I.un (t' := t') U fun b v q => ?_
  by_cases hb : b = a
  · subst hb
    rw [upd_same] at q
    cases q
    exact oa
  · rw [upd_ne hb] at q
    by_cases hd : b = d
    · subst hd
      rw [upd_same] at q
      cases q
      exact od
    · rw [upd_ne hd] at q
      exact (I.hok b v q).stay (fun c z _ y => k c z y) (fun c y => st y) fun c xs y => st y
end
/-! ### errors as values -/
/-- v is an error of the class at C, whose only field f holds y -/
def IsE (H : Hp) (v : V) (C : Addr) (f : Str) (y : V) : Prop :=
  ∃ a d : Addr, v = .ref a ∧ H a = some (exo a C (some d)) ∧ H d = some (exd d [(f, y)])
theorem IsE.mono {H H' : Hp} {v : V} {C : Addr} {f : Str} {y : V} (e : IsE H v C f y) (k : Sm H H') : IsE H' v C f y := by
  obtain ⟨a, d, e1, e2, e3⟩ := e
  exact ⟨a, d, e1, k _ _ e2, k _ _ e3⟩
/-- the reading of X(e), X(f = e) -/
def tNew (C : Addr) (f : Str) (te : TE) : TE := fun σ H Q => te σ H fun y H1 => ∀ v H2, Sm H1 H2 → IsE H2 v C f y → Q v H2
theorem rel_one {y : V} {u : Value} (f : Str) (r : RelV y u) (g : Str) : RelO (List.lookup g [(f, y)]) (if g = f then some u else none) := by
  by_cases hw : g = f
  · subst hw
    rw [if_pos rfl]
    have q : List.lookup g [(g, y)] = some y := by simp [List.lookup]
    rw [q]
    exact r
  · rw [if_neg hw]
    have qw : (g == f) = false := by simpa using hw
    have q2 : List.lookup g [(f, y)] = none := by simp [List.lookup, qw]
    rw [q2]
    trivial
section
variable {X : Cx} {x f : Str} {C fI : Addr}
/-- the call itself, whichever way the value is handed in -/
theorem run_new {pins : List (Addr × Obj)} {σ : L2.St} {H : Hp} {s : Shared} {Q : VK} {y : V} {u : Value} {us : List Value} {kw : List (Str × Value)} (T : EC X.K x f C fI) (hr : Room 1 X.A) (I : Inv X pins σ H s) (r : RelV y u)
    (ha : (us = [u] ∧ kw = []) ∨ (us = [] ∧ kw = [(f, u)])) (h : ∀ v H2, Sm H H2 → IsE H2 v C f y → Q v H2) :
    wpAny (model X.prog X.w) X.A (call (.ref C) us kw) (EP X pins σ Q) X.xe s := by
  obtain ⟨nm, q, N, bs, bm, sn, sub, ab, col, dd, k0, k1, k2, k3, k5, hC, hbm⟩ := T.ox.cls
  have hlim := I.nolimit
  have kIn := I.kIn
  obtain ⟨hp, g, dr, tk, os⟩ := s
  have short : us.length ≤ sizeLine := by
    rw [sizeLine_eq]
    rcases ha with ⟨rfl, _⟩ | ⟨rfl, _⟩
    · exact (by decide : 1 ≤ 16777216)
    · exact (by decide : 0 ≤ 16777216)
  have k : ∀ b o, hp.get? b = some o → ((hp.push (PySem.W.kdv_tup us)).push (PySem.HandSPX.excO C hp.objs.size)).get? b = some o :=
    fun b o e => Heap.get?_push_of_some _ (Heap.get?_push_of_some _ e)
  have new : ((hp.push (PySem.W.kdv_tup us)).push (PySem.HandSPX.excO C hp.objs.size)).get? (hp.objs.size + 1) = some (PySem.HandSPX.excO C hp.objs.size) := by
    heap_get
  refine wpAny_call (PySem.ErK.call_kws F.excBase_ValueError (fun Y => PySem.HandSPX.refsVE_contains Y bm hbm) (kIn _ _ hC) short (PySem.W.looks_findIn kIn T.iC) (fun self => PySem.W.bind_fn kIn self T.tI) ?_)
  refine PySem.ErK.init_any (s := ⟨(hp.push (PySem.W.kdv_tup us)).push (PySem.HandSPX.excO C hp.objs.size), g, dr, tk, os⟩) (e := hp.objs.size + 1) (v := u) T ?_ (PySem.W.Frag.In.keeps kIn k) (hlim.keeps k) new ?_ fun h' tk' dx ⟨k', hx, dn, dne, hns⟩ => ?_
  · rcases ha with ⟨rfl, rfl⟩ | ⟨rfl, rfl⟩
    · exact .inl rfl
    · exact .inr rfl
  · have z := hr.dp
    show (X.A.under _).depth < recursionLimit
    rw [make_depth]
    omega
  · have old : ∀ b o, hp.get? b = some o → h'.get? b = some o :=
      fun b o e => k' b o (Nat.ne_of_lt (Nat.lt_succ_of_lt (Heap.lt_size e))) (k b o e)
    have big : hp.objs.size ≤ dx := by
      have z : hp.objs.size + 1 + 1 ≤ dx := by
        first
          | exact dn
          | (have q := dn
             rw [Heap.size_push, Heap.size_push] at q
             exact q)
          | (simpa only [Heap.size_push] using dn)
      exact Nat.le_trans (Nat.le_trans (Nat.le_succ _) (Nat.le_succ _)) z
    have J : Inv X pins σ (upd (upd H dx (exd dx [(f, y)])) (hp.objs.size + 1) (exo (hp.objs.size + 1) C (some dx))) ⟨h', g, dr, tk', os⟩ :=
      laid2 (t' := tk') I old (Nat.le_succ _) big dne (exo_ok hx) (exd_ok hns (rel_one f r))
    have n1 : H (hp.objs.size + 1) = none := I.hok.fresh (Nat.le_succ _)
    have n2 : H dx = none := I.hok.fresh big
    refine ⟨rfl, .ref (hp.objs.size + 1), _, J, rfl, h _ _ (fun b o e => ?_) ⟨_, dx, rfl, upd_same, ?_⟩⟩
    · rw [upd_ne (ne_of_none e n1), upd_ne (ne_of_none e n2)]
      exact e
    · rw [upd_ne dne]
      exact upd_same
/-- X(e) -/
theorem pe_new {e : Expr} {te : TE} {p pos : Pos} (T : EC X.K x f C fI) (hr : Room 1 X.A) (gl : Gl X x) (gC : X.mg x = some (.ref C)) (he : PE X e te) (db : (x == ("__debug__" : Str)) = false := by decide)
    (hs : starEach [e] X.env = (false, eval e X.env) :: starEach [] X.env := by rfl) (hp : (backTo pos (starEach [] X.env)).any (·.1) = false := by rfl) :
    PE X (.Call (.Name x p) [e] [] pos) (tNew C f te) := by
  refine ⟨fun pins s σ H Q I h => ?_⟩
  refine wpAny_Call_Name_kw (ld_glob I gl gC ?_ db)
  refine PySem.W.callWith_K (h₀ := X.base) I.ok.mod.kin T.ox.kC ?_ hs hp
  rw [hs]
  show wpAny _ _ (spliced ((false, eval e X.env) :: backTo pos (starEach [] X.env))) _ _ s
  refine Calls.spliced_cons (thn (he.run pins s σ H _ I h) fun u s1 ⟨y, H1, I1, r1, q1⟩ => ?_)
  refine Calls.spliced_nil ⟨I1.kIn, ?_⟩
  exact run_new T hr I1 r1 (.inl ⟨rfl, rfl⟩) q1
/-- X(f = e) -/
theorem pe_newK {e : Expr} {te : TE} {p pos kp : Pos} (T : EC X.K x f C fI) (hr : Room 1 X.A) (gl : Gl X x) (gC : X.mg x = some (.ref C)) (he : PE X e te) (db : (x == ("__debug__" : Str)) = false := by decide) :
    PE X (.Call (.Name x p) [] [⟨some f, e, kp⟩] pos) (tNew C f te) := by
  refine ⟨fun pins s σ H Q I h => ?_⟩
  refine wpAny_Call_Name_kw (ld_glob I gl gC ?_ db)
  refine PySem.W.callWith_KW0 (h₀ := X.base) I.ok.mod.kin T.ox.kC (by rfl) ?_
  show wpAny _ _ (evalAll [(do
    let v ← eval e X.env
    standAt pos
    pure v)]) _ _ s
  refine wpAny_evalAll_cons (wpAny_bind (thn (he.run pins s σ H _ I h) fun u s1 ⟨y, H1, I1, r1, q1⟩ => wpAny_bind (wpAny_standAt (wpAny_pure ?_))))
  refine wpAny_evalAll_nil ⟨I1.kIn, ?_⟩
  exact run_new T hr I1 r1 (.inr ⟨rfl, rfl⟩) q1
/-- e.f, e an error -/
def tGet (K : PySem.W.Frag) (f : Str) (te : TE) : TE := fun σ H Q => te σ H fun v H1 => ∃ (x : Str) (C fI : Addr) (y : V), EC K x f C fI ∧ IsE H1 v C f y ∧ Q y H1
theorem pe_get {e : Expr} {te : TE} {pos : Pos} (he : PE X e te) (hb : attributeBase e f X.env (eval e X.env) = eval e X.env := by rfl) : PE X (.Attribute e f pos) (tGet X.K f te) := by
  refine ⟨fun pins s σ H Q I h => ?_⟩
  refine attr_of hb (thn (he.run pins s σ H _ I h) fun u s1 hh => ?_)
  obtain ⟨v, H1, I1, rv, x, C, fI, y, T, ⟨a, d, rfl, ea, ed⟩, q⟩ := hh
  obtain rfl : u = Value.ref a := rv
  obtain ⟨t1, ho⟩ := exo_at I1.hok ea
  obtain ⟨mA, hns, hrel⟩ := exd_at I1.hok ed
  obtain ⟨od, hd, hl⟩ := lookIn_ns hns
  have l : List.lookup f [(f, y)] = some y := by simp [List.lookup]
  obtain ⟨u', hu, ru⟩ := RelO.some_of (v := y) (o := mA f) (by
    rw [← l]
    exact hrel f)
  have J : PySem.W.InstAt s1.heap a { cls := .ref C, dict := some d, data := .fields #[.ref t1, .none, .none, .none, .bool false, .none] } C (some od) := ⟨ho, rfl, rfl, hd⟩
  exact HandSPX.exc_get I1.kIn J T.xf.ga T.xf.gg T.xf.exC (PySem.W.findObj_own T.xf.hdC T.noN rfl (by rw [hl, hu])) (handed_of ru) ⟨y, H1, I1.tok _, ru, q⟩
end
end Er
set_option Elab.async false
set_option linter.all false
set_option maxRecDepth 100000
set_option maxHeartbeats 4000000
namespace PySem
namespace ErK
open PySem.W PySem.Calls PyProof.Rows PySem.HandSPX PySem.Spec
section
variable {prog : Program} {w : World} {A : Around} {E : Value → Shared → Prop} {s : Shared} {K : Frag} {x D : Addr} {ox : Obj} {od : Option Obj}
theorem found_data {C : Addr} {name : Str} {b g : Value} (c : (clsIn K C).isSome = true) (f : findIn K (.ref C) name = some (some b)) (g1 : specialIn K b "__get__" = some (some g)) (t1 : takesIn K b = some true) :
    findObj K C od name = some (.bind g b) := by
  obtain ⟨cd, c⟩ := Option.isSome_iff_exists.mp c
  unfold findObj
  rw [c, Option.bind_some, f, Option.bind_some]
  simp [g1, t1]
/-- x.__class__, x an error with its dict -/
theorem cls_asked {Q : Option Value → Shared → Prop} (T : L2.ExcC K D) (X : K.In s.heap) (I : InstAt s.heap x ox D od) (fin : Q (some (.ref D)) { s with toks := s.toks + 1 }) :
    wpAny (model prog w) A (getAttr? (.ref x) "__class__") Q E s := by
  have hf : findObj K D od "__class__" = some (.bind (.builtin "getset_descriptor.__get__") (.builtin "object.__class__")) := found_data (by
    obtain ⟨cd, hc, _⟩ := any_some T.hd
    rw [hc]
    rfl) T.ha T.hn T.ht
  obtain ⟨hp, g, d, t, os⟩ := s
  have l0 := I.type (M := model prog w)
  have l1 := looks_findIn (M := model prog w) X T.hg
  have l2 := looks_findIn (M := model prog w) X T.hk
  have l3 := looks_find (M := model prog w) X I hf
  have isB : Looks (model prog w) hp (isInstance (.ref x) (.type "BaseException")) true := l0.andThen (looks_subIn X T.hs)
  have z0 : (false && onTheHeap (Value.builtin "BaseException.__getattribute__")) = false := rfl
  have z2 : (Value.builtin "BaseException.__getattribute__" == Value.builtin "object.__getattribute__") = false := by
    decide +kernel
  have z1 : (onTheHeap (Value.ref D) && Value.builtin "BaseException.__getattribute__" == Value.builtin "object.__getattribute__") = false := by
    rw [z2]
    rfl
  unfold getAttr? getAttrBy? getAttrBy
  refine wpAny_bind (wpAny_mkText (wpAny_bind (wpAny_attempt (wpAny_holding (wpAny_bind (l0.at (wpAny_bind (l1.at ?_))))))))
  show wpAny _ _ (if (onTheHeap (Value.ref D) && Value.builtin "BaseException.__getattribute__" == Value.builtin "object.__getattribute__") = true then _ else _) _ _ _
  rw [z1, if_neg Bool.false_ne_true]
  unfold getAttrByItsOwn hookBefore
  refine wpAny_bind ?_
  rw [if_pos (show onTheHeap (Value.ref D) = true from rfl)]
  refine l2.at ?_
  refine wpAny_bind (wpAny_attempt (wpAny_holding ?_))
  unfold callGetattribute
  rw [z0, if_neg Bool.false_ne_true]
  unfold boundAndCalled
  rw [PySem.F.excAttr_ValueError.ga.bind (.ref x)]
  refine wpAny_bind (wpAny_pure ?_)
  show wpAny _ _ (call (.builtin "BaseException.__getattribute__") [.ref x, .str "__class__" t]) _ _ _
  refine wpAny_call (codeAny_call_builtin PySem.F.excAttr_ValueError.ga.plain PySem.F.entry_bexc_ga ?_)
  refine @check_slot (model prog w) _ _ ⟨hp, g, d, t + 1, os⟩ "BaseException.__getattribute__" "BaseException" "__getattribute__" (.ref x) [.str "__class__" t] [] _ (by decide +kernel) (by decide +kernel) isB (PySem.F.args_bexc_ga (.ref x) (.str "__class__" t)) ?_
  unfold Builtin.«object.__getattribute__»
  refine wpAny_bind (wpAny_of_eq (a := ((Value.ref x : Value), [Value.str "__class__" t])) (by
    first
      | rfl
      | (simp only [slotArgs]
         rfl)) ?_)
  refine wpAny_bind (wpAny_pure (wpAny_bind (l0.at (wpAny_bind (l3.at ?_)))))
  show wpAny _ _ (holding [Value.builtin "object.__class__"] (call (.builtin "getset_descriptor.__get__") [.builtin "object.__class__", .ref x, .ref D]) >>= ret) _ _ _
  refine wpAny_bind (wpAny_holding (wpAny_call (class_get (s := ⟨hp, g, d, t + 1, os⟩) (ox := ox) (od := od) X I T.hm ?_)))
  refine wpAny_pure ?_
  show wpAny _ _ (handedOut (.ref D)) _ _ _
  rw [handedOut_of (v := .ref D) rfl]
  first
    | exact wpAny_pure (wpAny_bind (wpAny_pure (wpAny_pure fin)))
    | exact wpAny_pure (wpAny_pure fin)
    | exact wpAny_pure fin
/-- what isinstance's rules ask of such an error -/
theorem kit_err (T : L2.ExcC K D) : KitX K (.ref x) (.ref D) (fun h => InstAt h x ox D od) where
  ty := fun _ _ _ I => I.type
  it := fun _ _ X _ => by
    obtain ⟨cdD, hcD, _⟩ := any_some T.hd
    unfold clsIn at hcD
    split at hcD
    · rename_i c' d' cd' sl' ho
      intro A' Q' E' s' k q
      unfold isType loadHead
      exact wpAny_bind (wpAny_loadPart (k _ _ (X _ _ ho)) (wpAny_pure q))
    · cases hcD
  ne := fun h tp dd its n sl X at_ => by
    obtain ⟨cdD, hcD, _⟩ := any_some T.hd
    refine Bool.eq_false_iff.mpr fun q => ?_
    have e : D = tp := Value.ref.inj (beq_iff_eq.mp q)
    subst e
    unfold clsIn at hcD
    split at hcD
    · rename_i c' d' cd' sl' ho
      have z := (X _ _ ho).symm.trans at_
      cases z
    · cases hcD
  ca := fun X I fin => cls_asked T X I fin
end
end ErK
end PySem
namespace Er
open PySem PySem.Spec PyProof.Rows L2
open PySem.ErK (EC)
section
variable {X : Cx}
/-- isinstance(e, c), e an error -/
def rIsA (K : PySem.W.Frag) : List V → Hp → VK → Prop := fun xs H Q => ∃ (v c : V) (cu : Value) (x f : Str) (C fI : Addr) (y : V) (b : Bool), xs = [v, c] ∧ ClsV c cu ∧ EC K x f C fI ∧ IsE H v C f y ∧ PySem.W.kitOne K (.ref C) cu = some b ∧ Q (.bl b) H
theorem call_isA : CallR X (.builtin "isinstance") (rIsA X.K) := by
  intro pins s σ H xs us Q I r h
  obtain ⟨v, c, cu, x, f, C, fI, y, b, rfl, k, T, ⟨a, d, rfl, ea, ed⟩, e, q⟩ := h
  obtain ⟨u1, u2, rfl, r1, r2⟩ := vals2 r
  have e2 := k.eq r2
  subst e2
  obtain rfl : u1 = Value.ref a := r1
  obtain ⟨t1, ho⟩ := exo_at I.hok ea
  obtain ⟨mA, hns, hrel⟩ := exd_at I.hok ed
  obtain ⟨od, hd, hl⟩ := lookIn_ns hns
  have J : PySem.W.InstAt s.heap a { cls := .ref C, dict := some d, data := .fields #[.ref t1, .none, .none, .none, .bool false, .none] } C (some od) := ⟨ho, rfl, rfl, hd⟩
  exact PySem.W.kia_one (PySem.ErK.kit_err T.xc) I.kIn J e (fun z => nomatch z) fun tk => ⟨.bl b, H, I.tok tk, rfl, q⟩
end
end Er
set_option Elab.async false
set_option linter.all false
set_option maxRecDepth 100000
set_option maxHeartbeats 4000000
namespace Er
open PySem PySem.Spec PyProof.Rows L2
/-! ### ** of a great number -/
def CPw (i j : Int) : Prop := 0 ≤ j ∧ (Builtin.Int.intBits i : Int) * j ≤ 2 ^ 27
theorem op_powB {X : Cx} : OpR X (binaryOp .Pow) (rI CPw fun i j => .int (i ^ j.toNat)) := opI fun _ _ _ _ _ _ _ hc q => pow_int hc.1 hc.2 q
/-! ### repr of a list that holds one thing again and again -/
/-- None, a bool, a number, a text -/
inductive Flat : V → PyData → Prop where
  | non : Flat .non .none
  | bl (b : Bool) : Flat (.bl b) (.bool b)
  | int (i : Int) (h : i.natAbs.log2 < 1920) : Flat (.int i) (.int i)
  | str (x : Str) : Flat (.str x) (.str x)
inductive Flats : List V → List PyData → Prop where
  | nil : Flats [] []
  | cons {v : V} {d : PyData} {vs : List V} {ds : List PyData} (h : Flat v d) (r : Flats vs ds) : Flats (v :: vs) (d :: ds)
/-- a thing: flat, or a list, a tuple, a dict with text keys of flat ones -/
inductive Thing (H : Hp) : V → PyData → Prop where
  | flat {v : V} {d : PyData} (h : Flat v d) : Thing H v d
  | lst {a : Addr} {xs : List V} {ds : List PyData} (e : H a = some (.lst xs)) (h : Flats xs ds) : Thing H (.ref a) (.list ds)
  | tup {a : Addr} {xs : List V} {ds : List PyData} (e : H a = some (.tup xs)) (h : Flats xs ds) : Thing H (.ref a) (.tuple ds)
  | dct {a : Addr} {ks : List Str} {xs : List V} {ds : List PyData} (e : H a = some (.dK ((ks.map Sum.inr).zip xs))) (l : ks.length = xs.length) (h : Flats xs ds) : Thing H (.ref a) (.dict ((ks.map PyData.str).zip ds))
theorem Flats.len {vs : List V} {ds : List PyData} (h : Flats vs ds) : vs.length = ds.length := by
  induction h with
  | nil => rfl
  | cons _ _ ih => simp [ih]
theorem Flat.reads {h : Heap} {v : V} {u : Value} {d : PyData} (f : Flat v d) (r : RelV v u) : Reads h u d [] := by
  cases f with
  | non =>
    cases (show u = Value.none from r)
    exact .none
  | bl b =>
    cases (show u = Value.bool b from r)
    exact .bool b
  | int i _ =>
    obtain ⟨t, q⟩ := (show ∃ t, u = Value.int i t from r)
    cases q
    exact .int i t
  | str x =>
    obtain ⟨t, q⟩ := (show ∃ t, u = Value.str x t from r)
    cases q
    exact .str x t
theorem Flats.reads {h : Heap} {vs : List V} {ds : List PyData} (f : Flats vs ds) : ∀ {us : List Value}, Vals vs us → ReadsAll h us ds [] := by
  induction f with
  | nil =>
    intro us r
    cases r
    exact .nil
  | cons f1 _ ih =>
    intro us r
    cases r with
    | cons r1 r2 => exact ReadsAll.cons (as := []) (bs := []) (f1.reads r1) (ih r2)
theorem Flat.show {v : V} {d : PyData} (f : Flat v d) : d.showable = true ∧ d.depth ≤ 1 := by
  cases f with
  | non => exact ⟨rfl, by decide⟩
  | bl b => exact ⟨rfl, by simp [PyData.depth]⟩
  | int i h => exact ⟨by simpa [PyData.showable] using h, by simp [PyData.depth]⟩
  | str x => exact ⟨rfl, by simp [PyData.depth]⟩
theorem Flats.show {vs : List V} {ds : List PyData} (f : Flats vs ds) : PyData.showableAll ds = true ∧ PyData.depthAll ds ≤ 1 := by
  induction f with
  | nil => exact ⟨by simp [PyData.showableAll], by simp [PyData.depthAll]⟩
  | cons f1 _ ih =>
    have h1 := f1.show
    exact ⟨by simp [PyData.showableAll, h1.1, ih.1], by
      have h2 := h1.2
      have h3 := ih.2
      simp only [PyData.depthAll]
      omega⟩
theorem rep_reads {h : Heap} {u : V} {d : PyData} {as : List Addr} (f : ∀ w, RelV u w → Reads h w d as) : ∀ (n : Nat) {us : List Value}, Vals (List.replicate n u) us → ∃ bs, ReadsAll h us (List.replicate n d) bs ∧ ∀ b ∈ bs, b ∈ as
  | 0, us, r => by
    cases r
    exact ⟨[], .nil, fun b z => nomatch z⟩
  | n + 1, us, r => by
    rw [List.replicate_succ] at r
    cases r with
    | cons r1 r2 =>
      obtain ⟨bs, h1, h2⟩ := rep_reads f n r2
      rw [List.replicate_succ]
      refine ⟨as ++ bs, .cons (f _ r1) h1, fun b z => ?_⟩
      rcases List.mem_append.mp z with z | z
      · exact z
      · exact h2 b z
theorem rep_show {d : PyData} (h : d.showable = true) : ∀ n : Nat, PyData.showableAll (List.replicate n d) = true ∧ PyData.depthAll (List.replicate n d) ≤ d.depth
  | 0 => ⟨by simp [PyData.showableAll], by simp [PyData.depthAll]⟩
  | n + 1 => by
    have ih := rep_show h n
    rw [List.replicate_succ]
    exact ⟨by simp [PyData.showableAll, h, ih.1], by
      have h3 := ih.2
      simp only [PyData.depthAll]
      omega⟩
theorem rep_len (d : PyData) : ∀ n : Nat, ((PyData.shownAll (List.replicate n d)).map (·.length)).sum = n * d.shown.length ∧ (PyData.shownAll (List.replicate n d)).length = n
  | 0 => by simp [PyData.shownAll]
  | n + 1 => by
    have ih := rep_len d n
    rw [List.replicate_succ]
    simp only [PyData.shownAll, List.map_cons, List.sum_cons, List.length_cons]
    rw [ih.1, ih.2, Nat.succ_mul]
    exact ⟨Nat.add_comm _ _, rfl⟩
theorem kvs_show : ∀ {ks : List Str} {ds : List PyData}, PyData.showableAll ds = true → PyData.depthAll ds ≤ 1 → PyData.showableKv ((ks.map PyData.str).zip ds) = true ∧ PyData.depthKv ((ks.map PyData.str).zip ds) ≤ 1
  | [], ds, _, _ => by simp [PyData.showableKv, PyData.depthKv]
  | k :: ks, [], _, _ => by simp [PyData.showableKv, PyData.depthKv]
  | k :: ks, d :: ds, h1, h2 => by
    simp only [PyData.showableAll, Bool.and_eq_true] at h1
    simp only [PyData.depthAll] at h2
    have ih := kvs_show (ks := ks) h1.2 (by omega)
    simp only [List.map_cons, List.zip_cons_cons]
    refine ⟨by simp [PyData.showableKv, PyData.showable, h1.1, ih.1], ?_⟩
    have h3 := ih.2
    simp only [PyData.depthKv, PyData.depth]
    omega
theorem Thing.show {H : Hp} {v : V} {d : PyData} (t : Thing H v d) : d.showable = true ∧ d.depth ≤ 4 := by
  cases t with
  | flat h => exact ⟨h.show.1, Nat.le_trans h.show.2 (by decide)⟩
  | lst e h =>
    have z := h.show
    exact ⟨by simpa [PyData.showable] using z.1, by
      have z2 := z.2
      simp only [PyData.depth]
      omega⟩
  | tup e h =>
    have z := h.show
    exact ⟨by simpa [PyData.showable] using z.1, by
      have z2 := z.2
      simp only [PyData.depth]
      omega⟩
  | @dct a ks xs ds e l h =>
    have z := kvs_show (ks := ks) h.show.1 h.show.2
    exact ⟨by simpa [PyData.showable] using z.1, by
      have z2 := z.2
      simp only [PyData.depth]
      omega⟩
/-- the dict of all modules is the text's own -/
def IsSys (K : PySem.W.Frag) : Prop := ∃ (o : Obj) (es : Array DictEntry) (n : Nat), K.lookup sysModules = some o ∧ o.data = .dict es n
section
variable {X : Cx} {pins : List (Addr × Obj)} {σ : L2.St} {H : Hp} {s : Shared}
theorem not_sys (S : IsSys X.K) (I : Inv X pins σ H s) {a : Addr} {o : Obj} {its : Array Value} {n : Nat} (e : s.heap.get? a = some o) (d : o.data = .seq its n) : a ≠ sysModules := fun z => by
  obtain ⟨o2, es, n2, hk, hd⟩ := S
  have e2 := I.kIn _ _ hk
  rw [z, e2] at e
  cases e
  rw [hd] at d
  cases d
theorem pairs_reads {h : Heap} : ∀ {ks : List Str} {xs : List V} {ds : List PyData} {vs : List (Key × Value)} {es : List DictEntry}, KV ((ks.map Sum.inr).zip xs) vs → Pairs (mixKind X.prog X.w) es vs → ks.length = xs.length → Flats xs ds →
    ReadsAll h (es.map (·.key)) (((ks.map PyData.str).zip ds).map (·.1)) [] ∧ ReadsAll h (es.map (·.val)) (((ks.map PyData.str).zip ds).map (·.2)) []
  | [], [], _, vs, es, r, p, _, f => by
    cases f
    cases r
    cases p
    exact ⟨.nil, .nil⟩
  | k :: ks, x :: xs, _, vs, es, r, p, l, f => by
    cases f with
    | cons f1 f2 =>
      cases r with
      | cons r1 r2 =>
        cases p with
        | @cons e kv es' kvs' p1 p2 p3 =>
          obtain ⟨q1, q2⟩ := r1
          have ih := pairs_reads (h := h) r2 p3 (by simpa using l) f2
          have hk : keyIs (Sum.inr k) e.key = true := by
            have z : (mixKind X.prog X.w).is _ e.key = true := p1
            rw [← q1] at z
            exact z
          rcases keyIs_shape hk with ⟨i, t, z, _⟩ | ⟨y, t, z, w⟩
          · cases z
          · cases z
            refine ⟨ReadsAll.cons (as := []) (bs := []) ?_ ih.1, ReadsAll.cons (as := []) (bs := []) ?_ ih.2⟩
            · show Reads h e.key (PyData.str k) []
              rw [w]
              exact .str _ _
            · show Reads h e.val _ []
              rw [p2]
              exact f1.reads q2
theorem Thing.reads (S : IsSys X.K) (I : Inv X pins σ H s) {v : V} {d : PyData} (t : Thing H v d) : ∃ as : List Addr, (∀ u, RelV v u → Reads s.heap u d as) ∧ sysModules ∉ as := by
  cases t with
  | flat h => exact ⟨[], fun u r => h.reads r, fun z => nomatch z⟩
  | @lst a xs ds e h =>
    obtain ⟨_, its, n, rv, ho⟩ := (show ObjOk X.prog X.w H s.heap a (.lst xs) from I.hok a _ e)
    have ne := not_sys S I ho rfl
    refine ⟨[a], fun u r => ?_, fun z => ne (List.mem_singleton.mp z).symm⟩
    cases (show u = Value.ref a from r)
    exact Reads.list ho rfl rfl (by simpa using h.reads rv)
  | @tup a xs ds e h =>
    obtain ⟨_, its, rv, o, ho, hc, n, hd⟩ := (show ObjOk X.prog X.w H s.heap a (.tup xs) from I.hok a _ e)
    refine ⟨[], fun u r => ?_, fun z => nomatch z⟩
    cases (show u = Value.ref a from r)
    exact Reads.tuple ho hc hd (by simpa using h.reads rv)
  | @dct a ks xs ds e l h =>
    obtain ⟨_, ns, vs, kv, o, es, ep, ho, hx, hd, _, hp, _⟩ := (show ObjOk X.prog X.w H s.heap a (.dK _) from I.hok a _ e)
    have ne : a ≠ sysModules := beq_eq_false_iff_ne.mp ns
    have z := pairs_reads (h := s.heap) kv hp l h
    refine ⟨[a], fun u r => ?_, fun z => ne (List.mem_singleton.mp z).symm⟩
    cases (show u = Value.ref a from r)
    exact Reads.dict (as := []) (bs := []) ho hx.1 hd z.1 z.2
/-- repr of n times one thing -/
def rShw : List V → Hp → VK → Prop := fun xs H Q => ∃ (p : Addr) (n : Nat) (v : V) (d : PyData), xs = [.ref p] ∧ H p = some (.lst (List.replicate n v)) ∧ Thing H v d ∧ n ≤ 1000 ∧ d.shown.length ≤ 1000 ∧ Q (.str (PyData.shown (.list (List.replicate n d)))) H
theorem call_rep (S : IsSys X.K) (hg : X.A.guards = some []) (hu : X.A.units + 64 < cLine) : CallR X (.builtin "repr") rShw := by
  intro pins s σ H xs us Q I r h
  obtain ⟨p, n, v, d, rfl, e, t, hn, hd, q⟩ := h
  cases r with
  | cons rp rr =>
    cases rr
    rename_i u
    obtain rfl : u = Value.ref p := rp
    obtain ⟨_, its, m, rv, ho⟩ := (show ObjOk X.prog X.w H s.heap p (.lst _) from I.hok p _ e)
    have ne := not_sys S I ho rfl
    obtain ⟨as, f, nas⟩ := t.reads S I
    obtain ⟨bs, hr, sub⟩ := rep_reads f n rv
    have hsh := rep_show t.show.1 n
    have rd : Reads s.heap (.ref p) (.list (List.replicate n d)) (p :: bs) := Reads.list ho rfl rfl (by simpa using hr)
    have dp := t.show.2
    have hl := rep_len d n
    have size : (PyData.shown (.list (List.replicate n d))).length ≤ sizeLine := by
      have z := listText_len_le (PyData.shownAll (List.replicate n d))
      rw [hl.1, hl.2] at z
      have m1 : n * d.shown.length ≤ 1000 * 1000 := Nat.mul_le_mul hn hd
      simp only [PyData.shown]
      rw [sizeLine_eq]
      omega
    refine repr_of_reads' rd (by simpa [PyData.showable] using hsh.1) (fun _ z => ?_) hg ?_ (fun _ _ z => z) (fun h' u tk k => ⟨.str _, H, ?_, ⟨u, rfl⟩, q⟩) size
    · rcases List.mem_cons.mp z with z | z
      · exact ne z.symm
      · exact nas (sub _ z)
    · have z := hsh.2
      simp only [PyData.depth]
      omega
    · exact I.kept (t' := tk) k
end
end Er
set_option Elab.async false
set_option linter.all false
set_option maxRecDepth 100000
set_option maxHeartbeats 4000000
namespace Dk
open PySem PySem.Spec PyProof.Rows L2 Er
def top (i : Nat) : Stmt := PySem.Challenge.pw_lateeditions_k06_desks_held_against_each.main.body.getD i (.Pass ⟨0, 0, 0, 0⟩)
abbrev FnP (K : PySem.W.Frag) (x : Str) (st : Stmt) (f : Addr) (fd : FuncData) : Prop := FunD K x x (defArgs st) (defBody st) (defScope st) [] [] f fd
/-! ### numbers -/
theorem bits_lt {z : Int} {n : Nat} (h : Builtin.Int.intBits z ≤ n) : z.natAbs < 2 ^ n := by
  unfold Builtin.Int.intBits at h
  split at h
  · rename_i e
    have e2 : z = 0 := by simpa using e
    rw [e2]
    exact Nat.pow_pos (by decide)
  · exact Nat.lt_of_lt_of_le (Nat.lt_log2_self) (Nat.pow_le_pow_right (by decide) h)
theorem bits_le {z : Int} {n : Nat} (h : z.natAbs < 2 ^ n) : Builtin.Int.intBits z ≤ n := by
  unfold Builtin.Int.intBits
  split
  · exact Nat.zero_le _
  · rename_i e
    have e2 : z.natAbs ≠ 0 := by
      intro q
      have q2 : z = 0 := by omega
      rw [q2] at e
      exact e rfl
    exact (Nat.log2_lt e2).mpr h
theorem bits_sum {m e : Int} {n : Nat} (hm : m.natAbs < 2 ^ 49) (hn : 49 ≤ n) (he : Builtin.Int.intBits e ≤ n) : Builtin.Int.intBits (m + e) ≤ n + 1 := by
  have h1 := bits_lt he
  have h2 : 2 ^ 49 ≤ 2 ^ n := Nat.pow_le_pow_right (by decide) hn
  refine bits_le ?_
  rw [Nat.pow_succ]
  generalize 2 ^ n = P at *
  omega
theorem pow_ok {m e : Int} (hm : 0 ≤ m) (hm2 : m < 2 ^ 32) (he : Builtin.Int.intBits e ≤ 1048576) : CPw (m * 70001 + e) 3 := by
  have h := bits_sum (m := m * 70001) (e := e) (n := 1048576) (by omega) (by omega) he
  refine ⟨by decide, ?_⟩
  have h2 : (2 : Int) ^ 27 = 134217728 := by decide
  rw [h2]
  omega
section
variable {P : Program} {w : World} {K : PySem.W.Frag} {mg : Str → Option Value} {base : Heap} {f : Addr} {fd : FuncData}
theorem pe_i {X : Cx} {e : Expr} {te : TE} {p pos : Pos} (he : PE X e te) (hm : X.mg "int" = none) (hg : Gl X "int" := by rfl) (hs : starEach [e] X.env = (false, eval e X.env) :: starEach [] X.env := by rfl) : PE X (.Call (.Name "int" p) [e] [] pos) (tCB (fun xs H Q => (∃ i, xs = [.int i] ∧ Q (.int i) H) ∨ ∃ k, xs = [.bl k] ∧ Q (.int (if k then 1 else 0)) H) (tCons te tNil)) :=
  pe_callTy call_int1 hg hm PyProof.Rows.boot_int (pa_cons he pa_nil hs) (he := hs)
/-! ### _law_source -/
def spSrc (K : PySem.W.Frag) : Sp := fun vs H Q _ => ∃ (a : Addr) (ns : List Int) (st : Nat), vs = [.ref a, .int st] ∧ SqL K H a (ns.map V.int) ∧ ns.length ≤ 63 ∧ st ≤ 3 ∧ (∀ z ∈ ns, Builtin.Int.intBits z ≤ 1048576) ∧
  ∀ (p : Addr) (own mix : Int), H p = none → 0 ≤ own → 0 ≤ mix → mix < 2 ^ 32 → Q (.ref p) (upd H p (.lst [.int own, .int mix]))
abbrev nSrc : List Str := ["_law_script", "_law_start", "_law_mixed_here", "_law_cell", "_law_own"]
theorem scSrc : FnScope nSrc ["_law_script", "_law_start"] (defScope (top 31)) := ⟨rfl, rfl, rfl, by decide +kernel, rfl, by decide +kernel, by decide +kernel⟩
theorem ok_src (F : FnP K "_law_source" (top 31) f fd) (mi : mg "int" = none) (ml : mg "len" = none) : FnOk P w K mg base CX0 1 f fd ["_law_script", "_law_start"] (spSrc K) := by
  refine F.ok (CX := CX0) scSrc (fun vs H Q E h => ?_) (fun cdv A outer s H vs Q E hr h => ?_)
  · obtain ⟨a, ns, st, rfl, _⟩ := h
    rfl
  · refine ⟨_, PSs.nox (pss_cons (ps_set (i := 2) scSrc.nd rfl (.inl rfl) (pe_op op_add pe_int (pv 1)))
      (pss_cons (ps_for PassesOwn.never rfl (pi_list (pv 0)) (pg_name (i := 3) scSrc.nd rfl (.inl rfl))
        (pss_one (ps_set (i := 2) scSrc.nd rfl (.inl rfl) (pe_op op_add (pe_op op_mod (pe_i (pe_op op_powB (pe_i (pe_op op_add (pe_op op_mul (pv 2) pe_int) (pe_i (pv 3) mi)) mi) pe_int) mi) pe_int) pe_int))))
      (pss_cons (ps_set (i := 4) scSrc.nd rfl (.inl rfl) pe_int)
      (pss_cons (ps_if (PW.pt (pw_and (pt_cmpR op_lt (pv 1) (pe_callB call_len rfl ml boot_len (pa_cons (pv 0) pa_nil)) (nomark _))
          (pw_and1 (pt_cmpR op_ge (pe_ix ix_list (pv 0) (pv 1) (fun _ _ => rfl)) (pe_op op_pow pe_int pe_int) (nomark _)))))
        (pss_one (ps_set (i := 4) scSrc.nd rfl (.inl rfl) (pe_op op_sub (pe_ix ix_list (pv 0) (pv 1) (fun _ _ => rfl)) (pe_op op_pow pe_int pe_int)))) pss_nil)
      (pss_one (ps_ret (pe_lst (pa_cons (pv 4) (pa_cons (pv 2) pa_nil))))))))), ?_⟩
    obtain ⟨a, ns, st, rfl, hS, hl, hst, hb, q⟩ := h
    refine ⟨_, rfl, _, _, rfl, rfl, _, rfl, a, rfl, ⟨_, hS⟩, for_list (K := K) (a := a) (xs := ns.map V.int) (fun i σ H' => ∃ (m : Int) (v : Option V), σ = [some (.ref a), some (.int st), some (.int m), v, none] ∧ 0 ≤ m ∧ m < 2 ^ 32 ∧ H' = H) ?_ ?_ ?_ ?_⟩
    · exact ⟨91 + st, none, rfl, by omega, by omega, rfl⟩
    · rintro i σ H' _ ⟨m, v, rfl, h0, h1, rfl⟩
      exact hS
    · rintro i y σ H' hi ⟨m, v, rfl, h0, h1, rfl⟩
      obtain ⟨z, hz, rfl⟩ : ∃ z, z ∈ ns ∧ y = V.int z := by
        rw [List.getElem?_map] at hi
        cases e : ns[i]? with
        | none =>
          rw [e] at hi
          cases hi
        | some z =>
          rw [e] at hi
          exact ⟨z, List.mem_of_getElem? e, (Option.some.inj hi).symm⟩
      refine ⟨_, rfl, _, _, rfl, rfl, .inl ⟨by omega, by omega⟩, _, rfl, .inl ⟨_, rfl, _, _, rfl, rfl, .inl ⟨_, rfl, _, _, rfl, rfl, pow_ok h0 h1 (hb z hz), .inl ⟨_, rfl, _, _, rfl, rfl, by show (0 : Int) < 2147483563; decide, _, _, rfl, rfl, ?_⟩⟩⟩⟩
      refine ⟨_, some (.int z), rfl, ?_, ?_, rfl⟩
      · have := Int.emod_nonneg ((m * 70001 + z) ^ (3 : Int).toNat) (show (2147483563 : Int) ≠ 0 by decide)
        omega
      · have := Int.emod_lt_of_pos ((m * 70001 + z) ^ (3 : Int).toNat) (show (0 : Int) < 2147483563 by decide)
        omega
    · rintro σ H' ⟨m, v, rfl, h0, h1, rfl⟩
      refine ⟨_, rfl, _, rfl, _, _, rfl, .inl ⟨_, hS, rfl⟩, _, _, rfl, rfl, _, rfl, ?_⟩
      have fin : ∀ own : Int, 0 ≤ own → ∀ p : Addr, H' p = none → Q (.ref p) (upd H' p (.lst [.int own, .int m])) := fun own ho p hp => q p own m hp ho h0 h1
      have last : ∀ own : Int, 0 ≤ own → (tRet (tLst (tCons (tVar 4) (tCons (tVar 2) tNil)))) { nx := fun _ H' => Q .non H', rt := Q } [some (.ref a), some (.int st), some (.int m), v, some (.int own)] H' := fun own ho =>
        ⟨_, rfl, _, rfl, (by show 2 ≤ sizeLine; decide), fin own ho⟩
      by_cases c : (st : Int) < ((ns.map V.int).length : Nat)
      · rw [decide_eq_true c]
        refine iteT ?_
        have cl : st < ns.length := by
          rw [List.length_map] at c
          omega
        have at_ : atI (ns.map V.int) (st : Int) = some (.int ns[st]) := atI_nat (by
          rw [List.getElem?_map, List.getElem?_eq_getElem cl]
          rfl)
        refine ⟨_, rfl, _, rfl, _, _, _, _, rfl, rfl, hS, at_, _, _, rfl, rfl, ⟨by decide, by decide, by decide⟩, _, _, rfl, rfl, _, rfl, ?_⟩
        by_cases g : (10 : Int) ^ (18 : Int).toNat ≤ ns[st]
        · rw [decide_eq_true g]
          refine iteT ?_
          refine ⟨_, rfl, _, rfl, _, _, _, _, rfl, rfl, hS, at_, _, _, rfl, rfl, ⟨by decide, by decide, by decide⟩, _, _, rfl, rfl, ?_⟩
          exact last _ (by omega)
        · rw [decide_eq_false g]
          refine iteF ?_
          exact last 0 (by decide)
      · rw [decide_eq_false c]
        refine iteF ?_
        refine iteF ?_
        exact last 0 (by decide)
/-! ### _law_draw -/
def spDraw (K : PySem.W.Frag) : Sp := fun vs H Q _ => ∃ (p : Addr) (own mix : Int) (n : Nat), vs = [.ref p, .int n] ∧ H p = some (.lst [.int own, .int mix]) ∧ 0 < n ∧ n ≤ 1000 ∧ 0 ≤ own ∧ 0 ≤ mix ∧ mix < 2 ^ 32 ∧
  ∀ (k : Nat) (own' mix' : Int), k < n → 0 ≤ own' → 0 ≤ mix' → mix' < 2 ^ 32 → Q (.int k) (upd H p (.lst [.int own', .int mix']))
abbrev nDraw : List Str := ["_law_source_here", "_law_span", "_law_found"]
theorem scDraw : FnScope nDraw ["_law_source_here", "_law_span"] (defScope (top 32)) := ⟨rfl, rfl, rfl, by decide +kernel, rfl, by decide +kernel, by decide +kernel⟩
theorem modN {x : Int} {n : Nat} (h : 0 < n) : ∃ k : Nat, k < n ∧ x % (n : Int) = (k : Int) := by
  have h1 := Int.emod_nonneg x (show (n : Int) ≠ 0 by omega)
  have h2 := Int.emod_lt_of_pos x (show (0 : Int) < n by omega)
  exact ⟨(x % (n : Int)).toNat, by omega, by omega⟩
theorem ok_draw (F : FnP K "_law_draw" (top 32) f fd) (mi : mg "int" = none) : FnOk P w K mg base CX0 1 f fd ["_law_source_here", "_law_span"] (spDraw K) := by
  refine F.ok (CX := CX0) scDraw (fun vs H Q E h => ?_) (fun cdv A outer s H vs Q E hr h => ?_)
  · obtain ⟨p, own, mix, n, rfl, _⟩ := h
    rfl
  · refine ⟨_, PSs.nox (pss_cons (ps_if (pt_cmpR op_ge (pe_ix ix_list (pv 0) pe_int (fun _ _ => rfl)) (pv 1) (nomark _))
        (pss_cons (ps_set (i := 2) scDraw.nd rfl (.inl rfl) (pe_op op_mod (pe_i (pe_ix ix_list (pv 0) pe_int (fun _ _ => rfl)) mi) (pv 1)))
        (pss_cons (ps_asg (pe_op op_fdivN (pe_ix ix_list (pv 0) pe_int (fun _ _ => rfl)) (pv 1)) (pg_sub (pv 0) pe_int set_list))
        (pss_one (ps_ret (pv 2))))) pss_nil)
      (pss_cons (ps_asg (pe_op op_mod (pe_i (pe_op op_add (pe_op op_mul (pe_ix ix_list (pv 0) pe_int (fun _ _ => rfl)) pe_int) pe_int) mi) pe_int) (pg_sub (pv 0) pe_int set_list))
      (pss_one (ps_ret (pe_op op_mod (pe_i (pe_op op_fdivN (pe_op op_mod (pe_i (pe_op op_pow (pe_i (pe_ix ix_list (pv 0) pe_int (fun _ _ => rfl)) mi) pe_int) mi) pe_int) pe_int) mi) (pv 1)))))), ?_⟩
    obtain ⟨p, own, mix, n, rfl, hH, hn, hn2, ho, h0, h1, q⟩ := h
    have S : SqL K H p [.int own, .int mix] := .inl (.inl hH)
    have a0 : atI [V.int own, V.int mix] 0 = some (.int own) := atI_nat (j := 0) rfl
    have a1 : atI [V.int own, V.int mix] 1 = some (.int mix) := atI_nat (j := 1) rfl
    refine ⟨_, rfl, _, _, _, _, rfl, rfl, S, a0, _, rfl, _, _, rfl, rfl, _, rfl, ?_⟩
    by_cases c : (n : Int) ≤ own
    · rw [decide_eq_true c]
      refine iteT ?_
      obtain ⟨k, hk, ek⟩ := modN (x := own) hn
      refine ⟨_, rfl, _, _, _, _, rfl, rfl, S, a0, .inl ⟨_, rfl, _, rfl, _, _, rfl, rfl, by show (0 : Int) < n; omega, ?_⟩⟩
      refine ⟨_, rfl, _, _, _, _, rfl, rfl, S, a0, _, rfl, _, _, rfl, rfl, ⟨by omega, by omega⟩, _, rfl, _, _, _, 0, rfl, rfl, hH, rfl, ?_⟩
      refine ⟨_, rfl, ?_⟩
      show Q (.int (own % (n : Int))) (upd H p (.lst [.int (own.fdiv (n : Int)), .int mix]))
      rw [ek]
      refine q k _ mix hk ?_ h0 h1
      rw [Int.fdiv_eq_ediv_of_nonneg _ (by omega)]
      exact Int.ediv_nonneg ho (by omega)
    · rw [decide_eq_false c]
      refine iteF ?_
      have m0 := Int.emod_nonneg (mix * 48271 + 6113) (show (2147483647 : Int) ≠ 0 by decide)
      have m1 := Int.emod_lt_of_pos (mix * 48271 + 6113) (show (0 : Int) < 2147483647 by decide)
      refine ⟨_, rfl, _, _, _, _, rfl, rfl, S, a1, _, _, rfl, rfl, .inl ⟨by omega, by omega⟩, _, _, rfl, rfl, .inl ⟨_, rfl, _, _, rfl, rfl, by show (0 : Int) < 2147483647; decide, _, rfl, _, _, _, 1, rfl, rfl, hH, rfl, ?_⟩⟩
      have S2 : SqL K (upd H p (.lst [.int own, .int ((mix * 48271 + 6113) % 2147483647)])) p [.int own, .int ((mix * 48271 + 6113) % 2147483647)] := .inl (.inl upd_same)
      have b1 : atI [V.int own, V.int ((mix * 48271 + 6113) % 2147483647)] 1 = some (.int ((mix * 48271 + 6113) % 2147483647)) := atI_nat (j := 1) rfl
      refine ⟨_, rfl, _, _, _, _, rfl, rfl, S2, b1, .inl ⟨_, rfl, _, _, rfl, rfl, ⟨by decide, by decide, by omega⟩, .inl ⟨_, rfl, _, _, rfl, rfl, by show (0 : Int) < 1000000007; decide, _, _, rfl, rfl, ⟨by decide, by decide⟩, .inl ⟨_, rfl, _, rfl, _, _, rfl, rfl, by show (0 : Int) < n; omega, ?_⟩⟩⟩⟩
      obtain ⟨k, hk, ek⟩ := modN (x := (((mix * 48271 + 6113) % 2147483647) ^ (5 : Int).toNat % 1000000007).fdiv 29) hn
      show Q (.int ((((mix * 48271 + 6113) % 2147483647) ^ (5 : Int).toNat % 1000000007).fdiv 29 % (n : Int))) (upd H p (.lst [.int own, .int ((mix * 48271 + 6113) % 2147483647)]))
      rw [ek]
      exact q k own _ hk ho m0 (by omega)
end
end Dk
set_option Elab.async false
set_option linter.all false
set_option maxRecDepth 100000
set_option maxHeartbeats 4000000
namespace Dk
open PySem PySem.Spec PyProof.Rows L2 Er
/-! ### the source of draws -/
/-- at p: the numbers from which is drawn -/
def Src (H : Hp) (p : Addr) : Prop := ∃ own mix : Int, H p = some (.lst [.int own, .int mix]) ∧ 0 ≤ own ∧ 0 ≤ mix ∧ mix < 2 ^ 32
/-- all but p stands -/
def Sx (p : Addr) (H H' : Hp) : Prop := ∀ b o, b ≠ p → H b = some o → H' b = some o
theorem Sx.refl (p : Addr) (H : Hp) : Sx p H H := fun _ _ _ e => e
theorem Sx.trans {p : Addr} {H H1 H2 : Hp} (a : Sx p H H1) (b : Sx p H1 H2) : Sx p H H2 := fun c o n e => b c o n (a c o n e)
theorem Sx.of {p : Addr} {H H' : Hp} (m : Sm H H') : Sx p H H' := fun b o _ e => m b o e
theorem Sx.upd {p : Addr} {H : Hp} {o : HO} : Sx p H (upd H p o) := fun b u n e => by
  rw [upd_ne n]
  exact e
theorem Src.new {H : Hp} {p a : Addr} {o : HO} (h : Src H p) (n : H a = none) : Src (upd H a o) p := by
  obtain ⟨own, mix, e, r⟩ := h
  exact ⟨own, mix, Sm.new n _ _ e, r⟩
theorem Src.sm {H H' : Hp} {p : Addr} (h : Src H p) (m : Sm H H') : Src H' p := by
  obtain ⟨own, mix, e, r⟩ := h
  exact ⟨own, mix, m _ _ e, r⟩
theorem Src.ne {H : Hp} {p a : Addr} (h : Src H p) (n : H a = none) : a ≠ p := by
  obtain ⟨own, mix, e, r⟩ := h
  exact fun z => by
    rw [z, e] at n
    cases n
/-- the draw, told by its source -/
def spD : Sp := fun vs H Q _ => ∃ (p : Addr) (n : Nat), vs = [.ref p, .int n] ∧ Src H p ∧ 0 < n ∧ n ≤ 1000 ∧ ∀ (k : Nat) H', k < n → Sx p H H' → Src H' p → (∀ b, H b = none → H' b = none) → Q (.int k) H'
section
variable {P : Program} {w : World} {K : PySem.W.Frag} {mg : Str → Option Value} {base : Heap} {f fD fP fM fW fN : Addr} {fd dD dP dM dW dN : FuncData}
theorem ok_d (F : FnP K "_law_draw" (top 32) f fd) (mi : mg "int" = none) : FnOk P w K mg base CX0 1 f fd ["_law_source_here", "_law_span"] spD :=
  (ok_draw F mi).imp fun vs H Q E ⟨p, n, e, ⟨own, mix, h, h0, h1, h2⟩, n0, n1, q⟩ => ⟨p, own, mix, n, e, h, n0, n1, h0, h1, h2, fun k own' mix' hk w0 w1 w2 => q k _ hk Sx.upd ⟨own', mix', upd_same, w0, w1, w2⟩ fun b hb => by
    rw [upd_ne (fun z => by rw [z, h] at hb; cases hb)]
    exact hb⟩
theorem bD (F : FnP K "_law_draw" (top 32) fD dD) : Binds K dD ["_law_source_here", "_law_span"] [] := F.bindsN fun _ _ _ _ _ _ us hl => match us, hl with
  | [_, _], _ => rfl
/-! ### _law_pick -/
/-- of a list, or of a text -/
def spPick (K : PySem.W.Frag) : Sp := fun vs H Q _ => ∃ (p : Addr) (x : V), vs = [.ref p, x] ∧ Src H p ∧
  ((∃ (l : Addr) (xs : List V), x = .ref l ∧ l ≠ p ∧ SqL K H l xs ∧ 0 < xs.length ∧ xs.length ≤ 1000 ∧ ∀ (k : Nat) v H', xs[k]? = some v → Sx p H H' → Src H' p → (∀ b, H b = none → H' b = none) → Q v H') ∨
    (∃ z : Str, x = .str z ∧ 0 < z.length ∧ z.length ≤ 1000 ∧ ∀ (k : Nat) c H', z.cps.toList[k]? = some c → Sx p H H' → Src H' p → (∀ b, H b = none → H' b = none) → Q (.str ⟨#[c]⟩) H'))
abbrev nPick : List Str := ["_law_source_here", "_law_things"]
theorem scPick : FnScope nPick nPick (defScope (top 33)) := ⟨rfl, rfl, rfl, by decide +kernel, rfl, by decide +kernel, by decide +kernel⟩
theorem sq_sx {p l : Addr} {xs : List V} {H H' : Hp} (h : SqL K H l xs) (m : Sx p H H') (n : l ≠ p) : SqL K H' l xs := by
  rcases h with (e | ⟨o, e⟩) | k
  · exact .inl (.inl (m _ _ n e))
  · exact .inl (.inr ⟨o, m _ _ n e⟩)
  · exact .inr k
theorem ok_pick (F : FnP K "_law_pick" (top 33) f fd) (ml : mg "len" = none) (mi : mg "int" = none) (FD : FnP K "_law_draw" (top 32) fD dD) (gD : mg "_law_draw" = some (.ref fD)) : FnOk P w K mg base CX0 2 f fd nPick (spPick K) := by
  have GD : FnOk P w K mg base CX0 1 fD dD ["_law_source_here", "_law_span"] spD := ok_d FD mi
  refine F.ok (CX := CX0) scPick (fun vs H Q E h => ?_) (fun cdv A outer s H vs Q E hr h => ?_)
  · obtain ⟨p, x, rfl, _⟩ := h
    rfl
  · refine ⟨_, PSs.nox (pss_one (ps_ret (pe_ix ix_seq (pv 1) (by exact (pe_call GD hr rfl gD FD.kp (bD FD) .nil pass0 (pa_cons (pv 0) (pa_cons (pe_callB call_len rfl ml boot_len (pa_cons (pv 1) pa_nil)) pa_nil)))) (fun _ _ => rfl)))), ?_⟩
    obtain ⟨p, x, rfl, hs, h⟩ := h
    rcases h with ⟨l, xs, rfl, ne, sq, l0, l1, q⟩ | ⟨z, rfl, l0, l1, q⟩
    · refine ⟨_, rfl, _, rfl, _, rfl, _, _, rfl, .inl ⟨_, sq, rfl⟩, p, xs.length, rfl, hs, l0, l1, fun k H' hk m s2 fr => .inl ⟨l, xs, k, xs[k], rfl, rfl, sq_sx sq m ne, atI_nat (List.getElem?_eq_getElem hk), ?_⟩⟩
      exact q k _ H' (List.getElem?_eq_getElem hk) m s2 fr
    · have hz : z.length ≤ sizeLine := by
        rw [sizeLine_eq]
        omega
      refine ⟨_, rfl, _, rfl, _, rfl, _, _, rfl, ⟨hz, rfl⟩, p, z.length, rfl, hs, l0, l1, fun k H' hk m s2 fr => .inr (.inr ?_)⟩
      have hk2 : k < z.cps.toList.length := by
        have e : z.length = z.cps.size := rfl
        rw [e] at hk
        simpa using hk
      exact ⟨z, k, z.cps.toList[k], rfl, rfl, hz, atI_nat (List.getElem?_eq_getElem hk2), q k _ H' (List.getElem?_eq_getElem hk2) m s2 fr⟩
theorem bP (F : FnP K "_law_pick" (top 33) fP dP) : Binds K dP nPick [] := F.bindsN fun _ _ _ _ _ _ us hl => match us, hl with
  | [_, _], _ => rfl
end
end Dk
set_option Elab.async false
set_option linter.all false
set_option maxRecDepth 100000
set_option maxHeartbeats 4000000
namespace Dk
open PySem PySem.Spec PyProof.Rows L2 Er
/-! ### _law_mixed -/
/-- a number or a text -/
inductive Fl : V → PyData → Prop where
  | int (i : Int) : Fl (.int i) (.int i)
  | str (x : Str) (h : PyData.strOk x = true) : Fl (.str x) (.str x)
theorem fl_dp {K : PySem.W.Frag} {H : Hp} : ∀ {xs : List V}, (∀ x ∈ xs, ∃ d, Fl x d) → ∃ ds, DpAll K H xs ds ∧ PyData.canLayAll0 ds = true ∧ PyData.depthAll ds ≤ 1 ∧ ds.length = xs.length
  | [], _ => ⟨[], .nil, by simp [PyData.canLayAll0], by simp [PyData.depthAll], rfl⟩
  | x :: xs, h => by
    obtain ⟨d, hd⟩ := h x List.mem_cons_self
    obtain ⟨ds, h1, h2, h3, h4⟩ := fl_dp (K := K) (H := H) (xs := xs) fun y hy => h y (List.mem_cons_of_mem _ hy)
    cases hd with
    | int i => exact ⟨_, .cons (.int i) h1, by simp [PyData.canLayAll0, PyData.canLay0, h2], by simp only [PyData.depthAll, PyData.depth]; omega, by simp [h4]⟩
    | str z hz => exact ⟨_, .cons (.str z) h1, by simp [PyData.canLayAll0, PyData.canLay0, h2, hz], by simp only [PyData.depthAll, PyData.depth]; omega, by simp [h4]⟩
theorem shaped_of {ds : List PyData} (h1 : PyData.canLayAll0 ds = true) (h2 : PyData.depthAll ds ≤ 1) : SeqAt.shaped (.list ds) = true := by
  unfold SeqAt.shaped
  have c : (PyData.list ds).canLay0 = true := by simpa [PyData.canLay0] using h1
  rw [c, Bool.true_and]
  refine decide_eq_true ?_
  simp only [PyData.depth]
  omega
theorem eqv_nil (ds : List PyData) : PyData.eqv (.list ds) (.list []) = ds.isEmpty := by
  cases ds with
  | nil => simp [PyData.eqv, PyData.eqvAll]
  | cons d ds => simp [PyData.eqv, PyData.eqvAll]
def spMixed (K : PySem.W.Frag) : Sp := fun vs H Q _ => ∃ (p l : Addr) (xs : List V), vs = [.ref p, .ref l] ∧ Src H p ∧ SqL K H l xs ∧ xs.length ≤ 1000 ∧ (∀ x ∈ xs, ∃ d, Fl x d) ∧
  ∀ (q : Addr) (ys : List V) H', Sx p H H' → Src H' p → H q = none → H' q = some (.lst ys) → ys.Perm xs → Q (.ref q) H'
abbrev nMixed : List Str := ["_law_source_here", "_law_things", "_law_lot", "_law_found"]
theorem scMixed : FnScope nMixed ["_law_source_here", "_law_things"] (defScope (top 34)) := ⟨rfl, rfl, rfl, by decide +kernel, rfl, by decide +kernel, by decide +kernel⟩
theorem cons_erase {α : Type} : ∀ (l : List α) (i : Nat) (h : i < l.length), (l[i] :: l.eraseIdx i).Perm l
  | x :: l, 0, _ => .refl _
  | x :: l, i + 1, h => (List.Perm.swap x (l[i]'(by simpa using h)) (l.eraseIdx i)).trans ((cons_erase l i (by simpa using h)).cons x)
theorem pop_perm {acc rem : List V} {k : Nat} (h : k < rem.length) : (acc ++ [rem[k]] ++ rem.eraseIdx k).Perm (acc ++ rem) := by
  rw [List.append_assoc]
  exact List.Perm.append_left acc (cons_erase rem k h)
section
variable {P : Program} {w : World} {K : PySem.W.Frag} {mg : Str → Option Value} {base : Heap} {f fD : Addr} {fd dD : FuncData}
theorem ok_mixed (F : FnP K "_law_mixed" (top 34) f fd) (ml : mg "len" = none) (mi : mg "int" = none) (mt : mg "list" = none) (FD : FnP K "_law_draw" (top 32) fD dD) (gD : mg "_law_draw" = some (.ref fD)) :
    FnOk P w K mg base CX0 2 f fd ["_law_source_here", "_law_things"] (spMixed K) := by
  have GD : FnOk P w K mg base CX0 1 fD dD ["_law_source_here", "_law_span"] spD := ok_d FD mi
  refine F.ok (CX := CX0) scMixed (fun vs H Q E h => ?_) (fun cdv A outer s H vs Q E hr h => ?_)
  · obtain ⟨p, l, xs, rfl, _⟩ := h
    rfl
  · refine ⟨_, PSs.nox (pss_cons (ps_par (i := 2) (j := 3) rfl scMixed.nd rfl rfl (by decide) rfl rfl (pa_cons (pe_callTy call_list_of rfl mt PyProof.Rows.boot_list (pa_cons (pv 1) pa_nil)) (pa_cons (pe_lst pa_nil) pa_nil)) (by rfl))
      (pss_cons (ps_while PassesOwn.never (pt_cmpR (op_neD hr.units) (pv 2) (pe_lst pa_nil) (nomark _))
        (pss_one (ps_expr (pe_bm PySem.F.plainAttrs_list PySem.F.slot_list_append PySem.F.type_list_append mt_append (pv 3) (pa_cons (pe_bm PySem.F.plainAttrs_list PySem.F.slot_list_pop PySem.F.type_list_pop mt_popAt (pv 2)
          (pa_cons (by exact (pe_call GD hr rfl gD FD.kp (bD FD) .nil pass0 (pa_cons (pv 0) (pa_cons (pe_callB call_len rfl ml boot_len (pa_cons (pv 2) pa_nil)) pa_nil)))) pa_nil)) pa_nil)))))
      (pss_one (ps_ret (pv 3))))), ?_⟩
    obtain ⟨p, l, xs, rfl, hs, sq, hx, fl, q⟩ := h
    have sz : ∀ n : Nat, n ≤ 1000 → n ≤ sizeLine := fun n z => by
      rw [sizeLine_eq]
      omega
    refine ⟨_, rfl, l, xs, rfl, .inl sq, fun a1 n1 => ⟨sz _ (by decide), fun a2 n2 => ⟨_, _, rfl, ?_⟩⟩⟩
    have m1 : Sm H (upd H a1 (.lst xs)) := Sm.new n1
    have g1 : upd H a1 (.lst xs) a1 = some (.lst xs) := upd_same
    have m2 : Sm H (upd (upd H a1 (.lst xs)) a2 (.lst [])) := m1.trans (Sm.new n2)
    have e1 : upd (upd H a1 (.lst xs)) a2 (.lst []) a1 = some (.lst xs) := Sm.new n2 _ _ g1
    have e2 : upd (upd H a1 (.lst xs)) a2 (.lst []) a2 = some (.lst []) := upd_same
    have d12 : a1 ≠ a2 := ne_of_none g1 n2
    have p1 : a1 ≠ p := hs.ne n1
    have p2 : a2 ≠ p := (hs.new n1).ne n2
    have h2 : H a2 = none := by
      have z := n2
      rw [upd_ne (Ne.symm d12)] at z
      exact z
    have s2 := hs.sm m2
    generalize (upd (upd H a1 (.lst xs)) a2 (.lst [])) = G at m2 e1 e2 s2 ⊢
    refine while_by (fun σ H' => ∃ rem acc : List V, σ = [some (.ref p), some (.ref l), some (.ref a1), some (.ref a2)] ∧ Sx p H H' ∧ Src H' p ∧ H' a1 = some (.lst rem) ∧ H' a2 = some (.lst acc) ∧ (acc ++ rem).Perm xs)
      (fun _ H' => match H' a1 with
        | some (.lst rem) => rem.length
        | _ => 0) ⟨xs, [], rfl, Sx.of m2, s2, e1, e2, .refl _⟩ ?_ ?_
    · rintro σ H' ⟨rem, acc, rfl, m, src, f1, f2, pm⟩
      have flr : ∀ x ∈ rem, ∃ d, Fl x d := fun x hx => fl x (pm.subset (List.mem_append_right _ hx))
      have lr : acc.length + rem.length = xs.length := by
        rw [← List.length_append]
        exact pm.length_eq
      refine ⟨_, rfl, sz _ (by decide), fun e ne => ?_⟩
      have f1' := Sm.new (o := .lst []) ne _ _ f1
      have f2' := Sm.new (o := .lst []) ne _ _ f2
      have m' : Sx p H (upd H' e (.lst [])) := m.trans (Sx.of (Sm.new ne))
      have src' := src.new (o := .lst []) ne
      have e3 : upd H' e (.lst []) e = some (.lst []) := upd_same
      obtain ⟨ds, k1, k2, k3, k4⟩ := fl_dp (K := K) (H := upd H' e (.lst [])) flr
      have mu : (match (upd H' e (.lst [])) a1 with
        | some (.lst rem) => rem.length
        | _ => 0) = rem.length := by rw [f1']
      have mu0 : (match H' a1 with
        | some (.lst rem) => rem.length
        | _ => 0) = rem.length := by rw [f1]
      refine ⟨_, _, .lst (.inl (.inl f1')) k1, .lst (.inl (.inl e3)) .nil, shaped_of k2 k3, shaped_of (ds := []) (by simp [PyData.canLayAll0]) (by simp [PyData.depthAll]), _, rfl, ?_⟩
      rw [eqv_nil]
      cases rem with
      | nil =>
        have z : ds = [] := List.length_eq_zero_iff.mp k4
        rw [z]
        refine iteF ?_
        refine ⟨_, rfl, q a2 acc _ m' src' h2 f2' ?_⟩
        simpa using pm
      | cons x rem =>
        have z : ds.isEmpty = false := by
          cases ds with
          | nil => simp at k4
          | cons _ _ => rfl
        rw [z]
        refine iteT ?_
        generalize (upd H' e (.lst [])) = G2 at f1' f2' m' src' mu ⊢
        refine ⟨_, rfl, .inl ⟨rfl, _, .inl (.inl f2')⟩, _, rfl, .inl ⟨rfl, _, .inl (.inl f1')⟩, _, rfl, _, rfl, _, _, rfl, .inl ⟨_, .inl (.inl f1'), rfl⟩, p, _, rfl, src', ?_, ?_, fun k G3 hk x3 s3 fr => ?_⟩
        · simp
        · simp only [List.length_cons] at lr ⊢
          omega
        have g1 := x3 _ _ p1 f1'
        have g2 := x3 _ _ p2 f2'
        refine ⟨a1, _, k, k, (x :: rem)[k], rfl, rfl, g1, by omega, by omega, ?_, List.getElem?_eq_getElem hk, ?_⟩
        · exact seqIndex_of (by omega) (by omega)
        have x4 : Sx p H (upd G3 a1 (.lst ((x :: rem).eraseIdx k))) := fun b o nb e => by
          have z := m'.trans x3 b o nb e
          rw [upd_ne (fun w => by rw [w, n1] at e; cases e)]
          exact z
        have g3 : upd G3 a1 (.lst ((x :: rem).eraseIdx k)) a2 = some (.lst acc) := by
          rw [upd_ne (Ne.symm d12)]
          exact g2
        have s4 : Src (upd G3 a1 (.lst ((x :: rem).eraseIdx k))) p := by
          obtain ⟨own, mix, e, r⟩ := s3
          refine ⟨own, mix, ?_, r⟩
          rw [upd_ne (Ne.symm p1)]
          exact e
        refine ⟨a2, acc, _, rfl, rfl, g3, ?_, ?_⟩
        · rw [sizeLine_eq]
          omega
        refine ⟨⟨(x :: rem).eraseIdx k, acc ++ [(x :: rem)[k]], rfl, ?_, ?_, ?_, upd_same, (pop_perm hk).trans pm⟩, ?_⟩
        · intro b o nb e
          rw [upd_ne (fun w => by rw [w, h2] at e; cases e)]
          exact x4 b o nb e
        · obtain ⟨own, mix, e, r⟩ := s4
          refine ⟨own, mix, ?_, r⟩
          rw [upd_ne (Ne.symm p2)]
          exact e
        · rw [upd_ne d12, upd_same]
        · rw [upd_ne d12, upd_same, mu0]
          dsimp only
          rw [List.length_eraseIdx_of_lt hk]
          simp
    · rintro σ H' Q1 Q2 hq ⟨v, e, z, w⟩
      refine ⟨v, e, z, fun p hp => ?_⟩
      obtain ⟨d1, d2, k1, k2, k3, k4, k, ek, r⟩ := w p hp
      exact ⟨d1, d2, k1, k2, k3, k4, k, ek, hq _ _ r⟩
end
end Dk
set_option Elab.async false
set_option linter.all false
set_option maxRecDepth 100000
set_option maxHeartbeats 4000000
namespace Dk
open PySem PySem.Spec PyProof.Rows L2 Er
/-! ### _law_word, _law_names -/
/-- a name: one to eight letters a to z -/
def IsWord (z : Str) : Prop := 1 ≤ z.length ∧ z.length ≤ 8 ∧ ∀ c ∈ z.cps.toList, 97 ≤ c ∧ c ≤ 122
def wordB (z : Str) : Bool := decide (1 ≤ z.length) && (decide (z.length ≤ 8) && z.cps.toList.all fun c => decide (97 ≤ c) && decide (c ≤ 122))
theorem word_of {z : Str} (h : wordB z = true) : IsWord z := by
  unfold wordB at h
  simp only [Bool.and_eq_true, decide_eq_true_eq, List.all_eq_true] at h
  exact ⟨h.1, h.2.1, fun c hc => h.2.2 c hc⟩
theorem IsWord.ok {z : Str} (h : IsWord z) : PyData.strOk z = true := by
  unfold PyData.strOk
  rw [← Array.all_toList]
  refine List.all_eq_true.mpr fun c hc => decide_eq_true ?_
  have := (h.2.2 c hc).2
  omega
def spWord : Sp := fun vs H Q _ => ∃ p : Addr, vs = [.ref p] ∧ Src H p ∧ ∀ (z : Str) H', IsWord z → Sx p H H' → Src H' p → (∀ b, H b = none → H' b = none) → Q (.str z) H'
abbrev nWord : List Str := ["_law_source_here", "_law_word_here", "_law_turn"]
theorem scWord : FnScope nWord ["_law_source_here"] (defScope (top 35)) := ⟨rfl, rfl, rfl, by decide +kernel, rfl, by decide +kernel, by decide +kernel⟩
def abc : Str := "abcdefghijklmnopqrstuvwxyz"
theorem abc_ok : (abc.cps.toList.all fun c => decide (97 ≤ c) && decide (c ≤ 122)) = true := by decide +kernel
section
variable {P : Program} {w : World} {K : PySem.W.Frag} {mg : Str → Option Value} {base : Heap} {f fD fP fM fW : Addr} {fd dD dP dM dW : FuncData}
theorem ok_word (F : FnP K "_law_word" (top 35) f fd) (ml : mg "len" = none) (mi : mg "int" = none) (mr : mg "range" = none) (FD : FnP K "_law_draw" (top 32) fD dD) (gD : mg "_law_draw" = some (.ref fD))
    (FP : FnP K "_law_pick" (top 33) fP dP) (gP : mg "_law_pick" = some (.ref fP)) : FnOk P w K mg base CX0 3 f fd ["_law_source_here"] spWord := by
  have GD : FnOk P w K mg base CX0 1 fD dD ["_law_source_here", "_law_span"] spD := ok_d FD mi
  have GP : FnOk P w K mg base CX0 2 fP dP nPick (spPick K) := ok_pick FP ml mi FD gD
  refine F.ok (CX := CX0) scWord (fun vs H Q E h => ?_) (fun cdv A outer s H vs Q E hr h => ?_)
  · obtain ⟨p, rfl, _⟩ := h
    rfl
  · have hr1 := hr.mono (show 1 ≤ 2 by decide)
    refine ⟨_, PSs.nox (pss_cons (ps_set (i := 1) scWord.nd rfl (.inl rfl) pe_str)
      (pss_cons (ps_for PassesOwn.never rfl (pi_range1 rfl mr (pa_cons (pe_op op_add pe_int (by exact (pe_call GD hr1 rfl gD FD.kp (bD FD) .nil pass0 (pa_cons (pv 0) (pa_cons pe_int pa_nil))))) pa_nil)) (pg_name (i := 2) scWord.nd rfl (.inl rfl))
        (pss_one (ps_set (i := 1) scWord.nd rfl (.inl rfl) (pe_op op_add_str (pv 1) (by exact (pe_call GP hr rfl gP FP.kp (bP FP) .nil pass0 (pa_cons (pv 0) (pa_cons pe_str pa_nil))))))))
      (pss_one (ps_ret (pv 1))))), ?_⟩
    obtain ⟨p, rfl, hs, q⟩ := h
    refine ⟨_, rfl, p, 8, rfl, hs, by decide, by decide, fun k H1 hk m1 s1 fr1 => ⟨_, _, rfl, rfl, _, rfl, by omega, by omega, ?_⟩⟩
    have en : ((1 : Int) + ((k : Nat) : Int)).toNat = k + 1 := by omega
    rw [en]
    refine for_range (lo := 0) (n := k + 1) (fun i σ H' => ∃ (z : Str) (v : Option V), σ = [some (.ref p), some (.str z), v] ∧ z.length = i ∧ (∀ c ∈ z.cps.toList, 97 ≤ c ∧ c ≤ 122) ∧ Sx p H H' ∧ Src H' p ∧ ∀ b, H b = none → H' b = none) ?_ ?_ ?_
    · exact ⟨_, none, rfl, by decide +kernel, fun c hc => absurd hc (by decide +kernel +revert), m1, s1, fr1⟩
    · rintro i σ H' hi ⟨z, v, rfl, zl, zc, m, src, fr⟩
      refine ⟨_, rfl, _, rfl, p, .str abc, rfl, src, .inr ⟨abc, rfl, by decide +kernel, by decide +kernel, fun j c H2 hj m2 s2 fr2 => ⟨z, _, rfl, rfl, ?_, ?_⟩⟩⟩
      · rw [sizeLine_eq, zl]
        show i + 1 ≤ 16777216
        omega
      · refine ⟨_, _, rfl, ?_, ?_, m.trans m2, s2, fun b hb => fr2 b (fr b hb)⟩
        · rw [Str.length_append, zl]
          rfl
        · intro d hd
          rw [Str.cps_append, Array.toList_append] at hd
          rcases List.mem_append.mp hd with e | e
          · exact zc d e
          · have e2 : d = c := by simpa using e
            rw [e2]
            have y := List.all_eq_true.mp abc_ok c (List.mem_of_getElem? hj)
            simpa using y
    · rintro σ H' ⟨z, v, rfl, zl, zc, m, src, fr⟩
      exact ⟨_, rfl, q z H' ⟨by omega, by omega, zc⟩ m src fr⟩
theorem bW (F : FnP K "_law_word" (top 35) fW dW) : Binds K dW ["_law_source_here"] [] := F.bindsN fun _ _ _ _ _ _ us hl => match us, hl with
  | [_], _ => rfl
theorem bM (F : FnP K "_law_mixed" (top 34) fM dM) : Binds K dM ["_law_source_here", "_law_things"] [] := F.bindsN fun _ _ _ _ _ _ us hl => match us, hl with
  | [_, _], _ => rfl
end
theorem none_back {p : Addr} {H G : Hp} (m : Sx p H G) (s : Src G p) {r : Addr} (n : G r = none) : H r = none := by
  cases e : H r with
  | none => rfl
  | some o =>
    have z := m r o (s.ne n) e
    rw [n] at z
    cases z
theorem cut_to (xs : List V) (n : Nat) (h : n ≤ xs.length) : cutV xs none (some (n : Int)) = xs.take n := by
  unfold cutV
  rw [HT.sIx_none, HT.sIx_nat, show min n xs.length = n by omega]
  simp
theorem ix_n {n k : Nat} (h : k < n) : ixN n (k : Int) = some k := by
  unfold ixN
  rw [if_pos (by omega), if_pos (by omega)]
  simp
def spNames : Sp := fun vs H Q _ => ∃ (p : Addr) (n : Nat), vs = [.ref p, .int n] ∧ Src H p ∧ 1 ≤ n ∧ n ≤ 10 ∧
  ∀ (q : Addr) (ws : List Str) H', Sx p H H' → Src H' p → H q = none → H' q = some (.lst (ws.map V.str)) → ws.length = n → ws.Nodup → (∀ z ∈ ws, IsWord z) → Q (.ref q) H'
abbrev nNames : List Str := ["_law_source_here", "_law_many_here", "_law_some", "_law_word_here"]
theorem scNames : FnScope nNames ["_law_source_here", "_law_many_here"] (defScope (top 36)) := ⟨rfl, rfl, rfl, by decide +kernel, rfl, by decide +kernel, by decide +kernel⟩
def ten : List Str := ["a", "b", "ab", "carry", "on", "off", "press", "abcdefgh", "abcdefgi", "z"]
theorem ten_nd : ten.Nodup := by decide +kernel
theorem ten_ok : (ten.all wordB) = true := by decide +kernel
theorem strs_of : ∀ {ys : List V}, (∀ y ∈ ys, ∃ z, y = .str z) → ∃ ws : List Str, ys = ws.map V.str
  | [], _ => ⟨[], rfl⟩
  | y :: ys, h => by
    obtain ⟨z, e⟩ := h y List.mem_cons_self
    obtain ⟨ws, e2⟩ := strs_of (ys := ys) fun x hx => h x (List.mem_cons_of_mem _ hx)
    exact ⟨z :: ws, by rw [e, e2]; rfl⟩
theorem map_perm : ∀ {ws vs : List Str}, (ws.map V.str).Perm (vs.map V.str) → ws.Perm vs := fun {ws vs} h => by
  have z := h.map (fun v : V => match v with
    | .str x => x
    | _ => Str.empty)
  rw [List.map_map, List.map_map] at z
  have e : ((fun v : V => match v with
    | .str x => x
    | _ => Str.empty) ∘ V.str) = id := rfl
  rw [e, List.map_id, List.map_id] at z
  exact z
theorem nodup_set {α : Type} : ∀ {l : List α} {k : Nat} {x : α}, l.Nodup → x ∉ l → (l.set k x).Nodup
  | [], _, _, _, _ => by simp
  | a :: l, 0, x, h, hx => by
    have h2 := List.nodup_cons.mp h
    exact List.nodup_cons.mpr ⟨fun z => hx (List.mem_cons_of_mem _ z), h2.2⟩
  | a :: l, k + 1, x, h, hx => by
    have h2 := List.nodup_cons.mp h
    refine List.nodup_cons.mpr ⟨fun z => ?_, nodup_set h2.2 fun z => hx (List.mem_cons_of_mem _ z)⟩
    rcases List.mem_or_eq_of_mem_set z with e | e
    · exact h2.1 e
    · exact hx (by rw [e]; exact List.mem_cons_self)
theorem inV_str {x : Str} : ∀ {ws : List Str}, inV (.str x) (ws.map V.str) = false → x ∉ ws := fun {ws} h hx => by
  unfold inV at h
  have z := List.any_eq_false.mp h (.str x) (List.mem_map_of_mem hx)
  exact z (by simp [eqV])
theorem all_flat (ws : List Str) : (ws.map V.str).all flatV = true := by
  refine List.all_eq_true.mpr fun x hx => ?_
  obtain ⟨z, _, rfl⟩ := List.mem_map.mp hx
  rfl
section
variable {P : Program} {w : World} {K : PySem.W.Frag} {mg : Str → Option Value} {base : Heap} {f fD fP fM fW : Addr} {fd dD dP dM dW : FuncData}
theorem ok_names (F : FnP K "_law_names" (top 36) f fd) (ml : mg "len" = none) (mi : mg "int" = none) (mr : mg "range" = none) (mt : mg "list" = none) (FD : FnP K "_law_draw" (top 32) fD dD) (gD : mg "_law_draw" = some (.ref fD))
    (FP : FnP K "_law_pick" (top 33) fP dP) (gP : mg "_law_pick" = some (.ref fP)) (FM : FnP K "_law_mixed" (top 34) fM dM) (gM : mg "_law_mixed" = some (.ref fM)) (FW : FnP K "_law_word" (top 35) fW dW) (gW : mg "_law_word" = some (.ref fW)) :
    FnOk P w K mg base CX0 4 f fd ["_law_source_here", "_law_many_here"] spNames := by
  have GD : FnOk P w K mg base CX0 1 fD dD ["_law_source_here", "_law_span"] spD := ok_d FD mi
  have GM : FnOk P w K mg base CX0 2 fM dM ["_law_source_here", "_law_things"] (spMixed K) := ok_mixed FM ml mi mt FD gD
  have GW : FnOk P w K mg base CX0 3 fW dW ["_law_source_here"] spWord := ok_word FW ml mi mr FD gD FP gP
  refine F.ok (CX := CX0) scNames (fun vs H Q E h => ?_) (fun cdv A outer s H vs Q E hr h => ?_)
  · obtain ⟨p, n, rfl, _⟩ := h
    rfl
  · have hr1 := hr.mono (show 1 ≤ 3 by decide)
    have hr2 := hr.mono (show 2 ≤ 3 by decide)
    refine ⟨_, PSs.nox (pss_cons (ps_set (i := 2) scNames.nd rfl (.inl rfl) (by exact (pe_call GM hr2 rfl gM FM.kp (bM FM) .nil pass0 (pa_cons (pv 0) (pa_cons (pe_lst (pa_cons pe_str (pa_cons pe_str (pa_cons pe_str (pa_cons pe_str (pa_cons pe_str (pa_cons pe_str (pa_cons pe_str (pa_cons pe_str (pa_cons pe_str (pa_cons pe_str pa_nil))))))))))) pa_nil)))))
      (pss_cons (ps_set (i := 3) scNames.nd rfl (.inl rfl) (by exact (pe_call GW hr rfl gW FW.kp (bW FW) .nil pass0 (pa_cons (pv 0) pa_nil))))
      (pss_cons (ps_if (pt_cmpR op_notIn_seq (pv 3) (pv 2) rfl) (pss_one (ps_asg (pv 3) (pg_sub (pv 2) (by exact (pe_call GD hr1 rfl gD FD.kp (bD FD) .nil pass0 (pa_cons (pv 0) (pa_cons (pv 1) pa_nil)))) set_list))) pss_nil)
      (pss_one (ps_ret (pe_slice sl_list (pv 2) po_none (po_some (pv 1)))))))), ?_⟩
    obtain ⟨p, n, rfl, hs, n0, n1, q⟩ := h
    have sz : ∀ n : Nat, n ≤ 1000 → n ≤ sizeLine := fun n z => by
      rw [sizeLine_eq]
      omega
    refine ⟨_, rfl, sz _ (by decide), fun l nl => ⟨p, l, ten.map V.str, rfl, hs.new nl, .inl (.inl upd_same), by decide, fun x hx => ?_, fun q1 ys H1 m1 s1 nq1 e1 pm => ?_⟩⟩
    · obtain ⟨z, hz, rfl⟩ := List.mem_map.mp hx
      exact ⟨_, .str z (word_of (List.all_eq_true.mp ten_ok z hz)).ok⟩
    obtain ⟨ws, rfl⟩ := strs_of (ys := ys) fun y hy => by
      obtain ⟨z, _, e⟩ := List.mem_map.mp (pm.subset hy)
      exact ⟨z, e.symm⟩
    have pm := map_perm pm
    have wl : ws.length = 10 := pm.length_eq
    have wn : ws.Nodup := pm.symm.nodup ten_nd
    have ww : ∀ z ∈ ws, IsWord z := fun z hz => word_of (List.all_eq_true.mp ten_ok z (pm.subset hz))
    have m1 : Sx p H H1 := (Sx.of (Sm.new nl)).trans m1
    refine ⟨_, rfl, p, rfl, s1, fun z H2 hz m2 s2 fr2 => ?_⟩
    have qp : q1 ≠ p := (hs.new nl).ne nq1
    have hq1 : H q1 = none := none_back (Sx.of (Sm.new nl)) (hs.new nl) nq1
    have e2 := m2 _ _ qp e1
    have m2 := m1.trans m2
    have last : ∀ (vs : List Str) (G : Hp) (v3 : Option V), Sx p H G → Src G p → G q1 = some (.lst (vs.map V.str)) → vs.length = 10 → vs.Nodup → (∀ z ∈ vs, IsWord z) →
        (tRet (tSl (rSlL K) (tVar 2) tNoPart (tPart (tVar 1)))) { nx := fun _ H' => Q .non H', rt := Q } [some (.ref p), some (.int n), some (.ref q1), v3] G := fun vs G v3 m sG e l nd wd => by
      refine ⟨_, rfl, _, rfl, n, rfl, q1, vs.map V.str, rfl, .inl (.inl e), fun r nr => ?_⟩
      rw [cut_to _ _ (by rw [List.length_map, l]; exact n1), ← List.map_take]
      refine q r (vs.take n) _ (m.trans (Sx.of (Sm.new nr))) (sG.new nr) (none_back m sG nr) upd_same ?_ (nd.sublist (List.take_sublist _ _)) fun y hy => wd y (List.mem_of_mem_take hy)
      rw [List.length_take, l]
      omega
    refine ⟨_, rfl, _, rfl, q1, ws.map V.str, rfl, .inl (.inl (.inl e2)), rfl, all_flat ws, _, rfl, ?_⟩
    show if (!inV (.str z) (ws.map V.str)) = true then _ else _
    cases hi : inV (.str z) (ws.map V.str) with
    | true =>
      refine iteF ?_
      exact last ws H2 _ m2 s2 e2 wl wn ww
    | false =>
      refine iteT ?_
      refine ⟨_, rfl, _, rfl, _, rfl, _, rfl, p, n, rfl, s2, n0, by omega, fun k H3 hk m3 s3 fr3 => ?_⟩
      have e3 := m3 _ _ qp e2
      refine ⟨q1, ws.map V.str, k, k, rfl, rfl, e3, ix_n (by rw [List.length_map, wl]; omega), ?_⟩
      have x4 : Sx p H (upd H3 q1 (.lst ((ws.map V.str).set k (.str z)))) := fun b o nb e => by
        have y := m2.trans m3 b o nb e
        rw [upd_ne (fun w => by rw [w, hq1] at e; cases e)]
        exact y
      have s4 : Src (upd H3 q1 (.lst ((ws.map V.str).set k (.str z)))) p := by
        obtain ⟨own, mix, e, r⟩ := s3
        refine ⟨own, mix, ?_, r⟩
        rw [upd_ne (Ne.symm qp)]
        exact e
      refine last (ws.set k z) _ _ x4 s4 ?_ (by rw [List.length_set, wl]) (nodup_set wn (inV_str hi)) fun y hy => ?_
      · rw [upd_same, List.map_set]
      · rcases List.mem_or_eq_of_mem_set hy with e | e
        · exact ww y e
        · rw [e]
          exact hz
end
end Dk
set_option Elab.async false
set_option linter.all false
set_option maxRecDepth 100000
set_option maxHeartbeats 4000000
namespace Dk
open PySem PySem.Spec PyProof.Rows L2 Er
/-! ### _law_twins -/
/-- natural numbers as the program has them -/
def nats (ts : List Nat) : List V := ts.map fun t => V.int ((t : Nat) : Int)
theorem nats_len (ts : List Nat) : (nats ts).length = ts.length := List.length_map _
theorem nats_at {ts : List Nat} {j t : Nat} (h : ts[j]? = some t) : (nats ts)[j]? = some (.int (t : Nat)) := by
  unfold nats
  rw [List.getElem?_map, h]
  rfl
theorem nats_more (ts : List Nat) (t : Nat) : nats (ts ++ [t]) = nats ts ++ [.int (t : Nat)] := by
  unfold nats
  rw [List.map_append]
  rfl
def spTwins : Sp := fun vs H Q _ => ∃ (p : Addr) (n : Nat), vs = [.ref p, .int n] ∧ Src H p ∧ 1 ≤ n ∧ n ≤ 10 ∧
  ∀ (q : Addr) (ts : List Nat) H', Sx p H H' → Src H' p → H q = none → H' q = some (.lst (nats ts)) → ts.length = n → (∀ j t : Nat, ts[j]? = some t → t ≤ j) → Q (.ref q) H'
abbrev nTwins : List Str := ["_law_source_here", "_law_many_here", "_law_found", "_law_some", "_law_at"]
theorem scTwins : FnScope nTwins ["_law_source_here", "_law_many_here"] (defScope (top 37)) := ⟨rfl, rfl, rfl, by decide +kernel, rfl, by decide +kernel, by decide +kernel⟩
theorem up_ts {ts : List Nat} {t : Nat} (h : ∀ j u : Nat, ts[j]? = some u → u ≤ j) (ht : t ≤ ts.length) : ∀ j u : Nat, (ts ++ [t])[j]? = some u → u ≤ j := fun j u e => by
  by_cases c : j < ts.length
  · rw [List.getElem?_append_left c] at e
    exact h j u e
  · rw [List.getElem?_append_right (by omega)] at e
    have z : j - ts.length = 0 := by
      by_cases z : j - ts.length = 0
      · exact z
      · rw [List.getElem?_eq_none (by simp; omega)] at e
        cases e
    rw [z] at e
    have e2 : t = u := by simpa using e
    omega
section
variable {P : Program} {w : World} {K : PySem.W.Frag} {mg : Str → Option Value} {base : Heap} {f fD : Addr} {fd dD : FuncData}
theorem ok_twins (F : FnP K "_law_twins" (top 37) f fd) (mi : mg "int" = none) (mr : mg "range" = none) (FD : FnP K "_law_draw" (top 32) fD dD) (gD : mg "_law_draw" = some (.ref fD)) :
    FnOk P w K mg base CX0 2 f fd ["_law_source_here", "_law_many_here"] spTwins := by
  have GD : FnOk P w K mg base CX0 1 fD dD ["_law_source_here", "_law_span"] spD := ok_d FD mi
  refine F.ok (CX := CX0) scTwins (fun vs H Q E h => ?_) (fun cdv A outer s H vs Q E hr h => ?_)
  · obtain ⟨p, n, rfl, _⟩ := h
    rfl
  · refine ⟨_, PSs.nox (pss_cons (ps_par (i := 2) (j := 3) rfl scTwins.nd rfl rfl (by decide) rfl rfl (pa_cons (pe_lst pa_nil) (pa_cons (by exact (pe_call GD hr rfl gD FD.kp (bD FD) .nil pass0 (pa_cons (pv 0) (pa_cons pe_int pa_nil)))) pa_nil)) (by rfl))
      (pss_cons (ps_for PassesOwn.never rfl (pi_range1 rfl mr (pa_cons (pv 1) pa_nil)) (pg_name (i := 4) scTwins.nd rfl (.inl rfl))
        (pss_one (ps_if (PW.pt (pw_and (pt_cmpR op_gt (pv 4) pe_int (nomark _)) (pw_and (pt_cmpR op_eq (pv 3) pe_int (nomark _)) (pw_and1 (pt_cmpR op_gt (by exact (pe_call GD hr rfl gD FD.kp (bD FD) .nil pass0 (pa_cons (pv 0) (pa_cons pe_int pa_nil)))) pe_int (nomark _))))))
          (pss_one (ps_expr (pe_bm PySem.F.plainAttrs_list PySem.F.slot_list_append PySem.F.type_list_append mt_append (pv 2) (pa_cons (pe_ix ix_list (pv 2) (by exact (pe_call GD hr rfl gD FD.kp (bD FD) .nil pass0 (pa_cons (pv 0) (pa_cons (pv 4) pa_nil)))) (fun _ _ => rfl)) pa_nil))))
          (pss_one (ps_expr (pe_bm PySem.F.plainAttrs_list PySem.F.slot_list_append PySem.F.type_list_append mt_append (pv 2) (pa_cons (pv 4) pa_nil)))))))
      (pss_one (ps_ret (pv 2))))), ?_⟩
    obtain ⟨p, n, rfl, hs, n0, n1, q⟩ := h
    have sz : ∀ n : Nat, n ≤ 1000 → n ≤ sizeLine := fun n z => by
      rw [sizeLine_eq]
      omega
    refine ⟨sz _ (by decide), fun a na => ⟨_, rfl, p, 2, rfl, hs.new na, by decide, by decide, fun k0 H1 hk0 m1 s1 fr1 => ⟨_, _, rfl, ?_⟩⟩⟩
    have ap : a ≠ p := hs.ne na
    have e1 : H1 a = some (.lst (nats [])) := m1 _ _ ap upd_same
    have m1 : Sx p H H1 := (Sx.of (Sm.new na)).trans m1
    refine ⟨_, rfl, n, rfl, by omega, by omega, ?_⟩
    have en : (((n : Nat) : Int)).toNat = n := by omega
    rw [en]
    refine for_range (lo := 0) (n := n) (fun i σ H' => ∃ (ts : List Nat) (v : Option V), σ = [some (.ref p), some (.int n), some (.ref a), some (.int k0), v] ∧ ts.length = i ∧ (∀ j t : Nat, ts[j]? = some t → t ≤ j) ∧ H' a = some (.lst (nats ts)) ∧ Sx p H H' ∧ Src H' p) ?_ ?_ ?_
    · exact ⟨[], none, rfl, rfl, fun j t e => by simp at e, e1, m1, s1⟩
    · rintro i σ H' hi ⟨ts, v, rfl, tl, tu, e, m, src⟩
      have ez : (0 : Int) + ((i : Nat) : Int) = i := Int.zero_add _
      rw [ez]
      -- what is put behind the list
      have add : ∀ (D : Ends) (G : Hp) (t : Nat), Sx p H G → Src G p → G a = some (.lst (nats ts)) → t ≤ i → (∀ σ G', (∃ (ts : List Nat) (v : Option V), σ = [some (.ref p), some (.int n), some (.ref a), some (.int k0), v] ∧ ts.length = i + 1 ∧ (∀ j t : Nat, ts[j]? = some t → t ≤ j) ∧ G' a = some (.lst (nats ts)) ∧ Sx p H G' ∧ Src G' p) → D.nx σ G') →
          rAppend (.ref a) [.int (t : Nat)] G fun _ H1 => D.nx [some (.ref p), some (.int n), some (.ref a), some (.int k0), some (.int (i : Nat))] H1 := fun D G t mG sG eG ht fin => by
        refine ⟨a, nats ts, .int (t : Nat), rfl, rfl, eG, by rw [nats_len, sizeLine_eq]; omega, fin _ _ ⟨ts ++ [t], some (.int (i : Nat)), rfl, by rw [List.length_append, tl]; rfl, up_ts tu (by omega), ?_, ?_, ?_⟩⟩
        · rw [upd_same, nats_more]
        · intro b o nb eb
          rw [upd_ne (fun w => by rw [w, na] at eb; cases eb)]
          exact mG b o nb eb
        · obtain ⟨own, mix, ee, r⟩ := sG
          exact ⟨own, mix, by rw [upd_ne (Ne.symm ap)]; exact ee, r⟩
      have els : ∀ (D : Ends) (G : Hp), Sx p H G → Src G p → G a = some (.lst (nats ts)) → (∀ σ G', (∃ (ts : List Nat) (v : Option V), σ = [some (.ref p), some (.int n), some (.ref a), some (.int k0), v] ∧ ts.length = i + 1 ∧ (∀ j t : Nat, ts[j]? = some t → t ≤ j) ∧ G' a = some (.lst (nats ts)) ∧ Sx p H G' ∧ Src G' p) → D.nx σ G') →
          tDrop (tBM K "list" rAppend (tVar 2) (tCons (tVar 4) tNil)) D [some (.ref p), some (.int n), some (.ref a), some (.int k0), some (.int (i : Nat))] G := fun D G mG sG eG fin =>
        ⟨_, rfl, .inl ⟨rfl, _, .inl (.inl eG)⟩, _, rfl, add D G i mG sG eG (Nat.le_refl _) fin⟩
      refine ⟨_, rfl, _, _, rfl, rfl, _, rfl, ?_⟩
      by_cases c1 : (0 : Int) < (i : Nat)
      · rw [decide_eq_true c1]
        refine iteT ?_
        refine ⟨_, rfl, rfl, _, rfl, ?_⟩
        by_cases c2 : V.int ((k0 : Nat) : Int) = V.int 1
        · rw [decide_eq_true c2]
          refine iteT ?_
          refine ⟨_, rfl, p, 3, rfl, src, by decide, by decide, fun k H2 hk m2 s2 fr2 => ⟨_, _, rfl, rfl, _, rfl, ?_⟩⟩
          have e2 := m2 _ _ ap e
          have m2 := m.trans m2
          by_cases c3 : (0 : Int) < (k : Nat)
          · rw [decide_eq_true c3]
            refine iteT ?_
            refine ⟨_, rfl, .inl ⟨rfl, _, .inl (.inl e2)⟩, _, rfl, _, rfl, _, rfl, p, i, rfl, s2, by omega, by omega, fun j H3 hj m3 s3 fr3 => ?_⟩
            have e3 := m3 _ _ ap e2
            have hj2 : ts[j]? = some (ts[j]'(by omega)) := List.getElem?_eq_getElem _
            have hle := tu j _ hj2
            refine ⟨a, nats ts, j, .int ((ts[j]'(by omega) : Nat) : Int), rfl, rfl, .inl (.inl e3), atI_nat (nats_at hj2), ?_⟩
            exact add _ H3 _ (m2.trans m3) s3 e3 (by omega) fun _ _ z => z
          · rw [decide_eq_false c3]
            refine iteF ?_
            exact els _ H2 m2 s2 e2 fun _ _ z => z
        · rw [decide_eq_false c2]
          refine iteF ?_
          refine iteF ?_
          exact els _ H' m src e fun _ _ z => z
      · rw [decide_eq_false c1]
        refine iteF ?_
        refine iteF ?_
        exact els _ H' m src e fun _ _ z => z
    · rintro σ H' ⟨ts, v, rfl, tl, tu, e, m, src⟩
      exact ⟨_, rfl, q a ts H' m src na e tl tu⟩
end
end Dk
set_option Elab.async false
set_option linter.all false
set_option maxRecDepth 100000
set_option maxHeartbeats 4000000
namespace Dk
open PySem PySem.Spec PyProof.Rows L2 Er
/-! ### _law_leads -/
def spLeads : Sp := fun vs H Q _ => ∃ (p t : Addr) (ts : List Nat), vs = [.ref p, .ref t] ∧ Src H p ∧ t ≠ p ∧ H t = some (.lst (nats ts)) ∧ 1 ≤ ts.length ∧ ts.length ≤ 10 ∧ (∀ x ∈ ts, x < ts.length) ∧
  ∀ (q : Addr) (ls : List Nat) H', Sx p H H' → Src H' p → H q = none → H' q = some (.lst (nats ls)) → ls.length = ts.length → (∀ x ∈ ls, x < ts.length) → Q (.ref q) H'
abbrev nLeads : List Str := ["_law_source_here", "_law_twins_here", "_law_many_here", "_law_kind", "_law_to", "_law_found", "_law_some", "_law_at", "_law_first", "_law_aims", "_law_like", "_law_one"]
theorem scLeads : FnScope nLeads ["_law_source_here", "_law_twins_here"] (defScope (top 38)) := ⟨rfl, rfl, rfl, by decide +kernel, rfl, by decide +kernel, by decide +kernel⟩
theorem nats_of : ∀ {ys : List V} {n : Nat}, (∀ y ∈ ys, ∃ t : Nat, t < n ∧ y = .int (t : Nat)) → ∃ ms : List Nat, ys = nats ms ∧ ∀ x ∈ ms, x < n
  | [], _, _ => ⟨[], rfl, fun x hx => nomatch hx⟩
  | y :: ys, n, h => by
    obtain ⟨t, ht, e⟩ := h y List.mem_cons_self
    obtain ⟨ms, e2, h2⟩ := nats_of (ys := ys) (n := n) fun x hx => h x (List.mem_cons_of_mem _ hx)
    refine ⟨t :: ms, by rw [e, e2]; rfl, fun x hx => ?_⟩
    rcases List.mem_cons.mp hx with z | z
    · rw [z]
      exact ht
    · exact h2 x z
section
variable {P : Program} {w : World} {K : PySem.W.Frag} {mg : Str → Option Value} {base : Heap} {f fD fP fM : Addr} {fd dD dP dM : FuncData}
theorem ok_leads (F : FnP K "_law_leads" (top 38) f fd) (ml : mg "len" = none) (mi : mg "int" = none) (mr : mg "range" = none) (mt : mg "list" = none) (mx : mg "max" = none) (FD : FnP K "_law_draw" (top 32) fD dD) (gD : mg "_law_draw" = some (.ref fD))
    (FP : FnP K "_law_pick" (top 33) fP dP) (gP : mg "_law_pick" = some (.ref fP)) (FM : FnP K "_law_mixed" (top 34) fM dM) (gM : mg "_law_mixed" = some (.ref fM)) : FnOk P w K mg base CX0 3 f fd ["_law_source_here", "_law_twins_here"] spLeads := by
  have GD : FnOk P w K mg base CX0 1 fD dD ["_law_source_here", "_law_span"] spD := ok_d FD mi
  have GP : FnOk P w K mg base CX0 2 fP dP nPick (spPick K) := ok_pick FP ml mi FD gD
  have GM : FnOk P w K mg base CX0 2 fM dM ["_law_source_here", "_law_things"] (spMixed K) := ok_mixed FM ml mi mt FD gD
  refine F.ok (CX := CX0) scLeads (fun vs H Q E h => ?_) (fun cdv A outer s H vs Q E hr h => ?_)
  · obtain ⟨p, t, ts, rfl, _⟩ := h
    rfl
  · have hr1 := hr.mono (show 1 ≤ 2 by decide)
    refine ⟨_, PSs.nox (pss_cons (ps_asg (pe_tup (pa_cons (pe_callB call_len rfl ml boot_len (pa_cons (pv 1) pa_nil)) (pa_cons (by exact (pe_call GD hr1 rfl gD FD.kp (bD FD) .nil pass0 (pa_cons (pv 0) (pa_cons pe_int pa_nil)))) pa_nil))) (pg_tup rfl (pgs_cons (pg_name (i := 2) scLeads.nd rfl (.inl rfl)) (pgs_cons (pg_name (i := 3) scLeads.nd rfl (.inr rfl)) pgs_nil))))
      (pss_cons (ps_par (i := 4) (j := 5) rfl scLeads.nd rfl rfl (by decide) rfl rfl (pa_cons (by exact (pe_call GD hr1 rfl gD FD.kp (bD FD) .nil pass0 (pa_cons (pv 0) (pa_cons (pv 2) pa_nil)))) (pa_cons (pe_lst pa_nil) pa_nil)) (by rfl))
      (pss_cons (ps_set (i := 6) scLeads.nd rfl (.inl rfl) (by exact (pe_call GM hr rfl gM FM.kp (bM FM) .nil pass0 (pa_cons (pv 0) (pa_cons (pe_listRg rfl rfl mt (prg_1 rfl mr (pv 2))) pa_nil)))))
      (pss_cons (ps_for PassesOwn.never rfl (pi_range1 rfl mr (pa_cons (pv 2) pa_nil)) (pg_name (i := 7) scLeads.nd rfl (.inl rfl))
        (pss_cons (ps_set (i := 8) scLeads.nd rfl (.inl rfl) (pe_ix ix_list (pv 1) (pv 7) (fun _ _ => rfl)))
        (pss_cons (ps_set (i := 9) scLeads.nd rfl (.inr rfl) (pe_lst (pa_cons (pv 4) (pa_cons (pe_ix ix_list (pv 6) (pv 8) (fun _ _ => rfl)) (pa_cons (pe_callB (call_max2 rfl) rfl mx PyProof.Rows.boot_max (pa_cons (pv 8) (pa_cons (pv 4) pa_nil)))
          (pa_cons (pe_op op_mod (pe_op op_add (pv 8) pe_int) (pv 2)) (pa_cons (pe_ix ix_list (pv 6) (pe_op op_mod (pe_i (pe_op op_add (pe_op op_mul (pe_ix ix_list (pv 6) (pv 8) (fun _ _ => rfl)) pe_int) (pv 4)) mi) (pv 2)) (fun _ _ => rfl)) (pa_cons (pv 8) pa_nil))))))))
        (pss_cons (by exact (ps_setLc (i := 10) (own := [("_law_one", 11)]) (g := gName 11) (tt := tTest (tOp rEq (tOp (rIxL K) (tVar 1) (tVar 11)) (tOp (rIxL K) (tVar 1) (tOp (rIxL K) (tVar 9) (tVar 3))))) (te := tVar 11) (by rfl) scLeads.nd rfl rfl (sw_true rfl rfl rfl (by decide +kernel)) (pi_range1 rfl mr (pa_cons (pv 2) pa_nil))
          (blkOk_by (N := nLeads) (sc := defScope (top 38)) (by decide +kernel)) (fun _ _ _ _ _ => pg_name (i := 11) scLeads.nd rfl (Or.inl rfl)) (fun _ _ _ _ _ => pts_one (by exact (pt_cmpR op_eq (by exact (pe_ix ix_list (pv 1) (pv 11) (fun _ _ => rfl))) (by exact (pe_ix ix_list (pv 1) (by exact (pe_ix ix_list (pv 9) (pv 3) (fun _ _ => rfl))) (fun _ _ => rfl))) (nomark _)))) (fun _ _ _ _ _ => by exact (pv 11))))
        (pss_one (ps_expr (pe_bm PySem.F.plainAttrs_list PySem.F.slot_list_append PySem.F.type_list_append mt_append (pv 5) (pa_cons (by exact (pe_call GP hr rfl gP FP.kp (bP FP) .nil pass0 (pa_cons (pv 0) (pa_cons (pv 10) pa_nil)))) pa_nil))))))))
      (pss_one (ps_ret (pv 5))))))), ?_⟩
    obtain ⟨p, t, ts, rfl, hs, tp, ht, n0, n1, tl, q⟩ := h
    have sz : ∀ n : Nat, n ≤ 1000 → n ≤ sizeLine := fun n z => by
      rw [sizeLine_eq]
      omega
    refine ⟨_, rfl, _, _, rfl, .inl ⟨_, .inl (.inl ht), rfl⟩, _, rfl, p, 6, rfl, hs, by decide, by decide, fun kd H1 hkd m1 s1 fr1 => ⟨sz _ (by show (2 : Nat) ≤ 1000; decide), fun u nu => ⟨u, _, rfl, .inl (.inl upd_same), rfl, _, _, rfl, _, _, rfl, rfl, ?_⟩⟩⟩
    rw [nats_len]
    have m1 : Sx p H (upd H1 u (.tup [.int ((ts.length : Nat) : Int), .int ((kd : Nat) : Int)])) := m1.trans (Sx.of (Sm.new nu))
    have s1 := s1.new (o := .tup [.int ((ts.length : Nat) : Int), .int ((kd : Nat) : Int)]) nu
    generalize (upd H1 u (.tup [.int ((ts.length : Nat) : Int), .int ((kd : Nat) : Int)])) = G1 at m1 s1 ⊢
    clear fr1 nu
    refine ⟨_, rfl, _, rfl, p, ts.length, rfl, s1, n0, by omega, fun to H2 hto m2 s2 fr2 => ⟨sz _ (by decide), fun fo nfo => ⟨_, _, rfl, ?_⟩⟩⟩
    have m2 := m1.trans m2
    have fp : fo ≠ p := s2.ne nfo
    have fH : H fo = none := none_back m2 s2 nfo
    have m3 : Sx p H (upd H2 fo (.lst [])) := m2.trans (Sx.of (Sm.new nfo))
    have s3 := s2.new (o := .lst []) nfo
    have e3 : upd H2 fo (.lst []) fo = some (.lst (nats [])) := upd_same
    generalize (upd H2 fo (.lst [])) = G3 at m3 s3 e3 ⊢
    refine ⟨_, rfl, _, rfl, (ts.length : Nat), rfl, RgOk.of_le (by omega) (by omega) (by omega) (by omega), fun r nr => ⟨p, r, rgV 0 ((ts.length : Nat) : Int), rfl, s3.new nr, .inl (.inl upd_same), ?_, ?_, fun sm ys H4 m4 s4 nsm e4 pm => ?_⟩⟩
    · rw [rgV_length]
      omega
    · intro x hx
      obtain ⟨j, _, rfl⟩ := List.mem_map.mp hx
      exact ⟨_, .int _⟩
    have ylen : ys.length = ts.length := by
      rw [pm.length_eq, rgV_length]
      omega
    obtain ⟨ms, rfl, hms⟩ := nats_of (ys := ys) (n := ts.length) fun y hy => by
      obtain ⟨j, hj, e⟩ := List.mem_map.mp (pm.subset hy)
      have hj2 := List.mem_range.mp hj
      exact ⟨j, by omega, by rw [← e, Int.zero_add]⟩
    rw [nats_len] at ylen
    have m5 : Sx p (upd G3 r (.lst (rgV 0 ((ts.length : Nat) : Int)))) H4 := m4
    have m4 : Sx p H H4 := m3.trans ((Sx.of (Sm.new nr)).trans m4)
    have e5 : H4 fo = some (.lst (nats [])) := m5 _ _ fp (Sm.new nr _ _ e3)
    have smp : sm ≠ p := (s3.new nr).ne nsm
    have smf : sm ≠ fo := fun z => by
      have y := Sm.new (o := .lst (rgV 0 ((ts.length : Nat) : Int))) nr _ _ e3
      rw [← z, nsm] at y
      cases y
    clear m5 nsm
    refine ⟨_, rfl, _, rfl, by omega, by omega, ?_⟩
    have en : (((ts.length : Nat) : Int)).toNat = ts.length := by omega
    rw [en]
    refine for_range (lo := 0) (n := ts.length) (fun i σ H' => ∃ (ls : List Nat) (v7 v8 v9 v10 : Option V), σ = [some (.ref p), some (.ref t), some (.int (ts.length : Nat)), some (.int kd), some (.int to), some (.ref fo), some (.ref sm), v7, v8, v9, v10, none] ∧ ls.length = i ∧ (∀ x ∈ ls, x < ts.length) ∧
      H' fo = some (.lst (nats ls)) ∧ H' sm = some (.lst (nats ms)) ∧ Sx p H H' ∧ Src H' p) ?_ ?_ ?_
    · exact ⟨[], none, none, none, none, rfl, rfl, (fun x hx => nomatch hx), e5, e4, m4, s4⟩
    · rintro i σ H' hi ⟨ls, v7, v8, v9, v10, rfl, ll, lb, e, es, m, src⟩
      have ez : (0 : Int) + ((i : Nat) : Int) = i := Int.zero_add _
      rw [ez]
      have eT := m _ _ tp ht
      have ST : SqL K H' t (nats ts) := .inl (.inl eT)
      have SS : SqL K H' sm (nats ms) := .inl (.inl es)
      have ti : ts[i]? = some (ts[i]'(by omega)) := List.getElem?_eq_getElem _
      have fl : ts[i]'(by omega) < ts.length := tl _ (List.getElem_mem _)
      refine ⟨_, rfl, _, rfl, t, nats ts, i, .int ((ts[i]'(by omega) : Nat) : Int), rfl, rfl, ST, atI_nat (nats_at ti), ?_⟩
      generalize (ts[i]'(by omega)) = fi at fl
      have mf : ms[fi]? = some (ms[fi]'(by omega)) := List.getElem?_eq_getElem _
      have mb : ms[fi]'(by omega) < ts.length := hms _ (List.getElem_mem _)
      refine ⟨_, rfl, _, rfl, _, rfl, sm, nats ms, fi, .int ((ms[fi]'(by omega) : Nat) : Int), rfl, rfl, SS, atI_nat (nats_at mf), _, rfl, _, rfl, _, _, rfl, _, rfl, _, _, rfl, rfl, _, rfl, _, _, rfl, rfl, by show (0 : Int) < (ts.length : Nat); omega, ?_⟩
      refine ⟨_, rfl, _, rfl, _, rfl, sm, nats ms, fi, .int ((ms[fi]'(by omega) : Nat) : Int), rfl, rfl, SS, atI_nat (nats_at mf), _, _, rfl, rfl, .inl ⟨by omega, by omega⟩, _, rfl, _, _, rfl, rfl, .inl ⟨_, rfl, _, rfl, _, _, rfl, rfl, by show (0 : Int) < (ts.length : Nat); omega, ?_⟩⟩
      generalize (ms[fi]'(by omega)) = g at mb
      obtain ⟨k1, hk1, ek1⟩ := modN (x := ((g : Nat) : Int) * 3 + ((to : Nat) : Int)) (n := ts.length) (by omega)
      obtain ⟨k2, hk2, ek2⟩ := modN (x := ((fi : Nat) : Int) + 1) (n := ts.length) (by omega)
      have mk : ms[k1]? = some (ms[k1]'(by omega)) := List.getElem?_eq_getElem _
      have kb : ms[k1]'(by omega) < ts.length := hms _ (List.getElem_mem _)
      refine ⟨sm, nats ms, _, .int ((ms[k1]'(by omega) : Nat) : Int), rfl, rfl, SS, ?_, _, rfl, sz _ (by show (6 : Nat) ≤ 1000; decide), fun pa npa => ?_⟩
      · show atI (nats ms) ((((g : Nat) : Int) * 3 + ((to : Nat) : Int)) % ((ts.length : Nat) : Int)) = _
        rw [ek1]
        exact atI_nat (nats_at mk)
      generalize (ms[k1]'(by omega)) = h5 at kb
      have six : ([.int ((to : Nat) : Int), .int ((g : Nat) : Int), .int (if ((to : Nat) : Int) > ((fi : Nat) : Int) then ((to : Nat) : Int) else ((fi : Nat) : Int)), .int ((((fi : Nat) : Int) + 1) % ((ts.length : Nat) : Int)), .int ((h5 : Nat) : Int), .int ((fi : Nat) : Int)] : List V) =
          nats [to, g, if to > fi then to else fi, k2, h5, fi] := by
        rw [ek2]
        have z : (if ((to : Nat) : Int) > ((fi : Nat) : Int) then ((to : Nat) : Int) else ((fi : Nat) : Int)) = (((if to > fi then to else fi) : Nat) : Int) := by
          by_cases c : to > fi
          · rw [if_pos c, if_pos (by omega)]
          · rw [if_neg c, if_neg (by omega)]
        rw [z]
        rfl
      have sixb : ∀ x ∈ [to, g, if to > fi then to else fi, k2, h5, fi], x < ts.length := by
        intro x hx
        simp only [List.mem_cons, List.not_mem_nil, or_false] at hx
        rcases hx with rfl | rfl | rfl | rfl | rfl | rfl <;> first | assumption | (split <;> assumption)
      have six6 : [to, g, if to > fi then to else fi, k2, h5, fi].length = 6 := rfl
      have npa' := npa
      have ea : upd H' pa (.lst [.int ((to : Nat) : Int), .int ((g : Nat) : Int), .int (if ((to : Nat) : Int) > ((fi : Nat) : Int) then ((to : Nat) : Int) else ((fi : Nat) : Int)), .int ((((fi : Nat) : Int) + 1) % ((ts.length : Nat) : Int)), .int ((h5 : Nat) : Int), .int ((fi : Nat) : Int)]) pa = some (.lst (nats [to, g, if to > fi then to else fi, k2, h5, fi])) := by
        rw [upd_same, six]
      have sa := Sm.new (o := .lst [.int ((to : Nat) : Int), .int ((g : Nat) : Int), .int (if ((to : Nat) : Int) > ((fi : Nat) : Int) then ((to : Nat) : Int) else ((fi : Nat) : Int)), .int ((((fi : Nat) : Int) + 1) % ((ts.length : Nat) : Int)), .int ((h5 : Nat) : Int), .int ((fi : Nat) : Int)]) npa
      generalize (upd H' pa (.lst [.int ((to : Nat) : Int), .int ((g : Nat) : Int), .int (if ((to : Nat) : Int) > ((fi : Nat) : Int) then ((to : Nat) : Int) else ((fi : Nat) : Int)), .int ((((fi : Nat) : Int) + 1) % ((ts.length : Nat) : Int)), .int ((h5 : Nat) : Int), .int ((fi : Nat) : Int)])) = G at ea sa ⊢
      generalize [to, g, if to > fi then to else fi, k2, h5, fi] = aims at sixb six6 ea
      have eT := sa _ _ eT
      have ST : SqL K G t (nats ts) := .inl (.inl eT)
      have SA : SqL K G pa (nats aims) := .inl (.inl ea)
      have ck : aims[kd]? = some (aims[kd]'(by omega)) := List.getElem?_eq_getElem _
      have cb : aims[kd]'(by omega) < ts.length := sixb _ (List.getElem_mem _)
      generalize (aims[kd]'(by omega)) = c at ck cb
      have tc : ts[c]? = some (ts[c]'(by omega)) := List.getElem?_eq_getElem _
      have e := sa _ _ e
      have es := sa _ _ es
      have m := m.trans (Sx.of sa)
      have src := src.sm sa
      refine ⟨_, rfl, _, rfl, by omega, by omega, fun D nD => ?_⟩
      rw [en]
      refine lc_range (lo := 0) (n := ts.length) (fun j H2 => ∃ acc : List Nat, H2 D = some (.lst (nats acc)) ∧ (∀ x ∈ acc, x < ts.length) ∧ acc.length ≤ j ∧ (c < j → acc ≠ []) ∧ Sm G H2) ⟨[], upd_same, (fun x hx => nomatch hx), by simp, (fun z => by omega), Sm.new nD⟩ ?_ ?_
      · rintro j H2 hj ⟨acc, ed, ab, al, an, sg⟩
        have ez : (0 : Int) + ((j : Nat) : Int) = j := Int.zero_add _
        rw [ez]
        have tj : ts[j]? = some (ts[j]'(by omega)) := List.getElem?_eq_getElem _
        have ST2 : SqL K H2 t (nats ts) := .inl (.inl (sg _ _ eT))
        have SA2 : SqL K H2 pa (nats aims) := .inl (.inl (sg _ _ ea))
        refine ⟨rfl, _, rfl, _, rfl, t, nats ts, j, .int ((ts[j]'(by omega) : Nat) : Int), rfl, rfl, ST2, atI_nat (nats_at tj), _, rfl, _, rfl, _, rfl, pa, nats aims, kd, .int ((c : Nat) : Int), rfl, rfl, SA2, atI_nat (nats_at ck), t, nats ts, c, .int ((ts[c]'(by omega) : Nat) : Int), rfl, rfl, ST2, atI_nat (nats_at tc), rfl, _, rfl, ?_⟩
        by_cases eq : V.int ((ts[j]'(by omega) : Nat) : Int) = V.int ((ts[c]'(by omega) : Nat) : Int)
        · rw [decide_eq_true eq]
          refine iteT ?_
          refine ⟨_, rfl, _, ed, by rw [nats_len, sizeLine_eq]; omega, acc ++ [j], ?_, ?_, ?_, ?_, ?_⟩
          · rw [upd_same, nats_more]
          · intro x hx
            rcases List.mem_append.mp hx with z | z
            · exact ab x z
            · have z2 : x = j := by simpa using z
              omega
          · rw [List.length_append]
            show acc.length + 1 ≤ j + 1
            omega
          · intro _
            simp
          · intro b o eb
            rw [upd_ne (ne_of_none eb nD)]
            exact sg _ _ eb
        · rw [decide_eq_false eq]
          refine iteF ?_
          refine ⟨acc, ed, ab, by omega, fun z => an ?_, sg⟩
          by_cases cj : c = j
          · subst cj
            exact absurd rfl eq
          · omega
      · rintro H2 ⟨acc, ed, ab, al, an, sg⟩
        have ne : acc ≠ [] := an cb
        have dp : D ≠ p := src.ne nD
        have e := sg _ _ e
        have es := sg _ _ es
        have m := m.trans (Sx.of sg)
        have src := src.sm sg
        refine ⟨_, rfl, .inl ⟨rfl, _, .inl (.inl e)⟩, _, rfl, _, rfl, p, .ref D, rfl, src, .inl ⟨D, nats acc, rfl, dp, .inl (.inl ed), by rw [nats_len]; exact List.length_pos_iff.mpr ne, by rw [nats_len]; omega, fun k v H3 hv m3 s3 fr3 => ?_⟩⟩
        have e3 := m3 _ _ fp e
        have es3 := m3 _ _ smp es
        have m3 := m.trans m3
        obtain ⟨x, hx, rfl⟩ : ∃ x : Nat, x < ts.length ∧ v = .int (x : Nat) := by
          have z := List.mem_of_getElem? hv
          obtain ⟨x, hx, ex⟩ := List.mem_map.mp z
          exact ⟨x, ab x hx, ex.symm⟩
        refine ⟨fo, nats ls, .int (x : Nat), rfl, rfl, e3, by rw [nats_len, sizeLine_eq]; omega, ls ++ [x], _, _, _, _, rfl, ?_, ?_, ?_, ?_, ?_, ?_⟩
        · rw [List.length_append, ll]
          rfl
        · intro z hz
          rcases List.mem_append.mp hz with y | y
          · exact lb z y
          · have y2 : z = x := by simpa using y
            omega
        · rw [upd_same, nats_more]
        · rw [upd_ne smf]
          exact es3
        · intro b o nb eb
          rw [upd_ne (fun w => by rw [w, fH] at eb; cases eb)]
          exact m3 b o nb eb
        · obtain ⟨own, mix, ee, r⟩ := s3
          exact ⟨own, mix, by rw [upd_ne (Ne.symm fp)]; exact ee, r⟩
    · rintro σ H' ⟨ls, v7, v8, v9, v10, rfl, ll, lb, e, es, m, src⟩
      exact ⟨_, rfl, q fo ls H' m src fH e ll lb⟩
end
end Dk
set_option Elab.async false
set_option linter.all false
set_option maxRecDepth 100000
set_option maxHeartbeats 4000000
namespace Dk
open PySem PySem.Spec PyProof.Rows L2 Er
/-! ### dicts of texts -/
/-- the pairs of a dict with the keys ws -/
def dkv (ws : List Str) (vs : List V) : List (Key × V) := (ws.map (Sum.inr : Str → Key)).zip vs
theorem put_new {acc : List (Key × V)} {k : Key} {v : V} (h : k ∉ acc.map (·.1)) : putK acc k v = acc ++ [(k, v)] := by
  unfold putK
  rw [if_neg]
  intro z
  obtain ⟨q, hq, e⟩ := List.any_eq_true.mp z
  exact h (List.mem_map.mpr ⟨q, hq, of_decide_eq_true e⟩)
theorem merge_new : ∀ (more acc : List (Key × V)), ((acc ++ more).map (·.1)).Nodup → mergeK acc more = acc ++ more
  | [], acc, _ => by
    rw [List.append_nil]
    rfl
  | q :: more, acc, h => by
    have h2 : q.1 ∉ acc.map (·.1) := by
      rw [List.map_append, List.map_cons] at h
      intro z
      exact (List.nodup_append.mp h).2.2 q.1 z q.1 List.mem_cons_self rfl
    show mergeK (putK acc q.1 q.2) more = acc ++ q :: more
    rw [put_new h2, merge_new more (acc ++ [(q.1, q.2)]) (by rw [List.append_assoc]; exact h), List.append_assoc]
    rfl
theorem dkv_keys : ∀ {ws : List Str} {vs : List V}, ws.length = vs.length → (dkv ws vs).map (·.1) = ws.map Sum.inr
  | [], _, _ => rfl
  | w :: ws, [], h => by simp at h
  | w :: ws, v :: vs, h => by
    have ih := dkv_keys (ws := ws) (vs := vs) (by simpa using h)
    show Sum.inr w :: (dkv ws vs).map (·.1) = _
    rw [ih]
    rfl
theorem dkv_merge {ws : List Str} {vs : List V} (h : ws.length = vs.length) (nd : ws.Nodup) : mergeK [] (dkv ws vs) = dkv ws vs := by
  refine merge_new _ [] ?_
  rw [List.nil_append, dkv_keys h]
  exact List.Pairwise.map _ (fun a b n z => n (Sum.inr.inj z)) nd
theorem paired_of {α β : Type} {F : α → β → Prop} : ∀ {ps : List α} {qs : List β}, ps.length = qs.length → (∀ (j : Nat) (p : α) (q : β), ps[j]? = some p → qs[j]? = some q → F p q) → Paired F ps qs
  | [], [], _, _ => .nil
  | [], _ :: _, h, _ => by simp at h
  | _ :: _, [], h, _ => by simp at h
  | p :: ps, q :: qs, h, f => .cons (f 0 p q rfl rfl) (paired_of (by simpa using h) fun j a b e1 e2 => f (j + 1) a b (by simpa using e1) (by simpa using e2))
/-- [(e1, e2) for at in range(n)] -/
theorem lc_pairs {n : Nat} {fk fv : Nat → V} {t1 t2 : TE} {σ : L2.St} {i : Nat} {H1 : Hp} {Q : Addr → Hp → Prop} (hn : n ≤ 1000) (w1 : ∀ v, wipe ((wipe σ [i]).set i (some v)) [i] = wipe σ [i])
    (ev : ∀ (j : Nat) (G : Hp) (Q : List V → Hp → Prop), j < n → Sm H1 G → Q [fk j, fv j] G → (tCons t1 (tCons t2 tNil)) ((wipe σ [i]).set i (some (.int ((j : Nat) : Int)))) G Q)
    (q : ∀ (D : Addr) (ps : List Addr) (H' : Hp), Sm H1 H' → H1 D = none → H' D = some (.lst (ps.map V.ref)) → ps.length = n → (∀ (k : Nat) (p : Addr), ps[k]? = some p → H' p = some (.tup [fk k, fv k])) → Q D H') :
    ∀ D, H1 D = none → ∃ W : Nat → Nat → Hp → Prop, (∃ m, W 0 m (upd H1 D (.lst []))) ∧ ∀ i₁ m H, W i₁ m H →
      ((Itr 0 n).stop i₁ H ∧ Q D H) ∨ ((Itr 0 n).go i₁ H ∧ ∃ Nx : Hp → Prop, (∀ H', Nx H' → ∃ m', m' < m ∧ W (i₁ + 1) m' H') ∧ ∀ x H', (Itr 0 n).yld i₁ H x H' → gName i x (wipe σ [i]) H' fun σ2 H2 => wipe σ2 [i] = wipe σ [i] ∧ tYes σ2 H2 fun b H3 =>
        if b = true then (tTup (tCons t1 (tCons t2 tNil))) σ2 H3 fun y H4 => ∃ acc, H4 D = some (.lst acc) ∧ acc.length < sizeLine ∧ Nx (upd H4 D (.lst (acc ++ [y]))) else Nx H3) := by
  intro D hD
  refine lc_range (lo := 0) (n := n) (g := gName i) (tt := tYes) (te := tTup (tCons t1 (tCons t2 tNil))) (vs := [i]) (Qd := fun H => Q D H)
    (fun j H2 => ∃ ps : List Addr, H2 D = some (.lst (ps.map V.ref)) ∧ ps.length = j ∧ (∀ (k : Nat) (p : Addr), ps[k]? = some p → H2 p = some (.tup [fk k, fv k])) ∧ Sm H1 H2) ⟨[], upd_same, rfl, fun k p e => by simp at e, Sm.new hD⟩ ?_ ?_
  · rintro j G hj ⟨ps, ed, pl, pt, sg⟩
    have ez : (0 : Int) + ((j : Nat) : Int) = j := Int.zero_add _
    rw [ez]
    refine ⟨w1 _, ?_⟩
    unfold tYes
    dsimp only
    rw [if_pos rfl]
    refine ev j G _ hj sg ⟨by show 2 ≤ sizeLine; rw [sizeLine_eq]; decide, fun p np => ?_⟩
    have dp : D ≠ p := ne_of_none ed np
    refine ⟨ps.map V.ref, by rw [upd_ne dp]; exact ed, by rw [List.length_map, sizeLine_eq]; omega, ps ++ [p], ?_, by rw [List.length_append, pl]; rfl, ?_, ?_⟩
    · rw [upd_same, List.map_append]
      rfl
    · intro k r er
      by_cases c : k < ps.length
      · rw [List.getElem?_append_left c] at er
        have z := pt k r er
        have rD : r ≠ D := fun w => by
          rw [w, ed] at z
          cases z
        rw [upd_ne rD, upd_ne (ne_of_none z np)]
        exact z
      · rw [List.getElem?_append_right (by omega)] at er
        have z : k - ps.length = 0 := by
          by_cases z : k - ps.length = 0
          · exact z
          · rw [List.getElem?_eq_none (by simp; omega)] at er
            cases er
        rw [z] at er
        have e2 : p = r := by simpa using er
        have ek : k = j := by omega
        subst e2 ek
        rw [upd_ne (Ne.symm dp), upd_same]
    · intro b o eb
      rw [upd_ne (ne_of_none eb hD)]
      exact Sm.new np _ _ (sg _ _ eb)
  · rintro G ⟨ps, ed, pl, pt, sg⟩
    exact q D ps G sg hD ed pl pt
/-! ### _law_sights -/
def spSights : Sp := fun vs H Q _ => ∃ (p : Addr) (n : Nat), vs = [.ref p, .int n] ∧ Src H p ∧ 1 ≤ n ∧ n ≤ 10 ∧
  ∀ (q : Addr) (ws : List Str) H', Sx p H H' → Src H' p → H q = none → H' q = some (.lst (ws.map V.str)) → ws.length = n → (∀ z ∈ ws, IsWord z) → Q (.ref q) H'
abbrev nSights : List Str := ["_law_source_here", "_law_many_here", "_law_kind", "_law_some", "_law_at", "_law_one"]
theorem scSights : FnScope nSights ["_law_source_here", "_law_many_here"] (defScope (top 39)) := ⟨rfl, rfl, rfl, by decide +kernel, rfl, by decide +kernel, by decide +kernel⟩
/-- int(x) of a number, a bool -/
def rInt1 : List V → Hp → VK → Prop := fun xs H Q => (∃ i, xs = [.int i] ∧ Q (.int i) H) ∨ ∃ k, xs = [.bl k] ∧ Q (.int (if k then 1 else 0)) H
section
variable {P : Program} {w : World} {K : PySem.W.Frag} {mg : Str → Option Value} {base : Heap} {f fD fP fM fW fN : Addr} {fd dD dP dM dW dN : FuncData}
theorem bN (F : FnP K "_law_names" (top 36) fN dN) : Binds K dN ["_law_source_here", "_law_many_here"] [] := F.bindsN fun _ _ _ _ _ _ us hl => match us, hl with
  | [_, _], _ => rfl
theorem ok_sights (F : FnP K "_law_sights" (top 39) f fd) (ml : mg "len" = none) (mi : mg "int" = none) (mr : mg "range" = none) (GD : FnOk P w K mg base CX0 1 fD dD ["_law_source_here", "_law_span"] spD) (FD : FnP K "_law_draw" (top 32) fD dD) (gD : mg "_law_draw" = some (.ref fD))
    (GP : FnOk P w K mg base CX0 2 fP dP nPick (spPick K)) (FP : FnP K "_law_pick" (top 33) fP dP) (gP : mg "_law_pick" = some (.ref fP)) (GN : FnOk P w K mg base CX0 4 fN dN ["_law_source_here", "_law_many_here"] spNames) (FN : FnP K "_law_names" (top 36) fN dN) (gN : mg "_law_names" = some (.ref fN)) :
    FnOk P w K mg base CX0 5 f fd ["_law_source_here", "_law_many_here"] spSights := by
  refine F.ok (CX := CX0) scSights (fun vs H Q E h => ?_) (fun cdv A outer s H vs Q E hr h => ?_)
  · obtain ⟨p, n, rfl, _⟩ := h
    rfl
  · have hr1 := hr.mono (show 1 ≤ 4 by decide)
    have hr2 := hr.mono (show 2 ≤ 4 by decide)
    refine ⟨_, PSs.nox (pss_cons (ps_asg (pe_tup (pa_cons (by exact (pe_call GD hr1 rfl gD FD.kp (bD FD) .nil pass0 (pa_cons (pv 0) (pa_cons pe_int pa_nil)))) (pa_cons (by exact (pe_call GN hr rfl gN FN.kp (bN FN) .nil pass0 (pa_cons (pv 0) (pa_cons pe_int pa_nil))))
        (pa_cons (by exact (pe_call GD hr1 rfl gD FD.kp (bD FD) .nil pass0 (pa_cons (pv 0) (pa_cons (pv 1) pa_nil)))) pa_nil)))) (pg_tup rfl (pgs_cons (pg_name (i := 2) scSights.nd rfl (.inr rfl)) (pgs_cons (pg_name (i := 3) scSights.nd rfl (.inr rfl)) (pgs_cons (pg_name (i := 4) scSights.nd rfl (.inr rfl)) pgs_nil)))))
      (pss_cons (ps_if (pt_cmpR op_eq (pv 2) pe_int (nomark _)) (pss_one (ps_ret (by exact (pe_call GN hr rfl gN FN.kp (bN FN) .nil pass0 (pa_cons (pv 0) (pa_cons (pv 1) pa_nil)))))) pss_nil)
      (pss_cons (ps_if (pt_cmpR op_lt (pv 2) pe_int (nomark _)) (pss_one (ps_ret (by exact (pe_lc (own := [("_law_one", 5)]) (g := gName 5) (tt := tYes) (te := tOp (rIxL K) (tVar 3) (tCB rInt1 (tCons (tOp rEq (tVar 5) (tVar 4)) tNil))) rfl scSights.nd (pi_range1 rfl mr (pa_cons (pv 1) pa_nil))
          (blkOk_by (N := nSights) (sc := defScope (top 39)) (by decide +kernel)) (fun _ _ _ _ _ => pg_name (i := 5) scSights.nd rfl (Or.inl rfl)) (fun _ _ _ _ _ => pts_nil) (fun _ _ _ _ _ => by exact (pe_ix ix_list (by exact (pv 3)) (by exact (pe_callTy call_int1 rfl mi PyProof.Rows.boot_int (pa_cons (by exact (pe_cmpR op_eq (pv 5) (pv 4) (nomark _))) pa_nil))) (fun _ _ => rfl))))))) pss_nil)
      (pss_one (ps_ret (by exact (pe_lc (own := [("_law_one", 5)]) (g := gName 5) (tt := tYes) (te := tCall (spPick K) [] E0 (tCons (tVar 0) (tCons (tSl (rSlL K) (tVar 3) tNoPart (tPart (tOp (rI0 fun i j => .int (i - j)) (tVar 2) (tC (.int 2))))) tNil))) rfl scSights.nd (pi_range1 rfl mr (pa_cons (pv 1) pa_nil))
          (blkOk_by (N := nSights) (sc := defScope (top 39)) (by decide +kernel)) (fun _ _ _ _ _ => pg_name (i := 5) scSights.nd rfl (Or.inl rfl)) (fun _ _ _ _ _ => pts_nil) (fun _ _ _ _ _ => by exact (pe_call GP hr2 rfl gP FP.kp (bP FP) .nil pass0 (pa_cons (pv 0) (pa_cons (by exact (pe_slice sl_list (pv 3) po_none (po_some (pe_op op_sub (pv 2) pe_int)))) pa_nil))))))))))), ?_⟩
    obtain ⟨p, n, rfl, hs, n0, n1, q⟩ := h
    have sz : ∀ n : Nat, n ≤ 1000 → n ≤ sizeLine := fun n z => by
      rw [sizeLine_eq]
      omega
    refine ⟨_, rfl, p, 6, rfl, hs, by decide, by decide, fun kd H1 hkd m1 s1 fr1 => ⟨_, rfl, p, 4, rfl, s1, by decide, by decide, fun so ws H2 m2 s2 nso e2 wl wn ww => ⟨_, rfl, _, rfl, p, n, rfl, s2, n0, by omega, fun at_ H3 hat m3 s3 fr3 =>
      ⟨sz _ (by show (3 : Nat) ≤ 1000; decide), fun u nu => ⟨u, _, rfl, .inl (.inl upd_same), rfl, _, _, rfl, _, _, rfl, _, _, rfl, rfl, ?_⟩⟩⟩⟩⟩
    have sp : so ≠ p := s1.ne nso
    have m : Sx p H (upd H3 u (.tup [.int ((kd : Nat) : Int), .ref so, .int ((at_ : Nat) : Int)])) := m1.trans (m2.trans (m3.trans (Sx.of (Sm.new nu))))
    have src := s3.new (o := .tup [.int ((kd : Nat) : Int), .ref so, .int ((at_ : Nat) : Int)]) nu
    have e := Sm.new (o := .tup [.int ((kd : Nat) : Int), .ref so, .int ((at_ : Nat) : Int)]) nu _ _ (m3 _ _ sp e2)
    generalize (upd H3 u (.tup [.int ((kd : Nat) : Int), .ref so, .int ((at_ : Nat) : Int)])) = G at m src e ⊢
    refine ⟨_, rfl, rfl, _, rfl, ?_⟩
    by_cases c : V.int ((kd : Nat) : Int) = V.int 0
    · rw [decide_eq_true c]
      refine iteT ?_
      exact ⟨_, rfl, _, rfl, p, n, rfl, src, n0, n1, fun a ws H4 m4 s4 na e4 wl wn ww => q a ws H4 (m.trans m4) s4 (none_back m src na) e4 wl ww⟩
    · rw [decide_eq_false c]
      refine iteF ?_
      have c0 : kd ≠ 0 := fun z => c (by rw [z]; rfl)
      have en : (((n : Nat) : Int)).toNat = n := by omega
      refine ⟨_, rfl, _, _, rfl, rfl, _, rfl, ?_⟩
      by_cases c2 : ((kd : Nat) : Int) < 3
      · rw [decide_eq_true c2]
        refine iteT ?_
        refine ⟨_, rfl, _, rfl, by omega, by omega, fun D nD => ?_⟩
        rw [en]
        refine lc_range (lo := 0) (n := n) (fun j G2 => ∃ acc : List Str, G2 D = some (.lst (acc.map V.str)) ∧ acc.length = j ∧ (∀ z ∈ acc, IsWord z) ∧ Sm G G2) ⟨[], upd_same, rfl, (fun z hz => nomatch hz), Sm.new nD⟩ ?_ ?_
        · rintro j G2 hj ⟨acc, ed, al, aw, sg⟩
          refine ⟨rfl, ?_⟩
          unfold tYes
          dsimp only
          rw [if_pos rfl]
          refine ⟨_, rfl, _, rfl, _, rfl, rfl, .inr ⟨_, rfl, ?_⟩⟩
          have fin : ∀ (k : Nat), k < 4 → rIxL K (.ref so) (.int ((k : Nat) : Int)) G2 fun y H4 => ∃ acc, H4 D = some (.lst acc) ∧ acc.length < sizeLine ∧ ∃ acc2 : List Str, upd H4 D (.lst (acc ++ [y])) D = some (.lst (acc2.map V.str)) ∧ acc2.length = j + 1 ∧ (∀ z ∈ acc2, IsWord z) ∧ Sm G (upd H4 D (.lst (acc ++ [y]))) := fun k hk => by
            have hw : ws[k]? = some (ws[k]'(by omega)) := List.getElem?_eq_getElem _
            refine ⟨so, ws.map V.str, k, .str (ws[k]'(by omega)), rfl, rfl, .inl (.inl (sg _ _ e)), atI_nat (by rw [List.getElem?_map, hw]; rfl), _, ed, by rw [List.length_map, sizeLine_eq]; omega, acc ++ [ws[k]'(by omega)], ?_, by rw [List.length_append, al]; rfl, ?_, ?_⟩
            · rw [upd_same, List.map_append]
              rfl
            · intro z hz
              rcases List.mem_append.mp hz with y | y
              · exact aw z y
              · have y2 : z = ws[k]'(by omega) := by simpa using y
                rw [y2]
                exact ww _ (List.getElem_mem _)
            · intro b o eb
              rw [upd_ne (ne_of_none eb nD)]
              exact sg _ _ eb
          by_cases dd : V.int (0 + ((j : Nat) : Int)) = V.int ((at_ : Nat) : Int)
          · rw [decide_eq_true dd]
            exact fin 1 (by decide)
          · rw [decide_eq_false dd]
            exact fin 0 (by decide)
        · rintro G2 ⟨acc, ed, al, aw, sg⟩
          exact q D acc G2 (m.trans (Sx.of sg)) (src.sm sg) (none_back m src nD) ed al aw
      · rw [decide_eq_false c2]
        refine iteF ?_
        have dp : ∀ {D : Addr}, G D = none → D ≠ p := fun z => src.ne z
        refine ⟨_, rfl, _, rfl, by omega, by omega, fun D nD => ?_⟩
        rw [en]
        refine lc_range (lo := 0) (n := n) (fun j G2 => ∃ acc : List Str, G2 D = some (.lst (acc.map V.str)) ∧ acc.length = j ∧ (∀ z ∈ acc, IsWord z) ∧ Sx p G G2 ∧ Src G2 p) ⟨[], upd_same, rfl, (fun z hz => nomatch hz), Sx.of (Sm.new nD), src.new nD⟩ ?_ ?_
        · rintro j G2 hj ⟨acc, ed, al, aw, sg, sr⟩
          refine ⟨rfl, ?_⟩
          unfold tYes
          dsimp only
          rw [if_pos rfl]
          have e4 := sg _ _ sp e
          refine ⟨_, rfl, _, rfl, _, rfl, _, _, rfl, rfl, _, rfl, so, ws.map V.str, rfl, .inl (.inl e4), fun r nr => ?_⟩
          have ek : ((kd : Nat) : Int) - 2 = ((kd - 2 : Nat) : Int) := by omega
          rw [ek, cut_to _ _ (by rw [List.length_map, wl]; omega), ← List.map_take]
          have ed2 := Sm.new (o := .lst ((ws.take (kd - 2)).map V.str)) nr _ _ ed
          refine ⟨p, .ref r, rfl, sr.new nr, .inl ⟨r, (ws.take (kd - 2)).map V.str, rfl, sr.ne nr, .inl (.inl upd_same), by rw [List.length_map, List.length_take, wl]; omega, by rw [List.length_map, List.length_take, wl]; omega, fun k v H4 hv m4 s4 fr4 => ?_⟩⟩
          obtain ⟨z, hz, rfl⟩ := List.mem_map.mp (List.mem_of_getElem? hv)
          have zw := ww z (List.mem_of_mem_take hz)
          have dpp := dp nD
          refine ⟨_, m4 _ _ dpp ed2, by rw [List.length_map, sizeLine_eq]; omega, acc ++ [z], ?_, by rw [List.length_append, al]; rfl, ?_, ?_, ?_⟩
          · rw [upd_same, List.map_append]
            rfl
          · intro x hx
            rcases List.mem_append.mp hx with y | y
            · exact aw x y
            · have y2 : x = z := by simpa using y
              rw [y2]
              exact zw
          · intro b o nb eb
            rw [upd_ne (ne_of_none eb nD)]
            exact m4 _ _ nb (Sm.new nr _ _ (sg _ _ nb eb))
          · obtain ⟨own, mix, ee, rr⟩ := s4
            exact ⟨own, mix, by rw [upd_ne (Ne.symm dpp)]; exact ee, rr⟩
        · rintro G2 ⟨acc, ed, al, aw, sg, sr⟩
          exact q D acc G2 (m.trans sg) sr (none_back m src nD) ed al aw
end
end Dk
set_option Elab.async false
set_option linter.all false
set_option maxRecDepth 100000
set_option maxHeartbeats 4000000
namespace Dk
open PySem PySem.Spec PyProof.Rows L2 Er
/-! ### a drawn desk -/
theorem pair_dkv {K : PySem.W.Frag} {H : Hp} {ps : List Addr} {ws : List Str} {vs : List V} (e1 : ps.length = ws.length) (e2 : ws.length = vs.length) (h : ∀ (k : Nat) (p : Addr), ps[k]? = some p → H p = some (.tup [.str (ws.getD k ⟨#[]⟩), vs.getD k .non])) :
    Paired (fun p (kv : Key × V) => SqT K H p [kV kv.1, kv.2]) ps (dkv ws vs) :=
  paired_of (by unfold dkv; rw [List.length_zip, List.length_map]; omega) fun j p q ep eq => by
    obtain ⟨a, b⟩ := List.getElem?_zip_eq_some.mp eq
    rw [List.getElem?_map] at a
    cases ew : ws[j]? with
    | none =>
      rw [ew] at a
      cases a
    | some wd =>
      rw [ew] at a
      have a2 : Sum.inr wd = q.1 := Option.some.inj a
      have z := h j p ep
      rw [List.getD_eq_getElem?_getD, List.getD_eq_getElem?_getD, ew, b] at z
      exact .inl (.inl (by rw [z, ← a2]; rfl))
/-- the desk at u: standings, for each deed a dict, sights -/
def DkAt (H : Hp) (u nm dd sg : Addr) (ws ds : List Str) (as : List Addr) (tb : List (List Str)) (ls : List Str) : Prop :=
  H u = some (.tup [.ref nm, .ref dd, .ref sg]) ∧ H nm = some (.lst (ws.map V.str)) ∧ H dd = some (.dK (dkv ds (as.map V.ref))) ∧ H sg = some (.dK (dkv ws (ls.map V.str))) ∧ Paired (fun a vs => H a = some (.dK (dkv ws (vs.map V.str)))) as tb
/-- what such a desk holds -/
structure DkIs (m : Nat) (ws ds : List Str) (tb : List (List Str)) (ls : List Str) : Prop where
  some : 1 ≤ ws.length
  most : ws.length ≤ m
  nd : ws.Nodup
  word : ∀ z ∈ ws, IsWord z
  dsome : 1 ≤ ds.length
  dmost : ds.length ≤ 4
  dnd : ds.Nodup
  dword : ∀ z ∈ ds, IsWord z
  rows : tb.length = ds.length
  row : ∀ vs ∈ tb, vs.length = ws.length ∧ ∀ z ∈ vs, z ∈ ws
  looks : ls.length = ws.length
  look : ∀ z ∈ ls, IsWord z
def spDesk : Sp := fun vs H Q _ => ∃ (p : Addr) (m : Nat), vs = [.ref p, .int m] ∧ Src H p ∧ 1 ≤ m ∧ m ≤ 9 ∧
  ∀ (u nm dd sg : Addr) (ws ds : List Str) (as : List Addr) (tb : List (List Str)) (ls : List Str) H', Sx p H H' → Src H' p → H u = none → nm ≠ p → dd ≠ p → sg ≠ p → (∀ a ∈ as, a ≠ p) → DkAt H' u nm dd sg ws ds as tb ls → DkIs m ws ds tb ls → Q (.ref u) H'
abbrev nDesk : List Str := ["_law_source_here", "_law_most", "_law_many_here", "_law_deeds", "_law_names_here", "_law_twins_here", "_law_deed", "_law_aims", "_law_looks", "_law_at"]
theorem scDesk : FnScope nDesk ["_law_source_here", "_law_most"] (defScope (top 40)) := ⟨rfl, rfl, rfl, by decide +kernel, rfl, by decide +kernel, by decide +kernel⟩
theorem put_dkv {ds : List Str} {as : List Addr} {d : Str} {a : Addr} (e : as.length = ds.length) (nd : (ds ++ [d]).Nodup) : putK (dkv ds (as.map V.ref)) (.inr d) (.ref a) = dkv (ds ++ [d]) ((as ++ [a]).map V.ref) := by
  rw [put_new]
  · unfold dkv
    rw [List.map_append, List.map_append, List.zip_append (by rw [List.length_map, List.length_map, e])]
    rfl
  · rw [dkv_keys (by rw [List.length_map, e])]
    intro z
    obtain ⟨x, hx, ex⟩ := List.mem_map.mp z
    have ex2 : x = d := Sum.inr.inj ex
    exact (List.nodup_append.mp nd).2.2 x hx d List.mem_cons_self ex2
theorem dkv_len {ds : List Str} {vs : List V} (e : vs.length = ds.length) : (dkv ds vs).length = ds.length := by
  unfold dkv
  rw [List.length_zip, List.length_map]
  omega
theorem pair_more {α β : Type} {F : α → β → Prop} {ps : List α} {qs : List β} {p : α} {q : β} (h : Paired F ps qs) (f : F p q) : Paired F (ps ++ [p]) (qs ++ [q]) := by
  induction h with
  | nil => exact .cons f .nil
  | cons a _ ih => exact .cons a ih
theorem pair_mono {α β : Type} {F G : α → β → Prop} {ps : List α} {qs : List β} (h : Paired F ps qs) (f : ∀ p ∈ ps, ∀ q, F p q → G p q) : Paired G ps qs := by
  induction h with
  | nil => exact .nil
  | cons a _ ih => exact .cons (f _ List.mem_cons_self _ a) (ih fun p hp => f p (List.mem_cons_of_mem _ hp))
/-- the things at some places -/
def tgt (ws : List Str) (ls : List Nat) : List Str := ls.map fun l => ws.getD l ⟨#[]⟩
theorem tgt_len {ws : List Str} {ls : List Nat} : (tgt ws ls).length = ls.length := List.length_map _
theorem tgt_in {ws : List Str} {ls : List Nat} (h : ∀ x ∈ ls, x < ws.length) : ∀ z ∈ tgt ws ls, z ∈ ws := fun z hz => by
  obtain ⟨l, hl, rfl⟩ := List.mem_map.mp hz
  have hl := h l hl
  rw [List.getD_eq_getElem?_getD, List.getElem?_eq_getElem hl]
  exact List.getElem_mem _
theorem gd {xs : List Str} {j : Nat} (h : j < xs.length) : (xs.map V.str)[j]? = some (.str (xs.getD j ⟨#[]⟩)) := by
  rw [List.getElem?_map, List.getD_eq_getElem?_getD, List.getElem?_eq_getElem h]
  rfl
theorem tgt_at {ws : List Str} {ls : List Nat} {j : Nat} (h : j < ls.length) : ((tgt ws ls).map V.str).getD j .non = .str (ws.getD (ls[j]'h) ⟨#[]⟩) := by
  unfold tgt
  rw [List.getD_eq_getElem?_getD, List.getElem?_map, List.getElem?_map, List.getElem?_eq_getElem h]
  rfl
/-- [(xs[at], ys[zs[at]]) for at ..], one entry of it -/
theorem ev_pair {K : PySem.W.Frag} {a b c i : Nat} {xa ya za : Addr} {xs ys : List Str} {zs : List Nat} {σ : L2.St} {G : Hp} {j : Nat} {Q : List V → Hp → Prop}
    (s1 : σ[a]? = some (some (.ref xa))) (s2 : σ[b]? = some (some (.ref ya))) (s3 : σ[c]? = some (some (.ref za))) (s4 : σ[i]? = some (some (.int (j : Nat))))
    (e1 : G xa = some (.lst (xs.map V.str))) (e2 : G ya = some (.lst (ys.map V.str))) (e3 : G za = some (.lst (nats zs))) (h1 : j < xs.length) (h2 : j < zs.length) (h3 : ∀ x ∈ zs, x < ys.length)
    (q : Q [.str (xs.getD j ⟨#[]⟩), ((tgt ys zs).map V.str).getD j .non] G) :
    (tCons (tOp (rIxL K) (tVar a) (tVar i)) (tCons (tOp (rIxL K) (tVar b) (tOp (rIxL K) (tVar c) (tVar i))) tNil)) σ G Q := by
  rw [tgt_at h2] at q
  exact ⟨_, s1, _, s4, xa, xs.map V.str, j, _, rfl, rfl, .inl (.inl e1), atI_nat (gd h1), _, s2, _, s3, _, s4, za, nats zs, j, _, rfl, rfl, .inl (.inl e3), atI_nat (nats_at (List.getElem?_eq_getElem h2)),
    ya, ys.map V.str, _, _, rfl, rfl, .inl (.inl e2), atI_nat (gd (h3 _ (List.getElem_mem _))), q⟩
section
variable {P : Program} {w : World} {K : PySem.W.Frag} {mg : Str → Option Value} {base : Heap} {f fD fN fT fL fS : Addr} {fd dD dN dT dL dS : FuncData}
theorem bT (F : FnP K "_law_twins" (top 37) fT dT) : Binds K dT ["_law_source_here", "_law_many_here"] [] := F.bindsN fun _ _ _ _ _ _ us hl => match us, hl with
  | [_, _], _ => rfl
theorem bL (F : FnP K "_law_leads" (top 38) fL dL) : Binds K dL ["_law_source_here", "_law_twins_here"] [] := F.bindsN fun _ _ _ _ _ _ us hl => match us, hl with
  | [_, _], _ => rfl
theorem bS (F : FnP K "_law_sights" (top 39) fS dS) : Binds K dS ["_law_source_here", "_law_many_here"] [] := F.bindsN fun _ _ _ _ _ _ us hl => match us, hl with
  | [_, _], _ => rfl
theorem ok_desk (F : FnP K "_law_desk" (top 40) f fd) (mr : mg "range" = none) (md : mg "dict" = none) (GD : FnOk P w K mg base CX0 1 fD dD ["_law_source_here", "_law_span"] spD) (FD : FnP K "_law_draw" (top 32) fD dD) (gD : mg "_law_draw" = some (.ref fD))
    (GN : FnOk P w K mg base CX0 4 fN dN ["_law_source_here", "_law_many_here"] spNames) (FN : FnP K "_law_names" (top 36) fN dN) (gN : mg "_law_names" = some (.ref fN))
    (GT : FnOk P w K mg base CX0 2 fT dT ["_law_source_here", "_law_many_here"] spTwins) (FT : FnP K "_law_twins" (top 37) fT dT) (gT : mg "_law_twins" = some (.ref fT))
    (GL : FnOk P w K mg base CX0 3 fL dL ["_law_source_here", "_law_twins_here"] spLeads) (FL : FnP K "_law_leads" (top 38) fL dL) (gL : mg "_law_leads" = some (.ref fL))
    (GS : FnOk P w K mg base CX0 5 fS dS ["_law_source_here", "_law_many_here"] spSights) (FS : FnP K "_law_sights" (top 39) fS dS) (gS : mg "_law_sights" = some (.ref fS)) :
    FnOk P w K mg base CX0 6 f fd ["_law_source_here", "_law_most"] spDesk := by
  refine F.ok (CX := CX0) scDesk (fun vs H Q E h => ?_) (fun cdv A outer s H vs Q E hr h => ?_)
  · obtain ⟨p, n, rfl, _⟩ := h
    rfl
  · have hr1 := hr.mono (show 1 ≤ 5 by decide)
    have hr2 := hr.mono (show 2 ≤ 5 by decide)
    have hr3 := hr.mono (show 3 ≤ 5 by decide)
    have hr4 := hr.mono (show 4 ≤ 5 by decide)
    refine ⟨_, PSs.nox (pss_cons (ps_par (i := 2) (j := 3) rfl scDesk.nd rfl rfl (by decide) rfl rfl (pa_cons (by exact (pe_op op_add pe_int (by exact (pe_call GD hr1 rfl gD FD.kp (bD FD) .nil pass0 (pa_cons (pv 0) (pa_cons (pv 1) pa_nil)))))) (pa_cons pe_dnewK pa_nil)) (by rfl))
      (pss_cons (ps_asg (pe_tup (pa_cons (by exact (pe_call GN hr4 rfl gN FN.kp (bN FN) .nil pass0 (pa_cons (pv 0) (pa_cons (pv 2) pa_nil)))) (pa_cons (by exact (pe_call GT hr2 rfl gT FT.kp (bT FT) .nil pass0 (pa_cons (pv 0) (pa_cons (pv 2) pa_nil)))) pa_nil)))
        (pg_tup rfl (pgs_cons (pg_name (i := 4) scDesk.nd rfl (.inr rfl)) (pgs_cons (pg_name (i := 5) scDesk.nd rfl (.inr rfl)) pgs_nil))))
      (pss_cons (ps_for PassesOwn.never rfl (pi_list (by exact (pe_call GN hr4 rfl gN FN.kp (bN FN) .nil pass0 (pa_cons (pv 0) (pa_cons (pe_op op_add pe_int (by exact (pe_call GD hr1 rfl gD FD.kp (bD FD) .nil pass0 (pa_cons (pv 0) (pa_cons pe_int pa_nil))))) pa_nil))))) (pg_name (i := 6) scDesk.nd rfl (.inl rfl))
        (pss_cons (ps_set (i := 7) scDesk.nd rfl (.inr rfl) (by exact (pe_call GL hr3 rfl gL FL.kp (bL FL) .nil pass0 (pa_cons (pv 0) (pa_cons (pv 5) pa_nil)))))
        (pss_one (ps_dput (hu_of hr) (pv 3) (pv 6) (by exact (pe_callTy (call_dictP rfl) rfl md PyProof.Rows.boot_dict (pa_cons (by exact (pe_lc (own := [("_law_at", 9)]) (g := gName 9) (tt := tYes) (te := tTup (tCons (tOp (rIxL K) (tVar 4) (tVar 9)) (tCons (tOp (rIxL K) (tVar 4) (tOp (rIxL K) (tVar 7) (tVar 9))) tNil))) rfl scDesk.nd (pi_range1 rfl mr (pa_cons (pv 2) pa_nil))
          (blkOk_by (N := nDesk) (sc := defScope (top 40)) (by decide +kernel)) (fun _ _ _ _ _ => pg_name (i := 9) scDesk.nd rfl (Or.inl rfl)) (fun _ _ _ _ _ => pts_nil) (fun _ _ _ _ _ => by exact (pe_tup (pa_cons (by exact (pe_ix ix_list (by exact (pv 4)) (by exact (pv 9)) (fun _ _ => rfl))) (pa_cons (by exact (pe_ix ix_list (by exact (pv 4)) (by exact (pe_ix ix_list (by exact (pv 7)) (by exact (pv 9)) (fun _ _ => rfl))) (fun _ _ => rfl))) pa_nil)))))) pa_nil))) (by rfl)))))
      (pss_cons (ps_set (i := 8) scDesk.nd rfl (.inr rfl) (by exact (pe_call GS hr rfl gS FS.kp (bS FS) .nil pass0 (pa_cons (pv 0) (pa_cons (pv 2) pa_nil)))))
      (pss_one (ps_ret (pe_tup (pa_cons (pv 4) (pa_cons (pv 3) (pa_cons (by exact (pe_callTy (call_dictP rfl) rfl md PyProof.Rows.boot_dict (pa_cons (by exact (pe_lc (own := [("_law_at", 9)]) (g := gName 9) (tt := tYes) (te := tTup (tCons (tOp (rIxL K) (tVar 4) (tVar 9)) (tCons (tOp (rIxL K) (tVar 8) (tOp (rIxL K) (tVar 5) (tVar 9))) tNil))) rfl scDesk.nd (pi_range1 rfl mr (pa_cons (pv 2) pa_nil))
          (blkOk_by (N := nDesk) (sc := defScope (top 40)) (by decide +kernel)) (fun _ _ _ _ _ => pg_name (i := 9) scDesk.nd rfl (Or.inl rfl)) (fun _ _ _ _ _ => pts_nil) (fun _ _ _ _ _ => by exact (pe_tup (pa_cons (by exact (pe_ix ix_list (by exact (pv 4)) (by exact (pv 9)) (fun _ _ => rfl))) (pa_cons (by exact (pe_ix ix_list (by exact (pv 8)) (by exact (pe_ix ix_list (by exact (pv 5)) (by exact (pv 9)) (fun _ _ => rfl))) (fun _ _ => rfl))) pa_nil)))))) pa_nil))) pa_nil)))))))))), ?_⟩
    obtain ⟨p, mo, rfl, hs, n0, n1, q⟩ := h
    have sz : ∀ n : Nat, n ≤ 1000 → n ≤ sizeLine := fun n z => by
      rw [sizeLine_eq]
      omega
    refine ⟨_, rfl, _, rfl, p, mo, rfl, hs, by omega, by omega, fun k H1 hk m1 s1 fr1 => ⟨_, _, rfl, rfl, fun dd ndd => ⟨_, _, rfl, ?_⟩⟩⟩
    have ddp : dd ≠ p := s1.ne ndd
    have ddH : H dd = none := none_back m1 s1 ndd
    have m1 : Sx p H (upd H1 dd (.dK [])) := m1.trans (Sx.of (Sm.new ndd))
    have s1 := s1.new (o := .dK []) ndd
    have e1 : upd H1 dd (.dK []) dd = some (.dK []) := upd_same
    generalize (upd H1 dd (.dK [])) = G1 at m1 s1 e1 ⊢
    clear fr1 ndd
    refine ⟨_, rfl, _, rfl, p, 1 + k, rfl, s1, by omega, by omega, fun nm ws H2 m2 s2 nnm e2 wl wnd ww => ⟨_, rfl, _, rfl, p, 1 + k, rfl, s2, by omega, by omega, fun tw ts H3 m3 s3 ntw e3 tl tlt => ⟨sz _ (by show (2 : Nat) ≤ 1000; decide), fun u nu => ⟨u, _, rfl, .inl (.inl upd_same), rfl, _, _, rfl, _, _, rfl, rfl, ?_⟩⟩⟩⟩
    have nmp : nm ≠ p := s1.ne nnm
    have nmd : nm ≠ dd := fun z => by
      rw [z, e1] at nnm
      cases nnm
    have twp : tw ≠ p := s2.ne ntw
    have ed2 := m2 _ _ ddp e1
    have twd : tw ≠ dd := fun z => by
      rw [z, ed2] at ntw
      cases ntw
    have ed3 := Sm.new (o := .tup [.ref nm, .ref tw]) nu _ _ (m3 _ _ ddp ed2)
    have en3 := Sm.new (o := .tup [.ref nm, .ref tw]) nu _ _ (m3 _ _ nmp e2)
    have et3 := Sm.new (o := .tup [.ref nm, .ref tw]) nu _ _ e3
    have m3 : Sx p H (upd H3 u (.tup [.ref nm, .ref tw])) := m1.trans (m2.trans (m3.trans (Sx.of (Sm.new nu))))
    have s3 := s3.new (o := .tup [.ref nm, .ref tw]) nu
    generalize (upd H3 u (.tup [.ref nm, .ref tw])) = G3 at m3 s3 ed3 en3 et3 ⊢
    clear nu ed2 m2 m1 e1 nnm e2 ntw e3
    have tsb : ∀ x ∈ ts, x < ts.length := fun x hx => by
      obtain ⟨j, hj, rfl⟩ := List.mem_iff_getElem.mp hx
      have := tlt j _ (List.getElem?_eq_getElem hj)
      omega
    refine ⟨_, rfl, _, rfl, p, 4, rfl, s3, by decide, by decide, fun dk H4 hdk m4 s4 fr4 => ⟨_, _, rfl, rfl, p, 1 + dk, rfl, s4, by omega, by omega, fun dl ds H5 m5 s5 ndl e5 dlen dnd dw => ⟨dl, rfl, ⟨_, .inl (.inl e5)⟩, ?_⟩⟩⟩
    have dlp : dl ≠ p := s4.ne ndl
    have dld : dl ≠ dd := fun z => by
      rw [z, m4 _ _ ddp ed3] at ndl
      cases ndl
    have ed5 := m5 _ _ ddp (m4 _ _ ddp ed3)
    have en5 := m5 _ _ nmp (m4 _ _ nmp en3)
    have et5 := m5 _ _ twp (m4 _ _ twp et3)
    have m5 := m3.trans (m4.trans m5)
    clear m4 fr4 ndl
    have en : (1 + ((k : Nat) : Int)).toNat = 1 + k := by omega
    refine for_list (K := K) (a := dl) (xs := ds.map V.str) (fun i σ H' => ∃ (as : List Addr) (tb : List (List Str)) (v6 v7 : Option V), σ = [some (.ref p), some (.int mo), some (.int (1 + ((k : Nat) : Int))), some (.ref dd), some (.ref nm), some (.ref tw), v6, v7, none, none] ∧
      as.length = i ∧ tb.length = i ∧ H' dd = some (.dK (dkv (ds.take i) (as.map V.ref))) ∧ Paired (fun a vs => H' a = some (.dK (dkv ws (vs.map V.str)))) as tb ∧ (∀ a ∈ as, a ≠ p ∧ a ≠ dd) ∧ (∀ vs ∈ tb, vs.length = ws.length ∧ ∀ z ∈ vs, z ∈ ws) ∧
      H' nm = some (.lst (ws.map V.str)) ∧ H' tw = some (.lst (nats ts)) ∧ H' dl = some (.lst (ds.map V.str)) ∧ Sx p H H' ∧ Src H' p) ?_ ?_ ?_ ?_
    · exact ⟨[], [], none, none, rfl, rfl, rfl, ed5, .nil, (fun a ha => nomatch ha), (fun a ha => nomatch ha), en5, et5, e5, m5, s5⟩
    · rintro i σ H' _ ⟨as, tb, v6, v7, rfl, al, bl, ed, pr, ap, tp, enm, etw, edl, m, src⟩
      exact .inl (.inl edl)
    · rintro i y σ H' hi ⟨as, tb, v6, v7, rfl, al, bl, ed, pr, ap, tp, enm, etw, edl, m, src⟩
      have il : i < ds.length := by
        have := (List.getElem?_eq_some_iff.mp hi).1
        rwa [List.length_map] at this
      have ey : y = .str (ds[i]'il) := by
        rw [List.getElem?_map, List.getElem?_eq_getElem il] at hi
        exact (Option.some.inj hi).symm
      subst ey
      refine ⟨_, rfl, _, rfl, p, tw, ts, rfl, src, twp, etw, by omega, by omega, tsb, fun am ls H6 m6 s6 nam e6 ll lb => ?_⟩
      have amp : am ≠ p := src.ne nam
      have amd : am ≠ dd := fun z => by
        rw [z, ed] at nam
        cases nam
      have ed6 := m6 _ _ ddp ed
      have en6 := m6 _ _ nmp enm
      have et6 := m6 _ _ twp etw
      have el6 := m6 _ _ dlp edl
      have pr6 : Paired (fun a vs => H6 a = some (.dK (dkv ws (vs.map V.str)))) as tb := pair_mono pr fun a ha vs e => m6 _ _ (ap a ha).1 e
      have m6 := m.trans m6
      clear pr ed enm etw edl m src
      refine ⟨_, rfl, _, rfl, by omega, by omega, ?_⟩
      rw [en]
      refine lc_pairs (n := 1 + k) (fk := fun j => .str (ws.getD j ⟨#[]⟩)) (fv := fun j => ((tgt ws ls).map V.str).getD j .non) (by omega) (fun _ => rfl) (fun j G Q hj sg hQ => ev_pair rfl rfl rfl rfl (sg _ _ en6) (sg _ _ en6) (sg _ _ e6) (by omega) (by omega) (fun x hx => by have := lb x hx; omega) hQ) fun D ps H7 sg nD e7 pl pt => ?_
      refine ⟨D, ps, dkv ws ((tgt ws ls).map V.str), rfl, .inl (.inl e7), pair_dkv (by omega) (by rw [List.length_map, tgt_len]; omega) pt, fun a na => ?_⟩
      rw [dkv_merge (by rw [List.length_map, tgt_len]; omega) wnd]
      have ap7 : a ≠ p := (s6.sm sg).ne na
      have ad7 : a ≠ dd := Ne.symm (ne_of_none (sg _ _ ed6) na)
      have s7 := (Sm.new (o := .dK (dkv ws ((tgt ws ls).map V.str))) na)
      have keep : ∀ b o, H6 b = some o → b ≠ dd → (upd (upd H7 a (.dK (dkv ws ((tgt ws ls).map V.str)))) dd (.dK (dkv (ds.take (i + 1)) ((as ++ [a]).map V.ref)))) b = some o := fun b o e nb => by
        rw [upd_ne nb]
        exact s7 _ _ (sg _ _ e)
      have tk : ds.take (i + 1) = ds.take i ++ [ds[i]'il] := by
        rw [List.take_add_one, List.getElem?_eq_getElem il]
        rfl
      have il2 : (ds.take i).length = i := by
        rw [List.length_take]
        omega
      have pk : putK (dkv (ds.take i) (as.map V.ref)) (.inr (ds[i]'il)) (.ref a) = dkv (ds.take (i + 1)) ((as ++ [a]).map V.ref) := by
        rw [tk]
        exact put_dkv (by omega) (by rw [← tk]; exact dnd.sublist (List.take_sublist _ _))
      refine ⟨_, rfl, _, rfl, dd, _, rfl, DPut.k (k := .inr (ds[i]'il)) (s7 _ _ (sg _ _ ed6)) (by rw [dkv_len (by rw [List.length_map]; omega), sizeLine_eq]; omega), as ++ [a], tb ++ [tgt ws ls], _, _, rfl, by rw [List.length_append, al]; rfl, by rw [List.length_append, bl]; rfl, ?_, ?_, ?_, ?_, ?_, ?_, ?_, ?_, ?_⟩
      · rw [upd_same, pk]
      · rw [pk]
        refine pair_more (pair_mono pr6 fun b hb vs e => keep b _ e (ap b hb).2) ?_
        rw [upd_ne ad7, upd_same]
      · intro b hb
        rcases List.mem_append.mp hb with z | z
        · exact ap b z
        · have z2 : b = a := by simpa using z
          rw [z2]
          exact ⟨ap7, ad7⟩
      · intro vs hv
        rcases List.mem_append.mp hv with z | z
        · exact tp vs z
        · have z2 : vs = tgt ws ls := by simpa using z
          rw [z2]
          exact ⟨by rw [tgt_len]; omega, tgt_in fun x hx => by have := lb x hx; omega⟩
      · rw [pk]
        exact keep _ _ en6 nmd
      · rw [pk]
        exact keep _ _ et6 twd
      · rw [pk]
        exact keep _ _ el6 dld
      · rw [pk]
        intro b o nb eb
        exact keep _ _ (m6 _ _ nb eb) fun z => by
          rw [z, ddH] at eb
          cases eb
      · rw [pk]
        obtain ⟨own, mix, e, r⟩ := s6
        exact ⟨own, mix, keep _ _ e (Ne.symm ddp), r⟩
    · rintro σ H' ⟨as, tb, v6, v7, rfl, al, bl, ed, pr, ap, tp, enm, etw, edl, m, src⟩
      rw [List.length_map] at al bl ed
      rw [List.take_length] at ed
      refine ⟨_, rfl, _, rfl, p, 1 + k, rfl, src, by omega, by omega, fun lk ls H8 m8 s8 nlk e8 ll lw => ?_⟩
      have lkp : lk ≠ p := src.ne nlk
      have ed8 := m8 _ _ ddp ed
      have en8 := m8 _ _ nmp enm
      have et8 := m8 _ _ twp etw
      have pr8 : Paired (fun a vs => H8 a = some (.dK (dkv ws (vs.map V.str)))) as tb := pair_mono pr fun a ha vs e => m8 _ _ (ap a ha).1 e
      have m8 := m.trans m8
      refine ⟨_, rfl, _, rfl, _, rfl, _, rfl, by omega, by omega, ?_⟩
      rw [en]
      refine lc_pairs (n := 1 + k) (fk := fun j => .str (ws.getD j ⟨#[]⟩)) (fv := fun j => ((tgt ls ts).map V.str).getD j .non) (by omega) (fun _ => rfl) (fun j G Q hj sg hQ => ev_pair rfl rfl rfl rfl (sg _ _ en8) (sg _ _ e8) (sg _ _ et8) (by omega) (by omega) (fun x hx => by have := tsb x hx; omega) hQ) fun D ps H9 sg nD e9 pl pt => ?_
      refine ⟨D, ps, dkv ws ((tgt ls ts).map V.str), rfl, .inl (.inl e9), pair_dkv (by omega) (by rw [List.length_map, tgt_len]; omega) pt, fun a na => ?_⟩
      rw [dkv_merge (by rw [List.length_map, tgt_len]; omega) wnd]
      refine ⟨sz _ (by show (3 : Nat) ≤ 1000; decide), fun r nr => ?_⟩
      have s9 := s8.sm sg
      have sm : Sm H8 (upd (upd H9 a (.dK (dkv ws ((tgt ls ts).map V.str)))) r (.tup [.ref nm, .ref dd, .ref a])) := fun b o e => Sm.new nr _ _ (Sm.new na _ _ (sg _ _ e))
      have ap9 : a ≠ p := s9.ne na
      refine q r nm dd a ws ds as tb (tgt ls ts) _ (m8.trans (Sx.of sm)) (s8.sm sm) (none_back (m8.trans (Sx.of (fun b o e => Sm.new na _ _ (sg _ _ e)))) (s9.new na) nr) nmp ddp ap9 (fun a ha => (ap a ha).1) ⟨upd_same, sm _ _ en8, sm _ _ ed8, Sm.new nr _ _ upd_same, pair_mono pr8 fun a _ vs e => sm _ _ e⟩ ?_
      exact ⟨by omega, by omega, wnd, ww, by omega, by omega, dnd, dw, by omega, tp, by rw [tgt_len]; omega, fun z hz => lw z (tgt_in (fun x hx => by have := tsb x hx; omega) z hz)⟩
end
end Dk
set_option Elab.async false
set_option linter.all false
set_option maxRecDepth 100000
set_option maxHeartbeats 4000000
namespace Dk
open PySem PySem.Spec PyProof.Rows L2 Er
/-! ### _law_turned -/
def spTurned : Sp := fun vs H Q _ => ∃ (d : Addr) (kvs : List (Key × V)), vs = [.ref d] ∧ H d = some (.dK kvs) ∧ (kvs.map (·.1)).Nodup ∧ ∀ q H', Sm H H' → H q = none → H' q = some (.dK kvs.reverse) → Q (.ref q) H'
abbrev nTurned : List Str := ["_law_some"]
theorem scTurned : FnScope nTurned ["_law_some"] (defScope (top 41)) := ⟨rfl, rfl, rfl, by decide +kernel, rfl, by decide +kernel, by decide +kernel⟩
theorem pair_rev {α β : Type} {F : α → β → Prop} {ps : List α} {qs : List β} (h : Paired F ps qs) : Paired F ps.reverse qs.reverse := by
  induction h with
  | nil => exact .nil
  | cons a _ ih =>
    rw [List.reverse_cons, List.reverse_cons]
    exact pair_more ih a
section
variable {P : Program} {w : World} {K : PySem.W.Frag} {mg : Str → Option Value} {base : Heap} {f : Addr} {fd : FuncData}
theorem ok_turned (F : FnP K "_law_turned" (top 41) f fd) (mt : mg "list" = none) (md : mg "dict" = none) :
    FnOk P w K mg base CX0 1 f fd ["_law_some"] spTurned := by
  refine F.ok (CX := CX0) scTurned (fun vs H Q E h => ?_) (fun cdv A outer s H vs Q E hr h => ?_)
  · obtain ⟨p, n, rfl, _⟩ := h
    rfl
  · refine ⟨_, PSs.nox (pss_one (ps_ret (by exact (pe_callTy (call_dictP rfl) rfl md PyProof.Rows.boot_dict (pa_cons (pe_revL (LiI.pe_listItems rfl (pv 0) rfl mt PyProof.Rows.boot_list)) pa_nil))))), ?_⟩
    obtain ⟨d, kvs, rfl, e, nd, q⟩ := h
    refine ⟨_, rfl, d, kvs, rfl, e, fun H1 p ts sm np nts pts e1 pr => ⟨p, ts.map V.ref, rfl, .inl (.inl e1), fun r nr => ⟨r, ts.reverse, kvs.reverse, rfl, .inl (.inl (by rw [upd_same, List.map_reverse])), ?_, fun u nu => ?_⟩⟩⟩
    · exact pair_mono (pair_rev pr) fun t _ kv et => .inl (.inl (Sm.new nr _ _ et))
    · have em : mergeK [] kvs.reverse = kvs.reverse := by
        refine merge_new _ [] ?_
        rw [List.nil_append, List.map_reverse]
        exact List.pairwise_reverse.mpr (List.Pairwise.imp (fun h => Ne.symm h) nd)
      rw [em]
      refine q u _ (fun b o eb => Sm.new nu _ _ (Sm.new nr _ _ (sm _ _ eb))) ?_ upd_same
      cases z : H u with
      | none => rfl
      | some o =>
        rw [Sm.new nr _ _ (sm _ _ z)] at nu
        cases nu
end
end Dk
set_option Elab.async false
set_option linter.all false
set_option maxRecDepth 100000
set_option maxHeartbeats 3200000
/-! len(set(xs)), xs a list or tuple of texts -/
namespace DkSet
open PySem PySem.Spec PyProof.Rows
theorem rev_ind {α : Type} {p : List α → Prop} (h0 : p []) (h1 : ∀ l x, p l → p (l ++ [x])) : ∀ l, p l := fun l => by
  have key : ∀ m : List α, p m.reverse := fun m => by
    induction m with
    | nil => exact h0
    | cons x m ih =>
      rw [List.reverse_cons]
      exact h1 _ _ ih
  rw [← List.reverse_reverse l]
  exact key _
/-- the different ones, as they come first -/
def metOf (xs : List Str) : List Str := xs.foldl (fun acc x => if x ∈ acc then acc else acc ++ [x]) []
theorem met_more (xs : List Str) (x : Str) : metOf (xs ++ [x]) = if x ∈ metOf xs then metOf xs else metOf xs ++ [x] := by
  unfold metOf
  rw [List.foldl_append]
  rfl
theorem met_nodup : ∀ xs : List Str, (metOf xs).Nodup := by
  refine rev_ind List.nodup_nil fun l x ih => ?_
  rw [met_more]
  split
  · exact ih
  · rename_i h
    refine List.nodup_append.mpr ⟨ih, by simp, fun a ha b hb e => h ?_⟩
    have e2 : b = x := by simpa using hb
    rw [← e2, ← e]
    exact ha
theorem met_le : ∀ xs : List Str, (metOf xs).length ≤ xs.length := by
  refine rev_ind (Nat.le_refl _) fun l x ih => ?_
  rw [met_more, List.length_append]
  split
  · exact Nat.le_succ_of_le ih
  · rw [List.length_append]
    exact Nat.succ_le_succ ih
theorem met_mem (xs : List Str) (y : Str) : y ∈ metOf xs ↔ y ∈ xs := by
  revert xs
  refine rev_ind (by unfold metOf; simp) fun l x ih => ?_
  rw [met_more, List.mem_append, ← ih]
  split
  · rename_i h
    constructor
    · exact .inl
    · rintro (z | z)
      · exact z
      · have e : y = x := by simpa using z
        rw [e]
        exact h
  · rw [List.mem_append]
/-- as many as there are: all different -/
theorem met_len : ∀ xs : List Str, (metOf xs).length = xs.length ↔ xs.Nodup := by
  refine rev_ind (by unfold metOf; simp) fun l x ih => ?_
  rw [met_more, List.length_append]
  have le := met_le l
  split
  · rename_i h
    constructor
    · intro z
      simp at z
      omega
    · intro z
      exact absurd rfl ((List.nodup_append.mp z).2.2 x ((met_mem l x).mp h) x List.mem_cons_self)
  · rename_i h
    rw [List.length_append]
    constructor
    · intro z
      have z2 : (metOf l).length = l.length := by simpa using z
      refine List.nodup_append.mpr ⟨ih.mp z2, by simp, fun a ha b hb e => h ?_⟩
      have e2 : b = x := by simpa using hb
      rw [← e2, ← e]
      exact (met_mem l a).mpr ha
    · intro z
      rw [ih.mpr (List.nodup_append.mp z).1]
section
variable {prog : Program} {w : World} {A : Around} {R : Result → Shared → Prop} {I : Addr} {fp wr : List Addr} {G : Array GenState → Array GenState → Prop} {n : Nat} {P : Nat → Value → Prop} {St : Nat → Shared → Prop}
abbrev Has (prog : Program) (w : World) (h : Heap) (S : Addr) (ys : List Str) : Prop := h.SetOf (PySem.strKind prog w) S (fun y => decide (y ∈ metOf ys)) (metOf ys).length
theorem Has.at {h h2 : Heap} {S : Addr} {ys : List Str} (x : Has prog w h S ys) (k : ∀ o, h.get? S = some o → h2.get? S = some o) : Has prog w h2 S ys := by
  obtain ⟨o, es, ep, t, ho, r⟩ := x
  exact ⟨o, es, ep, t, k o ho, r⟩
theorem putting (W : WalksS prog w A.in1 I fp wr G n P St) (S : Addr) (out : S ∉ fp) (xs : List Str) (len : xs.length = n) (few : n + 1 < scanBound) (val : ∀ i v, P i v → ∃ t, v = .str (xs.getD i Str.empty) t) :
    ∀ (left i : Nat) (s : Shared), i + left = n → St i s → Has prog w s.heap S (xs.take i) →
      (∀ s2, Moved (S :: wr) G s s2 → Has prog w s2.heap S xs → R (.ok (.ret .none)) s2) →
      codeAny (model prog w) A (.builtin "set.update.loop" ⟨[.ref S, .ref I], []⟩) R s := by
  have out2 : S ∉ wr := fun h => out (W.sub _ h)
  have more : ∀ b ∈ wr, b ∈ S :: wr := fun b => List.mem_cons_of_mem _
  intro left
  induction left with
  | zero =>
    intro i s e st hs fin
    have ei : i = n := e
    rw [ei, ← len, List.take_length] at hs
    rw [ei] at st
    refine codeAny_builtin PyProof.Rows.F.entry_set_update_loop ?_
    rw [Around.under_plainId PyProof.Rows.F.plain_set_update_loop _]
    show wpAny _ A.in1 (pyNext (.ref I) >>= _) _ _ s
    exact wpAny_bind (W.done s _ _ st fun s2 m => wpAny_pure (fin s2 (m.mono more) (hs.at fun o => m.heap S o out2)))
  | succ left ih =>
    intro i s e st hs fin
    have il : i < n := by omega
    refine codeAny_builtin PyProof.Rows.F.entry_set_update_loop ?_
    rw [Around.under_plainId PyProof.Rows.F.plain_set_update_loop _]
    show wpAny _ A.in1 (pyNext (.ref I) >>= _) _ _ s
    refine wpAny_bind (W.item i s _ _ il st fun v s2 hv st2 m => ?_)
    obtain ⟨t, rfl⟩ := val i v hv
    have hs2 : Has prog w s2.heap S (xs.take i) := hs.at fun o => m.heap S o out2
    show wpAny _ A.in1 (holding [Value.str (xs.getD i Str.empty) t] (setAdd S (.str (xs.getD i Str.empty) t)) >>= _) _ _ s2
    refine wpAny_bind (wpAny_holding ?_)
    unfold setAdd
    refine wpAny_holding (wpAny_bind ((PySem.strKind prog w).pyHash (k := xs.getD i Str.empty) (strKind_is _ _ _ _) ?_))
    have few2 : (metOf (xs.take i)).length + 1 < scanBound := by
      have a := met_le (xs.take i)
      rw [List.length_take] at a
      omega
    refine wpAny_setAddHashed_of (knd := PySem.strKind prog w) (s := { s2 with toks := s2.toks + 1 }) (strKind_is _ _ _ _) rfl hs2 few2 fun h2 same got => ?_
    have tk : xs.take (i + 1) = xs.take i ++ [xs.getD i Str.empty] := by
      rw [List.take_add_one, List.getD_eq_getElem?_getD, List.getElem?_eq_getElem (by omega)]
      rfl
    have got2 : Has prog w h2 S (xs.take (i + 1)) := by
      refine SetOf_congr got (fun y => ?_) ?_
      · rw [tk, met_more]
        by_cases c : xs.getD i Str.empty ∈ metOf (xs.take i)
        · rw [if_pos c]
          by_cases d : y = xs.getD i Str.empty
          · rw [d, decide_eq_true c]
            rfl
          · rw [decide_eq_false d, Bool.or_false]
        · rw [if_neg c, Bool.eq_iff_iff]
          simp
      · rw [tk, met_more]
        by_cases c : xs.getD i Str.empty ∈ metOf (xs.take i)
        · rw [if_pos c, if_pos (decide_eq_true c)]
        · rw [if_neg c, if_neg (by simpa using c), List.length_append]
          rfl
    refine wpAny_pure ⟨plainId_quiet PyProof.Rows.F.plain_set_update_loop _, ih (i + 1) _ (by omega) (W.frame _ s2 _ _ st2 (Nat.le_succ _) fun b hb o eb => ?_) got2 fun s3 m3 hs3 => ?_⟩
    · rw [same.2 b fun z => out (z ▸ hb)]
      exact eb
    · refine fin s3 (Moved.trans W.gtrans ((m.mono more).then_heap (Nat.le_succ _) fun b o hb eb => ?_) m3) hs3
      rw [same.2 b fun z => hb (z ▸ List.mem_cons_self)]
      exact eb
end
section
variable {prog : Program} {w : World} {A : Around} {E : Value → Shared → Prop} {s : Shared}
abbrev bare0 (led : Bool) : Obj := { cls := .type "set", dict := none, data := .set #[] 0 (.fresh 0 0 led) }
theorem txt_at : ∀ {us : List Value} {xs : List Str}, StrsAre us xs → ∀ (i : Nat) (v : Value), us[i]? = some v → ∃ t, v = .str (xs.getD i Str.empty) t
  | _, _, .nil, i, v, h => by cases h
  | _, _, .cons n t r, 0, v, h => ⟨t, (Option.some.inj h).symm⟩
  | _, _, .cons n t r, i + 1, v, h => txt_at r i v h
/-- a walk over what stands at l -/
abbrev Wl (T : String) (l : Addr) (items : Array Value) (h : Heap) : Prop := if T = "list" then h.IsList l items else h.IsTuple l items
theorem iter_of {T : String} {l : Addr} {items : Array Value} {Q : Value → Shared → Prop} (hh : A.handled = none) (hT : T = "list" ∨ T = "tuple") (hw : Wl T l items s.heap) (ll : l < s.heap.objs.size)
    (h : ∀ (J : Obj) (St : Nat → Shared → Prop), J.isFreed = false → WalksS prog w A.in1 s.heap.objs.size [s.heap.objs.size, l] [s.heap.objs.size] (fun a b => b = a) items.size (fun i v => items[i]? = some v) St →
      St 0 { s with heap := s.heap.push J } → Q (.ref s.heap.objs.size) { s with heap := s.heap.push J }) : wpAny (model prog w) A (pyIter (.ref l)) Q E s := by
  have ne : l ≠ s.heap.objs.size := Nat.ne_of_lt ll
  have h2 : A.in1.handled = none := by simp [hh]
  rcases hT with rfl | rfl
  · have hw : s.heap.IsList l items := hw
    exact wpAny_pyIter_list hw (h _ _ rfl (Walks.list h2 _ l ne items).toS ⟨⟨_, Heap.get?_push_size _ rfl, rfl, rfl⟩, hw.push _⟩)
  · have hw : s.heap.IsTuple l items := hw
    exact wpAny_pyIter_tuple hw (h _ _ rfl (Walks.tuple h2 _ l ne items).toS ⟨⟨_, Heap.get?_push_size _ rfl, rfl, rfl⟩, hw.push _⟩)
theorem call_txts {T : String} {l : Addr} {items : Array Value} {d : Option Addr} {nl : Nat} {sl : Array (Option Value)} {xs : List Str} {Q : Value → Shared → Prop} (hh : A.handled = none) (hT : T = "list" ∨ T = "tuple")
    (ho : s.heap.get? l = some { cls := .type T, dict := d, data := .seq items nl, slots := sl }) (hi : StrsAre items.toList xs) (few : xs.length + 1 < scanBound)
    (h : ∀ (h2 : Heap) (tk : Nat), Has prog w h2 s.heap.objs.size xs → (∀ b o, s.heap.get? b = some o → h2.get? b = some o) → Q (.ref s.heap.objs.size) { s with heap := h2, toks := tk }) :
    wpAny (model prog w) A (call (.type "set") [.ref l]) Q E s := by
  obtain ⟨c, tl, hmro⟩ := PySem.F.called_set.mro
  have hmade := PySem.F.called_set.made
  have hsub := PySem.F.called_set.sub
  refine wpAny_call (codeAny_of_tree ?_)
  show wpAny _ _ (callAny (.type "set") _) _ _ _
  refine wpAny_pure ⟨Code.quiet_builtin _ (by decide +kernel), codeAny_builtin PySem.F.entry_type_call ?_⟩
  rw [Around.under_plain (weight_type_call_type "set" [.ref l] []) rfl]
  have h1 := PySem.F.called_set.notType
  have h2 := PySem.F.called_set.canCreate
  have hct := PySem.F.typeCall_set_1 (.ref l)
  repeat (any_goals (first | assumption | wp_step))
  refine codeAny_mono (code_set_new_1 (.ref l) (E := E) (Q₁ := fun x s1 => ∃ led : Bool, x = .ref s.heap.objs.size ∧ s1 = { s with heap := s.heap.push (bare0 led) }) fun led => ⟨led, rfl, rfl⟩) fun r s1 hr => ?_
  cases r with
  | error e => exact hr
  | ok fl =>
    cases fl with
    | ret obj =>
      obtain ⟨led, rfl, rfl⟩ := hr
      have hS : (s.heap.push (bare0 led)).get? s.heap.objs.size = some (bare0 led) := Heap.get?_push_size _ rfl
      have hTy : Shared.TypeIs { s with heap := s.heap.push (bare0 led) } (.ref s.heap.objs.size) "set" := ⟨_, hS, rfl⟩
      have hli := PySem.F.called_set.init.lookup
      have hbi := PySem.F.called_set.init.bind (.ref s.heap.objs.size)
      repeat (any_goals (first | assumption | wp_step))
      refine codeAny_mono (codeAny_call_builtin (R := wants (fun r s2 => r = .none ∧ ∃ h2 tk, s2 = { s with heap := h2, toks := tk } ∧ Has prog w h2 s.heap.objs.size xs ∧ (∀ b o, s.heap.get? b = some o → h2.get? b = some o)) E) PySem.F.called_set.init.plain PySem.F.entry_set_init (check_set_init_1 hTy ?_)) fun r2 s2 hr2 => ?_
      · have ho2 : (s.heap.push (bare0 led)).get? l = some { cls := .type T, dict := d, data := .seq items nl, slots := sl } := Heap.get?_push_of_some _ ho
        have f1 : isSubtype (.type T) (.type "set") = pure false := by
          rcases hT with rfl | rfl
          · exact PySem.F.sub_list_set
          · exact PySem.F.sub_tuple_set
        have f2 : isSubtype (.type T) (.type "frozenset") = pure false := by
          rcases hT with rfl | rfl
          · exact PySem.F.sub_list_frozenset
          · exact PySem.F.sub_tuple_frozenset
        have f3 : (Value.type T == Value.type "dict") = false := by
          rcases hT with rfl | rfl <;> decide
        have hw : Wl T l items (s.heap.push (bare0 led)) := by
          rcases hT with rfl | rfl
          · exact ⟨_, ho2, rfl, nl, rfl⟩
          · exact ⟨_, ho2, rfl, nl, rfl⟩
        have ll : l < s.heap.objs.size := Heap.lt_size ho
        have ll2 : l < (s.heap.push (bare0 led)).objs.size := by
          rw [Heap.size_push]
          exact Nat.lt_succ_of_lt ll
        unfold Builtin.«set.__init__» noKeywords Builtin.Frozenset.updateFrom
        generalize hPI : pyIter = PI
        wp_walk
        subst hPI
        have hh3 : A.in1.in1.handled = none := by simp [hh]
        refine iter_of (T := T) (items := items) (by simp [hh]) hT hw ll2 fun J St fr W st0 => ?_
        refine wpAny_bind (wpAny_runValue ?_)
        have len : xs.length = items.size := by rw [← StrsAre.len_eq hi, Array.length_toList]
        refine putting W s.heap.objs.size ?_ xs len (by omega) (fun i v hv => txt_at hi i v (by rw [Array.getElem?_toList]; exact hv)) items.size 0 _ (Nat.zero_add _) st0 ?_ ?_
        · rw [Heap.size_push]
          simp only [List.mem_cons, List.not_mem_nil, or_false, not_or]
          exact ⟨Nat.ne_of_lt (Nat.lt_succ_self _), Nat.ne_of_gt ll⟩
        · exact SetOf_congr ((setObjOf_fresh (knd := PySem.strKind prog w) led).setOf (Heap.get?_push_of_some _ hS) (by unfold scanBound; omega)) (fun _ => rfl) rfl
        · rintro ⟨h3, g3, d3, tk3, os3⟩ m got
          have eg : g3 = s.gens := m.gens
          have ed : d3 = s.drawn := m.drawn
          have eo : os3 = s.os := m.os
          subst eg ed eo
          refine wpAny_pure ?_
          show wpAny _ _ (ret Value.none) _ _ _
          refine wpAny_pure ⟨rfl, h3, tk3, rfl, got, fun b o e => ?_⟩
          have b1 : b < s.heap.objs.size := Heap.lt_size e
          refine m.heap b o ?_ (Heap.get?_push_of_some _ (Heap.get?_push_of_some _ e))
          rw [Heap.size_push]
          simp only [List.mem_cons, List.not_mem_nil, or_false, not_or]
          exact ⟨Nat.ne_of_lt b1, Nat.ne_of_lt (Nat.lt_succ_of_lt b1)⟩
      · cases r2 with
        | error e => exact hr2
        | ok fl2 =>
          cases fl2 with
          | ret r =>
            obtain ⟨rfl, h3, tk, rfl, got, keep⟩ := hr2
            repeat (any_goals (first | assumption | wp_step))
            exact h _ _ got keep
          | _ => exact hr2.elim
    | _ => exact hr.elim
end
section
variable {X : Cx}
open L2
/-- len(set(xs)) of texts: as many as there are exactly if no two are the same -/
def tLenTxt (K : PySem.W.Frag) (ta : TE) : TE := fun σ H Q => ta σ H fun x H1 => ∃ (l : Addr) (xs : List Str), x = V.ref l ∧ (SqL K H1 l (xs.map V.str) ∨ SqT K H1 l (xs.map V.str)) ∧ xs.length ≤ 1000 ∧ ∀ n : Nat, (n = xs.length ↔ xs.Nodup) → n ≤ xs.length → Q (.int n) H1
theorem strs_of : ∀ {xs : List Str} {us : List Value}, Vals (xs.map V.str) us → StrsAre us xs
  | [], _, r => by
    cases r
    exact .nil
  | x :: xs, _, r => by
    cases r with
    | cons a t =>
      obtain ⟨tk, rfl⟩ := a
      exact .cons x tk (strs_of t)
theorem pe_lenTxt {a : Expr} {ta : TE} {p p2 q pos : Pos} (hc : X.calm = true) (hg : Gl X "len") (hm : X.mg "len" = none) (hg2 : Gl X "set") (hm2 : X.mg "set" = none) (ha : PE X a ta)
    (na : starEach [a] X.env = (false, eval a X.env) :: starEach [] X.env := by rfl) : PE X (.Call (.Name "len" p) [.Call (.Name "set" p2) [a] [] q] [] pos) (tLenTxt X.K ta) := by
  refine ⟨fun pins s σ H Q I h => Call_ (ld_blt I hg hm PySem.boot_len ?_)⟩
  refine PyProof.Rows.callWith_builtin1 (PyProof.Rows.args_cons ?_ rfl) rfl rfl
  refine Call_ (ld_blt I hg2 hm2 PyProof.Rows.boot_set ?_)
  refine PyProof.Rows.callWith_type1 (PyProof.Rows.args_cons (thn (ha.run pins s σ H _ I h) fun v s1 ⟨x, H1, I1, r1, l, xs, ex, hq, few, q1⟩ => PyProof.Rows.args_nil ?_) na) na rfl
  subst ex
  cases r1
  have there : ∃ (T : String) (its : List Value) (d : Option Addr) (nl : Nat) (sl : Array (Option Value)), (T = "list" ∨ T = "tuple") ∧ Vals (xs.map V.str) its ∧ s1.heap.get? l = some { cls := .type T, dict := d, data := .seq its.toArray nl, slots := sl } := by
    rcases hq with hq | hq
    · obtain ⟨its, r, pl, _⟩ := I1.list hq
      obtain ⟨⟨oc, od, ox, os⟩, ho, hc, nl, hd⟩ := pl.isList
      cases hc
      cases hd
      exact ⟨"list", its, od, nl, os, .inl rfl, r, ho⟩
    · obtain ⟨its, r, pl, _⟩ := I1.tuple hq
      obtain ⟨⟨oc, od, ox, os⟩, ho, hc, nl, hd⟩ := pl
      cases hc
      cases hd
      exact ⟨"tuple", its, od, nl, os, .inr rfl, r, ho⟩
  obtain ⟨T, its, d, nl, sl, hT, r, ho⟩ := there
  refine call_txts (xs := xs) (by simpa using I1.ok.hd hc) hT ho (strs_of r) (by unfold scanBound; omega) fun h2 tk got keep => ?_
  refine PyProof.Rows.args_nil ?_
  obtain ⟨o, es, ep, t, ho, hex, hd, _, _, _, hf, hn⟩ := got
  have I2 : L2.Inv X pins σ H1 { s1 with heap := h2, toks := tk } := I1.kept fun b o e => keep b o e
  have le := met_le xs
  refine call_len_set ho hex hd hf (by rw [hn] <;> omega) ⟨.int ((metOf xs).length : Nat), H1, I2.tok _, ⟨_, by rw [hn]⟩, q1 _ (met_len xs) le⟩
end
end DkSet
set_option Elab.async false
set_option linter.all false
set_option maxRecDepth 100000
set_option maxHeartbeats 4000000
namespace Dk
open PySem PySem.Spec PyProof.Rows L2 Er
/-! ### comprehensions of one name, walks over lists and tuples alike -/
theorem Sm.trans {H H1 H2 : Hp} (a : Sm H H1) (b : Sm H1 H2) : Sm H H2 := fun c o e => b c o (a c o e)
theorem Sm.refl (H : Hp) : Sm H H := fun _ _ e => e
/-- [e for x in ..]: one value for each turn -/
theorem lc_map {J : It} {n : Nat} {G : Hp → Prop} {Y : Nat → Hp → V → Hp → Prop} (w : Walk J n G Y) {te : TE} {fv : Nat → V} {σ : L2.St} {i : Nat} {H1 : Hp} {Q : Addr → Hp → Prop} (hn : n ≤ 1000) (g1 : ∀ H2, Sm H1 H2 → G H2)
    (w1 : ∀ v, wipe ((wipe σ [i]).set i (some v)) [i] = wipe σ [i]) (ys : ∀ j H2 x H3, j < n → Y j H2 x H3 → Sm H2 H3)
    (ev : ∀ (j : Nat) (x : V) (H2 H3 : Hp) (Q : VK), j < n → Sm H1 H2 → Y j H2 x H3 → Sm H1 H3 → (∀ H4, Sm H3 H4 → Q (fv j) H4) → te ((wipe σ [i]).set i (some x)) H3 Q)
    (q : ∀ (D : Addr) (H2 : Hp), Sm H1 H2 → H1 D = none → H2 D = some (.lst ((List.range n).map fv)) → Q D H2) :
    ∀ D, H1 D = none → ∃ W : Nat → Nat → Hp → Prop, (∃ m, W 0 m (upd H1 D (.lst []))) ∧ ∀ i₁ m H, W i₁ m H →
      (J.stop i₁ H ∧ Q D H) ∨ (J.go i₁ H ∧ ∃ Nx : Hp → Prop, (∀ H', Nx H' → ∃ m', m' < m ∧ W (i₁ + 1) m' H') ∧ ∀ x H', J.yld i₁ H x H' → gName i x (wipe σ [i]) H' fun σ2 H2 => wipe σ2 [i] = wipe σ [i] ∧ tYes σ2 H2 fun b H3 =>
        if b = true then te σ2 H3 fun y H4 => ∃ acc, H4 D = some (.lst acc) ∧ acc.length < sizeLine ∧ Nx (upd H4 D (.lst (acc ++ [y]))) else Nx H3) := by
  intro D hD
  refine lc_it w (g := gName i) (tt := tYes) (te := te) (vs := [i]) (Qd := fun H => Q D H) (fun j H2 => H2 D = some (.lst ((List.range j).map fv)) ∧ Sm H1 H2) ⟨upd_same, Sm.new hD⟩ (fun j H2 _ h => g1 H2 h.2) ?_ ?_
  · rintro j x H2 H3 hj ⟨ed, sm⟩ hy
    refine ⟨w1 x, ?_⟩
    unfold tYes
    dsimp only
    rw [if_pos rfl]
    have s23 := ys j H2 x H3 hj hy
    refine ev j x H2 H3 _ hj sm hy (Sm.trans sm s23) fun H4 s34 => ⟨_, s34 _ _ (s23 _ _ ed), ?_, ?_, ?_⟩
    · rw [List.length_map, List.length_range, sizeLine_eq]
      omega
    · rw [upd_same, List.range_succ, List.map_append]
      rfl
    · intro b o e
      rw [upd_ne (ne_of_none e hD)]
      exact s34 _ _ (s23 _ _ (sm _ _ e))
  · rintro H2 ⟨ed, sm⟩
    exact q D H2 sm hD ed
section
variable {X : Cx} {tg : Expr}
/-- a walk over a list or a tuple -/
def iSeq (K : PySem.W.Frag) (tl : TE) : TI := fun σ H R => tl σ H fun x H1 => ∃ (a : Addr) (xs : List V), x = .ref a ∧ ((SqL K H1 a xs ∧ R (Itl K a) H1) ∨ (SqT K H1 a xs ∧ R (Itt K a) H1))
theorem pi_seq {l : Expr} {tl : TE} (hl : PE X l tl) : PI X tg l (iSeq X.K tl) := by
  refine ⟨fun pins s σ H R I h => thn (hl.run pins s σ H _ I h) fun v s1 ⟨x, H1, I1, r1, a, xs, e, q1⟩ => ?_⟩
  subst e
  cases r1
  have fr : ∀ b ∈ [s1.heap.objs.size], b = s1.heap.objs.size := fun b hb => by simpa using hb
  rcases q1 with ⟨hq, q⟩ | ⟨hq, q⟩
  · obtain ⟨its, rv, p, hz⟩ := I1.list hq
    refine wpAny_pyIter_list p.isList ⟨s1.heap.objs.size, [s1.heap.objs.size], _, _, H1, rfl, I1.kept (t' := s1.toks) fun b o e => Heap.get?_push_of_some _ e, turn_list a _, ⟨_, Heap.get?_push_size _ rfl, rfl, rfl⟩, fun b hb => ?_, q⟩
    rw [fr b hb]
    exact I1.fpOk (Nat.le_refl _) (I1.hok.fresh (Nat.le_refl _))
  · obtain ⟨its, rv, p, hz⟩ := I1.tuple hq
    refine wpAny_pyIter_tuple (show s1.heap.IsTuple a its.toArray from p) ⟨s1.heap.objs.size, [s1.heap.objs.size], _, _, H1, rfl, I1.kept (t' := s1.toks) fun b o e => Heap.get?_push_of_some _ e, turn_tuple a _, ⟨_, Heap.get?_push_size _ rfl, rfl, rfl⟩, fun b hb => ?_, q⟩
    rw [fr b hb]
    exact I1.fpOk (Nat.le_refl _) (I1.hok.fresh (Nat.le_refl _))
end
/-! ### is_name -/
/-- a value that is no text, of a type that is known -/
def NoStr (K : PySem.W.Frag) (H : Hp) (x : V) : Prop := ∃ t, TyX K H x t ∧ PySem.W.kitOne K t (.type "str") = some false
theorem NoStr.non {K : PySem.W.Frag} {H : Hp} : NoStr K H .non := ⟨_, .base .non, kit_ty (by decide +kernel)⟩
theorem NoStr.int {K : PySem.W.Frag} {H : Hp} {i : Int} : NoStr K H (.int i) := ⟨_, .base (.int i), kit_ty (by decide +kernel)⟩
theorem NoStr.bl {K : PySem.W.Frag} {H : Hp} {b : Bool} : NoStr K H (.bl b) := ⟨_, .base (.bl b), kit_ty (by decide +kernel)⟩
theorem NoStr.lst {K : PySem.W.Frag} {H : Hp} {a : Addr} {xs : List V} (e : H a = some (.lst xs)) : NoStr K H (.ref a) := ⟨_, .base (.lst e), kit_ty (by decide +kernel)⟩
theorem NoStr.tup {K : PySem.W.Frag} {H : Hp} {a : Addr} {xs : List V} (e : H a = some (.tup xs)) : NoStr K H (.ref a) := ⟨_, .base (.tup e), kit_ty (by decide +kernel)⟩
theorem NoStr.dK {K : PySem.W.Frag} {H : Hp} {a : Addr} {xs : List (Key × V)} (e : H a = some (.dK xs)) : NoStr K H (.ref a) := ⟨_, .base (.dK e), kit_ty (by decide +kernel)⟩
instance (z : Str) : Decidable (IsWord z) := by
  unfold IsWord
  exact inferInstance
theorem le_a {c : Nat} : (!decide ((⟨#[c]⟩ : Str).cps.toList < (Str.ofString "a").cps.toList)) = decide (97 ≤ c) := by
  rw [Bool.eq_iff_iff]
  show (!decide ([c] < [97])) = true ↔ _
  rw [Bool.not_eq_true', decide_eq_false_iff_not, List.cons_lt_cons_iff]
  simp
theorem le_z {c : Nat} : (!decide ((Str.ofString "z").cps.toList < (⟨#[c]⟩ : Str).cps.toList)) = decide (c ≤ 122) := by
  rw [Bool.eq_iff_iff]
  show (!decide ([122] < [c])) = true ↔ _
  rw [Bool.not_eq_true', decide_eq_false_iff_not, List.cons_lt_cons_iff]
  simp
def spIsName (K : PySem.W.Frag) : Sp := fun vs H Q _ => ∃ x, vs = [x] ∧ ((∃ z : Str, x = .str z ∧ z.length ≤ 1000 ∧ ∀ H', Sm H H' → Q (.bl (decide (IsWord z))) H') ∨ (NoStr K H x ∧ Q (.bl false) H))
abbrev nIsName : List Str := ["value", "letter"]
theorem scIsName : FnScope nIsName ["value"] (defScope (top 9)) := ⟨rfl, rfl, rfl, by decide +kernel, rfl, by decide +kernel, by decide +kernel⟩
section
variable {P : Program} {w : World} {K : PySem.W.Frag} {mg : Str → Option Value} {base : Heap} {f : Addr} {fd : FuncData}
theorem ok_isname (F : FunD K "is_name" "is_name" (defArgs (top 9)) (defBody (top 9)) (defScope (top 9)) [] [] f fd) (mi : mg "isinstance" = none) (ms : mg "str" = none) (ml : mg "len" = none) (ma : mg "all" = none) :
    FnOk P w K mg base CX0 1 f fd ["value"] (spIsName K) := by
  refine F.ok (CX := CX0) scIsName (fun vs H Q E h => ?_) (fun cdv A outer s H vs Q E hr h => ?_)
  · obtain ⟨x, rfl, _⟩ := h
    rfl
  · refine ⟨_, PSs.nox (pss_cons (ps_if (PW.pt (pw_or (pt_not (pt_val (by exact (pe_callB call_isi rfl mi PyProof.Rows.boot_isinstance (pa_cons (pv 0) (pa_cons (pe_bltn (v := .ty "str") rfl ms (by decide +kernel) rfl) pa_nil)))))) (pw_or1 (pt_not (pt_chain op_le op_le pe_int (by exact (pe_callB call_len rfl ml boot_len (pa_cons (pv 0) pa_nil))) pe_int))))) (pss_one (ps_ret pe_bl)) pss_nil)
      (pss_one (ps_ret (by exact (pe_callB (cr_all rfl) rfl ma PyProof.Rows.boot_all (pa_cons (by exact (pe_lc (own := [("letter", 1)]) (g := gName 1) (tt := tYes) (te := tChain _ _ (tC (.str "a")) (tVar 1) (tC (.str "z"))) rfl scIsName.nd (pi_str (pv 0))
        (blkOk_by (N := nIsName) (sc := defScope (top 9)) (by decide +kernel)) (fun _ _ _ _ _ => pg_name (i := 1) scIsName.nd rfl (Or.inl rfl)) (fun _ _ _ _ _ => pts_nil) (fun _ _ _ _ _ => by exact (pe_chain op_le_str op_le_str pe_str (by exact (pv 1)) pe_str)))) pa_nil)))))), ?_⟩
    obtain ⟨x, rfl, h⟩ := h
    rcases h with ⟨z, rfl, z1, q⟩ | ⟨⟨t, ty, kk⟩, q⟩
    · refine ⟨_, rfl, .str z, .ty "str", _, _, true, rfl, .ty "str", .base (.str z), kit_ty (by decide +kernel), _, rfl, ?_⟩
      refine iteF ?_
      refine ⟨_, rfl, .str z, z.length, rfl, ⟨by rw [sizeLine_eq]; omega, rfl⟩, _, _, rfl, rfl, _, rfl, ?_⟩
      by_cases c1 : (1 : Int) ≤ (z.length : Nat)
      · rw [decide_eq_true c1]
        refine iteT ⟨_, _, rfl, rfl, _, rfl, ?_⟩
        by_cases c2 : ((z.length : Nat) : Int) ≤ 8
        · rw [decide_eq_true c2]
          refine iteF ⟨_, rfl, z, rfl, ?_⟩
          refine lc_map walk_str (fv := fun j => .bl (decide (97 ≤ z.cps.toList.getD j 0) && decide (z.cps.toList.getD j 0 ≤ 122))) (by show z.length ≤ 1000; exact z1) (fun _ _ => True.intro) (fun _ => rfl) (fun j H2 x H3 _ y => by rw [y.1]; exact Sm.refl _) (fun j x H2 H3 Q hj s2 y s3 q => ?_) fun D H2 sm nD ed => ?_
          · obtain ⟨rfl, c, ec, rfl⟩ := y
            have cd : z.cps.toList.getD j 0 = c := by
              rw [List.getD_eq_getElem?_getD, Array.getElem?_toList, ec]
              rfl
            have q := q H3 (Sm.refl _)
            rw [cd] at q
            refine ⟨_, rfl, _, _, rfl, rfl, _, rfl, ?_⟩
            by_cases l1 : 97 ≤ c
            · rw [le_a, decide_eq_true l1]
              refine iteT ⟨_, _, rfl, rfl, ?_⟩
              rw [le_z]
              rw [decide_eq_true l1] at q
              exact q
            · rw [le_a, decide_eq_false l1]
              refine iteF ?_
              rw [decide_eq_false l1] at q
              exact q
          · refine ⟨D, (List.range z.length).map fun j => (decide (97 ≤ z.cps.toList.getD j 0) && decide (z.cps.toList.getD j 0 ≤ 122)), rfl, .inl (.inl (by rw [ed, List.map_map]; rfl)), ?_⟩
            have e : ((List.range z.length).map fun j => (decide (97 ≤ z.cps.toList.getD j 0) && decide (z.cps.toList.getD j 0 ≤ 122))).all id = decide (IsWord z) := by
              rw [Bool.eq_iff_iff, List.all_eq_true, decide_eq_true_iff]
              have hl : z.cps.toList.length = z.length := Array.length_toList
              constructor
              · intro h
                refine ⟨by omega, by omega, fun c hc => ?_⟩
                obtain ⟨j, hj, rfl⟩ := List.mem_iff_getElem.mp hc
                have := h _ (List.mem_map.mpr ⟨j, List.mem_range.mpr (by omega), rfl⟩)
                rw [List.getD_eq_getElem?_getD, List.getElem?_eq_getElem hj] at this
                simpa using this
              · rintro ⟨_, _, h⟩ b hb
                obtain ⟨j, hj, rfl⟩ := List.mem_map.mp hb
                have hj := List.mem_range.mp hj
                have := h _ (List.getElem_mem (show j < z.cps.toList.length by omega))
                rw [List.getD_eq_getElem?_getD, List.getElem?_eq_getElem (by omega)]
                simpa using this
            rw [e]
            exact q H2 sm
        · rw [decide_eq_false c2]
          have e : IsWord z ↔ False := ⟨fun h => by have := h.2.1; omega, False.elim⟩
          have q := q H (Sm.refl H)
          rw [decide_eq_false (fun h => e.mp h)] at q
          exact iteT q
      · rw [decide_eq_false c1]
        have e : IsWord z ↔ False := ⟨fun h => by have := h.1; omega, False.elim⟩
        have q := q H (Sm.refl H)
        rw [decide_eq_false (fun h => e.mp h)] at q
        exact iteF ⟨_, rfl, iteT q⟩
    · refine ⟨_, rfl, x, .ty "str", _, _, false, rfl, .ty "str", ty, kk, _, rfl, ?_⟩
      exact iteT (iteT q)
end
end Dk
set_option Elab.async false
set_option linter.all false
set_option maxRecDepth 100000
set_option maxHeartbeats 4000000
namespace Dk
open PySem PySem.Spec PyProof.Rows L2 Er
/-! ### is_one_of, are_different, is_table -/
/-- some names: a list, a tuple, or the keys of a dict -/
def Nms (K : PySem.W.Frag) (H : Hp) (a : Addr) (ws : List Str) : Prop := SqL K H a (ws.map V.str) ∨ SqT K H a (ws.map V.str) ∨ ∃ vs : List V, Rd H a (.dK (dkv ws vs)) ∧ vs.length = ws.length
theorem dkv_none : ∀ {ws : List Str} {vs : List V} {z : Str}, z ∉ ws → valV (dkv ws vs) (.inr z) = none
  | [], _, _, _ => rfl
  | _ :: _, [], _, _ => rfl
  | w :: ws, v :: vs, z, h => by
    have ih := dkv_none (ws := ws) (vs := vs) (z := z) fun x => h (List.mem_cons_of_mem _ x)
    unfold valV at ih ⊢
    show ((((Sum.inr w, v) : Key × V) :: dkv ws vs).find? _).map _ = none
    rw [List.find?_cons_of_neg]
    · exact ih
    · intro x
      have e : (Sum.inr w : Key) = .inr z := of_decide_eq_true x
      exact h (Sum.inr.inj e ▸ List.mem_cons_self)
theorem dkv_some : ∀ {ws : List Str} {vs : List V} {z : Str}, vs.length = ws.length → z ∈ ws → ∃ (j : Nat) (v : V), ws[j]? = some z ∧ vs[j]? = some v ∧ valV (dkv ws vs) (.inr z) = some v
  | [], _, _, _, h => nomatch h
  | _ :: _, [], _, e, _ => by simp at e
  | w :: ws, v :: vs, z, e, h => by
    by_cases c : w = z
    · subst c
      refine ⟨0, v, rfl, rfl, ?_⟩
      unfold valV
      show ((((Sum.inr w, v) : Key × V) :: dkv ws vs).find? _).map _ = _
      rw [List.find?_cons_of_pos (by simp)]
      rfl
    · have h2 : z ∈ ws := by
        rcases List.mem_cons.mp h with x | x
        · exact absurd x.symm c
        · exact x
      obtain ⟨j, u, a, b, d⟩ := dkv_some (ws := ws) (vs := vs) (by simpa using e) h2
      refine ⟨j + 1, u, by simpa using a, by simpa using b, ?_⟩
      unfold valV at d ⊢
      show ((((Sum.inr w, v) : Key × V) :: dkv ws vs).find? _).map _ = _
      rw [List.find?_cons_of_neg]
      · exact d
      · intro x
        have e : (Sum.inr w : Key) = .inr z := of_decide_eq_true x
        exact c (Sum.inr.inj e)
theorem dkv_has {ws : List Str} {vs : List V} {z : Str} (e : vs.length = ws.length) : (valV (dkv ws vs) (.inr z)).isSome = decide (z ∈ ws) := by
  by_cases c : z ∈ ws
  · obtain ⟨j, v, _, _, d⟩ := dkv_some e c
    rw [d, decide_eq_true c]
    rfl
  · rw [dkv_none c, decide_eq_false c]
    rfl
theorem in_strs {ws : List Str} {z : Str} : inV (.str z) (ws.map V.str) = decide (z ∈ ws) := by
  unfold inV
  rw [List.any_map, Bool.eq_iff_iff, List.any_eq_true, decide_eq_true_iff]
  constructor
  · rintro ⟨y, hy, e⟩
    have e2 : y = z := by simpa [eqV] using e
    exact e2 ▸ hy
  · intro h
    exact ⟨z, h, by simp [eqV]⟩
def rInA (K : PySem.W.Frag) : V → V → Hp → VK → Prop := fun x y H Q => ∃ (z : Str) (a : Addr) (ws : List Str), x = .str z ∧ y = .ref a ∧ Nms K H a ws ∧ Q (.bl (decide (z ∈ ws))) H
theorem op_inA {X : Cx} (hu : X.A.units + 1 < cLine) : OpR X (compareOp .In) (rInA X.K) := by
  intro pins s σ H x y v u Q I rx ry h
  obtain ⟨z, a, ws, rfl, rfl, hn, q⟩ := h
  rcases hn with h | h | ⟨vs, h, e⟩
  · exact op_in_seq pins s σ H _ _ v u Q I rx ry ⟨a, _, rfl, .inl h, rfl, flat_strs ws, by rw [if_neg (by decide), in_strs]; exact q⟩
  · exact op_in_seq pins s σ H _ _ v u Q I rx ry ⟨a, _, rfl, .inr h, rfl, flat_strs ws, by rw [if_neg (by decide), in_strs]; exact q⟩
  · obtain rfl : u = Value.ref a := ry
    exact d_in hu I (.inl ⟨_, .inr z, h, rfl, rfl⟩) rx fun s2 I2 => ⟨.bl _, H, I2, rfl, by rw [dkv_has e]; exact q⟩
def spOneOf (K : PySem.W.Frag) : Sp := fun vs H Q _ => ∃ x a, vs = [x, .ref a] ∧ ((∃ (z : Str) (ws : List Str), x = .str z ∧ Nms K H a ws ∧ Q (.bl (decide (z ∈ ws))) H) ∨ (NoStr K H x ∧ Q (.bl false) H))
abbrev nOneOf : List Str := ["value", "names"]
theorem scOneOf : FnScope nOneOf nOneOf (defScope (top 10)) := ⟨rfl, rfl, rfl, by decide +kernel, rfl, by decide +kernel, by decide +kernel⟩
abbrev nDiff : List Str := ["names"]
theorem scDiff : FnScope nDiff nDiff (defScope (top 11)) := ⟨rfl, rfl, rfl, by decide +kernel, rfl, by decide +kernel, by decide +kernel⟩
def spDiff (K : PySem.W.Frag) : Sp := fun vs H Q _ => ∃ (a : Addr) (ws : List Str), vs = [.ref a] ∧ (SqL K H a (ws.map V.str) ∨ SqT K H a (ws.map V.str)) ∧ ws.length ≤ 1000 ∧ Q (.bl (decide ws.Nodup)) H
section
variable {P : Program} {w : World} {K : PySem.W.Frag} {mg : Str → Option Value} {base : Heap} {f : Addr} {fd : FuncData}
theorem ok_oneof (F : FnP K "is_one_of" (top 10) f fd) (mi : mg "isinstance" = none) (ms : mg "str" = none) : FnOk P w K mg base CX0 1 f fd nOneOf (spOneOf K) := by
  refine F.ok (CX := CX0) scOneOf (fun vs H Q E h => ?_) (fun cdv A outer s H vs Q E hr h => ?_)
  · obtain ⟨x, a, rfl, _⟩ := h
    rfl
  · refine ⟨_, PSs.nox (pss_one (ps_ret (by exact (pe_and (by exact (pe_callB call_isi rfl mi PyProof.Rows.boot_isinstance (pa_cons (pv 0) (pa_cons (pe_bltn (v := .ty "str") rfl ms (by decide +kernel) rfl) pa_nil)))) (pe_one (by exact (pe_cmpR (op_inA (hu_of hr)) (pv 0) (pv 1) rfl))))))), ?_⟩
    obtain ⟨x, a, rfl, h⟩ := h
    rcases h with ⟨z, ws, rfl, hn, q⟩ | ⟨⟨t, ty, kk⟩, q⟩
    · exact ⟨_, rfl, .str z, .ty "str", _, _, true, rfl, .ty "str", .base (.str z), kit_ty (by decide +kernel), _, rfl, iteT ⟨_, rfl, _, rfl, z, a, ws, rfl, rfl, hn, q⟩⟩
    · exact ⟨_, rfl, x, .ty "str", _, _, false, rfl, .ty "str", ty, kk, _, rfl, iteF q⟩
theorem ok_diff (F : FnP K "are_different" (top 11) f fd) (ms : mg "set" = none) (ml : mg "len" = none) : FnOk P w K mg base CX0 1 f fd nDiff (spDiff K) := by
  refine F.ok (CX := CX0) scDiff (fun vs H Q E h => ?_) (fun cdv A outer s H vs Q E hr h => ?_)
  · obtain ⟨a, ws, rfl, _⟩ := h
    rfl
  · refine ⟨_, PSs.nox (pss_one (ps_ret (by exact (pe_cmpR op_eq (by exact (DkSet.pe_lenTxt rfl rfl ml rfl ms (pv 0))) (by exact (pe_callB call_len rfl ml boot_len (pa_cons (pv 0) pa_nil))) (nomark _))))), ?_⟩
    obtain ⟨a, ws, rfl, hs, hl, q⟩ := h
    refine ⟨_, rfl, a, ws, rfl, hs, hl, fun n hn nl => ⟨_, rfl, _, ws.length, rfl, ?_, rfl, ?_⟩⟩
    · rcases hs with hs | hs
      · exact .inl ⟨_, hs, by rw [List.length_map]⟩
      · exact .inr ⟨_, hs, by rw [List.length_map]⟩
    · have e : decide (V.int ((n : Nat) : Int) = V.int ((ws.length : Nat) : Int)) = decide ws.Nodup := by
        rw [decide_eq_decide, ← hn]
        constructor
        · intro z
          have := V.int.inj z
          omega
        · intro z
          rw [z]
      rw [e]
      exact q
end
end Dk
set_option Elab.async false
set_option linter.all false
set_option maxRecDepth 100000
set_option maxHeartbeats 4000000
namespace Dk
open PySem PySem.Spec PyProof.Rows L2 Er
/-- what a comprehension of one name asks of its walk -/
abbrev LcR (te : TE) (σ : L2.St) (i : Nat) (H1 : Hp) (Q : Addr → Hp → Prop) (J : It) : Prop := ∀ D, H1 D = none → ∃ W : Nat → Nat → Hp → Prop, (∃ m, W 0 m (upd H1 D (.lst []))) ∧ ∀ i₁ m H, W i₁ m H →
      (J.stop i₁ H ∧ Q D H) ∨ (J.go i₁ H ∧ ∃ Nx : Hp → Prop, (∀ H', Nx H' → ∃ m', m' < m ∧ W (i₁ + 1) m' H') ∧ ∀ x H', J.yld i₁ H x H' → gName i x (wipe σ [i]) H' fun σ2 H2 => wipe σ2 [i] = wipe σ [i] ∧ tYes σ2 H2 fun b H3 =>
        if b = true then te σ2 H3 fun y H4 => ∃ acc, H4 D = some (.lst acc) ∧ acc.length < sizeLine ∧ Nx (upd H4 D (.lst (acc ++ [y]))) else Nx H3)
/-- a list or a tuple of texts -/
def Sq (K : PySem.W.Frag) (H : Hp) (a : Addr) (ws : List Str) : Prop := SqL K H a (ws.map V.str) ∨ SqT K H a (ws.map V.str)
theorem SqL.sm {K : PySem.W.Frag} {H H2 : Hp} {a : Addr} {xs : List V} (h : SqL K H a xs) (m : Sm H H2) : SqL K H2 a xs := by
  rcases h with (h | ⟨o, h⟩) | h
  · exact .inl (.inl (m _ _ h))
  · exact .inl (.inr ⟨o, m _ _ h⟩)
  · exact .inr h
theorem SqT.sm {K : PySem.W.Frag} {H H2 : Hp} {a : Addr} {xs : List V} (h : SqT K H a xs) (m : Sm H H2) : SqT K H2 a xs := by
  rcases h with (h | ⟨o, h⟩) | h
  · exact .inl (.inl (m _ _ h))
  · exact .inl (.inr ⟨o, m _ _ h⟩)
  · exact .inr h
theorem Sq.sm {K : PySem.W.Frag} {H H2 : Hp} {a : Addr} {ws : List Str} (h : Sq K H a ws) (m : Sm H H2) : Sq K H2 a ws := by
  rcases h with h | h
  · exact .inl (SqL.sm h m)
  · exact .inr (SqT.sm h m)
theorem Sq.len {K : PySem.W.Frag} {H : Hp} {a : Addr} {ws : List Str} (h : Sq K H a ws) : LenV K (.ref a) H ws.length := by
  rcases h with h | h
  · exact .inl ⟨_, h, by rw [List.length_map]⟩
  · exact .inr ⟨_, h, by rw [List.length_map]⟩
theorem lc_sq {K : PySem.W.Frag} {a : Addr} {ws : List Str} {te : TE} {fv : Nat → V} {σ : L2.St} {i : Nat} {H1 : Hp} {Q : Addr → Hp → Prop} (hk : Sq K H1 a ws) (hn : ws.length ≤ 1000) (w1 : ∀ v, wipe ((wipe σ [i]).set i (some v)) [i] = wipe σ [i])
    (ev : ∀ (j : Nat) (z : Str) (H2 : Hp) (Q : VK), ws[j]? = some z → Sm H1 H2 → (∀ H4, Sm H2 H4 → Q (fv j) H4) → te ((wipe σ [i]).set i (some (.str z))) H2 Q)
    (q : ∀ (D : Addr) (H2 : Hp), Sm H1 H2 → H1 D = none → H2 D = some (.lst ((List.range ws.length).map fv)) → Q D H2) :
    (SqL K H1 a (ws.map V.str) ∧ LcR te σ i H1 Q (Itl K a)) ∨ (SqT K H1 a (ws.map V.str) ∧ LcR te σ i H1 Q (Itt K a)) := by
  have hl : (ws.map V.str).length = ws.length := List.length_map _
  have yat : ∀ (j : Nat) (x : V), (ws.map V.str)[j]? = some x → ∃ z, ws[j]? = some z ∧ x = .str z := fun j x e => by
    rw [List.getElem?_map] at e
    cases ez : ws[j]? with
    | none =>
      rw [ez] at e
      cases e
    | some z =>
      rw [ez] at e
      exact ⟨z, rfl, (Option.some.inj e).symm⟩
  rcases hk with hk | hk
  · refine .inl ⟨hk, lc_map walk_list (by omega) (fun H2 m => SqL.sm hk m) w1 (fun j H2 x H3 _ y => by rw [y.1]; exact Sm.refl _) (fun j x H2 H3 Q hj s2 y s3 qq => ?_) fun D H2 m nD ed => q D H2 m nD (by rw [← hl]; exact ed)⟩
    obtain ⟨rfl, ex⟩ := y
    obtain ⟨z, ez, rfl⟩ := yat j x ex
    exact ev j z _ Q ez s2 qq
  · refine .inr ⟨hk, lc_map walk_tup (by omega) (fun H2 m => SqT.sm hk m) w1 (fun j H2 x H3 _ y => by rw [y.1]; exact Sm.refl _) (fun j x H2 H3 Q hj s2 y s3 qq => ?_) fun D H2 m nD ed => q D H2 m nD (by rw [← hl]; exact ed)⟩
    obtain ⟨rfl, ex⟩ := y
    obtain ⟨z, ez, rfl⟩ := yat j x ex
    exact ev j z _ Q ez s2 qq
theorem all_range {ws : List Str} {p : Str → Bool} : ((List.range ws.length).map fun j => p (ws.getD j ⟨#[]⟩)).all id = ws.all p := by
  rw [Bool.eq_iff_iff, List.all_eq_true, List.all_eq_true]
  constructor
  · intro h z hz
    obtain ⟨j, hj, rfl⟩ := List.mem_iff_getElem.mp hz
    have := h _ (List.mem_map.mpr ⟨j, List.mem_range.mpr hj, rfl⟩)
    rw [List.getD_eq_getElem?_getD, List.getElem?_eq_getElem hj] at this
    exact this
  · intro h b hb
    obtain ⟨j, hj, rfl⟩ := List.mem_map.mp hb
    have hj := List.mem_range.mp hj
    rw [List.getD_eq_getElem?_getD, List.getElem?_eq_getElem hj]
    exact h _ (List.getElem_mem hj)
/-! ### is_table -/
/-- a value that is no dict, of a type that is known -/
def NoDict (K : PySem.W.Frag) (H : Hp) (x : V) : Prop := ∃ t, TyX K H x t ∧ PySem.W.kitOne K t (.type "dict") = some false
/-- what is a table: just these keys -/
def tableB (kvs : List (Key × V)) (ws : List Str) : Bool := decide (kvs.length = ws.length) && ws.all fun z => (valV kvs (.inr z)).isSome
def spTable (K : PySem.W.Frag) : Sp := fun vs H Q _ => ∃ (x : V) (k : Addr) (ws : List Str), vs = [x, .ref k] ∧ Sq K H k ws ∧ ws.length ≤ 1000 ∧
  ((∃ (d : Addr) (kvs : List (Key × V)), x = .ref d ∧ H d = some (.dK kvs) ∧ ∀ H', Sm H H' → Q (.bl (tableB kvs ws)) H') ∨ (NoDict K H x ∧ Q (.bl false) H))
abbrev nTable : List Str := ["value", "keys", "key"]
theorem scTable : FnScope nTable ["value", "keys"] (defScope (top 12)) := ⟨rfl, rfl, rfl, by decide +kernel, rfl, by decide +kernel, by decide +kernel⟩
def rInD1 : V → V → Hp → VK → Prop := fun x y H Q => ∃ (z : Str) (a : Addr) (kvs : List (Key × V)), x = .str z ∧ y = .ref a ∧ Rd H a (.dK kvs) ∧ Q (.bl (valV kvs (.inr z)).isSome) H
theorem op_inD1 {X : Cx} (hu : X.A.units + 1 < cLine) : OpR X (compareOp .In) rInD1 := by
  intro pins s σ H x y v u Q I rx ry h
  obtain ⟨z, a, kvs, rfl, rfl, h, q⟩ := h
  obtain rfl : u = Value.ref a := ry
  exact d_in hu I (.inl ⟨_, .inr z, h, rfl, rfl⟩) rx fun s2 I2 => ⟨.bl _, H, I2, rfl, q⟩
section
variable {P : Program} {w : World} {K : PySem.W.Frag} {mg : Str → Option Value} {base : Heap} {f : Addr} {fd : FuncData}
theorem ok_table (F : FnP K "is_table" (top 12) f fd) (mi : mg "isinstance" = none) (md : mg "dict" = none) (ml : mg "len" = none) (ma : mg "all" = none) : FnOk P w K mg base CX0 1 f fd ["value", "keys"] (spTable K) := by
  refine F.ok (CX := CX0) scTable (fun vs H Q E h => ?_) (fun cdv A outer s H vs Q E hr h => ?_)
  · obtain ⟨x, a, ws, rfl, _⟩ := h
    rfl
  · refine ⟨_, PSs.nox (pss_cons (ps_if (PW.pt (pw_or (pt_not (pt_val (by exact (pe_callB call_isi rfl mi PyProof.Rows.boot_isinstance (pa_cons (pv 0) (pa_cons (pe_bltn (v := .ty "dict") rfl md (by decide +kernel) rfl) pa_nil))))))
        (pw_or1 (pt_cmpR op_ne (by exact (pe_callB call_lenD rfl ml boot_len (pa_cons (pv 0) pa_nil))) (by exact (pe_callB call_len rfl ml boot_len (pa_cons (pv 1) pa_nil))) (nomark _))))) (pss_one (ps_ret pe_bl)) pss_nil)
      (pss_one (ps_ret (by exact (pe_callB (cr_all rfl) rfl ma PyProof.Rows.boot_all (pa_cons (by exact (pe_lc (own := [("key", 2)]) (g := gName 2) (tt := tYes) (te := tOp rInD1 (tVar 2) (tVar 0)) rfl scTable.nd (pi_seq (pv 1))
        (blkOk_by (N := nTable) (sc := defScope (top 12)) (by decide +kernel)) (fun _ _ _ _ _ => pg_name (i := 2) scTable.nd rfl (Or.inl rfl)) (fun _ _ _ _ _ => pts_nil) (fun _ _ _ _ _ => by exact (pe_cmpR (op_inD1 (hu_of hr)) (by exact (pv 2)) (by exact (pv 0)) rfl)))) pa_nil)))))), ?_⟩
    obtain ⟨x, k, ws, rfl, hk, kl, h⟩ := h
    rcases h with ⟨d, kvs, rfl, hd, q⟩ | ⟨⟨t, ty, kk⟩, q⟩
    · refine ⟨_, rfl, .ref d, .ty "dict", _, _, true, rfl, .ty "dict", .base (.dK hd), kit_ty (by decide +kernel), _, rfl, ?_⟩
      refine iteF ⟨_, rfl, d, kvs, rfl, hd, _, rfl, .ref k, ws.length, rfl, ?_, rfl, _, rfl, ?_⟩
      · exact Sq.len hk
      · by_cases c : kvs.length = ws.length
        · have e : decide (V.int ((kvs.length : Nat) : Int) = V.int ((ws.length : Nat) : Int)) = true := decide_eq_true (by rw [c])
          rw [e]
          refine iteF ⟨_, rfl, k, ws.map V.str, rfl, ?_⟩
          refine lc_sq (fv := fun j => .bl (valV kvs (.inr (ws.getD j ⟨#[]⟩))).isSome) hk kl (fun _ => rfl) (fun j z H2 Q ez s2 qq => ?_) fun D H2 m nD ed => ?_
          · have z2 := qq H2 (Sm.refl _)
            rw [List.getD_eq_getElem?_getD, ez] at z2
            exact ⟨_, rfl, _, rfl, z, d, kvs, rfl, rfl, .inl (s2 _ _ hd), z2⟩
          · refine ⟨D, (List.range ws.length).map fun j => (valV kvs (.inr (ws.getD j ⟨#[]⟩))).isSome, rfl, .inl (.inl (by rw [ed, List.map_map]; rfl)), ?_⟩
            rw [all_range (p := fun z => (valV kvs (.inr z)).isSome)]
            have q := q H2 m
            unfold tableB at q
            rw [decide_eq_true c, Bool.true_and] at q
            exact q
        · have e : decide (V.int ((kvs.length : Nat) : Int) = V.int ((ws.length : Nat) : Int)) = false := decide_eq_false fun z => c (by have := V.int.inj z; omega)
          rw [e]
          have q := q H (Sm.refl _)
          unfold tableB at q
          rw [decide_eq_false c, Bool.false_and] at q
          exact iteT q
    · refine ⟨_, rfl, x, .ty "dict", _, _, false, rfl, .ty "dict", ty, kk, _, rfl, ?_⟩
      exact iteT (iteT q)
end
end Dk
set_option Elab.async false
set_option linter.all false
set_option maxRecDepth 100000
set_option maxHeartbeats 4000000
namespace Dk
open PySem PySem.Spec PyProof.Rows L2 Er
/-! ### are_standings, of any list or tuple -/
/-- a list or a tuple of anything -/
def Sv (K : PySem.W.Frag) (H : Hp) (a : Addr) (xs : List V) : Prop := SqL K H a xs ∨ SqT K H a xs
theorem Sv.sm {K : PySem.W.Frag} {H H2 : Hp} {a : Addr} {xs : List V} (h : Sv K H a xs) (m : Sm H H2) : Sv K H2 a xs := by
  rcases h with h | h
  · exact .inl (SqL.sm h m)
  · exact .inr (SqT.sm h m)
theorem Sv.len {K : PySem.W.Frag} {H : Hp} {a : Addr} {xs : List V} (h : Sv K H a xs) : LenV K (.ref a) H xs.length := by
  rcases h with h | h
  · exact .inl ⟨_, h, rfl⟩
  · exact .inr ⟨_, h, rfl⟩
theorem sv_is {K : PySem.W.Frag} {H : Hp} {a : Addr} {xs : List V} (h : Sv K H a xs) : ∃ t, TyX K H (.ref a) (.type t) ∧ (t = "list" ∨ t = "tuple") := by
  rcases h with ((h | ⟨o, h⟩) | ⟨o, its, n, h, c, _⟩) | ((h | ⟨o, h⟩) | ⟨o, its, n, h, c, _⟩)
  · exact ⟨_, .base (.lst h), .inl rfl⟩
  · exact ⟨_, .base (.frz h), .inl rfl⟩
  · exact ⟨_, .kList h c, .inl rfl⟩
  · exact ⟨_, .base (.tup h), .inr rfl⟩
  · exact ⟨_, .fTuple h, .inr rfl⟩
  · exact ⟨_, .kTuple h c, .inr rfl⟩
/-- a text, or something that is none -/
def Itm (K : PySem.W.Frag) (H : Hp) (v : V) : Prop := (∃ z : Str, v = .str z ∧ z.length ≤ 1000) ∨ NoStr K H v
def nameB : V → Bool
  | .str z => decide (IsWord z)
  | _ => false
theorem NoStr.name {K : PySem.W.Frag} {H : Hp} {v : V} (h : NoStr K H v) : nameB v = false := by
  cases v with
  | str z =>
    obtain ⟨t, ty, k⟩ := h
    cases ty with
    | base b =>
      cases b
      rw [show PySem.W.kitOne K (.type "str") (.type "str") = some true from kit_ty (by decide +kernel)] at k
      cases k
  | _ => rfl
def standB (xs : List V) : Bool := decide (1 ≤ xs.length ∧ xs.length ≤ 9) && (xs.all nameB && decide xs.Nodup)
theorem lc_sv {K : PySem.W.Frag} {a : Addr} {xs : List V} {te : TE} {fv : Nat → V} {σ : L2.St} {i : Nat} {H1 : Hp} {Q : Addr → Hp → Prop} (hk : Sv K H1 a xs) (hn : xs.length ≤ 1000) (w1 : ∀ v, wipe ((wipe σ [i]).set i (some v)) [i] = wipe σ [i])
    (ev : ∀ (j : Nat) (x : V) (H2 : Hp) (Q : VK), xs[j]? = some x → Sm H1 H2 → (∀ H4, Sm H2 H4 → Q (fv j) H4) → te ((wipe σ [i]).set i (some x)) H2 Q)
    (q : ∀ (D : Addr) (H2 : Hp), Sm H1 H2 → H1 D = none → H2 D = some (.lst ((List.range xs.length).map fv)) → Q D H2) :
    (SqL K H1 a xs ∧ LcR te σ i H1 Q (Itl K a)) ∨ (SqT K H1 a xs ∧ LcR te σ i H1 Q (Itt K a)) := by
  rcases hk with hk | hk
  · refine .inl ⟨hk, lc_map walk_list hn (fun H2 m => SqL.sm hk m) w1 (fun j H2 x H3 _ y => by rw [y.1]; exact Sm.refl _) (fun j x H2 H3 Q hj s2 y s3 qq => ?_) q⟩
    obtain ⟨rfl, ex⟩ := y
    exact ev j x _ Q ex s2 qq
  · refine .inr ⟨hk, lc_map walk_tup hn (fun H2 m => SqT.sm hk m) w1 (fun j H2 x H3 _ y => by rw [y.1]; exact Sm.refl _) (fun j x H2 H3 Q hj s2 y s3 qq => ?_) q⟩
    obtain ⟨rfl, ex⟩ := y
    exact ev j x _ Q ex s2 qq
theorem all_rangeV {xs : List V} {p : V → Bool} : ((List.range xs.length).map fun j => p (xs.getD j .non)).all id = xs.all p := by
  rw [Bool.eq_iff_iff, List.all_eq_true, List.all_eq_true]
  constructor
  · intro h z hz
    obtain ⟨j, hj, rfl⟩ := List.mem_iff_getElem.mp hz
    have := h _ (List.mem_map.mpr ⟨j, List.mem_range.mpr hj, rfl⟩)
    rw [List.getD_eq_getElem?_getD, List.getElem?_eq_getElem hj] at this
    exact this
  · intro h b hb
    obtain ⟨j, hj, rfl⟩ := List.mem_map.mp hb
    have hj := List.mem_range.mp hj
    rw [List.getD_eq_getElem?_getD, List.getElem?_eq_getElem hj]
    exact h _ (List.getElem_mem hj)
theorem names_all : ∀ {xs : List V}, xs.all nameB = true → ∃ ws : List Str, xs = ws.map V.str ∧ ∀ z ∈ ws, IsWord z
  | [], _ => ⟨[], rfl, fun z hz => nomatch hz⟩
  | x :: xs, h => by
    rw [List.all_cons, Bool.and_eq_true] at h
    obtain ⟨ws, e, hw⟩ := names_all h.2
    cases x with
    | str z =>
      refine ⟨z :: ws, by rw [e]; rfl, fun y hy => ?_⟩
      rcases List.mem_cons.mp hy with r | r
      · rw [r]
        exact of_decide_eq_true h.1
      · exact hw y r
    | _ => exact absurd (show false = true from h.1) (by decide)
theorem nodup_strs {ws : List Str} : (ws.map V.str).Nodup ↔ ws.Nodup := by
  constructor
  · intro h
    exact List.Pairwise.of_map V.str (fun a b n e => n (by rw [e])) h
  · intro h
    exact List.Pairwise.map _ (fun a b n e => n (V.str.inj e)) h
/-- neither a list nor a tuple -/
def NoSq (K : PySem.W.Frag) (H : Hp) (x : V) : Prop := ∃ t, TyX K H x t ∧ PySem.W.kitOne K t (.type "list") = some false ∧ PySem.W.kitOne K t (.type "tuple") = some false
theorem tyx_new {K : PySem.W.Frag} {H : Hp} {x : V} {t : Value} {T : Addr} {o : HO} (h : TyX K H x t) (n : H T = none) : TyX K (upd H T o) x t := by
  have m := Sm.new (o := o) n
  cases h with
  | base b =>
    refine .base ?_
    cases b with
    | non => exact .non
    | bl y => exact .bl y
    | int i => exact .int i
    | str y => exact .str y
    | flt y => exact .flt y
    | lst e => exact .lst (m _ _ e)
    | frz e => exact .frz (m _ _ e)
    | tup e => exact .tup (m _ _ e)
    | dK e => exact .dK (m _ _ e)
    | dT e => exact .dT (m _ _ e)
    | ins e a b c d f => exact .ins (m _ _ e) a b c d f
  | byt b => exact .byt b
  | set e => exact .set (m _ _ e)
  | kList e c => exact .kList e c
  | kTuple e c => exact .kTuple e c
  | kDict e c => exact .kDict e c
  | fTuple e => exact .fTuple (m _ _ e)
  | fDict e => exact .fDict (m _ _ e)
theorem tyx_sm {K : PySem.W.Frag} {H H2 : Hp} {x : V} {t : Value} (h : TyX K H x t) (m : Sm H H2) : TyX K H2 x t := by
  cases h with
  | base b =>
    refine .base ?_
    cases b with
    | non => exact .non
    | bl y => exact .bl y
    | int i => exact .int i
    | str y => exact .str y
    | flt y => exact .flt y
    | lst e => exact .lst (m _ _ e)
    | frz e => exact .frz (m _ _ e)
    | tup e => exact .tup (m _ _ e)
    | dK e => exact .dK (m _ _ e)
    | dT e => exact .dT (m _ _ e)
    | ins e a b c d f => exact .ins (m _ _ e) a b c d f
  | byt b => exact .byt b
  | set e => exact .set (m _ _ e)
  | kList e c => exact .kList e c
  | kTuple e c => exact .kTuple e c
  | kDict e c => exact .kDict e c
  | fTuple e => exact .fTuple (m _ _ e)
  | fDict e => exact .fDict (m _ _ e)
theorem NoStr.sm {K : PySem.W.Frag} {H H2 : Hp} {x : V} (h : NoStr K H x) (m : Sm H H2) : NoStr K H2 x := by
  obtain ⟨t, ty, k⟩ := h
  exact ⟨t, tyx_sm ty m, k⟩
def spStand (K : PySem.W.Frag) : Sp := fun vs H Q _ => ∃ x : V, vs = [x] ∧ ((∃ (a : Addr) (xs : List V), x = .ref a ∧ Sv K H a xs ∧ xs.length ≤ 1000 ∧ (∀ y ∈ xs, Itm K H y) ∧ ∀ H', Sm H H' → Q (.bl (standB xs)) H') ∨ (NoSq K H x ∧ ∀ H', Sm H H' → Q (.bl false) H'))
abbrev nStand : List Str := ["value", "name"]
theorem scStand : FnScope nStand ["value"] (defScope (top 18)) := ⟨rfl, rfl, rfl, by decide +kernel, rfl, by decide +kernel, by decide +kernel⟩
section
variable {P : Program} {w : World} {K : PySem.W.Frag} {mg : Str → Option Value} {base : Heap} {f fI fF : Addr} {fd dI dF : FuncData}
theorem bI (F : FnP K "is_name" (top 9) fI dI) : Binds K dI ["value"] [] := F.bindsN fun _ _ _ _ _ _ us hl => match us, hl with
  | [_], _ => rfl
theorem bF (F : FnP K "are_different" (top 11) fF dF) : Binds K dF ["names"] [] := F.bindsN fun _ _ _ _ _ _ us hl => match us, hl with
  | [_], _ => rfl
theorem ok_stand (F : FnP K "are_standings" (top 18) f fd) (mi : mg "isinstance" = none) (mL : mg "list" = none) (mT : mg "tuple" = none) (ml : mg "len" = none) (ma : mg "all" = none)
    (GI : FnOk P w K mg base CX0 1 fI dI ["value"] (spIsName K)) (FI : FnP K "is_name" (top 9) fI dI) (gI : mg "is_name" = some (.ref fI)) (GF : FnOk P w K mg base CX0 1 fF dF ["names"] (spDiff K)) (FF : FnP K "are_different" (top 11) fF dF) (gF : mg "are_different" = some (.ref fF)) :
    FnOk P w K mg base CX0 2 f fd ["value"] (spStand K) := by
  refine F.ok (CX := CX0) scStand (fun vs H Q E h => ?_) (fun cdv A outer s H vs Q E hr h => ?_)
  · obtain ⟨x, rfl, _⟩ := h
    rfl
  · refine ⟨_, PSs.nox (pss_cons (ps_if (PW.pt (pw_or (pt_not (pt_val (by exact (pe_callB call_isiT rfl mi PyProof.Rows.boot_isinstance (pa_cons (pv 0) (pa_cons (by exact (pe_tup (pa_cons (pe_bltn (v := .ty "list") rfl mL (by decide +kernel) rfl) (pa_cons (pe_bltn (v := .ty "tuple") rfl mT (by decide +kernel) rfl) pa_nil)))) pa_nil))))))
        (pw_or1 (pt_not (pt_chain op_le op_le pe_int (by exact (pe_callB call_len rfl ml boot_len (pa_cons (pv 0) pa_nil))) pe_int))))) (pss_one (ps_ret pe_bl)) pss_nil)
      (pss_one (ps_ret (by exact (pe_and (by exact (pe_callB (cr_all rfl) rfl ma PyProof.Rows.boot_all (pa_cons (by exact (pe_lc (own := [("name", 1)]) (g := gName 1) (tt := tYes) (te := tCall (spIsName K) [] E0 (tCons (tVar 1) tNil)) rfl scStand.nd (pi_seq (pv 0))
        (blkOk_by (N := nStand) (sc := defScope (top 18)) (by decide +kernel)) (fun _ _ _ _ _ => pg_name (i := 1) scStand.nd rfl (Or.inl rfl)) (fun _ _ _ _ _ => pts_nil) (fun _ _ _ _ _ => by exact (pe_call GI hr rfl gI FI.kp (bI FI) .nil pass0 (pa_cons (by exact (pv 1)) pa_nil))))) pa_nil)))
        (pe_one (by exact (pe_call GF hr rfl gF FF.kp (bF FF) .nil pass0 (pa_cons (pv 0) pa_nil))))))))), ?_⟩
    obtain ⟨x, rfl, h⟩ := h
    have c2 : 2 ≤ sizeLine := by
      rw [sizeLine_eq]
      omega
    have pr : Paired ClsV [V.ty "list", V.ty "tuple"] [Value.type "list", Value.type "tuple"] := .cons (.ty _) (.cons (.ty _) .nil)
    rcases h with ⟨a, xs, rfl, hs, hl, hi, q⟩ | ⟨⟨t, ty, k1, k2⟩, q⟩
    · obtain ⟨t, ty, et⟩ := sv_is hs
      have kk : PySem.W.kitAny K (.type t) [.type "list", .type "tuple"] = some true := by
        rcases et with rfl | rfl
        · exact kitAny_cons (b := true) (kit_ty (by decide +kernel)) (fun z => nomatch z) fun _ => rfl
        · exact kitAny_cons (b := false) (kit_ty (by decide +kernel)) (fun _ => kitAny_cons (b := true) (kit_ty (by decide +kernel)) (fun z => nomatch z) fun _ => rfl) fun z => nomatch z
      refine ⟨_, rfl, c2, fun T nT => ⟨.ref a, T, _, .type t, _, true, rfl, upd_same, pr, tyx_new ty nT, kk, _, rfl, ?_⟩⟩
      have m1 := Sm.new (o := .tup [.ty "list", .ty "tuple"]) nT
      generalize upd H T (.tup [.ty "list", .ty "tuple"]) = G at m1 ⊢
      have hs := Sv.sm hs m1
      refine iteF ⟨_, rfl, .ref a, xs.length, rfl, Sv.len hs, _, _, rfl, rfl, _, rfl, ?_⟩
      have bad : ¬(1 ≤ xs.length ∧ xs.length ≤ 9) → standB xs = false := fun z => by
        unfold standB
        rw [decide_eq_false z]
        rfl
      by_cases c1 : (1 : Int) ≤ (xs.length : Nat)
      · rw [decide_eq_true c1]
        refine iteT ⟨_, _, rfl, rfl, _, rfl, ?_⟩
        by_cases c9 : ((xs.length : Nat) : Int) ≤ 9
        · rw [decide_eq_true c9]
          have good : standB xs = (xs.all nameB && decide xs.Nodup) := by
            unfold standB
            rw [decide_eq_true (by omega), Bool.true_and]
          rw [good] at q
          refine iteF ⟨_, rfl, a, xs, rfl, ?_⟩
          refine lc_sv (fv := fun j => .bl (nameB (xs.getD j .non))) hs hl (fun _ => rfl) (fun j y H2 Q ey s2 qq => ?_) fun D H2 m nD ed => ?_
          · have z2 := qq
            rw [List.getD_eq_getElem?_getD, ey] at z2
            refine ⟨_, rfl, y, rfl, ?_⟩
            rcases hi y (List.mem_of_getElem? ey) with ⟨z, rfl, zl⟩ | ns
            · exact .inl ⟨z, rfl, zl, fun H4 m4 => z2 H4 m4⟩
            · have e0 := NoStr.name ns
              refine .inr ⟨NoStr.sm (NoStr.sm ns m1) s2, ?_⟩
              have z3 := z2 H2 (Sm.refl _)
              rw [show nameB ((some y).getD .non) = nameB y from rfl, e0] at z3
              exact z3
          · refine ⟨D, (List.range xs.length).map fun j => nameB (xs.getD j .non), rfl, .inl (.inl (by rw [ed, List.map_map]; rfl)), _, rfl, ?_⟩
            rw [all_rangeV (p := nameB)]
            by_cases ca : xs.all nameB = true
            · obtain ⟨ws, ew, _⟩ := names_all ca
              rw [ca, Bool.true_and] at q
              rw [ca]
              refine iteT ⟨_, rfl, a, ws, rfl, ew ▸ Sv.sm hs m, by rw [ew, List.length_map] at hl; exact hl, ?_⟩
              have q := q H2 (Sm.trans m1 m)
              rw [ew, decide_eq_decide.mpr nodup_strs] at q
              exact q
            · rw [Bool.not_eq_true] at ca
              rw [ca, Bool.false_and] at q
              rw [ca]
              exact iteF (q H2 (Sm.trans m1 m))
        · rw [decide_eq_false c9]
          rw [bad (by omega)] at q
          exact iteT (q _ m1)
      · rw [decide_eq_false c1]
        rw [bad (by omega)] at q
        exact iteF ⟨_, rfl, iteT (q _ m1)⟩
    · have kk : PySem.W.kitAny K t [.type "list", .type "tuple"] = some false := kitAny_cons (b := false) k1 (fun _ => kitAny_cons (b := false) k2 (fun _ => rfl) fun z => nomatch z) fun z => nomatch z
      refine ⟨_, rfl, c2, fun T nT => ⟨x, T, _, t, _, false, rfl, upd_same, pr, tyx_new ty nT, kk, _, rfl, ?_⟩⟩
      exact iteT (iteT (q _ (Sm.new nT)))
end
end Dk
set_option Elab.async false
set_option linter.all false
set_option maxRecDepth 100000
set_option maxHeartbeats 4000000
namespace Dk
open PySem PySem.Spec PyProof.Rows L2 Er
/-! ### walks over the values of a dict; is_lead, are_sights -/
theorem lc_vals {d : Addr} {o : Obj} {kvs : List (Key × V)} {te : TE} {fv : Nat → V} {σ : L2.St} {i : Nat} {H1 : Hp} {Q : Addr → Hp → Prop} (hd : H1 d = some (.frz o (.dK kvs))) (hn : kvs.length ≤ 1000) (w1 : ∀ v, wipe ((wipe σ [i]).set i (some v)) [i] = wipe σ [i])
    (ev : ∀ (j : Nat) (x : V) (H2 : Hp) (Q : VK), (kvs.map (·.2))[j]? = some x → Sm H1 H2 → (∀ H4, Sm H2 H4 → Q (fv j) H4) → te ((wipe σ [i]).set i (some x)) H2 Q)
    (q : ∀ (D : Addr) (H2 : Hp), Sm H1 H2 → H1 D = none → H2 D = some (.lst ((List.range kvs.length).map fv)) → Q D H2) : LcR te σ i H1 Q (Itd d o kvs) := by
  refine lc_map walk_values hn (fun H2 m => m _ _ hd) w1 (fun j H2 x H3 _ y => by rw [y.1]; exact Sm.refl _) (fun j x H2 H3 Q hj s2 y s3 qq => ?_) q
  obtain ⟨rfl, k, ex⟩ := y
  exact ev j x _ Q (by rw [List.getElem?_map, ex]; rfl) s2 qq
theorem tyx_lock {K : PySem.W.Frag} {H : Hp} {x : V} {t : Value} {d : Addr} {kvs : List (Key × V)} (o : Obj) (h : TyX K H x t) (hd : H d = some (.dK kvs)) : TyX K (upd H d (.frz o (.dK kvs))) x t := by
  have keep : ∀ {a : Addr} {u : HO}, H a = some u → u ≠ .dK kvs → upd H d (.frz o (.dK kvs)) a = some u := fun {a u} e n => by
    rw [upd_ne (fun z => n (by rw [z, hd] at e; exact (Option.some.inj e).symm))]
    exact e
  cases h with
  | base b =>
    cases b with
    | non => exact .base .non
    | bl y => exact .base (.bl y)
    | int i => exact .base (.int i)
    | str y => exact .base (.str y)
    | flt y => exact .base (.flt y)
    | lst e => exact .base (.lst (keep e (fun z => nomatch z)))
    | frz e => exact .base (.frz (keep e (fun z => nomatch z)))
    | tup e => exact .base (.tup (keep e (fun z => nomatch z)))
    | @dK a ks e =>
      by_cases c : a = d
      · subst c
        exact .fDict upd_same
      · exact .base (.dK (by rw [upd_ne c]; exact e))
    | dT e => exact .base (.dT (keep e (fun z => nomatch z)))
    | ins e a b c d f => exact .base (.ins (keep e (fun z => nomatch z)) a b c d f)
  | byt b => exact .byt b
  | set e => exact .set (keep e (fun z => nomatch z))
  | kList e c => exact .kList e c
  | kTuple e c => exact .kTuple e c
  | kDict e c => exact .kDict e c
  | fTuple e => exact .fTuple (keep e (fun z => nomatch z))
  | fDict e => exact .fDict (keep e (fun z => nomatch z))
theorem NoStr.lock {K : PySem.W.Frag} {H : Hp} {x : V} {d : Addr} {kvs : List (Key × V)} (o : Obj) (h : NoStr K H x) (hd : H d = some (.dK kvs)) : NoStr K (upd H d (.frz o (.dK kvs))) x := by
  obtain ⟨t, ty, k⟩ := h
  exact ⟨t, tyx_lock o ty hd, k⟩
theorem Sq.lock {K : PySem.W.Frag} {H : Hp} {a : Addr} {ws : List Str} {d : Addr} {kvs : List (Key × V)} (o : Obj) (h : Sq K H a ws) (hd : H d = some (.dK kvs)) : Sq K (upd H d (.frz o (.dK kvs))) a ws := by
  have keep : ∀ {u : HO}, H a = some u → u ≠ .dK kvs → upd H d (.frz o (.dK kvs)) a = some u := fun {u} e n => by
    rw [upd_ne (fun z => n (by rw [z, hd] at e; exact (Option.some.inj e).symm))]
    exact e
  rcases h with ((h | ⟨p, h⟩) | h) | ((h | ⟨p, h⟩) | h)
  · exact .inl (.inl (.inl (keep h (fun z => nomatch z))))
  · exact .inl (.inl (.inr ⟨p, keep h (fun z => nomatch z)⟩))
  · exact .inl (.inr h)
  · exact .inr (.inl (.inl (keep h (fun z => nomatch z))))
  · exact .inr (.inl (.inr ⟨p, keep h (fun z => nomatch z)⟩))
  · exact .inr (.inr h)
theorem sm_unlock {H H1 : Hp} {d : Addr} {u : HO} {o : Obj} (hd : H d = some u) (m : Sm (upd H d (.frz o u)) H1) : Sm H (upd H1 d u) := fun b v e => by
  by_cases c : b = d
  · subst c
    rw [hd] at e
    rw [upd_same]
    exact e
  · rw [upd_ne c]
    exact m b v (by rw [upd_ne c]; exact e)
def oneB (ws : List Str) : V → Bool
  | .str z => decide (z ∈ ws)
  | _ => false
theorem NoStr.one {K : PySem.W.Frag} {H : Hp} {v : V} (ws : List Str) (h : NoStr K H v) : oneB ws v = false := by
  have e := NoStr.name h
  cases v with
  | str z =>
    obtain ⟨t, ty, k⟩ := h
    cases ty with
    | base b =>
      cases b
      rw [show PySem.W.kitOne K (.type "str") (.type "str") = some true from kit_ty (by decide +kernel)] at k
      cases k
  | _ => rfl
def leadB (kvs : List (Key × V)) (ws : List Str) : Bool := tableB kvs ws && (kvs.map (·.2)).all (oneB ws)
def sightB (kvs : List (Key × V)) (ws : List Str) : Bool := tableB kvs ws && (kvs.map (·.2)).all nameB
/-- a table or no table, whose keys are some names -/
def spTab (K : PySem.W.Frag) (B : List (Key × V) → List Str → Bool) : Sp := fun vs H Q _ => ∃ (x : V) (k : Addr) (ws : List Str), vs = [x, .ref k] ∧ Sq K H k ws ∧ ws.length ≤ 1000 ∧
  ((∃ (d : Addr) (kvs : List (Key × V)), x = .ref d ∧ H d = some (.dK kvs) ∧ kvs.length ≤ 1000 ∧ (∀ y ∈ kvs.map (·.2), Itm K H y) ∧ ∀ H', Sm H H' → Q (.bl (B kvs ws)) H') ∨ (NoDict K H x ∧ ∀ H', Sm H H' → Q (.bl false) H'))
abbrev nLead : List Str := ["value", "standings", "target"]
theorem scLead : FnScope nLead ["value", "standings"] (defScope (top 20)) := ⟨rfl, rfl, rfl, by decide +kernel, rfl, by decide +kernel, by decide +kernel⟩
abbrev nAreS : List Str := ["value", "standings", "sight"]
theorem scAreS : FnScope nAreS ["value", "standings"] (defScope (top 21)) := ⟨rfl, rfl, rfl, by decide +kernel, rfl, by decide +kernel, by decide +kernel⟩
section
variable {P : Program} {w : World} {K : PySem.W.Frag} {mg : Str → Option Value} {base : Heap} {f fI fT fO : Addr} {fd dI dT dO : FuncData}
theorem bTb (F : FnP K "is_table" (top 12) fT dT) : Binds K dT ["value", "keys"] [] := F.bindsN fun _ _ _ _ _ _ us hl => match us, hl with
  | [_, _], _ => rfl
theorem bO (F : FnP K "is_one_of" (top 10) fO dO) : Binds K dO ["value", "names"] [] := F.bindsN fun _ _ _ _ _ _ us hl => match us, hl with
  | [_, _], _ => rfl
theorem ok_lead (F : FnP K "is_lead" (top 20) f fd) (ma : mg "all" = none)
    (GT : FnOk P w K mg base CX0 1 fT dT ["value", "keys"] (spTable K)) (FT : FnP K "is_table" (top 12) fT dT) (gT : mg "is_table" = some (.ref fT)) (GO : FnOk P w K mg base CX0 1 fO dO nOneOf (spOneOf K)) (FO : FnP K "is_one_of" (top 10) fO dO) (gO : mg "is_one_of" = some (.ref fO)) :
    FnOk P w K mg base CX0 2 f fd ["value", "standings"] (spTab K leadB) := by
  refine F.ok (CX := CX0) scLead (fun vs H Q E h => ?_) (fun cdv A outer s H vs Q E hr h => ?_)
  · obtain ⟨x, k, ws, rfl, _⟩ := h
    rfl
  · refine ⟨_, PSs.nox (pss_cons (ps_if (pt_not (pt_val (by exact (pe_call GT hr rfl gT FT.kp (bTb FT) .nil pass0 (pa_cons (pv 0) (pa_cons (pv 1) pa_nil)))) (fun _ => rfl))) (pss_one (ps_ret pe_bl)) pss_nil)
      (pss_one (ps_ret (by exact (pe_callB (cr_all rfl) rfl ma PyProof.Rows.boot_all (pa_cons (pe_lock (by exact (pe_lc (own := [("target", 2)]) (g := gName 2) (tt := tYes) (te := tCall (spOneOf K) [] E0 (tCons (tVar 2) (tCons (tVar 1) tNil))) rfl scLead.nd (pi_values (pv 0))
        (blkOk_by (N := nLead) (sc := defScope (top 20)) (by decide +kernel)) (fun _ _ _ _ _ => pg_name (i := 2) scLead.nd rfl (Or.inl rfl)) (fun _ _ _ _ _ => pts_nil) (fun _ _ _ _ _ => by exact (pe_call GO hr rfl gO FO.kp (bO FO) .nil pass0 (pa_cons (by exact (pv 2)) (pa_cons (by exact (pv 1)) pa_nil))))))) pa_nil)))))), ?_⟩
    obtain ⟨x, k, ws, rfl, hk, kl, h⟩ := h
    refine ⟨_, rfl, _, rfl, x, k, ws, rfl, hk, kl, ?_⟩
    rcases h with ⟨d, kvs, rfl, hd, dl, hi, q⟩ | ⟨nd, q⟩
    · refine .inl ⟨d, kvs, rfl, hd, fun H1 m1 => ⟨_, rfl, ?_⟩⟩
      by_cases c : tableB kvs ws = true
      · rw [c]
        have hd1 := m1 _ _ hd
        refine iteF ⟨d, .dK kvs, hd1, True.intro, fun od => ⟨_, rfl, d, od, kvs, rfl, upd_same, ?_⟩⟩
        have hk1 := Sq.lock od (Sq.sm hk m1) hd1
        refine lc_vals (fv := fun j => .bl (oneB ws ((kvs.map (·.2)).getD j .non))) upd_same dl (fun _ => rfl) (fun j y H2 Q ey s2 qq => ?_) fun D H2 m nD ed => ?_
        · have z2 := qq H2 (Sm.refl _)
          rw [List.getD_eq_getElem?_getD, ey] at z2
          refine ⟨_, rfl, _, rfl, y, k, rfl, ?_⟩
          rcases hi y (List.mem_of_getElem? ey) with ⟨z, rfl, zl⟩ | ns
          · exact .inl ⟨z, ws, rfl, by rcases Sq.sm hk1 s2 with a | a; exact .inl a; exact .inr (.inl a), z2⟩
          · refine .inr ⟨NoStr.sm (NoStr.lock od (NoStr.sm ns m1) hd1) s2, ?_⟩
            rw [show oneB ws ((some y).getD .non) = oneB ws y from rfl, NoStr.one ws ns] at z2
            exact z2
        · refine ⟨m _ _ upd_same, D, (List.range kvs.length).map fun j => oneB ws ((kvs.map (·.2)).getD j .non), rfl, ?_, ?_⟩
          · have nd : D ≠ d := fun z => by
              rw [z, upd_same] at nD
              cases nD
            exact .inl (.inl (by rw [upd_ne nd, ed, List.map_map]; rfl))
          · have e : ((List.range kvs.length).map fun j => oneB ws ((kvs.map (·.2)).getD j .non)).all id = leadB kvs ws := by
              have := all_rangeV (xs := kvs.map (·.2)) (p := oneB ws)
              rw [List.length_map] at this
              rw [this]
              unfold leadB
              rw [c, Bool.true_and]
            rw [e]
            exact q _ (Sm.trans m1 (sm_unlock hd1 m))
      · rw [Bool.not_eq_true] at c
        have q := q H1 m1
        unfold leadB at q
        rw [c, Bool.false_and] at q
        rw [c]
        exact iteT q
    · exact .inr ⟨nd, _, rfl, iteT (q H (Sm.refl H))⟩
theorem ok_areS (F : FnP K "are_sights" (top 21) f fd) (ma : mg "all" = none)
    (GT : FnOk P w K mg base CX0 1 fT dT ["value", "keys"] (spTable K)) (FT : FnP K "is_table" (top 12) fT dT) (gT : mg "is_table" = some (.ref fT)) (GI : FnOk P w K mg base CX0 1 fI dI ["value"] (spIsName K)) (FI : FnP K "is_name" (top 9) fI dI) (gI : mg "is_name" = some (.ref fI)) :
    FnOk P w K mg base CX0 2 f fd ["value", "standings"] (spTab K sightB) := by
  refine F.ok (CX := CX0) scAreS (fun vs H Q E h => ?_) (fun cdv A outer s H vs Q E hr h => ?_)
  · obtain ⟨x, k, ws, rfl, _⟩ := h
    rfl
  · refine ⟨_, PSs.nox (pss_one (ps_ret (by exact (pe_and (by exact (pe_call GT hr rfl gT FT.kp (bTb FT) .nil pass0 (pa_cons (pv 0) (pa_cons (pv 1) pa_nil)))) (pe_one (by exact (pe_callB (cr_all rfl) rfl ma PyProof.Rows.boot_all (pa_cons (pe_lock (by exact (pe_lc (own := [("sight", 2)]) (g := gName 2) (tt := tYes) (te := tCall (spIsName K) [] E0 (tCons (tVar 2) tNil)) rfl scAreS.nd (pi_values (pv 0))
        (blkOk_by (N := nAreS) (sc := defScope (top 21)) (by decide +kernel)) (fun _ _ _ _ _ => pg_name (i := 2) scAreS.nd rfl (Or.inl rfl)) (fun _ _ _ _ _ => pts_nil) (fun _ _ _ _ _ => by exact (pe_call GI hr rfl gI FI.kp (bI FI) .nil pass0 (pa_cons (by exact (pv 2)) pa_nil)))))) pa_nil)))))))), ?_⟩
    obtain ⟨x, k, ws, rfl, hk, kl, h⟩ := h
    refine ⟨_, rfl, _, rfl, x, k, ws, rfl, hk, kl, ?_⟩
    rcases h with ⟨d, kvs, rfl, hd, dl, hi, q⟩ | ⟨nd, q⟩
    · refine .inl ⟨d, kvs, rfl, hd, fun H1 m1 => ⟨_, rfl, ?_⟩⟩
      by_cases c : tableB kvs ws = true
      · rw [c]
        have hd1 := m1 _ _ hd
        refine iteT ⟨d, .dK kvs, hd1, True.intro, fun od => ⟨_, rfl, d, od, kvs, rfl, upd_same, ?_⟩⟩
        refine lc_vals (fv := fun j => .bl (nameB ((kvs.map (·.2)).getD j .non))) upd_same dl (fun _ => rfl) (fun j y H2 Q ey s2 qq => ?_) fun D H2 m nD ed => ?_
        · have z2 := qq
          rw [List.getD_eq_getElem?_getD, ey] at z2
          refine ⟨_, rfl, y, rfl, ?_⟩
          rcases hi y (List.mem_of_getElem? ey) with ⟨z, rfl, zl⟩ | ns
          · exact .inl ⟨z, rfl, zl, fun H4 m4 => z2 H4 m4⟩
          · refine .inr ⟨NoStr.sm (NoStr.lock od (NoStr.sm ns m1) hd1) s2, ?_⟩
            have z3 := z2 H2 (Sm.refl _)
            rw [show nameB ((some y).getD .non) = nameB y from rfl, NoStr.name ns] at z3
            exact z3
        · refine ⟨m _ _ upd_same, D, (List.range kvs.length).map fun j => nameB ((kvs.map (·.2)).getD j .non), rfl, ?_, ?_⟩
          · have nd : D ≠ d := fun z => by
              rw [z, upd_same] at nD
              cases nD
            exact .inl (.inl (by rw [upd_ne nd, ed, List.map_map]; rfl))
          · have e : ((List.range kvs.length).map fun j => nameB ((kvs.map (·.2)).getD j .non)).all id = sightB kvs ws := by
              have := all_rangeV (xs := kvs.map (·.2)) (p := nameB)
              rw [List.length_map] at this
              rw [this]
              unfold sightB
              rw [c, Bool.true_and]
            rw [e]
            exact q _ (Sm.trans m1 (sm_unlock hd1 m))
      · rw [Bool.not_eq_true] at c
        have q := q H1 m1
        unfold sightB at q
        rw [c, Bool.false_and] at q
        rw [c]
        exact iteF q
    · exact .inr ⟨nd, _, rfl, iteF (q H (Sm.refl H))⟩
end
end Dk
set_option Elab.async false
set_option linter.all false
set_option maxRecDepth 100000
set_option maxHeartbeats 4000000
namespace Dk
open PySem PySem.Spec PyProof.Rows L2 Er
/-! ### are_deeds -/
theorem pair_at {α β : Type} {F : α → β → Prop} : ∀ {ps : List α} {qs : List β}, Paired F ps qs → ∀ {j : Nat} {p : α}, ps[j]? = some p → ∃ q, qs[j]? = some q ∧ F p q
  | _, _, .nil, j, p, e => by cases e
  | _, _, .cons a t, 0, p, e => by
    have e2 := Option.some.inj e
    subst e2
    exact ⟨_, rfl, a⟩
  | _, _, .cons a t, j + 1, p, e => pair_at t (j := j) e
theorem paired_len {α β : Type} {F : α → β → Prop} {ps : List α} {qs : List β} (h : Paired F ps qs) : ps.length = qs.length := by
  induction h with
  | nil => rfl
  | cons a _ ih => rw [List.length_cons, List.length_cons, ih]
theorem valV_of : ∀ {kvs : List (Key × V)} {j : Nat} {k : Key} {v : V}, (kvs.map (·.1)).Nodup → kvs[j]? = some (k, v) → valV kvs k = some v
  | [], _, _, _, _, e => by cases e
  | (k0, v0) :: kvs, 0, k, v, _, e => by
    have e2 := Option.some.inj e
    cases e2
    unfold valV
    rw [List.find?_cons_of_pos (by simp)]
    rfl
  | (k0, v0) :: kvs, j + 1, k, v, nd, e => by
    have e2 : kvs[j]? = some (k, v) := e
    have nd2 := List.nodup_cons.mp nd
    have ne : k0 ≠ k := fun z => nd2.1 (z ▸ List.mem_map.mpr ⟨_, List.mem_of_getElem? e2, rfl⟩)
    have ih := valV_of nd2.2 e2
    unfold valV at ih ⊢
    rw [List.find?_cons_of_neg (by simpa using ne)]
    exact ih
/-- a value of a dict of deeds: a dict, or something that is none -/
def TabAt (K : PySem.W.Frag) (H : Hp) (d : Addr) (v : V) : Option (List (Key × V)) → Prop
  | some ks => ∃ e, v = .ref e ∧ e ≠ d ∧ H e = some (.dK ks) ∧ ks.length ≤ 1000 ∧ ∀ y ∈ ks.map (·.2), Itm K H y
  | none => NoDict K H v
def entB (ws : List Str) (kv : Key × V) (t : Option (List (Key × V))) : Bool := nameB (kV kv.1) && (match t with
  | some ks => leadB ks ws
  | none => false)
def deedB (kvs : List (Key × V)) (tabs : List (Option (List (Key × V)))) (ws : List Str) : Bool := decide (1 ≤ kvs.length ∧ kvs.length ≤ 4) && ((kvs.zip tabs).map fun p => entB ws p.1 p.2).all id
def spDeeds (K : PySem.W.Frag) : Sp := fun vs H Q _ => ∃ (x : V) (k : Addr) (ws : List Str), vs = [x, .ref k] ∧ Sq K H k ws ∧ ws.length ≤ 1000 ∧
  ((∃ (d : Addr) (kvs : List (Key × V)) (tabs : List (Option (List (Key × V)))), x = .ref d ∧ H d = some (.dK kvs) ∧ kvs.length ≤ 1000 ∧ (kvs.map (·.1)).Nodup ∧ (∀ kv ∈ kvs, ∀ z, kv.1 = .inr z → z.length ≤ 1000) ∧ Paired (fun kv t => TabAt K H d kv.2 t) kvs tabs ∧ ∀ H', Sm H H' → Q (.bl (deedB kvs tabs ws)) H') ∨
    (NoDict K H x ∧ ∀ H', Sm H H' → Q (.bl false) H'))
abbrev nDeeds : List Str := ["value", "standings", "name"]
theorem scDeeds : FnScope nDeeds ["value", "standings"] (defScope (top 19)) := ⟨rfl, rfl, rfl, by decide +kernel, rfl, by decide +kernel, by decide +kernel⟩
theorem range_bools (bs : List Bool) : ((List.range bs.length).map fun j => bs.getD j false) = bs := by
  refine List.ext_getElem (by simp) fun j h1 h2 => ?_
  rw [List.getElem_map, List.getElem_range, List.getD_eq_getElem?_getD, List.getElem?_eq_getElem h2]
  rfl
theorem Itm.sm {K : PySem.W.Frag} {H H2 : Hp} {x : V} (h : Itm K H x) (m : Sm H H2) : Itm K H2 x := by
  rcases h with h | h
  · exact .inl h
  · exact .inr (NoStr.sm h m)
theorem Itm.lock {K : PySem.W.Frag} {H : Hp} {x : V} {d : Addr} {kvs : List (Key × V)} (o : Obj) (h : Itm K H x) (hd : H d = some (.dK kvs)) : Itm K (upd H d (.frz o (.dK kvs))) x := by
  rcases h with h | h
  · exact .inl h
  · exact .inr (NoStr.lock o h hd)
theorem NoDict.sm {K : PySem.W.Frag} {H H2 : Hp} {x : V} (h : NoDict K H x) (m : Sm H H2) : NoDict K H2 x := by
  obtain ⟨t, ty, k⟩ := h
  exact ⟨t, tyx_sm ty m, k⟩
theorem NoDict.lock {K : PySem.W.Frag} {H : Hp} {x : V} {d : Addr} {kvs : List (Key × V)} (o : Obj) (h : NoDict K H x) (hd : H d = some (.dK kvs)) : NoDict K (upd H d (.frz o (.dK kvs))) x := by
  obtain ⟨t, ty, k⟩ := h
  exact ⟨t, tyx_lock o ty hd, k⟩
section
variable {P : Program} {w : World} {K : PySem.W.Frag} {mg : Str → Option Value} {base : Heap} {f fI fL : Addr} {fd dI dL : FuncData}
theorem bLd (F : FnP K "is_lead" (top 20) fL dL) : Binds K dL ["value", "standings"] [] := F.bindsN fun _ _ _ _ _ _ us hl => match us, hl with
  | [_, _], _ => rfl
theorem ok_deeds (F : FnP K "are_deeds" (top 19) f fd) (mi : mg "isinstance" = none) (md : mg "dict" = none) (ml : mg "len" = none) (ma : mg "all" = none)
    (GI : FnOk P w K mg base CX0 1 fI dI ["value"] (spIsName K)) (FI : FnP K "is_name" (top 9) fI dI) (gI : mg "is_name" = some (.ref fI)) (GL : FnOk P w K mg base CX0 2 fL dL ["value", "standings"] (spTab K leadB)) (FL : FnP K "is_lead" (top 20) fL dL) (gL : mg "is_lead" = some (.ref fL)) :
    FnOk P w K mg base CX0 3 f fd ["value", "standings"] (spDeeds K) := by
  refine F.ok (CX := CX0) scDeeds (fun vs H Q E h => ?_) (fun cdv A outer s H vs Q E hr h => ?_)
  · obtain ⟨x, k, ws, rfl, _⟩ := h
    rfl
  · have hr1 := hr.mono (show 1 ≤ 2 by decide)
    refine ⟨_, PSs.nox (pss_cons (ps_if (PW.pt (pw_or (pt_not (pt_val (by exact (pe_callB call_isi rfl mi PyProof.Rows.boot_isinstance (pa_cons (pv 0) (pa_cons (pe_bltn (v := .ty "dict") rfl md (by decide +kernel) rfl) pa_nil))))))
        (pw_or1 (pt_not (pt_chain op_le op_le pe_int (by exact (pe_callB call_lenD rfl ml boot_len (pa_cons (pv 0) pa_nil))) pe_int))))) (pss_one (ps_ret pe_bl)) pss_nil)
      (pss_one (ps_ret (by exact (pe_callB (cr_all rfl) rfl ma PyProof.Rows.boot_all (pa_cons (pe_lock (by exact (pe_lc (own := [("name", 2)]) (g := gName 2) (tt := tYes) (te := tAndV (tCall (spIsName K) [] E0 (tCons (tVar 2) tNil)) (tCall (spTab K leadB) [] E0 (tCons (tDGet (tVar 0) (tVar 2)) (tCons (tVar 1) tNil)))) rfl scDeeds.nd (pi_keys (pv 0))
        (blkOk_by (N := nDeeds) (sc := defScope (top 19)) (by decide +kernel)) (fun _ _ _ _ _ => pg_name (i := 2) scDeeds.nd rfl (Or.inl rfl)) (fun _ _ _ _ _ => pts_nil)
        (fun _ _ _ _ _ => by exact (pe_and (by exact (pe_call GI hr1 rfl gI FI.kp (bI FI) .nil pass0 (pa_cons (by exact (pv 2)) pa_nil))) (pe_one (by exact (pe_call GL hr rfl gL FL.kp (bLd FL) .nil pass0 (pa_cons (by exact (pe_dget (hu_of hr) (by exact (pv 0)) (by exact (pv 2)) (fun _ _ => rfl))) (pa_cons (by exact (pv 1)) pa_nil)))))))))) pa_nil)))))), ?_⟩
    obtain ⟨x, k, ws, rfl, hk, kl, h⟩ := h
    rcases h with ⟨d, kvs, tabs, rfl, hd, dl, nd, zl, pr, q⟩ | ⟨⟨t, ty, kk⟩, q⟩
    · refine ⟨_, rfl, .ref d, .ty "dict", _, _, true, rfl, .ty "dict", .base (.dK hd), kit_ty (by decide +kernel), _, rfl, ?_⟩
      refine iteF ⟨_, rfl, d, kvs, rfl, hd, _, _, rfl, rfl, _, rfl, ?_⟩
      have bad : ¬(1 ≤ kvs.length ∧ kvs.length ≤ 4) → deedB kvs tabs ws = false := fun z => by
        unfold deedB
        rw [decide_eq_false z]
        rfl
      by_cases c1 : (1 : Int) ≤ (kvs.length : Nat)
      · rw [decide_eq_true c1]
        refine iteT ⟨_, _, rfl, rfl, _, rfl, ?_⟩
        by_cases c4 : ((kvs.length : Nat) : Int) ≤ 4
        · rw [decide_eq_true c4]
          have tl : tabs.length = kvs.length := (paired_len pr).symm
          have bl : ((kvs.zip tabs).map fun p => entB ws p.1 p.2).length = kvs.length := by
            rw [List.length_map, List.length_zip]
            omega
          have good : deedB kvs tabs ws = ((kvs.zip tabs).map fun p => entB ws p.1 p.2).all id := by
            unfold deedB
            rw [decide_eq_true (by omega), Bool.true_and]
          rw [good] at q
          refine iteF ⟨d, .dK kvs, hd, True.intro, fun od => ⟨_, rfl, d, od, rfl, .inl ⟨kvs, upd_same, ?_⟩⟩⟩
          have hk1 := Sq.lock od hk hd
          refine lc_map walk_keys (fv := fun j => .bl (((kvs.zip tabs).map fun p => entB ws p.1 p.2).getD j false)) dl (fun H2 m => m _ _ upd_same) (fun _ => rfl) (fun j H2 x H3 _ y => by rw [y.1]; exact Sm.refl _) (fun j x H2 H3 Q hj s2 y s3 qq => ?_) fun D H2 m nD ed => ?_
          · obtain ⟨rfl, kx, v, ekv, rfl⟩ := y
            obtain ⟨tb, et, ht⟩ := pair_at pr ekv
            have eb : ((kvs.zip tabs).map fun p => entB ws p.1 p.2).getD j false = entB ws (kx, v) tb := by
              rw [List.getD_eq_getElem?_getD, List.getElem?_map, List.getElem?_zip_eq_some (z := ((kx, v), tb)) |>.mpr ⟨ekv, et⟩]
              rfl
            rw [eb] at qq
            refine ⟨_, rfl, kV kx, rfl, ?_⟩
            have hd2 : H3 d = some (.frz od (.dK kvs)) := s2 _ _ upd_same
            have go : ∀ H4, Sm H3 H4 → nameB (kV kx) = true → (tCall (spTab K leadB) [] E0 (tCons (tDGet (tVar 0) (tVar 2)) (tCons (tVar 1) tNil))) ((wipe (L2.start nDeeds [V.ref d, V.ref k]) [2]).set 2 (some (kV kx))) H4 Q := fun H4 m4 en => by
              refine ⟨_, rfl, _, rfl, d, v, rfl, .inl ⟨kvs, kx, .inr ⟨od, m4 _ _ hd2⟩, rfl, (valV_of nd ekv).symm⟩, _, rfl, v, k, ws, rfl, Sq.sm hk1 (Sm.trans s2 m4), kl, ?_⟩
              cases tb with
              | some ks =>
                obtain ⟨e, rfl, ned, he, kl2, hi⟩ := ht
                refine .inl ⟨e, ks, rfl, m4 _ _ (s2 _ _ (by rw [upd_ne ned]; exact he)), kl2, fun y hy => Itm.sm (Itm.lock od (hi y hy) hd) (Sm.trans s2 m4), fun H5 m5 => ?_⟩
                have z := qq H5 (Sm.trans m4 m5)
                unfold entB at z
                rw [show nameB (kV (kx, V.ref e).1) = true from en, Bool.true_and] at z
                exact z
              | none =>
                refine .inr ⟨NoDict.sm (NoDict.lock od ht hd) (Sm.trans s2 m4), fun H5 m5 => ?_⟩
                have z := qq H5 (Sm.trans m4 m5)
                unfold entB at z
                rw [Bool.and_false] at z
                exact z
            have stop : ∀ H4, Sm H3 H4 → nameB (kV kx) = false → Q (.bl false) H4 := fun H4 m4 en => by
              have z := qq H4 m4
              unfold entB at z
              rw [show nameB (kV (kx, v).1) = false from en, Bool.false_and] at z
              exact z
            cases kx with
            | inl i => exact .inr ⟨NoStr.int, _, rfl, iteF (stop H3 (Sm.refl _) rfl)⟩
            | inr z =>
              refine .inl ⟨z, rfl, zl _ (List.mem_of_getElem? ekv) z rfl, fun H4 m4 => ⟨_, rfl, ?_⟩⟩
              by_cases cz : IsWord z
              · rw [decide_eq_true cz]
                exact iteT (go H4 m4 (decide_eq_true cz))
              · rw [decide_eq_false cz]
                exact iteF (stop H4 m4 (decide_eq_false cz))
          · refine ⟨m _ _ upd_same, D, (List.range kvs.length).map fun j => ((kvs.zip tabs).map fun p => entB ws p.1 p.2).getD j false, rfl, ?_, ?_⟩
            · have nd : D ≠ d := fun z => by
                rw [z, upd_same] at nD
                cases nD
              exact .inl (.inl (by rw [upd_ne nd, ed, List.map_map]; rfl))
            · rw [← bl, range_bools]
              exact q _ (sm_unlock hd m)
        · rw [decide_eq_false c4]
          rw [bad (by omega)] at q
          exact iteT (q _ (Sm.refl _))
      · rw [decide_eq_false c1]
        rw [bad (by omega)] at q
        exact iteF ⟨_, rfl, iteT (q _ (Sm.refl _))⟩
    · refine ⟨_, rfl, x, .ty "dict", _, _, false, rfl, .ty "dict", ty, kk, _, rfl, ?_⟩
      exact iteT (iteT (q _ (Sm.refl _)))
end
end Dk
set_option Elab.async false
set_option linter.all false
set_option maxRecDepth 100000
set_option maxHeartbeats 4000000
namespace Dk
open PySem PySem.Spec PyProof.Rows L2 Er
/-! ### comprehensions of dicts -/
/-- what a dict comprehension without conditions asks of its walk -/
abbrev DcR (g : TG) (tk tv : TE) (σ : L2.St) (vs : List Nat) (H1 : Hp) (Q : Addr → Hp → Prop) (J : It) : Prop := ∀ D, H1 D = none → ∃ W : Nat → Nat → Hp → Prop, (∃ m, W 0 m (upd H1 D (.dK []))) ∧ ∀ i m H, W i m H →
      (J.stop i H ∧ Q D H) ∨ (J.go i H ∧ ∃ Nx : Hp → Prop, (∀ H', Nx H' → ∃ m', m' < m ∧ W (i + 1) m' H') ∧ ∀ x H', J.yld i H x H' → g x (wipe σ vs) H' fun σ2 H2 => wipe σ2 vs = wipe σ vs ∧ tYes σ2 H2 fun b H3 =>
        if b = true then tk σ2 H3 fun y H4 => tv σ2 H4 fun z H5 => ∃ kvs k, y = kV k ∧ H5 D = some (.dK kvs) ∧ kvs.length < sizeLine ∧ Nx (upd H5 D (.dK (putK kvs k z))) else Nx H3)
theorem dc_it {J : It} {n : Nat} {G : Hp → Prop} {Y : Nat → Hp → V → Hp → Prop} (w : Walk J n G Y) {tk tv : TE} {i : Nat} {σ : L2.St} {H1 : Hp} {Q : Addr → Hp → Prop} (w1 : ∀ v, wipe ((wipe σ [i]).set i (some v)) [i] = wipe σ [i]) (Pv : Addr → Nat → Hp → Prop)
    (h0 : ∀ D, H1 D = none → Pv D 0 (upd H1 D (.dK []))) (hG : ∀ D j H, j ≤ n → Pv D j H → G H)
    (hs : ∀ D j x H H', H1 D = none → j < n → Pv D j H → Y j H x H' → tk ((wipe σ [i]).set i (some x)) H' fun y H4 => tv ((wipe σ [i]).set i (some x)) H4 fun z H5 => ∃ kvs k, y = kV k ∧ H5 D = some (.dK kvs) ∧ kvs.length < sizeLine ∧ Pv D (j + 1) (upd H5 D (.dK (putK kvs k z))))
    (hd : ∀ D H, H1 D = none → Pv D n H → Q D H) : DcR (gName i) tk tv σ [i] H1 Q J := by
  intro D nD
  refine ⟨fun j m H => m = n - j ∧ j ≤ n ∧ Pv D j H, ⟨n, rfl, Nat.zero_le _, h0 D nD⟩, ?_⟩
  rintro j m H ⟨rfl, hj, p⟩
  have q := hG D j H hj p
  by_cases lt : j < n
  · refine .inr ⟨w.goes j H lt q, Pv D (j + 1), fun H' p2 => ⟨n - (j + 1), by omega, rfl, lt, p2⟩, fun x H' y => ⟨w1 x, ?_⟩⟩
    unfold tYes
    dsimp only
    rw [if_pos rfl]
    exact hs D j x H H' nD lt p (w.yields j H x H' lt q y)
  · have e : j = n := by omega
    subst e
    exact .inl ⟨w.stops H q, hd D H nD p⟩
/-- {x: e for x in names} -/
theorem dc_names {K : PySem.W.Frag} {a : Addr} {ws : List Str} {tv : TE} {fv : Nat → V} {σ : L2.St} {i : Nat} {H1 : Hp} {Q : Addr → Hp → Prop} (hk : Sq K H1 a ws) (nd : ws.Nodup) (hn : ws.length ≤ 1000) (w1 : ∀ v, wipe ((wipe σ [i]).set i (some v)) [i] = wipe σ [i])
    (s1 : ∀ v, ((wipe σ [i]).set i (some v))[i]? = some (some v))
    (ev : ∀ (j : Nat) (z : Str) (H2 : Hp) (Q : VK), ws[j]? = some z → Sm H1 H2 → Q (fv j) H2 → tv ((wipe σ [i]).set i (some (.str z))) H2 Q)
    (q : ∀ (D : Addr) (H2 : Hp), Sm H1 H2 → H1 D = none → H2 D = some (.dK (dkv ws ((List.range ws.length).map fv))) → Q D H2) :
    (SqL K H1 a (ws.map V.str) ∧ DcR (gName i) (tVar i) tv σ [i] H1 Q (Itl K a)) ∨ (SqT K H1 a (ws.map V.str) ∧ DcR (gName i) (tVar i) tv σ [i] H1 Q (Itt K a)) := by
  have hl : (ws.map V.str).length = ws.length := List.length_map _
  have step : ∀ (D : Addr) (j : Nat) (x : V) (H : Hp), H1 D = none → j < ws.length → (H D = some (.dK (dkv (ws.take j) ((List.range j).map fv))) ∧ Sm H1 H) → (ws.map V.str)[j]? = some x →
      (tVar i) ((wipe σ [i]).set i (some x)) H fun y H4 => tv ((wipe σ [i]).set i (some x)) H4 fun z H5 => ∃ kvs k, y = kV k ∧ H5 D = some (.dK kvs) ∧ kvs.length < sizeLine ∧ ((upd H5 D (.dK (putK kvs k z))) D = some (.dK (dkv (ws.take (j + 1)) ((List.range (j + 1)).map fv))) ∧ Sm H1 (upd H5 D (.dK (putK kvs k z)))) := by
    rintro D j x H nD hj ⟨ed, sm⟩ ex
    have ez : ws[j]? = some (ws[j]'hj) := List.getElem?_eq_getElem hj
    have e2 : x = .str (ws[j]'hj) := by
      rw [List.getElem?_map, ez] at ex
      exact (Option.some.inj ex).symm
    subst e2
    refine ⟨_, s1 _, ev j _ H _ ez sm ?_⟩
    have l1 : ((List.range j).map fv).length = (ws.take j).length := by
      rw [List.length_map, List.length_range, List.length_take]
      omega
    have tk : ws.take (j + 1) = ws.take j ++ [ws[j]'hj] := by
      rw [List.take_add_one, ez]
      rfl
    refine ⟨_, .inr (ws[j]'hj), rfl, ed, by rw [dkv_len l1, List.length_take, sizeLine_eq]; omega, ?_, ?_⟩
    · rw [upd_same, put_new]
      · rw [tk, List.range_succ, List.map_append]
        unfold dkv
        rw [List.map_append, List.zip_append (by rw [List.length_map]; exact l1.symm)]
        rfl
      · rw [dkv_keys l1.symm]
        intro z
        obtain ⟨y, hy, e⟩ := List.mem_map.mp z
        have e3 : y = ws[j]'hj := Sum.inr.inj e
        have nd2 : (ws.take j ++ [ws[j]'hj]).Nodup := by
          rw [← tk]
          exact nd.sublist (List.take_sublist _ _)
        exact (List.nodup_append.mp nd2).2.2 y hy _ List.mem_cons_self e3
    · intro b o e
      rw [upd_ne (ne_of_none e nD)]
      exact sm _ _ e
  have fin : ∀ D H, H1 D = none → (H D = some (.dK (dkv (ws.take ws.length) ((List.range ws.length).map fv))) ∧ Sm H1 H) → Q D H := fun D H nD ⟨ed, sm⟩ => q D H sm nD (by rw [List.take_length] at ed; exact ed)
  rcases hk with hk | hk
  · refine .inl ⟨hk, dc_it walk_list w1 (fun D j H => H D = some (.dK (dkv (ws.take j) ((List.range j).map fv))) ∧ Sm H1 H) (fun D nD => ⟨upd_same, Sm.new nD⟩) (fun D j H _ p => SqL.sm hk p.2) (fun D j x H H' nD hj p y => ?_) fun D H nD p => fin D H nD (by rw [hl] at p; exact p)⟩
    obtain ⟨rfl, ex⟩ := y
    exact step D j x _ nD (by omega) p ex
  · refine .inr ⟨hk, dc_it walk_tup w1 (fun D j H => H D = some (.dK (dkv (ws.take j) ((List.range j).map fv))) ∧ Sm H1 H) (fun D nD => ⟨upd_same, Sm.new nD⟩) (fun D j H _ p => SqT.sm hk p.2) (fun D j x H H' nD hj p y => ?_) fun D H nD p => fin D H nD (by rw [hl] at p; exact p)⟩
    obtain ⟨rfl, ex⟩ := y
    exact step D j x _ nD (by omega) p ex
/-- a statement that is never reached -/
def tNever : TS := fun _ _ _ => False
theorem ps_never {X : Cx} {st : Stmt} : PS X st tNever := ⟨fun _ _ _ _ _ _ h => h.elim⟩
end Dk
set_option Elab.async false
set_option linter.all false
set_option maxRecDepth 100000
set_option maxHeartbeats 4000000
namespace Dk
open PySem PySem.Spec PyProof.Rows L2 Er
/-! ### the class of desks: its making -/
def clsBody (s : Stmt) : List Stmt := match s with
  | .ClassDef _ _ _ b _ _ _ _ _ _ _ => b
  | _ => []
def meth (i : Nat) : Stmt := (clsBody (top 17)).getD i (.Pass ⟨0, 0, 0, 0⟩)
/-- the names of the outer comprehension of __init__ -/
abbrev scI1 : Scope := { kind := .function, names := [(".0", .local), ("deed", .cell), ("deeds", .cell), ("standings", .cell)], isGenerator := false, isCoroutine := false }
abbrev nInit : List Str := ["self", "standings", "deeds", "sights", "deed", "one"]
theorem scInit : FnScope nInit ["self", "standings", "deeds", "sights"] (defScope (meth 0)) := ⟨rfl, rfl, rfl, by decide +kernel, rfl, by decide +kernel, by decide +kernel⟩
/-- a desk's own fields -/
def fldsOf (st ld si : Addr) : List (Str × V) := [("_standings", .ref st), ("_leads", .ref ld), ("_sights", .ref si)]
/-- what stands under the names ws in a table -/
def picked (ks : List (Key × V)) (ws : List Str) : List V := ws.map fun z => (valV ks (.inr z)).getD .non
def spInit (K : PySem.W.Frag) (C : Addr) : Sp := fun vs H Q _ => ∃ (x dx sa da ga : Addr) (ws ds : List Str) (us : List V) (tabs : List (List (Key × V))) (gs : List (Key × V)), vs = [.ref x, .ref sa, .ref da, .ref ga] ∧
  H x = some (.ins C dx []) ∧ Sq K H sa ws ∧ ws.Nodup ∧ standB (ws.map V.str) = true ∧ H da = some (.dK (dkv ds us)) ∧ us.length = ds.length ∧ ds.Nodup ∧ (∀ z ∈ ds, IsWord z) ∧
  Paired (fun v t => ∃ e, v = V.ref e ∧ e ≠ da ∧ H e = some (.dK t) ∧ t.length ≤ 1000 ∧ ∀ y ∈ t.map (·.2), Itm K H y) us tabs ∧ deedB (dkv ds us) (tabs.map some) ws = true ∧
  H ga = some (.dK gs) ∧ gs.length ≤ 1000 ∧ (∀ y ∈ gs.map (·.2), Itm K H y) ∧ sightB gs ws = true ∧
  ∀ (st ld si : Addr) (as : List Addr) H', Sx x H H' → H' x = some (.ins C dx (fldsOf st ld si)) → ld ≠ x → si ≠ x → SqT K H' st (ws.map V.str) → H' ld = some (.dK (dkv ds (as.map V.ref))) → H' si = some (.dK (dkv ws (picked gs ws))) →
    Paired (fun a t => a ≠ x ∧ H' a = some (.dK (dkv ws (picked t ws)))) as tabs → Q .non H'
theorem SqL.x {K : PySem.W.Frag} {H H2 : Hp} {a x C dx : Addr} {fs : List (Str × V)} {xs : List V} (h : SqL K H a xs) (hx : H x = some (.ins C dx fs)) (m : Sx x H H2) : SqL K H2 a xs := by
  have ne : ∀ {u : HO}, H a = some u → u ≠ .ins C dx fs → a ≠ x := fun {u} e n z => n (by rw [z, hx] at e; exact (Option.some.inj e).symm)
  rcases h with (h | ⟨o, h⟩) | h
  · exact .inl (.inl (m _ _ (ne h (fun z => nomatch z)) h))
  · exact .inl (.inr ⟨o, m _ _ (ne h (fun z => nomatch z)) h⟩)
  · exact .inr h
theorem SqT.x {K : PySem.W.Frag} {H H2 : Hp} {a x C dx : Addr} {fs : List (Str × V)} {xs : List V} (h : SqT K H a xs) (hx : H x = some (.ins C dx fs)) (m : Sx x H H2) : SqT K H2 a xs := by
  have ne : ∀ {u : HO}, H a = some u → u ≠ .ins C dx fs → a ≠ x := fun {u} e n z => n (by rw [z, hx] at e; exact (Option.some.inj e).symm)
  rcases h with (h | ⟨o, h⟩) | h
  · exact .inl (.inl (m _ _ (ne h (fun z => nomatch z)) h))
  · exact .inl (.inr ⟨o, m _ _ (ne h (fun z => nomatch z)) h⟩)
  · exact .inr h
theorem Sq.x {K : PySem.W.Frag} {H H2 : Hp} {a x C dx : Addr} {fs : List (Str × V)} {ws : List Str} (h : Sq K H a ws) (hx : H x = some (.ins C dx fs)) (m : Sx x H H2) : Sq K H2 a ws := by
  rcases h with h | h
  · exact .inl (SqL.x h hx m)
  · exact .inr (SqT.x h hx m)
theorem tup_either {K : PySem.W.Frag} {H : Hp} {a : Addr} {xs : List V} {R : V → Hp → Prop} (h : SqL K H a xs ∨ SqT K H a xs) (r : ∀ st G, Sm H G → SqT K G st xs → R (.ref st) G) :
    (SqL K H a xs ∧ ∀ l, H l = none → R (.ref l) (upd H l (.tup xs))) ∨ (SqT K H a xs ∧ R (.ref a) H) := by
  rcases h with h | h
  · exact .inl ⟨h, fun l nl => r l _ (Sm.new nl) (.inl (.inl upd_same))⟩
  · exact .inr ⟨h, r a H (Sm.refl _) h⟩
/-- tuple(xs) of a list or a tuple -/
def rTupA (K : PySem.W.Frag) : List V → Hp → VK → Prop := fun vs H Q => ∃ (a : Addr) (xs : List V), vs = [.ref a] ∧ (SqL K H a xs ∨ SqT K H a xs) ∧ ∀ st G, Sm H G → SqT K G st xs → Q (.ref st) G
theorem call_tupA {X : Cx} : CallR X (.type "tuple") (rTupA X.K) := by
  intro pins s σ H vs us Q I r h
  obtain ⟨a, xs, e, h, q⟩ := h
  exact call_tuple_of pins s σ H vs us Q I r ⟨a, xs, e, tup_either (R := Q) h q⟩
theorem range_picked {t : List (Key × V)} {ws : List Str} : ((List.range ws.length).map fun j => (valV t (.inr (ws.getD j ⟨#[]⟩))).getD .non) = picked t ws := by
  unfold picked
  refine List.ext_getElem (by simp) fun j h1 h2 => ?_
  rw [List.length_map] at h2
  rw [List.getElem_map, List.getElem_range, List.getElem_map, List.getD_eq_getElem?_getD, List.getElem?_eq_getElem h2]
  rfl
theorem table_has {t : List (Key × V)} {ws : List Str} {z : Str} (h : tableB t ws = true) (hz : z ∈ ws) : valV t (.inr z) = some ((valV t (.inr z)).getD .non) := by
  unfold tableB at h
  rw [Bool.and_eq_true] at h
  have := List.all_eq_true.mp h.2 z hz
  cases e : valV t (.inr z) with
  | none =>
    rw [e] at this
    cases this
  | some v => rfl
theorem dkv_at {ds : List Str} {us : List V} {j : Nat} {k : Key} {v : V} (h : (dkv ds us)[j]? = some (k, v)) : ∃ z, ds[j]? = some z ∧ k = .inr z ∧ us[j]? = some v := by
  obtain ⟨a, b⟩ := List.getElem?_zip_eq_some.mp h
  rw [List.getElem?_map] at a
  cases e : ds[j]? with
  | none =>
    rw [e] at a
    cases a
  | some z =>
    rw [e] at a
    exact ⟨z, rfl, (Option.some.inj a).symm, b⟩
section
variable {P : Program} {w : World} {K : PySem.W.Frag} {mg : Str → Option Value} {base : Heap} {f C fS fD fG : Addr} {fd dS dD dG : FuncData}
theorem bSt (F : FnP K "are_standings" (top 18) fS dS) : Binds K dS ["value"] [] := F.bindsN fun _ _ _ _ _ _ us hl => match us, hl with
  | [_], _ => rfl
theorem bDd (F : FnP K "are_deeds" (top 19) fD dD) : Binds K dD ["value", "standings"] [] := F.bindsN fun _ _ _ _ _ _ us hl => match us, hl with
  | [_, _], _ => rfl
theorem bSg (F : FnP K "are_sights" (top 21) fG dG) : Binds K dG ["value", "standings"] [] := F.bindsN fun _ _ _ _ _ _ us hl => match us, hl with
  | [_, _], _ => rfl
theorem ok_init (F : FunD K "__init__" "Desk.__init__" (defArgs (meth 0)) (defBody (meth 0)) (defScope (meth 0)) [] [] f fd) (mT : mg "tuple" = none) (hC : Cls K C) (n1 : NoAttr K C "_standings") (n2 : NoAttr K C "_leads") (n3 : NoAttr K C "_sights")
    (GS : FnOk P w K mg base CX0 2 fS dS ["value"] (spStand K)) (FS : FnP K "are_standings" (top 18) fS dS) (gS : mg "are_standings" = some (.ref fS)) (GD : FnOk P w K mg base CX0 3 fD dD ["value", "standings"] (spDeeds K)) (FD : FnP K "are_deeds" (top 19) fD dD) (gD : mg "are_deeds" = some (.ref fD))
    (GG : FnOk P w K mg base CX0 2 fG dG ["value", "standings"] (spTab K sightB)) (FG : FnP K "are_sights" (top 21) fG dG) (gG : mg "are_sights" = some (.ref fG)) :
    FnOk P w K mg base CX0 4 f fd ["self", "standings", "deeds", "sights"] (spInit K C) := by
  refine F.ok (CX := CX0) scInit (fun vs H Q E h => ?_) (fun cdv A outer s H vs Q E hr h => ?_)
  · obtain ⟨x, dx, sa, da, ga, ws, ds, us, tabs, gs, rfl, _⟩ := h
    rfl
  · have hr2 := hr.mono (show 2 ≤ 3 by decide)
    refine ⟨_, PSs.nox (pss_cons (ps_if (pt_not (pt_val (by exact (pe_call GS hr2 rfl gS FS.kp (bSt FS) .nil pass0 (pa_cons (pv 1) pa_nil))) (fun _ => rfl))) (pss_one ps_never) pss_nil)
      (pss_cons (ps_if (pt_not (pt_val (by exact (pe_call GD hr rfl gD FD.kp (bDd FD) .nil pass0 (pa_cons (pv 2) (pa_cons (pv 1) pa_nil)))) (fun _ => rfl))) (pss_one ps_never) pss_nil)
      (pss_cons (ps_if (pt_not (pt_val (by exact (pe_call GG hr2 rfl gG FG.kp (bSg FG) .nil pass0 (pa_cons (pv 3) (pa_cons (pv 1) pa_nil)))) (fun _ => rfl))) (pss_one ps_never) pss_nil)
      (pss_cons (ps_fld (pv 0) (by exact (pe_callTy call_tupA rfl mT PyProof.Rows.boot_tuple (pa_cons (pv 1) pa_nil))) (by rfl))
      (pss_cons (ps_fld (pv 0) (pe_lock (by exact (pe_dc (own := [("deed", 4)]) (g := gName 4) (tt := tYes) (tk := tVar 4) (tv := tDc (iSeq K (tVar 1)) (gName 5) tYes (tVar 5) (tDGet (tDGet (tVar 2) (tVar 4)) (tVar 5)) [5]) rfl scInit.nd (pi_keys (pv 2))
        (blkOk_by (N := nInit) (sc := defScope (meth 0)) (by decide +kernel)) (fun _ _ _ _ _ => pg_name (i := 4) scInit.nd rfl (Or.inr rfl)) (fun _ _ _ _ _ => pts_nil) (fun _ _ _ _ _ => by exact (pv 4))
        (fun _ _ _ _ _ => by exact (pe_dc (own := [("one", 5)]) (g := gName 5) (tt := tYes) rfl scInit.nd (pi_seq (by exact (pv 1)))
          (blkOk_by (N := nInit) (sc := scI1) (by decide +kernel)) (fun _ _ _ _ _ => pg_name (i := 5) scInit.nd rfl (Or.inl rfl)) (fun _ _ _ _ _ => pts_nil) (fun _ _ _ _ _ => by exact (pv 5))
          (fun _ _ _ _ _ => by exact (pe_dget (hu_of hr) (by exact (pe_dget (hu_of hr) (by exact (pv 2)) (by exact (pv 4)) (fun _ _ => rfl))) (by exact (pv 5)) (fun _ _ => rfl)))))))) (by rfl))
      (pss_one (ps_fld (pv 0) (by exact (pe_dc (own := [("one", 5)]) (g := gName 5) (tt := tYes) (tk := tVar 5) (tv := tDGet (tVar 3) (tVar 5)) rfl scInit.nd (pi_seq (pv 1))
        (blkOk_by (N := nInit) (sc := defScope (meth 0)) (by decide +kernel)) (fun _ _ _ _ _ => pg_name (i := 5) scInit.nd rfl (Or.inl rfl)) (fun _ _ _ _ _ => pts_nil) (fun _ _ _ _ _ => by exact (pv 5)) (fun _ _ _ _ _ => by exact (pe_dget (hu_of hr) (by exact (pv 3)) (by exact (pv 5)) (fun _ _ => rfl))))) (by rfl)))))))), ?_⟩
    obtain ⟨x, dx, sa, da, ga, ws, ds, us, tabs, gs, rfl, hx, hs, wnd, hst, hda, ul, dnd, dw, pr, hdeed, hga, gl, gi, hsig, q⟩ := h
    have st9 : ws.length ≤ 9 ∧ ∀ z ∈ ws, z.length ≤ 1000 := by
      unfold standB at hst
      rw [Bool.and_eq_true, Bool.and_eq_true, decide_eq_true_iff, List.length_map] at hst
      refine ⟨hst.1.2, fun z hz => ?_⟩
      have h8 : IsWord z := of_decide_eq_true (List.all_eq_true.mp hst.2.1 (.str z) (List.mem_map.mpr ⟨z, hz, rfl⟩))
      have := h8.2.1
      omega
    have tl : tabs.length = us.length := (paired_len pr).symm
    have dkl : (dkv ds us).length = ds.length := dkv_len (by omega)
    have d4 : ds.length ≤ 4 ∧ ∀ t ∈ tabs, leadB t ws = true := by
      unfold deedB at hdeed
      rw [Bool.and_eq_true, decide_eq_true_iff, dkl] at hdeed
      refine ⟨hdeed.1.2, fun t ht => ?_⟩
      obtain ⟨j, hj, rfl⟩ := List.mem_iff_getElem.mp ht
      have hj2 : j < (dkv ds us).length := by omega
      have := List.all_eq_true.mp hdeed.2 (entB ws ((dkv ds us)[j]'hj2) (some tabs[j])) (List.mem_map.mpr ⟨((dkv ds us)[j]'hj2, some tabs[j]), List.mem_of_getElem? (i := j) (List.getElem?_zip_eq_some.mpr ⟨List.getElem?_eq_getElem hj2, by rw [List.getElem?_map, List.getElem?_eq_getElem hj]; rfl⟩), rfl⟩)
      unfold entB at this
      have this : (nameB (kV ((dkv ds us)[j]'hj2).1) && leadB tabs[j] ws) = true := this
      rw [Bool.and_eq_true] at this
      exact this.2
    have knd : ((dkv ds us).map (·.1)).Nodup := by
      rw [dkv_keys ul.symm]
      exact List.Pairwise.map _ (fun a b n z => n (Sum.inr.inj z)) dnd
    refine ⟨_, rfl, .ref sa, rfl, .inl ⟨sa, ws.map V.str, rfl, hs, by rw [List.length_map]; omega, fun y hy => ?_, fun H1 m1 => ⟨_, rfl, ?_⟩⟩⟩
    · obtain ⟨z, hz, rfl⟩ := List.mem_map.mp hy
      exact .inl ⟨z, rfl, st9.2 z hz⟩
    rw [hst]
    refine iteF ⟨_, rfl, _, rfl, .ref da, sa, ws, rfl, Sq.sm hs m1, by omega, .inl ⟨da, dkv ds us, tabs.map some, rfl, m1 _ _ hda, by omega, knd, fun kv hk z ez => ?_, ?_, fun H2 m2 => ⟨_, rfl, ?_⟩⟩⟩
    · obtain ⟨j, hj⟩ := List.mem_iff_getElem?.mp hk
      obtain ⟨k, v⟩ := kv
      obtain ⟨z2, e1, e2, _⟩ := dkv_at hj
      have ez : k = .inr z := ez
      rw [e2] at ez
      have e3 : z2 = z := Sum.inr.inj ez
      have := (dw z2 (List.mem_of_getElem? e1)).2.1
      rw [← e3]
      omega
    · refine paired_of (by rw [List.length_map]; omega) fun j kv t e1 e2 => ?_
      obtain ⟨k, v⟩ := kv
      obtain ⟨z2, _, _, ev⟩ := dkv_at e1
      obtain ⟨t2, et, e, ee, ne, he, hl, hi⟩ := pair_at pr ev
      rw [List.getElem?_map, et] at e2
      have e3 : some t2 = t := Option.some.inj e2
      subst e3
      exact ⟨e, ee, ne, m1 _ _ he, hl, fun y hy => Itm.sm (hi y hy) m1⟩
    rw [hdeed]
    have m12 := Sm.trans m1 m2
    refine iteF ⟨_, rfl, _, rfl, .ref ga, sa, ws, rfl, Sq.sm hs m12, by omega, .inl ⟨ga, gs, rfl, m12 _ _ hga, gl, fun y hy => Itm.sm (gi y hy) m12, fun H3 m3 => ⟨_, rfl, ?_⟩⟩⟩
    rw [hsig]
    refine iteF ?_
    have m := Sm.trans m12 m3
    clear m1 m2 m3 m12
    have hx3 := m _ _ hx
    have hs3 := Sq.sm hs m
    have hda3 := m _ _ hda
    have hga3 := m _ _ hga
    have pr3 : Paired (fun v t => ∃ e, v = V.ref e ∧ e ≠ da ∧ H3 e = some (.dK t)) us tabs := pair_mono pr fun v _ t ⟨e, a, b, c, _⟩ => ⟨e, a, b, m _ _ c⟩
    have htab : ∀ t ∈ tabs, tableB t ws = true := fun t ht => by
      have := d4.2 t ht
      unfold leadB at this
      rw [Bool.and_eq_true] at this
      exact this.1
    have hgt : tableB gs ws = true := by
      unfold sightB at hsig
      rw [Bool.and_eq_true] at hsig
      exact hsig.1
    refine ⟨_, rfl, sa, ws.map V.str, rfl, hs3, fun st G mG hst2 => ?_⟩
    have hxG := mG _ _ hx3
    refine ⟨_, rfl, x, C, dx, [], rfl, hxG, hC, n1, by show 0 < 1000; decide, ?_⟩
    have m4 : Sx x H (upd G x (.ins C dx (putF "_standings" (.ref st) []))) := (Sx.of (Sm.trans m mG)).trans Sx.upd
    have hs4 : Sq K (upd G x (.ins C dx (putF "_standings" (.ref st) []))) sa ws := Sq.x (Sq.sm hs3 mG) hxG Sx.upd
    have st4 : SqT K (upd G x (.ins C dx (putF "_standings" (.ref st) []))) st (ws.map V.str) := SqT.x hst2 hxG Sx.upd
    have x4 : upd G x (.ins C dx (putF "_standings" (.ref st) [])) x = some (.ins C dx [("_standings", .ref st)]) := upd_same
    have dax : da ≠ x := fun z => by
      rw [z, hx3] at hda3
      cases hda3
    have gax : ga ≠ x := fun z => by
      rw [z, hx3] at hga3
      cases hga3
    have hda4 := m4 _ _ dax hda
    have hga4 := m4 _ _ gax hga
    have pr4 : Paired (fun v t => ∃ e, v = V.ref e ∧ e ≠ da ∧ upd G x (.ins C dx (putF "_standings" (.ref st) [])) e = some (.dK t)) us tabs := pair_mono pr fun v _ t ⟨e, a, b, c, _⟩ => ⟨e, a, b, m4 _ _ (fun z => by rw [z, hx] at c; cases c) c⟩
    generalize upd G x (.ins C dx (putF "_standings" (.ref st) [])) = G4 at m4 hs4 st4 x4 hda4 hga4 pr4 ⊢
    clear hs3 hda3 hga3 pr3 hx3 hst2 hxG mG m
    refine ⟨da, .dK (dkv ds us), hda4, True.intro, fun od => ⟨_, rfl, da, od, rfl, .inl ⟨dkv ds us, upd_same, ?_⟩⟩⟩
    have ndx : da ≠ x := dax
    have hsL := Sq.lock od hs4 hda4
    have xL : upd G4 da (.frz od (.dK (dkv ds us))) x = some (.ins C dx [("_standings", .ref st)]) := by rw [upd_ne (Ne.symm dax)]; exact x4
    have prL : Paired (fun v t => ∃ e, v = V.ref e ∧ e ≠ da ∧ upd G4 da (.frz od (.dK (dkv ds us))) e = some (.dK t)) us tabs := pair_mono pr4 fun v _ t ⟨e, a, b, c⟩ => ⟨e, a, b, by rw [upd_ne b]; exact c⟩
    have dL : upd G4 da (.frz od (.dK (dkv ds us))) da = some (.frz od (.dK (dkv ds us))) := upd_same
    have unl : ∀ H5, Sm (upd G4 da (.frz od (.dK (dkv ds us)))) H5 → Sm G4 (upd H5 da (.dK (dkv ds us))) := fun H5 mm => sm_unlock hda4 mm
    generalize upd G4 da (.frz od (.dK (dkv ds us))) = L at hsL xL prL dL unl ⊢
    refine dc_it walk_keys (fun _ => rfl) (fun D j H => ∃ as : List Addr, as.length = j ∧ H D = some (.dK (dkv (ds.take j) (as.map V.ref))) ∧ Paired (fun a t => H a = some (.dK (dkv ws (picked t ws)))) as (tabs.take j) ∧ (∀ a ∈ as, L a = none ∧ a ≠ D) ∧ Sm L H) (fun D nD => ?_) (fun D j H _ ⟨_, _, _, _, _, sm⟩ => sm _ _ dL) (fun D j x0 H5 H6 nD hj p y => ?_) (fun D H5 nD p => ?_)
    · exact ⟨[], rfl, upd_same, .nil, (fun a ha => nomatch ha), Sm.new nD⟩
    · obtain ⟨as, al, ed, pr5, ap, sm⟩ := p
      obtain ⟨rfl, k, v, ekv, rfl⟩ := y
      obtain ⟨d, e1, rfl, ev⟩ := dkv_at ekv
      obtain ⟨t, et, e, rfl, ne, he⟩ := pair_at prL ev
      have ht := htab t (List.mem_of_getElem? et)
      refine ⟨_, rfl, _, rfl, sa, ws.map V.str, rfl, ?_⟩
      refine dc_names (fv := fun i => (valV t (.inr (ws.getD i ⟨#[]⟩))).getD .non) (Sq.sm hsL sm) wnd (by omega) (fun _ => rfl) (fun _ => rfl) (fun i z H7 Q7 ez s7 hQ => ?_) fun a H7 m7 na ea => ?_
      · have gz : ws.getD i ⟨#[]⟩ = z := by
          rw [List.getD_eq_getElem?_getD, ez]
          rfl
        rw [gz] at hQ
        exact ⟨_, rfl, _, rfl, da, .ref e, rfl, .inl ⟨dkv ds us, .inr d, .inr ⟨od, s7 _ _ (sm _ _ dL)⟩, rfl, (valV_of knd ekv).symm⟩, _, rfl, e, _, rfl, .inl ⟨t, .inr z, .inl (s7 _ _ (sm _ _ he)), rfl, (table_has ht (List.mem_of_getElem? ez)).symm⟩, hQ⟩
      · rw [range_picked] at ea
        have jl : j < ds.length := by omega
        have ej : ds[j]'jl = d := by
          rw [List.getElem?_eq_getElem jl] at e1
          exact Option.some.inj e1
        have tk : ds.take (j + 1) = ds.take j ++ [d] := by
          rw [List.take_add_one, e1]
          rfl
        have tt : tabs.take (j + 1) = tabs.take j ++ [t] := by
          rw [List.take_add_one, et]
          rfl
        have l1 : as.length = (ds.take j).length := by
          rw [List.length_take]
          omega
        have aD : a ≠ D := Ne.symm (ne_of_none ed na)
        refine ⟨_, .inr d, rfl, m7 _ _ ed, by rw [dkv_len (by rw [List.length_map]; omega), List.length_take, sizeLine_eq]; omega, as ++ [a], by rw [List.length_append, al]; rfl, ?_, ?_, ?_, ?_⟩
        · rw [upd_same, put_dkv l1 (by rw [← tk]; exact dnd.sublist (List.take_sublist _ _)), tk]
        · rw [tt]
          refine pair_more (pair_mono pr5 fun b hb t2 eb => ?_) ?_
          · rw [upd_ne (ap b hb).2]
            exact m7 _ _ eb
          · rw [upd_ne aD]
            exact ea
        · intro b hb
          rcases List.mem_append.mp hb with z | z
          · exact ap b z
          · have z2 : b = a := by simpa using z
            rw [z2]
            refine ⟨?_, aD⟩
            cases q2 : L a with
            | none => rfl
            | some u =>
              rw [sm _ _ q2] at na
              cases na
        · intro b o eb
          rw [upd_ne (ne_of_none eb nD)]
          exact m7 _ _ (sm _ _ eb)
    · obtain ⟨as, al, ed, pr5, ap, sm⟩ := p
      rw [dkl] at al ed pr5
      rw [List.take_length] at ed
      rw [List.take_of_length_le (by omega)] at pr5
      refine ⟨sm _ _ dL, _, rfl, x, C, dx, [("_standings", .ref st)], rfl, ?_, hC, n2, by show 1 < 1000; decide, ?_⟩
      · rw [upd_ne (Ne.symm dax)]
        exact sm _ _ xL
      have Dd : D ≠ da := fun z => by
        rw [z, dL] at nD
        cases nD
      have Dx : D ≠ x := fun z => by
        rw [z, xL] at nD
        cases nD
      have asd : ∀ a ∈ as, a ≠ da ∧ a ≠ x := fun a ha => ⟨(fun z => by have := (ap a ha).1; rw [z, dL] at this; cases this), (fun z => by have := (ap a ha).1; rw [z, xL] at this; cases this)⟩
      have u5 := unl H5 sm
      have m6 : Sx x H (upd (upd H5 da (.dK (dkv ds us))) x (.ins C dx (putF "_leads" (.ref D) [("_standings", .ref st)]))) := m4.trans ((Sx.of u5).trans Sx.upd)
      have x5 := u5 _ _ x4
      have hs6 := Sq.x (H2 := (upd (upd H5 da (.dK (dkv ds us))) x (.ins C dx (putF "_leads" (.ref D) [("_standings", .ref st)])))) (Sq.sm hs4 u5) x5 Sx.upd
      have st6 := SqT.x (H2 := (upd (upd H5 da (.dK (dkv ds us))) x (.ins C dx (putF "_leads" (.ref D) [("_standings", .ref st)])))) (SqT.sm st4 u5) x5 Sx.upd
      have x6 : (upd (upd H5 da (.dK (dkv ds us))) x (.ins C dx (putF "_leads" (.ref D) [("_standings", .ref st)]))) x = some (.ins C dx [("_standings", .ref st), ("_leads", .ref D)]) := upd_same
      have hga6 := m6 _ _ gax hga
      have ed6 : (upd (upd H5 da (.dK (dkv ds us))) x (.ins C dx (putF "_leads" (.ref D) [("_standings", .ref st)]))) D = some (.dK (dkv ds (as.map V.ref))) := by
        rw [upd_ne Dx, upd_ne Dd]
        exact ed
      have pr6 : Paired (fun a t => a ≠ x ∧ (upd (upd H5 da (.dK (dkv ds us))) x (.ins C dx (putF "_leads" (.ref D) [("_standings", .ref st)]))) a = some (.dK (dkv ws (picked t ws)))) as tabs := pair_mono pr5 fun a ha t e => ⟨(asd a ha).2, by
        rw [upd_ne (asd a ha).2, upd_ne (asd a ha).1]
        exact e⟩
      generalize (upd (upd H5 da (.dK (dkv ds us))) x (.ins C dx (putF "_leads" (.ref D) [("_standings", .ref st)]))) = G6 at m6 hs6 st6 x6 hga6 ed6 pr6 ⊢
      refine ⟨_, rfl, sa, ws.map V.str, rfl, ?_⟩
      refine dc_names (fv := fun i => (valV gs (.inr (ws.getD i ⟨#[]⟩))).getD .non) hs6 wnd (by omega) (fun _ => rfl) (fun _ => rfl) (fun i z H7 Q7 ez s7 hQ => ?_) fun si H7 m7 nsi esi => ?_
      · have gz : ws.getD i ⟨#[]⟩ = z := by
          rw [List.getD_eq_getElem?_getD, ez]
          rfl
        rw [gz] at hQ
        exact ⟨_, rfl, _, rfl, ga, _, rfl, .inl ⟨gs, .inr z, .inl (s7 _ _ hga6), rfl, (table_has hgt (List.mem_of_getElem? ez)).symm⟩, hQ⟩
      · rw [range_picked] at esi
        have six : si ≠ x := fun z => by
          rw [z, x6] at nsi
          cases nsi
        refine ⟨_, rfl, x, C, dx, [("_standings", .ref st), ("_leads", .ref D)], rfl, m7 _ _ x6, hC, n3, by show 2 < 1000; decide, ?_⟩
        refine q st D si as _ (m6.trans ((Sx.of m7).trans Sx.upd)) upd_same Dx six (SqT.x (SqT.sm st6 m7) (m7 _ _ x6) Sx.upd) ?_ ?_ ?_
        · rw [upd_ne Dx]
          exact m7 _ _ ed6
        · rw [upd_ne six]
          exact esi
        · exact pair_mono pr6 fun a _ t e => ⟨e.1, by
            rw [upd_ne e.1]
            exact m7 _ _ e.2⟩
end
end Dk
set_option Elab.async false
set_option linter.all false
set_option maxRecDepth 100000
set_option maxHeartbeats 4000000
namespace Dk
open PySem PySem.Spec PyProof.Rows L2 Er
/-! ### _law_made -/
/-- a desk of the program at x -/
def DeskOb (K : PySem.W.Frag) (C : Addr) (H : Hp) (x : Addr) (ws ds : List Str) (tb : List (List Str)) (ls : List Str) : Prop := ∃ (dx st ld si : Addr) (as : List Addr), H x = some (.ins C dx (fldsOf st ld si)) ∧ SqT K H st (ws.map V.str) ∧
  H ld = some (.dK (dkv ds (as.map V.ref))) ∧ H si = some (.dK (dkv ws (ls.map V.str))) ∧ Paired (fun a vs => H a = some (.dK (dkv ws (vs.map V.str)))) as tb
/-- the entries of a table in the opposite sequence -/
def back (ws vs : List Str) : List (Key × V) := (dkv ws (vs.map V.str)).reverse
theorem back_nd {ws vs : List Str} (e : vs.length = ws.length) (nd : ws.Nodup) : ((back ws vs).map (·.1)).Nodup := by
  unfold back
  rw [List.map_reverse, dkv_keys (by rw [List.length_map, e])]
  exact List.pairwise_reverse.mpr (List.Pairwise.map _ (fun a b n z => n (Sum.inr.inj z).symm) nd)
theorem back_len {ws vs : List Str} (e : vs.length = ws.length) : (back ws vs).length = ws.length := by
  unfold back
  rw [List.length_reverse, dkv_len (by rw [List.length_map, e])]
theorem back_at {ws vs : List Str} (e : vs.length = ws.length) (nd : ws.Nodup) {j : Nat} {z v : Str} (h1 : ws[j]? = some z) (h2 : vs[j]? = some v) : valV (back ws vs) (.inr z) = some (.str v) := by
  have m : ((Sum.inr z, V.str v) : Key × V) ∈ back ws vs := by
    unfold back
    refine List.mem_reverse.mpr (List.mem_of_getElem? (i := j) (List.getElem?_zip_eq_some.mpr ⟨?_, ?_⟩))
    · rw [List.getElem?_map, h1]
      rfl
    · rw [List.getElem?_map, h2]
      rfl
  obtain ⟨i, hi⟩ := List.mem_iff_getElem?.mp m
  exact valV_of (back_nd e nd) hi
theorem picked_back {ws vs : List Str} (e : vs.length = ws.length) (nd : ws.Nodup) : picked (back ws vs) ws = vs.map V.str := by
  unfold picked
  refine List.ext_getElem (by rw [List.length_map, List.length_map, e]) fun j h1 h2 => ?_
  rw [List.length_map] at h1 h2
  rw [List.getElem_map, List.getElem_map, back_at e nd (List.getElem?_eq_getElem h1) (List.getElem?_eq_getElem h2)]
  rfl
theorem back_table {ws vs : List Str} (e : vs.length = ws.length) (nd : ws.Nodup) : tableB (back ws vs) ws = true := by
  unfold tableB
  rw [back_len e, decide_eq_true rfl, Bool.true_and, List.all_eq_true]
  intro z hz
  obtain ⟨j, hj, rfl⟩ := List.mem_iff_getElem.mp hz
  rw [back_at e nd (List.getElem?_eq_getElem hj) (List.getElem?_eq_getElem (by omega))]
  rfl
theorem back_vals {ws vs : List Str} (e : vs.length = ws.length) : (back ws vs).map (·.2) = (vs.map V.str).reverse := by
  unfold back
  rw [List.map_reverse]
  congr 1
  exact List.map_snd_zip (by rw [List.length_map, List.length_map, e]; exact Nat.le_refl _)
theorem back_lead {ws vs : List Str} (e : vs.length = ws.length) (nd : ws.Nodup) (h : ∀ z ∈ vs, z ∈ ws) : leadB (back ws vs) ws = true := by
  unfold leadB
  rw [back_table e nd, Bool.true_and, back_vals e, List.all_eq_true]
  intro y hy
  obtain ⟨z, hz, rfl⟩ := List.mem_map.mp (List.mem_reverse.mp hy)
  exact decide_eq_true (h z hz)
theorem back_sight {ws vs : List Str} (e : vs.length = ws.length) (nd : ws.Nodup) (h : ∀ z ∈ vs, IsWord z) : sightB (back ws vs) ws = true := by
  unfold sightB
  rw [back_table e nd, Bool.true_and, back_vals e, List.all_eq_true]
  intro y hy
  obtain ⟨z, hz, rfl⟩ := List.mem_map.mp (List.mem_reverse.mp hy)
  exact decide_eq_true (h z hz)
theorem back_itm {K : PySem.W.Frag} {H : Hp} {ws vs : List Str} (e : vs.length = ws.length) (h : ∀ z ∈ vs, IsWord z) : ∀ y ∈ (back ws vs).map (·.2), Itm K H y := fun y hy => by
  rw [back_vals e] at hy
  obtain ⟨z, hz, rfl⟩ := List.mem_map.mp (List.mem_reverse.mp hy)
  have := (h z hz).2.1
  exact .inl ⟨z, rfl, by omega⟩
theorem deeds_ok {ws ds : List Str} {us : List V} {tb : List (List Str)} (ul : us.length = ds.length) (tl : tb.length = ds.length) (d1 : 1 ≤ ds.length) (d4 : ds.length ≤ 4) (dw : ∀ z ∈ ds, IsWord z) (nd : ws.Nodup) (h : ∀ vs ∈ tb, vs.length = ws.length ∧ ∀ z ∈ vs, z ∈ ws) :
    deedB (dkv ds us) ((tb.map (back ws)).map some) ws = true := by
  unfold deedB
  rw [dkv_len ul, decide_eq_true ⟨d1, d4⟩, Bool.true_and, List.all_eq_true]
  intro b hb
  obtain ⟨⟨kv, t⟩, hp, rfl⟩ := List.mem_map.mp hb
  obtain ⟨j, hj⟩ := List.mem_iff_getElem?.mp hp
  obtain ⟨a, c⟩ := List.getElem?_zip_eq_some.mp hj
  obtain ⟨k, v⟩ := kv
  obtain ⟨z, ez, ek, _⟩ := dkv_at a
  rw [List.getElem?_map, List.getElem?_map] at c
  cases e : tb[j]? with
  | none =>
    rw [e] at c
    cases c
  | some vs =>
    rw [e] at c
    have c2 : some (back ws vs) = t := Option.some.inj c
    subst c2 ek
    have q := h vs (List.mem_of_getElem? e)
    show (decide (IsWord z) && leadB (back ws vs) ws) = true
    rw [decide_eq_true (dw z (List.mem_of_getElem? ez)), back_lead q.1 nd q.2]
    rfl
theorem stand_ok {ws : List Str} (n1 : 1 ≤ ws.length) (n9 : ws.length ≤ 9) (nd : ws.Nodup) (h : ∀ z ∈ ws, IsWord z) : standB (ws.map V.str) = true := by
  unfold standB
  rw [List.length_map, decide_eq_true ⟨n1, n9⟩, decide_eq_true (nodup_strs.mpr nd), Bool.true_and, Bool.and_true, List.all_eq_true]
  intro y hy
  obtain ⟨z, hz, rfl⟩ := List.mem_map.mp hy
  exact decide_eq_true (h z hz)
theorem dkv_ne {ws ds vs : List Str} {as : List Addr} (n1 : 1 ≤ ws.length) (e : vs.length = ws.length) : dkv ws (vs.map V.str) ≠ dkv ds (as.map V.ref) := by
  intro h
  cases ws with
  | nil => exact absurd n1 (by decide)
  | cons w ws =>
    cases vs with
    | nil => simp at e
    | cons v vs =>
      cases ds with
      | nil => exact nomatch (show ((Sum.inr w, V.str v) : Key × V) :: dkv ws (vs.map V.str) = [] from h)
      | cons d ds =>
        cases as with
        | nil => exact nomatch (show ((Sum.inr w, V.str v) : Key × V) :: dkv ws (vs.map V.str) = [] from h)
        | cons a as =>
          have h2 : ((Sum.inr w, V.str v) : Key × V) :: dkv ws (vs.map V.str) = (Sum.inr d, V.ref a) :: dkv ds (as.map V.ref) := h
          have h3 := congrArg (fun l : List (Key × V) => (l.head?.map (·.2))) h2
          exact nomatch (show (some (V.str v) : Option V) = some (V.ref a) from h3)
def spMade (K : PySem.W.Frag) (C : Addr) : Sp := fun vs H Q _ => ∃ (u nm dd sg : Addr) (ws ds : List Str) (as : List Addr) (tb : List (List Str)) (ls : List Str) (m : Nat), vs = [.ref u] ∧ DkAt H u nm dd sg ws ds as tb ls ∧ DkIs m ws ds tb ls ∧ m ≤ 9 ∧
  ∀ x H', Sm H H' → H x = none → DeskOb K C H' x ws ds tb ls → Q (.ref x) H'
abbrev nMade : List Str := ["_law_desk_here", "_law_deeds", "_law_deed"]
theorem scMade : FnScope nMade ["_law_desk_here"] (defScope (top 42)) := ⟨rfl, rfl, rfl, by decide +kernel, rfl, by decide +kernel, by decide +kernel⟩
section
variable {P : Program} {w : World} {K : PySem.W.Frag} {mg : Str → Option Value} {base : Heap} {f C fI fT : Addr} {fd dI dT : FuncData}
theorem bTu (F : FnP K "_law_turned" (top 41) fT dT) : Binds K dT ["_law_some"] [] := F.bindsN fun _ _ _ _ _ _ us hl => match us, hl with
  | [_], _ => rfl
theorem ok_made (F : FnP K "_law_made" (top 42) f fd) (mL : mg "list" = none) (gC : mg "Desk" = some (.ref C)) (M : Mk K C fI) (GI : FnOk P w K mg base CX0 4 fI dI ["self", "standings", "deeds", "sights"] (spInit K C)) (bIn : Binds K dI ["self", "standings", "deeds", "sights"] [])
    (GT : FnOk P w K mg base CX0 1 fT dT ["_law_some"] spTurned) (FT : FnP K "_law_turned" (top 41) fT dT) (gT : mg "_law_turned" = some (.ref fT)) :
    FnOk P w K mg base CX0 6 f fd ["_law_desk_here"] (spMade K C) := by
  refine F.ok (CX := CX0) scMade (fun vs H Q E h => ?_) (fun cdv A outer s H vs Q E hr h => ?_)
  · obtain ⟨u, nm, dd, sg, ws, ds, as, tb, ls, m, rfl, _⟩ := h
    rfl
  · have hr1 := hr.mono (show 1 ≤ 5 by decide)
    refine ⟨_, PSs.nox (pss_cons (ps_set (i := 1) scMade.nd rfl (.inl rfl) pe_dnewK)
      (pss_cons (ps_lock (ps_for PassesOwn.never rfl (pi_keys (by exact (pe_ix ix_tup (pv 0) pe_int (fun _ _ => rfl)))) (pg_name (i := 2) scMade.nd rfl (.inl rfl))
        (pss_one (ps_dput (hu_of hr) (pv 1) (pv 2) (by exact (pe_call GT hr1 rfl gT FT.kp (bTu FT) .nil pass0 (pa_cons (by exact (pe_dget (hu_of hr) (by exact (pe_ix ix_tup (pv 0) pe_int (fun _ _ => rfl))) (pv 2) (fun _ _ => rfl))) pa_nil))) (by rfl)))))
      (pss_one (ps_ret (by exact (pe_make M GI hr rfl gC bIn .nil pass0 (pa_cons (by exact (pe_callTy call_list_of rfl mL PyProof.Rows.boot_list (pa_cons (pe_ix ix_tup (pv 0) pe_int (fun _ _ => rfl)) pa_nil))) (pa_cons (pv 1) (pa_cons (by exact (pe_call GT hr1 rfl gT FT.kp (bTu FT) .nil pass0 (pa_cons (by exact (pe_ix ix_tup (pv 0) pe_int (fun _ _ => rfl))) pa_nil))) pa_nil))))))))), ?_⟩
    obtain ⟨u, nm, dd, sg, ws, ds, as, tb, ls, m, rfl, ⟨hu, hnm, hdd, hsg, pr⟩, is, m9, q⟩ := h
    intro ne nne
    have fresh : ∀ {b : Addr} {o : HO}, H b = some o → b ≠ ne := fun {b o} e z => by
      rw [z, nne] at e
      cases e
    have tl := is.rows
    have al : as.length = ds.length := by rw [paired_len pr, tl]
    have udd : u ≠ dd := fun z => by
      rw [z, hdd] at hu
      cases hu
    have s0 := Sm.new (o := .dK []) nne
    have add : ∀ vs ∈ tb, vs.length = ws.length := fun vs hv => (is.row vs hv).1
    have prd : Paired (fun a vs => a ≠ dd ∧ a ≠ ne ∧ H a = some (.dK (dkv ws (vs.map V.str)))) as tb := paired_of (paired_len pr) fun j a vs e1 e2 => by
      obtain ⟨vs2, e3, e4⟩ := pair_at pr e1
      rw [e2] at e3
      have e5 := Option.some.inj e3
      subst e5
      refine ⟨fun z => ?_, fresh e4, e4⟩
      rw [z, hdd] at e4
      have e6 := HO.dK.inj (Option.some.inj e4)
      exact dkv_ne is.some (add vs (List.mem_of_getElem? e2)) e6.symm
    refine ⟨dd, .dK (dkv ds (as.map V.ref)), s0 _ _ hdd, True.intro, fun od => ?_⟩
    have uL : upd (upd H ne (.dK [])) dd (.frz od (.dK (dkv ds (as.map V.ref)))) u = some (.tup [.ref nm, .ref dd, .ref sg]) := by
      rw [upd_ne udd]
      exact s0 _ _ hu
    have dL : upd (upd H ne (.dK [])) dd (.frz od (.dK (dkv ds (as.map V.ref)))) dd = some (.frz od (.dK (dkv ds (as.map V.ref)))) := upd_same
    have neL : upd (upd H ne (.dK [])) dd (.frz od (.dK (dkv ds (as.map V.ref)))) ne = some (.dK []) := by
      rw [upd_ne (Ne.symm (fresh hdd)), upd_same]
    have prL : Paired (fun a vs => a ≠ ne ∧ upd (upd H ne (.dK [])) dd (.frz od (.dK (dkv ds (as.map V.ref)))) a = some (.dK (dkv ws (vs.map V.str)))) as tb := pair_mono prd fun a _ vs e => ⟨e.2.1, by
      rw [upd_ne e.1]
      exact s0 _ _ e.2.2⟩
    have unl : ∀ H5, Sx ne (upd (upd H ne (.dK [])) dd (.frz od (.dK (dkv ds (as.map V.ref))))) H5 → Sm H (upd H5 dd (.dK (dkv ds (as.map V.ref)))) := fun H5 mm b o e => by
      by_cases c : b = dd
      · subst c
        rw [hdd] at e
        rw [upd_same]
        exact e
      · rw [upd_ne c]
        exact mm b o (fresh e) (by
          rw [upd_ne c]
          exact s0 _ _ e)
    generalize upd (upd H ne (.dK [])) dd (.frz od (.dK (dkv ds (as.map V.ref)))) = L at uL dL neL prL unl ⊢
    have une : u ≠ ne := fresh hu
    have dne : dd ≠ ne := fresh hdd
    have knd : ((dkv ds (as.map V.ref)).map (·.1)).Nodup := by
      rw [dkv_keys (by rw [List.length_map, al])]
      exact List.Pairwise.map _ (fun a b n z => n (Sum.inr.inj z)) is.dnd
    have dkl : (dkv ds (as.map V.ref)).length = ds.length := dkv_len (by rw [List.length_map, al])
    have d4 := is.dmost
    refine ⟨_, rfl, u, _, 1, .ref dd, rfl, rfl, .inl (.inl uL), rfl, dd, od, rfl, .inl ⟨_, dL, ?_⟩⟩
    refine for_it walk_keys (fun i σ H5 => ∃ (es : List Addr) (v2 : Option V), σ = [some (.ref u), some (.ref ne), v2] ∧ es.length = i ∧ H5 ne = some (.dK (dkv (ds.take i) (es.map V.ref))) ∧ Paired (fun e vs => e ≠ ne ∧ H5 e = some (.dK (back ws vs))) es (tb.take i) ∧ Sx ne L H5) ?_ (fun i σ H5 _ p => ?_) (fun i x σ H5 H6 hi p y => ?_) (fun σ H5 p => ?_)
    · exact ⟨[], none, rfl, rfl, neL, .nil, Sx.refl _ _⟩
    · obtain ⟨_, _, _, _, _, _, mm⟩ := p
      exact mm _ _ dne dL
    · obtain ⟨es, v2, rfl, el, ed, pe, mm⟩ := p
      obtain ⟨rfl, k, v, ekv, rfl⟩ := y
      obtain ⟨d, e1, rfl, ev⟩ := dkv_at ekv
      obtain ⟨a, ea, rfl⟩ : ∃ a, as[i]? = some a ∧ v = .ref a := by
        rw [List.getElem?_map] at ev
        cases e : as[i]? with
        | none =>
          rw [e] at ev
          cases ev
        | some a =>
          rw [e] at ev
          exact ⟨a, rfl, (Option.some.inj ev).symm⟩
      obtain ⟨vs, et, ane, ha⟩ := pair_at prL ea
      have vl := add vs (List.mem_of_getElem? et)
      refine ⟨_, rfl, u, _, 1, .ref dd, rfl, rfl, .inl (.inl (mm _ _ une uL)), rfl, _, rfl, dd, .ref a, rfl, .inl ⟨_, .inr d, .inr ⟨od, mm _ _ dne dL⟩, rfl, (valV_of knd ekv).symm⟩, a, dkv ws (vs.map V.str), rfl, mm _ _ ane ha, ?_, fun e H7 m7 ne7 ee => ?_⟩
      · rw [dkv_keys (by rw [List.length_map, vl])]
        exact List.Pairwise.map _ (fun a b n z => n (Sum.inr.inj z)) is.nd
      · have ene : e ≠ ne := fun z => by
          rw [z, ed] at ne7
          cases ne7
        have il : i < ds.length := by omega
        have tk : ds.take (i + 1) = ds.take i ++ [d] := by
          rw [List.take_add_one, e1]
          rfl
        have tt : tb.take (i + 1) = tb.take i ++ [vs] := by
          rw [List.take_add_one, et]
          rfl
        have l1 : es.length = (ds.take i).length := by
          rw [List.length_take]
          omega
        refine ⟨_, rfl, _, rfl, ne, _, rfl, DPut.k (k := .inr d) (m7 _ _ ed) (by rw [dkv_len (by rw [List.length_map]; omega), List.length_take, sizeLine_eq]; omega), es ++ [e], _, rfl, by rw [List.length_append, el]; rfl, ?_, ?_, ?_⟩
        · rw [upd_same, put_dkv l1 (by rw [← tk]; exact is.dnd.sublist (List.take_sublist _ _)), tk]
        · rw [tt]
          refine pair_more (pair_mono pe fun b _ t2 eb => ⟨eb.1, ?_⟩) ⟨ene, ?_⟩
          · rw [upd_ne eb.1]
            exact m7 _ _ eb.2
          · rw [upd_ne ene]
            exact ee
        · intro b o nb eb
          rw [upd_ne nb]
          exact m7 _ _ (mm b o nb eb)
    · obtain ⟨es, v2, rfl, el, ed, pe, mm⟩ := p
      rw [dkl] at el ed pe
      rw [List.take_length] at ed
      rw [List.take_of_length_le (by omega)] at pe
      refine ⟨mm _ _ dne dL, ?_⟩
      have m5 := unl H5 mm
      have ed5 : upd H5 dd (.dK (dkv ds (as.map V.ref))) ne = some (.dK (dkv ds (es.map V.ref))) := by
        rw [upd_ne (Ne.symm dne)]
        exact ed
      have pe5 : Paired (fun e vs => e ≠ ne ∧ upd H5 dd (.dK (dkv ds (as.map V.ref))) e = some (.dK (back ws vs))) es tb := paired_of (paired_len pe) fun j e vs e1 e2 => by
        obtain ⟨vs2, e3, e4, e5⟩ := pair_at pe e1
        rw [e2] at e3
        have e6 := Option.some.inj e3
        subst e6
        refine ⟨e4, ?_⟩
        have edd : e ≠ dd := fun z => by
          rw [z, mm _ _ dne dL] at e5
          cases e5
        rw [upd_ne edd]
        exact e5
      generalize upd H5 dd (.dK (dkv ds (as.map V.ref))) = G at m5 ed5 pe5 ⊢
      have u5 := m5 _ _ hu
      refine ⟨_, rfl, u, _, 0, .ref nm, rfl, rfl, .inl (.inl u5), rfl, nm, ws.map V.str, rfl, .inl (.inl (.inl (m5 _ _ hnm))), fun l nl => ?_⟩
      have s6 := Sm.new (o := .lst (ws.map V.str)) nl
      refine ⟨_, rfl, _, rfl, u, _, 2, .ref sg, rfl, rfl, .inl (.inl (s6 _ _ u5)), rfl, sg, dkv ws (ls.map V.str), rfl, s6 _ _ (m5 _ _ hsg), ?_, fun g H7 m7 ng eg => ?_⟩
      · rw [dkv_keys (by rw [List.length_map, is.looks])]
        exact List.Pairwise.map _ (fun a b n z => n (Sum.inr.inj z)) is.nd
      have l7 := m7 _ _ (upd_same (H := G) (a := l) (o := .lst (ws.map V.str)))
      have m7 := Sm.trans s6 m7
      intro x dx nx ndx nex
      have mx : Sm H7 (upd (upd H7 dx (.own x)) x (.ins C dx [])) := Sm.trans (Sm.new ndx) (Sm.new (by rw [upd_ne (Ne.symm nex)]; exact nx))
      have mA := Sm.trans m7 mx
      have xH : H x = none := by
        cases z : H x with
        | none => rfl
        | some o =>
          rw [m7 _ _ (m5 _ _ z)] at nx
          cases nx
      refine ⟨x, dx, l, ne, g, ws, ds, es.map V.ref, tb.map (back ws), back ws ls, rfl, upd_same, .inl (.inl (.inl (mx _ _ l7))), is.nd, stand_ok is.some (Nat.le_trans is.most m9) is.nd is.word, mA _ _ ed5, by rw [List.length_map]; omega, is.dnd, is.dword, ?_, deeds_ok (by rw [List.length_map]; omega) tl is.dsome is.dmost is.dword is.nd is.row, mx _ _ eg, by rw [back_len is.looks]; have := is.most; omega, back_itm is.looks is.look, back_sight is.looks is.nd is.look, fun st ld si as2 H8 m8 x8 ldx six st8 eld esi pr8 => ⟨rfl, q x H8 ?_ xH ⟨dx, st, ld, si, as2, x8, st8, eld, ?_, ?_⟩⟩⟩
      · refine paired_of (by rw [List.length_map, List.length_map]; omega) fun j v t e1 e2 => ?_
        rw [List.getElem?_map] at e1
        cases e3 : es[j]? with
        | none =>
          rw [e3] at e1
          cases e1
        | some e =>
          rw [e3] at e1
          have e4 : V.ref e = v := Option.some.inj e1
          obtain ⟨vs, e5, e6, e7⟩ := pair_at pe5 e3
          rw [List.getElem?_map, e5] at e2
          have e8 : back ws vs = t := Option.some.inj e2
          subst e4 e8
          have hv := is.row vs (List.mem_of_getElem? e5)
          exact ⟨e, rfl, e6, mA _ _ e7, by rw [back_len hv.1]; have := is.most; omega, back_itm hv.1 fun z hz => is.word z (hv.2 z hz)⟩
      · intro b o eb
        have bx : b ≠ x := fun z => by
          rw [z, xH] at eb
          cases eb
        exact m8 b o bx (mA _ _ (m5 _ _ eb))
      · rw [picked_back is.looks is.nd] at esi
        exact esi
      · refine paired_of (by rw [paired_len pr8, List.length_map]) fun j a vs e1 e2 => ?_
        obtain ⟨t, e3, _, e4⟩ := pair_at pr8 e1
        rw [List.getElem?_map, e2] at e3
        have e5 : back ws vs = t := Option.some.inj e3
        subst e5
        rw [picked_back (is.row vs (List.mem_of_getElem? e2)).1 is.nd] at e4
        exact e4
end
end Dk
set_option Elab.async false
set_option linter.all false
set_option maxRecDepth 100000
set_option maxHeartbeats 4000000
namespace Dk
open PySem PySem.Spec PyProof.Rows L2 Er
/-! ### where rows lead -/
/-- the standing to which a deed leads one -/
def nxt (ws ds : List Str) (tb : List (List Str)) (z d : Str) : Str := (tb.getD (ds.idxOf d) []).getD (ws.idxOf z) ⟨#[]⟩
theorem dkv_get {ws : List Str} {us : List V} {z : Str} (e : us.length = ws.length) (hz : z ∈ ws) : valV (dkv ws us) (.inr z) = us[ws.idxOf z]? := by
  induction ws generalizing us with
  | nil => cases hz
  | cons w ws ih =>
    cases us with
    | nil => simp at e
    | cons u us =>
      by_cases c : w = z
      · subst c
        rw [List.idxOf_cons_self]
        unfold valV
        show ((((Sum.inr w, u) : Key × V) :: dkv ws us).find? _).map _ = _
        rw [List.find?_cons_of_pos (by simp)]
        rfl
      · have h2 : z ∈ ws := by
          rcases List.mem_cons.mp hz with x | x
          · exact absurd x.symm c
          · exact x
        rw [List.idxOf_cons, show (w == z) = false from by simpa using c, cond_false, List.getElem?_cons_succ, ← ih (by simpa using e) h2]
        unfold valV
        show ((((Sum.inr w, u) : Key × V) :: dkv ws us).find? _).map _ = _
        rw [List.find?_cons_of_neg]
        intro x
        have e2 : (Sum.inr w : Key) = .inr z := of_decide_eq_true x
        exact c (Sum.inr.inj e2)
theorem idx_lt {ws : List Str} {z : Str} (h : z ∈ ws) : ws.idxOf z < ws.length := List.idxOf_lt_length_iff.mpr h
/-- what a drawn desk's dicts hold -/
theorem dk_step {H : Hp} {u nm dd sg : Addr} {ws ds : List Str} {as : List Addr} {tb : List (List Str)} {ls : List Str} {m : Nat} (h : DkAt H u nm dd sg ws ds as tb ls) (is : DkIs m ws ds tb ls) {d z : Str} (hd : d ∈ ds) (hz : z ∈ ws) :
    ∃ a, valV (dkv ds (as.map V.ref)) (.inr d) = some (.ref a) ∧ DGet H a (.str z) (some (.str (nxt ws ds tb z d))) ∧ nxt ws ds tb z d ∈ ws := by
  obtain ⟨_, _, _, _, pr⟩ := h
  have al : as.length = ds.length := by rw [paired_len pr, is.rows]
  have il := idx_lt hd
  have e1 : as[ds.idxOf d]? = some (as[ds.idxOf d]'(by omega)) := List.getElem?_eq_getElem _
  obtain ⟨vs, et, ha⟩ := pair_at pr e1
  have hv := is.row vs (List.mem_of_getElem? et)
  have zl := idx_lt hz
  have e2 : vs[ws.idxOf z]? = some (vs[ws.idxOf z]'(by omega)) := List.getElem?_eq_getElem _
  have en : nxt ws ds tb z d = vs[ws.idxOf z]'(by omega) := by
    unfold nxt
    rw [List.getD_eq_getElem?_getD, List.getD_eq_getElem?_getD, et]
    show (vs[ws.idxOf z]?).getD _ = _
    rw [e2]
    rfl
  refine ⟨as[ds.idxOf d]'(by omega), ?_, ?_, ?_⟩
  · rw [dkv_get (by rw [List.length_map, al]) hd, List.getElem?_map, e1]
    rfl
  · refine .inl ⟨_, .inr z, .inl ha, rfl, ?_⟩
    rw [dkv_get (by rw [List.length_map, hv.1]) hz, List.getElem?_map, e2, en]
    rfl
  · rw [en]
    exact hv.2 _ (List.getElem_mem _)
/-- where a row leads -/
def ledBy (ws ds : List Str) (tb : List (List Str)) (z : Str) (row : List Str) : Str := row.foldl (nxt ws ds tb) z
def spLeadL (K : PySem.W.Frag) : Sp := fun vs H Q _ => ∃ (u r nm dd sg : Addr) (z : Str) (row ws ds : List Str) (as : List Addr) (tb : List (List Str)) (ls : List Str) (m : Nat), vs = [.ref u, .str z, .ref r] ∧ DkAt H u nm dd sg ws ds as tb ls ∧ DkIs m ws ds tb ls ∧ z ∈ ws ∧ SqL K H r (row.map V.str) ∧ (∀ d ∈ row, d ∈ ds) ∧
  (ledBy ws ds tb z row ∈ ws → Q (.str (ledBy ws ds tb z row)) H)
abbrev nLeadL : List Str := ["_law_desk_here", "_law_standing", "_law_row", "_law_deed"]
theorem scLeadL : FnScope nLeadL ["_law_desk_here", "_law_standing", "_law_row"] (defScope (top 43)) := ⟨rfl, rfl, rfl, by decide +kernel, rfl, by decide +kernel, by decide +kernel⟩
section
variable {P : Program} {w : World} {K : PySem.W.Frag} {mg : Str → Option Value} {base : Heap} {f fD fP : Addr} {fd dD dP : FuncData}
theorem ok_leadL (F : FnP K "_law_lead" (top 43) f fd) : FnOk P w K mg base CX0 1 f fd ["_law_desk_here", "_law_standing", "_law_row"] (spLeadL K) := by
  refine F.ok (CX := CX0) scLeadL (fun vs H Q E h => ?_) (fun cdv A outer s H vs Q E hr h => ?_)
  · obtain ⟨u, r, nm, dd, sg, z, row, ws, ds, as, tb, ls, m, rfl, _⟩ := h
    rfl
  · refine ⟨_, PSs.nox (pss_cons (ps_for PassesOwn.never rfl (pi_list (pv 2)) (pg_name (i := 3) scLeadL.nd rfl (.inl rfl))
      (pss_one (ps_set (i := 1) scLeadL.nd rfl (.inl rfl) (by exact (pe_dget (hu_of hr) (by exact (pe_dget (hu_of hr) (by exact (pe_ix ix_tup (pv 0) pe_int (fun _ _ => rfl))) (by exact (pv 3)) (fun _ _ => rfl))) (by exact (pv 1)) (fun _ _ => rfl))))))
      (pss_one (ps_ret (pv 1)))), ?_⟩
    obtain ⟨u, r, nm, dd, sg, z, row, ws, ds, as, tb, ls, m, rfl, hk, is, hz, hr2, hrow, q⟩ := h
    refine ⟨_, rfl, r, rfl, ⟨_, hr2⟩, ?_⟩
    refine for_it walk_list (fun i σ H5 => H5 = H ∧ ∃ (v3 : Option V), σ = [some (.ref u), some (.str (ledBy ws ds tb z (row.take i))), some (.ref r), v3] ∧ ledBy ws ds tb z (row.take i) ∈ ws) ⟨rfl, none, rfl, hz⟩ (fun i σ H5 _ p => by rw [p.1]; exact hr2) (fun i x σ H5 H6 hi p y => ?_) (fun σ H5 p => ?_)
    · obtain ⟨rfl, v3, rfl, hin⟩ := p
      obtain ⟨rfl, ex⟩ := y
      obtain ⟨d, ed, rfl⟩ : ∃ d, row[i]? = some d ∧ x = .str d := by
        rw [List.getElem?_map] at ex
        cases e : row[i]? with
        | none =>
          rw [e] at ex
          cases ex
        | some d =>
          rw [e] at ex
          exact ⟨d, rfl, (Option.some.inj ex).symm⟩
      obtain ⟨a, e1, e2, e3⟩ := dk_step hk is (hrow d (List.mem_of_getElem? ed)) hin
      have es : ledBy ws ds tb z (row.take (i + 1)) = nxt ws ds tb (ledBy ws ds tb z (row.take i)) d := by
        unfold ledBy
        rw [List.take_add_one, ed, List.foldl_append]
        rfl
      refine ⟨_, rfl, u, _, 1, .ref dd, rfl, rfl, .inl (.inl hk.1), rfl, _, rfl, dd, .ref a, rfl, .inl ⟨_, .inr d, .inl hk.2.2.1, rfl, e1.symm⟩, _, rfl, a, _, rfl, e2, rfl, some (.str d), ?_, ?_⟩
      · rw [es]
        rfl
      · rw [es]
        exact e3
    · obtain ⟨rfl, v3, rfl, hin⟩ := p
      rw [List.length_map, List.take_length] at hin
      rw [List.length_map, List.take_length]
      exact ⟨_, rfl, q hin⟩
end
end Dk
set_option Elab.async false
set_option linter.all false
set_option maxRecDepth 100000
set_option maxHeartbeats 4000000
namespace Dk
open PySem PySem.Spec PyProof.Rows L2 Er
/-! ### _law_stranger -/
def menu : List Str := ["onn", "nxt", "sett", "keys", "up", "low", "lit", "dim", "fail", "stop", "d", "e", "f", "g", "h", "i", "j"]
theorem menu_nd : menu.Nodup := by decide +kernel
theorem nodup_le : ∀ {l m : List Str}, l.Nodup → (∀ x ∈ l, x ∈ m) → l.length ≤ m.length
  | [], _, _, _ => Nat.zero_le _
  | x :: l, m, hn, hs => by
    obtain ⟨h1, h2⟩ := List.nodup_cons.mp hn
    have hx : x ∈ m := hs x List.mem_cons_self
    have ih := nodup_le (l := l) (m := m.erase x) h2 fun y hy => (List.mem_erase_of_ne (fun e : y = x => h1 (by rw [← e]; exact hy))).2 (hs y (List.mem_cons_of_mem _ hy))
    have hp : 0 < m.length := List.length_pos_of_mem hx
    rw [List.length_erase_of_mem hx] at ih
    rw [List.length_cons]
    omega
/-- a menu that is longer than what is left out -/
theorem left_some {ws : List Str} (h : ws.length ≤ 16) : menu.filter (fun z => decide (z ∉ ws)) ≠ [] := by
  intro e
  have all : ∀ z ∈ menu, z ∈ ws := fun z hz => by
    by_cases c : z ∈ ws
    · exact c
    · have : z ∈ menu.filter (fun z => decide (z ∉ ws)) := List.mem_filter.mpr ⟨hz, decide_eq_true c⟩
      rw [e] at this
      cases this
  have := nodup_le menu_nd all
  rw [show menu.length = 17 from rfl] at this
  omega
def spStranger (K : PySem.W.Frag) : Sp := fun vs H Q _ => ∃ (l : Addr) (ws : List Str), vs = [.ref l] ∧ SqL K H l (ws.map V.str) ∧ ws.length ≤ 16 ∧ ∀ z H', Sm H H' → z ∈ menu → z ∉ ws → Q (.str z) H'
abbrev nStr : List Str := ["_law_names_here", "_law_some", "_law_name"]
theorem scStr : FnScope nStr ["_law_names_here"] (defScope (top 44)) := ⟨rfl, rfl, rfl, by decide +kernel, rfl, by decide +kernel, by decide +kernel⟩
section
variable {P : Program} {w : World} {K : PySem.W.Frag} {mg : Str → Option Value} {base : Heap} {f : Addr} {fd : FuncData}
theorem ok_stranger (F : FnP K "_law_stranger" (top 44) f fd) : FnOk P w K mg base CX0 1 f fd ["_law_names_here"] (spStranger K) := by
  refine F.ok (CX := CX0) scStr (fun vs H Q E h => ?_) (fun cdv A outer s H vs Q E hr h => ?_)
  · obtain ⟨l, ws, rfl, _⟩ := h
    rfl
  · refine ⟨_, PSs.nox (pss_cons (ps_set (i := 1) scStr.nd rfl (.inl rfl) (pe_lst (pa_cons pe_str (pa_cons pe_str (pa_cons pe_str (pa_cons pe_str (pa_cons pe_str (pa_cons pe_str (pa_cons pe_str (pa_cons pe_str (pa_cons pe_str (pa_cons pe_str (pa_cons pe_str (pa_cons pe_str (pa_cons pe_str (pa_cons pe_str (pa_cons pe_str (pa_cons pe_str (pa_cons pe_str pa_nil)))))))))))))))))))
      (pss_one (ps_ret (by exact (pe_ix ix_list (by exact (pe_lc (own := [("_law_name", 2)]) (g := gName 2) (tt := tTest (tOp (rIn K true) (tVar 2) (tVar 0))) (te := tVar 2) rfl scStr.nd (pi_list (pv 1))
        (blkOk_by (N := nStr) (sc := defScope (top 44)) (by decide +kernel)) (fun _ _ _ _ _ => pg_name (i := 2) scStr.nd rfl (Or.inl rfl)) (fun _ _ _ _ _ => pts_one (by exact (pt_cmpR op_notIn_seq (by exact (pv 2)) (by exact (pv 0)) rfl))) (fun _ _ _ _ _ => by exact (pv 2)))) pe_int (fun _ _ => rfl)))))), ?_⟩
    obtain ⟨l, ws, rfl, hl, n16, q⟩ := h
    refine ⟨by show 17 ≤ sizeLine; rw [sizeLine_eq]; decide, fun M nM => ?_⟩
    have eM : upd H M (.lst (menu.map V.str)) M = some (.lst (menu.map V.str)) := upd_same
    have mM := Sm.new (o := .lst (menu.map V.str)) nM
    refine ⟨_, rfl, M, rfl, ⟨_, .inl (.inl eM)⟩, fun D nD => ?_⟩
    have nD : upd H M (.lst (menu.map V.str)) D = none := nD
    show ∃ W : Nat → Nat → Hp → Prop, (∃ m, W 0 m (upd (upd H M (.lst (menu.map V.str))) D (.lst []))) ∧ _
    generalize upd H M (.lst (menu.map V.str)) = G at eM mM nD ⊢
    have hl := SqL.sm hl mM
    refine lc_list (xs := menu.map V.str) (fun j G2 => G2 D = some (.lst (((menu.take j).filter (fun z => decide (z ∉ ws))).map V.str)) ∧ Sm G G2) ⟨upd_same, Sm.new nD⟩ (fun j G2 _ p => .inl (.inl (p.2 _ _ eM))) ?_ ?_
    · rintro j x G2 ex ⟨ed, sg⟩
      obtain ⟨z, ez, rfl⟩ : ∃ z, menu[j]? = some z ∧ x = .str z := by
        rw [List.getElem?_map] at ex
        cases e : menu[j]? with
        | none =>
          rw [e] at ex
          cases ex
        | some d =>
          rw [e] at ex
          exact ⟨d, rfl, (Option.some.inj ex).symm⟩
      have tk : menu.take (j + 1) = menu.take j ++ [z] := by
        rw [List.take_add_one, ez]
        rfl
      refine ⟨rfl, _, rfl, _, rfl, l, ws.map V.str, rfl, .inl (SqL.sm hl sg), rfl, flat_strs ws, _, rfl, ?_⟩
      rw [in_strs, if_pos rfl]
      by_cases c : z ∈ ws
      · rw [decide_eq_true c]
        refine iteF ⟨?_, sg⟩
        rw [tk, List.filter_append, List.filter_cons_of_neg (by simpa using c), List.filter_nil, List.append_nil]
        exact ed
      · rw [decide_eq_false c]
        refine iteT ⟨_, rfl, _, ed, ?_, ?_, ?_⟩
        · have h1 := List.length_filter_le (fun z => decide (z ∉ ws)) (menu.take j)
          rw [List.length_take] at h1
          rw [List.length_map, sizeLine_eq]
          have h2 : menu.length = 17 := rfl
          omega
        · rw [upd_same, tk, List.filter_append, List.filter_cons_of_pos (by simpa using c), List.filter_nil, List.map_append]
          rfl
        · intro b o eb
          rw [upd_ne (ne_of_none eb nD)]
          exact sg _ _ eb
    · rintro G2 ⟨ed, sg⟩
      rw [List.length_map, List.take_length] at ed
      have ne := left_some n16
      cases ec : menu.filter (fun z => decide (z ∉ ws)) with
      | nil => exact absurd ec ne
      | cons z rest =>
        rw [ec] at ed
        have hz : z ∈ menu.filter (fun z => decide (z ∉ ws)) := by
          rw [ec]
          exact List.mem_cons_self
        obtain ⟨a, b⟩ := List.mem_filter.mp hz
        exact ⟨D, _, 0, .str z, rfl, rfl, .inl (.inl ed), atI_nat (j := 0) rfl, q z G2 (Sm.trans mM sg) a (of_decide_eq_true b)⟩
end
end Dk
set_option Elab.async false
set_option linter.all false
set_option maxRecDepth 100000
set_option maxHeartbeats 4000000
namespace Dk
open PySem PySem.Spec PyProof.Rows L2 Er
/-! ### _law_nexts -/
theorem idx_of {ds : List Str} {j : Nat} {d : Str} (nd : ds.Nodup) (h : ds[j]? = some d) : ds.idxOf d = j := by
  obtain ⟨hj, e⟩ := List.getElem?_eq_some_iff.mp h
  have hd : d ∈ ds := List.mem_of_getElem? h
  have il := idx_lt hd
  have eg : ds[ds.idxOf d]'il = d := List.getElem_idxOf il
  have pw := List.pairwise_iff_getElem.mp nd
  rcases Nat.lt_trichotomy (ds.idxOf d) j with c | c | c
  · exact absurd (eg.trans e.symm) (pw _ _ il hj c)
  · exact c
  · exact absurd (e.trans eg.symm) (pw _ _ hj il c)
theorem row_get {ws ds vs : List Str} {tb : List (List Str)} {j : Nat} {z d : Str} (nd : ds.Nodup) (e1 : ds[j]? = some d) (e2 : tb[j]? = some vs) (vl : vs.length = ws.length) (hz : z ∈ ws) : valV (dkv ws (vs.map V.str)) (.inr z) = some (.str (nxt ws ds tb z d)) := by
  have zl := idx_lt hz
  have e3 : vs[ws.idxOf z]? = some (vs[ws.idxOf z]'(by omega)) := List.getElem?_eq_getElem _
  have en : nxt ws ds tb z d = vs[ws.idxOf z]'(by omega) := by
    unfold nxt
    rw [idx_of nd e1, List.getD_eq_getElem?_getD, List.getD_eq_getElem?_getD, e2]
    show (vs[ws.idxOf z]?).getD _ = _
    rw [e3]
    rfl
  rw [dkv_get (by rw [List.length_map, vl]) hz, List.getElem?_map, e3, en]
  rfl
theorem dk_rows {H : Hp} {u nm dd sg : Addr} {ws ds : List Str} {as : List Addr} {tb : List (List Str)} {ls : List Str} {m : Nat} (h : DkAt H u nm dd sg ws ds as tb ls) (is : DkIs m ws ds tb ls) : Paired (fun a vs => a ≠ dd ∧ H a = some (.dK (dkv ws (vs.map V.str)))) as tb := by
  obtain ⟨_, _, hdd, _, pr⟩ := h
  refine paired_of (paired_len pr) fun j a vs e1 e2 => ?_
  obtain ⟨vs2, e3, e4⟩ := pair_at pr e1
  rw [e2] at e3
  have e5 := Option.some.inj e3
  subst e5
  refine ⟨fun z => ?_, e4⟩
  rw [z, hdd] at e4
  exact dkv_ne is.some (is.row vs (List.mem_of_getElem? e2)).1 (HO.dK.inj (Option.some.inj e4)).symm
/-- the standings to which the deeds lead one -/
def nexts (ws ds : List Str) (tb : List (List Str)) (z : Str) : List Str := ds.map (nxt ws ds tb z)
def spNexts : Sp := fun vs H Q _ => ∃ (u nm dd sg : Addr) (ws ds : List Str) (as : List Addr) (tb : List (List Str)) (ls : List Str) (m : Nat), vs = [.ref u] ∧ DkAt H u nm dd sg ws ds as tb ls ∧ DkIs m ws ds tb ls ∧ m ≤ 9 ∧
  ∀ (q : Addr) (bs : List Addr) H', Sm H H' → H q = none → H' q = some (.dK (dkv ws (bs.map V.ref))) → Paired (fun b z => H' b = some (.lst ((nexts ws ds tb z).map V.str))) bs ws → Q (.ref q) H'
abbrev nNexts : List Str := ["_law_desk_here", "_law_found", "_law_one", "_law_leads_here"]
section
variable {P : Program} {w : World} {K : PySem.W.Frag} {mg : Str → Option Value} {base : Heap} {f : Addr} {fd : FuncData}
end
end Dk
set_option Elab.async false
set_option linter.all false
set_option maxRecDepth 100000
set_option maxHeartbeats 4000000
namespace Dk
open PySem PySem.Spec PyProof.Rows L2 Er
open PySem.ErK (EC)
/-! ### a desk's errors; Desk.sight, Desk.lead -/
def ini (s : Stmt) : Stmt := (clsBody s).getD 0 (.Pass ⟨0, 0, 0, 0⟩)
def spErr (K : PySem.W.Frag) (g : Str) : Sp := fun vs H Q _ => ∃ (a C : Addr) (v : V), vs = [.ref a, v] ∧ OexC K C ∧ PySem.W.findIn K (.ref C) g = some none ∧ H a = some (exo a C none) ∧
  ∀ dx, H dx = none → dx ≠ a → Q .non (upd (upd H dx (exd dx [(g, v)])) a (exo a C (some dx)))
theorem scErV : FnScope ["self", "value"] ["self", "value"] (defScope (ini (top 6))) := ⟨rfl, rfl, rfl, by decide +kernel, rfl, by decide +kernel, by decide +kernel⟩
theorem scErP : FnScope ["self", "position"] ["self", "position"] (defScope (ini (top 7))) := ⟨rfl, rfl, rfl, by decide +kernel, rfl, by decide +kernel, by decide +kernel⟩
/-- what the written part says of an error: its class, its __init__ -/
structure Bad (K : PySem.W.Frag) (mg : Str → Option Value) (x g : Str) (st : Stmt) (C fI : Addr) (dI : FuncData) : Prop where
  ec : EC K x g C fI
  F : FunD K "__init__" (x ++ ".__init__") (defArgs st) (defBody st) (defScope st) [] [] fI dI
  gl : mg x = some (.ref C)
section
variable {P : Program} {w : World} {K : PySem.W.Frag} {mg : Str → Option Value} {base : Heap} {fI C : Addr} {dI : FuncData}
theorem ok_erV (B : Bad K mg "BadStanding" "value" (ini (top 6)) C fI dI) : FnOk P w K mg base CX0 1 fI dI ["self", "value"] (spErr K "value") := by
  refine B.F.ok (CX := CX0) scErV (fun vs H Q E h => ?_) (fun cdv A outer s H vs Q E hr h => ?_)
  · obtain ⟨a, C, v, rfl, _⟩ := h
    rfl
  · refine ⟨_, PSs.nox (pss_one (ps_ost (pv 0) (pv 1))), ?_⟩
    obtain ⟨a, C, v, rfl, T, no, ha, q⟩ := h
    exact ⟨_, rfl, _, rfl, a, C, rfl, T, no, .inl ⟨ha, q⟩⟩
theorem ok_erP (B : Bad K mg "BadRow" "position" (ini (top 7)) C fI dI) : FnOk P w K mg base CX0 1 fI dI ["self", "position"] (spErr K "position") := by
  refine B.F.ok (CX := CX0) scErP (fun vs H Q E h => ?_) (fun cdv A outer s H vs Q E hr h => ?_)
  · obtain ⟨a, C, v, rfl, _⟩ := h
    rfl
  · refine ⟨_, PSs.nox (pss_one (ps_ost (pv 0) (pv 1))), ?_⟩
    obtain ⟨a, C, v, rfl, T, no, ha, q⟩ := h
    exact ⟨_, rfl, _, rfl, a, C, rfl, T, no, .inl ⟨ha, q⟩⟩
theorem bErV (B : Bad K mg "BadStanding" "value" (ini (top 6)) C fI dI) : Binds K dI ["self", "value"] [] := B.F.bindsN fun _ _ _ _ _ _ us hl => match us, hl with
  | [_, _], _ => rfl
theorem bErP (B : Bad K mg "BadRow" "position" (ini (top 7)) C fI dI) : Binds K dI ["self", "position"] [] := B.F.bindsN fun _ _ _ _ _ _ us hl => match us, hl with
  | [_, _], _ => rfl
theorem upd_del {H : Hp} {a d : Addr} {o u v x : HO} (na : H a = none) (ne : d ≠ a) : upd (del (upd (upd (upd H a o) d u) a v) a) d x = upd H d x := by
  funext b
  by_cases hd : b = d
  · rw [hd, upd_same, upd_same]
  · rw [upd_ne hd, upd_ne hd]
    by_cases ha : b = a
    · rw [ha, del_same, na]
    · rw [del_ne ha, upd_ne ha, upd_ne hd, upd_ne ha]
/-- what raising one asks -/
theorem bad_reads {g : Str} {v : V} {H1 : Hp} {Q : XK} (T : OexC K C) (no : PySem.W.findIn K (.ref C) g = some none) (q : ∀ d, H1 d = none → Q (.ref C) (some d) (upd H1 d (.xd [(g, v)]))) :
    [v].length ≤ 1000 ∧ ∀ a, H1 a = none → spErr K g (.ref a :: ([v] ++ [])) (upd H1 a (exo a C none)) (fun u H2 => u = .non ∧ ∃ (d : Addr) (fs : List (Str × V)), H2 a = some (exo a C (some d)) ∧ H2 d = some (exd d fs) ∧ H1 d = none ∧ Q (.ref C) (some d) (upd (del H2 a) d (.xd fs))) (fun _ _ _ => False) := by
  refine ⟨by show 1 ≤ 1000; decide, fun a na => ⟨a, C, v, rfl, T, no, upd_same, fun dx nd ne => ⟨rfl, dx, [(g, v)], upd_same, ?_, ?_, ?_⟩⟩⟩
  · rw [upd_ne ne, upd_same]
  · rw [upd_ne ne] at nd
    exact nd
  · rw [upd_ne ne] at nd
    rw [upd_del na ne]
    exact q dx nd
end
/-- what stands in a told desk's dicts -/
theorem ob_step {H : Hp} {ws ds : List Str} {as : List Addr} {tb : List (List Str)} {ls : List Str} {m : Nat} (pr : Paired (fun a vs => H a = some (.dK (dkv ws (vs.map V.str)))) as tb) (is : DkIs m ws ds tb ls) {d z : Str} (hd : d ∈ ds) (hz : z ∈ ws) :
    ∃ a, valV (dkv ds (as.map V.ref)) (.inr d) = some (.ref a) ∧ DGet H a (.str z) (some (.str (nxt ws ds tb z d))) ∧ nxt ws ds tb z d ∈ ws := by
  have al : as.length = ds.length := by rw [paired_len pr, is.rows]
  have il := idx_lt hd
  have e1 : as[ds.idxOf d]? = some (as[ds.idxOf d]'(by omega)) := List.getElem?_eq_getElem _
  obtain ⟨vs, et, ha⟩ := pair_at pr e1
  have hv := is.row vs (List.mem_of_getElem? et)
  have zl := idx_lt hz
  have e2 : vs[ws.idxOf z]? = some (vs[ws.idxOf z]'(by omega)) := List.getElem?_eq_getElem _
  have en : nxt ws ds tb z d = vs[ws.idxOf z]'(by omega) := by
    unfold nxt
    rw [List.getD_eq_getElem?_getD, List.getD_eq_getElem?_getD, et]
    show (vs[ws.idxOf z]?).getD _ = _
    rw [e2]
    rfl
  refine ⟨as[ds.idxOf d]'(by omega), ?_, ?_, ?_⟩
  · rw [dkv_get (by rw [List.length_map, al]) hd, List.getElem?_map, e1]
    rfl
  · refine .inl ⟨_, .inr z, .inl ha, rfl, ?_⟩
    rw [dkv_get (by rw [List.length_map, hv.1]) hz, List.getElem?_map, e2, en]
    rfl
  · rw [en]
    exact hv.2 _ (List.getElem_mem _)
/-- no text of these -/
def NotOf (K : PySem.W.Frag) (H : Hp) (ws : List Str) (v : V) : Prop := (∃ z : Str, v = .str z ∧ z ∉ ws) ∨ NoStr K H v
theorem NotOf.sm {K : PySem.W.Frag} {H H' : Hp} {ws : List Str} {v : V} (h : NotOf K H ws v) (m : Sm H H') : NotOf K H' ws v := by
  rcases h with h | h
  · exact .inl h
  · exact .inr (NoStr.sm h m)
def spSight (K : PySem.W.Frag) (C CS : Addr) : Sp := fun vs H Q E => ∃ (x : Addr) (v : V) (ws ds : List Str) (tb : List (List Str)) (ls : List Str), vs = [.ref x, v] ∧ DeskOb K C H x ws ds tb ls ∧ ls.length = ws.length ∧
  ((∃ z l : Str, v = .str z ∧ z ∈ ws ∧ ls[ws.idxOf z]? = some l ∧ Q (.str l) H) ∨ (NotOf K H ws v ∧ ∀ d, H d = none → E (.ref CS) (some d) (upd H d (.xd [("value", v)]))))
abbrev nSight : List Str := ["self", "standing"]
theorem scSight : FnScope nSight nSight (defScope (meth 5)) := ⟨rfl, rfl, rfl, by decide +kernel, rfl, by decide +kernel, by decide +kernel⟩
section
variable {P : Program} {w : World} {K : PySem.W.Frag} {mg : Str → Option Value} {base : Heap} {f fI fJ C CS CR fO : Addr} {fd dI dJ dO : FuncData}
theorem bOne (F : FnP K "is_one_of" (top 10) fO dO) : Binds K dO nOneOf [] := F.bindsN fun _ _ _ _ _ _ us hl => match us, hl with
  | [_, _], _ => rfl
theorem ok_sight (F : FunD K "sight" "Desk.sight" (defArgs (meth 5)) (defBody (meth 5)) (defScope (meth 5)) [] [] f fd) (hC : Cls K C) (n1 : NoAttr K C "_standings") (n3 : NoAttr K C "_sights") (B : Bad K mg "BadStanding" "value" (ini (top 6)) CS fI dI)
    (GO : FnOk P w K mg base CX0 1 fO dO nOneOf (spOneOf K)) (FO : FnP K "is_one_of" (top 10) fO dO) (gO : mg "is_one_of" = some (.ref fO)) : FnOk P w K mg base (L2.CX P w) 3 f fd nSight (spSight K C CS) := by
  refine F.ok (CX := L2.CX P w) scSight (fun vs H Q E h => ?_) (fun cdv A outer s H vs Q E hr h => ?_)
  · obtain ⟨x, v, ws, ds, tb, ls, rfl, _⟩ := h
    rfl
  · have hr1 := hr.mono (show 1 ≤ 2 by decide)
    have GE : FnOk P w K mg base CX0 1 fI dI ["self", "value"] (spErr K "value") := ok_erV B
    refine ⟨_, pss_cons (ps_if (pt_not (pt_val (by exact (pe_call GO hr1 rfl gO FO.kp (bOne FO) .nil pass0 (pa_cons (pv 1) (pa_cons (by exact (pe_fld (pv 0) rfl)) pa_nil)))))) (pss_one (ps_raise rfl (takes_of rfl rfl rfl rfl) (pmk_oex (e := .Name "standing" _) (es := []) B.ec.ox B.ec.iC B.ec.tI GE hr (bErV B) .nil pass0 rfl B.gl (pa_cons (pv 1) pa_nil)))) pss_nil)
      (PSs.nox (pss_one (ps_ret (by exact (pe_dget (hu_of hr) (by exact (pe_fld (pv 0) rfl)) (pv 1) (fun _ _ => rfl)))))), ?_⟩
    obtain ⟨x, v, ws, ds, tb, ls, rfl, ⟨dx, st, ld, si, as, hx, hst, hld, hsi, pr⟩, ll, h⟩ := h
    refine ⟨_, rfl, _, rfl, x, C, dx, _, _, rfl, hx, hC, n1, rfl, v, st, rfl, ?_⟩
    rcases h with ⟨z, l, rfl, hz, el, q⟩ | ⟨hv, q⟩
    · refine .inl ⟨z, ws, rfl, .inr (.inl hst), _, rfl, ?_⟩
      rw [decide_eq_true hz]
      refine iteF ⟨_, rfl, x, C, dx, _, _, rfl, hx, hC, n3, rfl, _, rfl, si, .str l, rfl, .inl ⟨_, .inr z, .inl hsi, rfl, ?_⟩, q⟩
      rw [dkv_get (by rw [List.length_map, ll]) hz, List.getElem?_map, el]
      rfl
    · rcases hv with ⟨z, rfl, nz⟩ | hv
      · refine .inl ⟨z, ws, rfl, .inr (.inl hst), _, rfl, ?_⟩
        rw [decide_eq_false nz]
        exact iteT ⟨_, rfl, bad_reads B.ec.ox B.ec.noN q⟩
      · exact .inr ⟨hv, _, rfl, iteT ⟨_, rfl, bad_reads B.ec.ox B.ec.noN q⟩⟩
end
theorem DeskOb.sm {K : PySem.W.Frag} {C : Addr} {H H' : Hp} {x : Addr} {ws ds : List Str} {tb : List (List Str)} {ls : List Str} (h : DeskOb K C H x ws ds tb ls) (m : Sm H H') : DeskOb K C H' x ws ds tb ls := by
  obtain ⟨dx, st, ld, si, as, h1, h2, h3, h4, pr⟩ := h
  exact ⟨dx, st, ld, si, as, m _ _ h1, SqT.sm h2 m, m _ _ h3, m _ _ h4, pair_mono pr fun a _ vs e => m _ _ e⟩
/-- a row: its first deeds are a desk's, and then it ends, or what stands there is none -/
def spLeadD (K : PySem.W.Frag) (C CS CR : Addr) : Sp := fun vs H Q E => ∃ (x r : Addr) (v : V) (xs : List V) (ws ds : List Str) (tb : List (List Str)) (ls : List Str) (m : Nat), vs = [.ref x, v, .ref r] ∧ DeskOb K C H x ws ds tb ls ∧ DkIs m ws ds tb ls ∧ SqL K H r xs ∧ xs.length ≤ 1000 ∧
  ((NotOf K H ws v ∧ ∀ d, H d = none → E (.ref CS) (some d) (upd H d (.xd [("value", v)]))) ∨
   ∃ (z : Str) (row : List Str), v = .str z ∧ z ∈ ws ∧ (∀ d ∈ row, d ∈ ds) ∧
    ((xs = row.map V.str ∧ ∀ H', Sm H H' → ledBy ws ds tb z row ∈ ws → Q (.str (ledBy ws ds tb z row)) H') ∨
     (∃ y : V, xs.take row.length = row.map V.str ∧ xs[row.length]? = some y ∧ NotOf K H ds y ∧ ∀ d H', Sm H H' → H' d = some (.xd [("position", .int (row.length : Nat))]) → H d = none → E (.ref CR) (some d) H')))
abbrev nLeadD : List Str := ["self", "standing", "row", "position", "deed"]
theorem scLeadD : FnScope nLeadD ["self", "standing", "row"] (defScope (meth 4)) := ⟨rfl, rfl, rfl, by decide +kernel, rfl, by decide +kernel, by decide +kernel⟩
theorem none_of_sm {H H' : Hp} {a : Addr} (m : Sm H H') (n : H' a = none) : H a = none := by
  cases e : H a with
  | none => rfl
  | some o =>
    rw [m _ _ e] at n
    cases n
theorem led_more {ws ds : List Str} {tb : List (List Str)} {z d : Str} {row : List Str} {i : Nat} (e : row[i]? = some d) : ledBy ws ds tb z (row.take (i + 1)) = nxt ws ds tb (ledBy ws ds tb z (row.take i)) d := by
  unfold ledBy
  rw [List.take_add_one, e, List.foldl_append]
  rfl
section
variable {P : Program} {w : World} {K : PySem.W.Frag} {mg : Str → Option Value} {base : Heap} {f fI fJ C CS CR fO : Addr} {fd dI dJ dO : FuncData}
theorem ok_leadD (F : FunD K "lead" "Desk.lead" (defArgs (meth 4)) (defBody (meth 4)) (defScope (meth 4)) [] [] f fd) (hC : Cls K C) (n1 : NoAttr K C "_standings") (n2 : NoAttr K C "_leads") (B : Bad K mg "BadStanding" "value" (ini (top 6)) CS fI dI) (B2 : Bad K mg "BadRow" "position" (ini (top 7)) CR fJ dJ)
    (me : mg "enumerate" = none) (GO : FnOk P w K mg base CX0 1 fO dO nOneOf (spOneOf K)) (FO : FnP K "is_one_of" (top 10) fO dO) (gO : mg "is_one_of" = some (.ref fO)) : FnOk P w K mg base (L2.CX P w) 3 f fd ["self", "standing", "row"] (spLeadD K C CS CR) := by
  refine F.ok (CX := L2.CX P w) scLeadD (fun vs H Q E h => ?_) (fun cdv A outer s H vs Q E hr h => ?_)
  · obtain ⟨x, r, v, xs, ws, ds, tb, ls, m, rfl, _⟩ := h
    rfl
  · have hr1 := hr.mono (show 1 ≤ 2 by decide)
    have GE : FnOk P w K mg base CX0 1 fI dI ["self", "value"] (spErr K "value") := ok_erV B
    have GP : FnOk P w K mg base CX0 1 fJ dJ ["self", "position"] (spErr K "position") := ok_erP B2
    refine ⟨_, pss_cons (ps_if (pt_not (pt_val (by exact (pe_call GO hr1 rfl gO FO.kp (bOne FO) .nil pass0 (pa_cons (pv 1) (pa_cons (by exact (pe_fld (pv 0) rfl)) pa_nil)))))) (pss_one (ps_raise rfl (takes_of rfl rfl rfl rfl) (pmk_oex (e := .Name "standing" _) (es := []) B.ec.ox B.ec.iC B.ec.tI GE hr (bErV B) .nil pass0 rfl B.gl (pa_cons (pv 1) pa_nil)))) pss_nil)
      (pss_cons (ps_for (passes_of rfl) rfl (pi_enum rfl me (pa_cons (pv 2) pa_nil)) (pg_tup rfl (pgs_cons (pg_name (i := 3) scLeadD.nd rfl (.inl rfl)) (pgs_cons (pg_name (i := 4) scLeadD.nd rfl (.inl rfl)) pgs_nil)))
        (pss_cons (ps_if (pt_not (pt_val (by exact (pe_call GO hr1 rfl gO FO.kp (bOne FO) .nil pass0 (pa_cons (pv 4) (pa_cons (by exact (pe_fld (pv 0) rfl)) pa_nil)))))) (pss_one (ps_raise rfl (takes_of rfl rfl rfl rfl) (pmk_oex (e := .Name "position" _) (es := []) B2.ec.ox B2.ec.iC B2.ec.tI GP hr (bErP B2) .nil pass0 rfl B2.gl (pa_cons (pv 3) pa_nil)))) pss_nil)
          (PSs.nox (pss_one (ps_set (i := 1) scLeadD.nd rfl (.inl rfl) (by exact (pe_dget (hu_of hr) (by exact (pe_dget (hu_of hr) (by exact (pe_fld (pv 0) rfl)) (by exact (pv 4)) (fun _ _ => rfl))) (by exact (pv 1)) (fun _ _ => rfl))))))))
      (PSs.nox (pss_one (ps_ret (pv 1))))), ?_⟩
    obtain ⟨x, r, v, xs, ws, ds, tb, ls, m, rfl, ⟨dx, st, ld, si, as, hx, hst, hld, hsi, pr⟩, is, hr0, xl, h⟩ := h
    refine ⟨_, rfl, _, rfl, x, C, dx, _, _, rfl, hx, hC, n1, rfl, v, st, rfl, ?_⟩
    rcases h with ⟨hv, q⟩ | ⟨z, row, rfl, hz, hrow, h⟩
    · rcases hv with ⟨z, rfl, nz⟩ | hv
      · refine .inl ⟨z, ws, rfl, .inr (.inl hst), _, rfl, ?_⟩
        rw [decide_eq_false nz]
        exact iteT ⟨_, rfl, bad_reads B.ec.ox B.ec.noN q⟩
      · exact .inr ⟨hv, _, rfl, iteT ⟨_, rfl, bad_reads B.ec.ox B.ec.noN q⟩⟩
    · refine .inl ⟨z, ws, rfl, .inr (.inl hst), _, rfl, ?_⟩
      rw [decide_eq_true hz]
      refine iteF ⟨_, rfl, r, xs, rfl, hr0, ?_⟩
      have al : as.length = ds.length := by rw [paired_len pr, is.rows]
      have same : ∀ (i : Nat) (y : V), i < row.length → xs[i]? = some y → ∃ d, row[i]? = some d ∧ y = .str d := fun i y hi e => by
        have e2 : (row.map V.str)[i]? = some y := by
          rcases h with ⟨e1, _⟩ | ⟨_, e1, _⟩
          · rw [← e1]
            exact e
          · rw [← e1, List.getElem?_take_of_lt hi]
            exact e
        rw [List.getElem?_map] at e2
        cases e3 : row[i]? with
        | none =>
          rw [e3] at e2
          cases e2
        | some d =>
          rw [e3] at e2
          exact ⟨d, rfl, (Option.some.inj e2).symm⟩
      refine for_it (walk_enum (xs := xs)) (fun i σ G => i ≤ row.length ∧ ∃ (v3 v4 : Option V), σ = [some (.ref x), some (.str (ledBy ws ds tb z (row.take i))), some (.ref r), v3, v4] ∧ ledBy ws ds tb z (row.take i) ∈ ws ∧ Sm H G) ⟨Nat.zero_le _, none, none, rfl, hz, Sm.refl _⟩ (fun i σ G _ p => ?_) (fun i y σ G G' hi p yy => ?_) (fun σ G p => ?_)
      · obtain ⟨_, _, _, _, _, mm⟩ := p
        exact SqL.sm hr0 mm
      · obtain ⟨il, v3, v4, rfl, hin, mm⟩ := p
        obtain ⟨T, x1, x2, rfl, hT, rfl, e1, e2⟩ := yy
        have e1 := Option.some.inj e1
        subst e1
        have m2 := mm.trans (Sm.new (o := .tup [.int (i : Nat), x2]) hT)
        refine ⟨T, _, rfl, .inl (.inl upd_same), rfl, _, _, rfl, _, _, rfl, rfl, ?_⟩
        generalize upd G T (.tup [.int (i : Nat), x2]) = G2 at m2 ⊢
        by_cases c : i < row.length
        · obtain ⟨d, ed, rfl⟩ := same i x2 c e2
          have hd := hrow d (List.mem_of_getElem? ed)
          refine ⟨_, rfl, _, rfl, x, C, dx, _, _, rfl, m2 _ _ hx, hC, n2, rfl, .str d, ld, rfl, .inl ⟨d, ds, rfl, .inr (.inr ⟨as.map V.ref, .inl (m2 _ _ hld), by rw [List.length_map, al]⟩), _, rfl, ?_⟩⟩
          rw [decide_eq_true hd]
          have pr2 : Paired (fun a vs => G2 a = some (.dK (dkv ws (vs.map V.str)))) as tb := pair_mono pr fun a _ vs e => m2 _ _ e
          obtain ⟨a, b1, b2, b3⟩ := ob_step pr2 is hd hin
          refine iteF ⟨_, rfl, x, C, dx, _, _, rfl, m2 _ _ hx, hC, n2, rfl, _, rfl, ld, .ref a, rfl, .inl ⟨_, .inr d, .inl (m2 _ _ hld), rfl, b1.symm⟩, _, rfl, a, _, rfl, b2, c, some (.int (i : Nat)), some (.str d), ?_, ?_, m2⟩
          · rw [led_more ed]
            rfl
          · rw [led_more ed]
            exact b3
        · have ei : i = row.length := by omega
          subst ei
          rcases h with ⟨e3, _⟩ | ⟨y, _, e3, ny, q⟩
          · rw [e3, List.length_map] at hi
            omega
          · have e3 := Option.some.inj ((show xs[row.length]? = some x2 from e2).symm.trans e3)
            subst e3
            have out : ∀ d, G2 d = none → E (.ref CR) (some d) (upd G2 d (.xd [("position", .int (row.length : Nat))])) := fun d nd => q d _ (m2.trans (Sm.new nd)) upd_same (none_of_sm m2 nd)
            refine ⟨_, rfl, _, rfl, x, C, dx, _, _, rfl, m2 _ _ hx, hC, n2, rfl, x2, ld, rfl, ?_⟩
            rcases ny with ⟨d, rfl, nd⟩ | ny
            · refine .inl ⟨d, ds, rfl, .inr (.inr ⟨as.map V.ref, .inl (m2 _ _ hld), by rw [List.length_map, al]⟩), _, rfl, ?_⟩
              rw [decide_eq_false nd]
              exact iteT ⟨_, rfl, bad_reads B2.ec.ox B2.ec.noN out⟩
            · exact .inr ⟨NoStr.sm ny m2, _, rfl, iteT ⟨_, rfl, bad_reads B2.ec.ox B2.ec.noN out⟩⟩
      · obtain ⟨il, v3, v4, rfl, hin, mm⟩ := p
        rcases h with ⟨e3, q⟩ | ⟨y, _, e3, _⟩
        · have ln : xs.length = row.length := by rw [e3, List.length_map]
          rw [ln, List.take_length] at hin
          rw [ln, List.take_length]
          exact ⟨_, rfl, q G mm hin⟩
        · have := (List.getElem?_eq_some_iff.mp e3).1
          omega
end
end Dk
set_option Elab.async false
set_option linter.all false
set_option maxRecDepth 100000
set_option maxHeartbeats 4000000
namespace Dk
open PySem PySem.Spec PyProof.Rows L2 Er
/-! ### several clauses, each with a name of its own -/
/-- how a suite ends whose name is gone behind it -/
def endsAs (D : Ends) (i : Nat) : Ends := { nx := fun σ G => D.nx (σ.set i none) G, rt := D.rt, bk := fun σ G => D.bk (σ.set i none) G, ct := fun σ G => D.ct (σ.set i none) G }
abbrev Cl : Type := Value × Nat × (Addr → Value → Option Addr → TS)
/-- what the clauses wish of what a body raises -/
def wClauses (K : PySem.W.Frag) (Wout : WX) (D : Ends) : List Cl → WX
  | [] => Wout
  | q :: r => fun kl d σ G => ∃ b, PySem.W.exmOne K kl q.1 = some b ∧ (b = true → ∀ x, G x = none → q.2.2 x kl d (endsAs D q.2.1) (σ.set q.2.1 (some (.ref x))) G) ∧ (b = false → wClauses K Wout D r kl d σ G)
inductive Clauses (X : Cx) : List ExceptHandler → List Cl → Prop
  | nil : Clauses X [] []
  | cons {x n : Str} {c : Value} {i : Nat} {ts : Addr → Value → Option Addr → TS} {b0 : Stmt} {su : List Stmt} {p1 p2 : Pos} {hs : List ExceptHandler} {l : List Cl} (hc : Names X x c) (hi : X.N[i]? = some n) (hn : X.env.kindOf n = some .local)
      (hsu : ∀ (xa : Addr) (ob : Obj) (kl : Value) (d : Option Addr) (pn : List (Addr × Obj)), Zc kl d ob → (∃ vs, ob.data = .fields vs) → PSs (X.suite xa ((xa, ob) :: pn)) (b0 :: su) (ts xa kl d)) (r : Clauses X hs l) :
      Clauses X (.ExceptHandler (some (.Name x p1)) (some n) (b0 :: su) p2 :: hs) ((c, i, ts) :: l)
section
variable {X : Cx} {body : List Stmt} {h0 : ExceptHandler} {hs : List ExceptHandler} {l : List Cl} {pos : Pos} {tb : WX → TS} {Wout : WX}
theorem ps_try_clauses (st : X.stack = X.env :: X.outer) (fr : X.env.frame = some X.env.locals) (nd : X.N.Nodup) (tk : Takes X Wout)
    (hb : ∀ (W : WX) (pn : List (Addr × Obj)) (xe : Value → Shared → Prop), Takes (X.tr pn xe) W → PassesOwn (model X.prog X.w) X.A X.env xe → PSs (X.tr pn xe) body (tb W))
    (hh : Clauses X (h0 :: hs) l) : PS X (.Try body (h0 :: hs) [] [] pos) (fun D σ G => tb (wClauses X.K Wout D l) D σ G) := by
  refine ⟨fun ps sh sg G D I h => ?_⟩
  have ok := I.ok
  have frs0 : X.A.frames = some (X.env :: X.outer) := ok.frames.trans (congrArg some st)
  refine wpAny_Try_except (wpAny_mono ((hb (wClauses X.K Wout D l) (X.pn ++ ps) (fun e z1 => wpAny (model X.prog X.w) X.A (noteFrame e X.env) (fun _ z2 => wpAny (model X.prog X.w) X.A (setFlight e none) (fun _ z3 =>
    wpAny (model X.prog X.w) X.A (handleBy e X.env (h0 :: hs)) (SP X ps D) X.xe z3) X.xe z2) X.xe z1) (fun u s2 xx => ?_) PassesOwn.looking).run [] sh sg G D (I.toTry _) h) (fun fl s2 hsp => ?_) (fun _ _ z => z))
  · obtain ⟨xa, Bs, si, ps2, s3, G3, kl, d, rfl, Jt, nb, ups, sky, na, eos, ags, w⟩ := xx
    have Ja : Inv X ps s3 G3 si := Jt.ofTry ok
    have sky2 : Sky Bs (X.env :: X.outer) xa (Zc kl d) X.env.locals s2.heap := st ▸ sky
    show wpAny (model X.prog X.w) X.A (noteFrame (.ref xa) X.env) _ _ _
    refine Sky.land Zc.steady frs0 fr sky2 fun g1 f1 u1 => ?_
    have J1 : Inv X ps s3 G3 { s2 with heap := g1 } := Ja.landed nb f1.1 (ups.trans u1) eos ags
    obtain ⟨ob1, vs1, at1, zc1, fd1⟩ := f1.there
    -- the exception is no frame of those that run
    have out : xa ∉ frs (X.env :: X.outer) := fun hm => by
      obtain ⟨_, ob2, at2, no2⟩ := f1.2.2.1.mem hm
      exact no2 _ ((Option.some.inj (at1.symm.trans at2)) ▸ fd1)
    have out1 : xa ≠ X.env.locals := fun z => out (List.mem_filterMap.mpr ⟨_, List.mem_cons_self, fr.trans (congrArg some z.symm)⟩)
    have out2 : xa ∉ X.fs := fun hm => by
      obtain ⟨en, hen, q⟩ := List.mem_filterMap.mp hm
      exact out (List.mem_filterMap.mpr ⟨en, List.mem_cons_of_mem _ hen, q⟩)
    have S1 := J1.suite at1 fd1 na out1 out2
    have lk : PySem.W.Looks (model X.prog X.w) g1 (typeOf (.ref xa)) kl := fun _ _ _ _ kk q => wpAny_typeOf_ref (kk _ _ at1) (zc1.1 ▸ q)
    have all : ∀ {hs2 : List ExceptHandler} {l2 : List Cl}, Clauses X hs2 l2 → wClauses X.K Wout D l2 kl d s3 G3 → wpAny (model X.prog X.w) X.A (handleBy (.ref xa) X.env hs2) (SP X ps D) X.xe { s2 with heap := g1 } := by
      intro hs2 l2 hk
      induction hk with
      | nil =>
        intro w
        obtain ⟨_, _, _, ob2, vs2, Tr, _, _, e2, _, d2, v2, _⟩ := id f1
        refine wpAny_handleBy_nil ?_
        unfold PySem.passOn
        refine wpAny_bind (wpAny_field e2 d2 v2 ?_)
        rw [if_neg (by simp)]
        have last : wpAny (model X.prog X.w) X.A (setFlight (.ref xa) X.env.frame) (fun _ z => wpAny (model X.prog X.w) X.A (throw (.ref xa) : Sem Flow) (SP X ps D) X.xe z) X.xe { s2 with heap := g1 } := by
          rw [fr]
          exact HandSPX.setFlight_upZ f1 fun g2 f2 u2 => wpAny_throw (tk _ _ ⟨xa, Bs, si, ps, s3, G3, kl, d, rfl, Ja, nb, (ups.trans u1).trans u2, .inr (.inr (by rw [st]; exact f2)), na, eos, ags, w⟩)
        first
          | exact wpAny_bind (wpAny_pure (wpAny_bind last))
          | exact wpAny_bind last
      | @cons x n c i ts b0 su p1 p2 hs3 l3 hc hi hn hsu r ih =>
        rintro ⟨b, e, yes, no⟩
        have named : ∀ {Q : Value → Shared → Prop} {E : Value → Shared → Prop}, Q c { s2 with heap := g1 } → wpAny (model X.prog X.w) (X.A.mark (some (.ref xa))) (eval (.Name x p1) X.env) Q E { s2 with heap := g1 } := fun {Q E} q => by
          obtain ⟨gl, db, gm | ⟨gm, bv, ne⟩⟩ := hc
          · exact ld_glob (X := X.suite xa ((xa, ob1) :: (X.pn ++ ps))) S1 gl gm q db
          · exact ld_blt (X := X.suite xa ((xa, ob1) :: (X.pn ++ ps))) S1 gl gm bv q ne db
        refine wpAny_handleBy_cons (codeAny_handlers_test (named ((PySem.W.exm_one (M := model X.prog X.w) J1.kIn lk e).here ?_))) (fun z => nomatch z)
        cases b with
        | false => exact ih (no rfl)
        | true =>
          refine codeAny_handlers_suite_as (HandSPX.lands_againZ f1 fun g2 f2 u2 => ?_)
          obtain ⟨ob2, vs2, at2, zc2, fd2⟩ := f2.there
          have J2 : Inv X ps s3 G3 { s2 with heap := g2 } := Ja.landed nb f2.1 ((ups.trans u1).trans u2) eos ags
          refine store_ok (X := X.suite xa ((xa, ob2) :: (X.pn ++ ps))) (v := .ref xa) (J2.suite at2 fd2 na out1 out2) nd hi (.inl hn) rfl (fun s5 S5 => ?_) (.inr hn)
          refine wpAny_mono ((hsu xa ob2 kl d (X.pn ++ ps) zc2 ⟨_, fd2⟩).run [] s5 _ G3 _ S5 (yes rfl xa na)) (fun fl s6 q => ?_) fun _ _ z => z.elim
          have gone : ∀ {sg6 : L2.St} {G6 : Hp} {Q : Shared → Prop}, Inv (X.suite xa ((xa, ob2) :: (X.pn ++ ps))) [] sg6 G6 s6 → (∀ s7, Inv X ps (sg6.set i none) G6 s7 → Q s7) → wpAny (model X.prog X.w) X.A (do bindName X.env n .none; unbindBehindTheSuite X.env n p2) (fun _ s7 => Q s7) X.xe s6 :=
            fun I6 k => gone_ok (I6.unsuite ok) nd hi hn k
          match fl, q with
          | .next, ⟨_, _, I6, q6⟩ => exact gone I6 fun _ I7 => ⟨_, _, I7, q6⟩
          | .brk, ⟨_, _, I6, q6⟩ => exact gone I6 fun _ I7 => ⟨_, _, I7, q6⟩
          | .cont, ⟨_, _, I6, q6⟩ => exact gone I6 fun _ I7 => ⟨_, _, I7, q6⟩
          | .ret _, ⟨_, _, _, I6, r6, q6⟩ => exact gone I6 fun _ I7 => ⟨_, _, _, I7, r6, q6⟩
    exact all hh w
  · match fl, hsp with
    | .next, ⟨_, _, I6, q6⟩ => exact wpAny_execs_nil ⟨_, _, I6.ofTry ok, q6⟩
    | .brk, ⟨_, _, I6, q6⟩ => exact ⟨_, _, I6.ofTry ok, q6⟩
    | .cont, ⟨_, _, I6, q6⟩ => exact ⟨_, _, I6.ofTry ok, q6⟩
    | .ret _, ⟨_, _, _, I6, r6, q6⟩ => exact ⟨_, _, _, I6.ofTry ok, r6, q6⟩
end
end Dk
set_option Elab.async false
set_option linter.all false
set_option maxRecDepth 100000
set_option maxHeartbeats 4000000
namespace Dk
open PySem PySem.Spec PyProof.Rows L2 Er
open PySem.ErK (EC)
/-! ### o.m(..) under a try; _law_saw, _law_told -/
def tMethT (C : Addr) (m : Str) (sp : Sp) (E : L2.St → XK) (ta : TE) (t : TA) : TE := fun σ H Q => ta σ H fun y H1 => ∃ o dx fs, y = .ref o ∧ H1 o = some (.ins C dx fs) ∧ fs.lookup m = none ∧ t σ H1 fun vs H2 => sp (y :: (vs ++ [])) H2 Q (E σ)
theorem pe_methT {X : Cx} {CX : CXT} {k : Nat} {f C : Addr} {fd : FuncData} {ps : List Str} {sp : Sp} {E : L2.St → XK} {m : Str} {pos apos : Pos} {o e : Expr} {es : List Expr} {ta : TE} {t : TA} {pl : Sem Bool} (ho : PE X o ta) (c : Cls X.K C) (hm : Meth X.K C m f) (F : FnOk X.prog X.w X.K X.mg X.base CX k f fd ps sp)
    (hr : Room k X.A) (hb : Binds X.K fd ps []) (hx : ∀ σ, PassesAt CX X σ (E σ)) (ha : PA X (e :: es) t) (hst : starEach (e :: es) X.env = (false, eval e X.env) :: starEach es X.env := by rfl) (hpl : (backTo pos (starEach es X.env)).any (·.1) = false := by rfl)
    (ht : eval (.Call (.Attribute o m apos) (e :: es) [] pos) X.env = (do let ov ← eval o X.env; standAt apos.atName; let (g, first) ← holding [ov] (getMethod ov m pl); callWith pos g first (backTo pos (starEach (e :: es) X.env)) (backToKw pos (keywordEach [] X.env))) := by rfl) :
    PE X (.Call (.Attribute o m apos) (e :: es) [] pos) (tMethT C m sp E ta t) := by
  refine ⟨fun ps sh σ H Q I h => ?_⟩
  refine PySem.W.methodCall_KW (pl := pl) (thn (ho.run ps sh σ H _ I h) fun u s1 ⟨y, H1, I1, ry, a, dx, fs, ey, ea, l, q⟩ => ?_) ht
  subst ey
  obtain rfl : u = Value.ref a := ry
  refine getmeth_ok I1 ea c hm l (PySem.W.callWith_K (first := [.ref a]) (h₀ := X.base) I.ok.mod.kin hm.kp (thn (ha.run pos ps s1 σ H1 _ I1 q) fun us s2 ⟨vs, H2, I2, r, q2⟩ => ⟨I2.kIn, ?_⟩) hst hpl)
  exact run_fnSD (dvs := []) (us := .ref a :: us) (vs := .ref a :: vs) F hr hb .nil (hx σ) I2 (.cons rfl r) q2
/-- what a list of two tells -/
def Pair2 (H : Hp) (p : Addr) (x : Str) (y : V) : Prop := H p = some (.lst [.str x, y])
theorem takesN {X : Cx} : Takes X (fun _ _ _ _ => False) := fun _ _ ⟨_, _, _, _, _, _, _, _, _, _, _, _, _, _, _, _, w⟩ => w.elim
section
variable {P : Program} {w : World} {K : PySem.W.Frag} {mg : Str → Option Value} {base : Heap} {f fI fJ fS fL C CS CR : Addr} {fd dI dJ dS dL : FuncData}
theorem bSight (F : FunD K "sight" "Desk.sight" (defArgs (meth 5)) (defBody (meth 5)) (defScope (meth 5)) [] [] f fd) : Binds K fd nSight [] := F.bindsN fun _ _ _ _ _ _ us hl => match us, hl with
  | [_, _], _ => rfl
theorem bLead (F : FunD K "lead" "Desk.lead" (defArgs (meth 4)) (defBody (meth 4)) (defScope (meth 4)) [] [] f fd) : Binds K fd ["self", "standing", "row"] [] := F.bindsN fun _ _ _ _ _ _ us hl => match us, hl with
  | [_, _, _], _ => rfl
end
end Dk
set_option Elab.async false
set_option linter.all false
set_option maxRecDepth 100000
set_option maxHeartbeats 4000000
namespace Dk
open PySem PySem.Spec PyProof.Rows L2 Er
/-! ### == of dicts, whichever the answer -/
def sameF (F : V → V → Bool) (ks ls : List (Key × V)) : Bool := decide (ks.length = ls.length) && ks.all fun p => match valV ls p.1 with
  | none => false
  | some u => F p.2 u
theorem valV_in {ls : List (Key × V)} {k : Key} {u : V} (e : valV ls k = some u) : ∃ p ∈ ls, p.2 = u := by
  unfold valV at e
  cases h : ls.find? fun kv => decide (kv.1 = k) with
  | none =>
    rw [h] at e
    cases e
  | some p =>
    rw [h] at e
    exact ⟨p, List.mem_of_find?_eq_some h, Option.some.inj e⟩
theorem hits_P {P : Program} {w : World} {A : Around} {s : Shared} {F : V → V → Bool} {ls : List (Key × V)} {vb : List (Key × Value)} (rb : KV ls vb) : ∀ {ks : List (Key × V)} {va : List (Key × Value)}, KV ks va →
    (∀ p ∈ ks, ∀ u, valV ls p.1 = some u → ∀ y z, RelV p.2 y → RelV u z → SeqAt.EqP P w A s y z (F p.2 u)) → PySem.W.KeqHitsP P w A s vb va (ks.all fun p => match valV ls p.1 with
      | none => false
      | some u => F p.2 u)
  | [], _, ra, _ => by
    cases ra
    exact .nil
  | p :: ks, _, ra, ih => by
    cases ra with
    | @cons _ q _ qs h t =>
      obtain ⟨h1, h2⟩ := h
      obtain ⟨key, y⟩ := q
      have h1 : p.1 = key := h1
      subst h1
      have rest := hits_P (P := P) (w := w) (A := A) (s := s) (F := F) rb t fun p' hm => ih p' (List.mem_cons_of_mem _ hm)
      have rv := rb.val p.1
      rw [List.all_cons]
      cases e : valV ls p.1 with
      | none =>
        rw [e] at rv
        cases g : valueAt vb p.1 with
        | none => exact .miss g
        | some z =>
          rw [g] at rv
          exact rv.elim
      | some u =>
        rw [e] at rv
        cases g : valueAt vb p.1 with
        | none =>
          rw [g] at rv
          exact rv.elim
        | some z =>
          rw [g] at rv
          exact .hit g (ih p List.mem_cons_self u e y z h2 rv) rest
theorem hits_F {A : Around} {s : Shared} {ls : List (Key × V)} {vb : List (Key × Value)} (rb : KV ls vb) (fl : ∀ p ∈ ls, flatV p.2 = true) : ∀ {ks : List (Key × V)} {va : List (Key × Value)}, KV ks va → (∀ p ∈ ks, flatV p.2 = true) →
    PySem.W.KeqHits A s vb va (ks.all fun p => match valV ls p.1 with
      | none => false
      | some u => eqV p.2 u)
  | [], _, ra, _ => by
    cases ra
    exact .nil
  | p :: ks, _, ra, fk => by
    cases ra with
    | @cons _ q _ qs h t =>
      obtain ⟨h1, h2⟩ := h
      obtain ⟨key, y⟩ := q
      have h1 : p.1 = key := h1
      subst h1
      have rest := hits_F (A := A) (s := s) rb fl t fun p' hm => fk p' (List.mem_cons_of_mem _ hm)
      have rv := rb.val p.1
      rw [List.all_cons]
      cases e : valV ls p.1 with
      | none =>
        rw [e] at rv
        cases g : valueAt vb p.1 with
        | none => exact .miss g
        | some z =>
          rw [g] at rv
          exact rv.elim
      | some u =>
        rw [e] at rv
        obtain ⟨pu, hpu, rfl⟩ := valV_in e
        cases g : valueAt vb p.1 with
        | none =>
          rw [g] at rv
          exact rv.elim
        | some z =>
          rw [g] at rv
          exact .hit g (eqAt_V h2 rv (fk p List.mem_cons_self) (fl pu hpu)) rest
section
variable {X : Cx}
/-- a != b, two dicts of flat values -/
def rNeF : R2 := fun x y H Q => ∃ a b ks ls, x = .ref a ∧ y = .ref b ∧ H a = some (.dK ks) ∧ H b = some (.dK ls) ∧ (∀ p ∈ ks, flatV p.2 = true) ∧ (∀ p ∈ ls, flatV p.2 = true) ∧ Q (.bl (!sameF eqV ks ls)) H
theorem op_neF (hu : X.A.units + 1 < cLine) : OpR X (compareOp .NotEq) rNeF := by
  intro ps s σ H x y v u Q I rx ry h
  obtain ⟨a, b, ks, ls, rfl, rfl, ea, eb, fk, fl, q⟩ := h
  obtain rfl : v = Value.ref a := rx
  obtain rfl : u = Value.ref b := ry
  obtain ⟨_, ya, va, ra, da⟩ := (show ObjOk X.prog X.w H s.heap a (.dK ks) from I.hok a _ ea)
  obtain ⟨_, yb, vb, rb, db⟩ := (show ObjOk X.prog X.w H s.heap b (.dK ls) from I.hok b _ eb)
  refine PySem.W.keq_ne (knd := mixKind X.prog X.w) ya yb da db (by omega) (fun _ => hits_F rb fl ra fk) (fin_bl I q ?_)
  unfold sameF
  rw [ra.length, rb.length]
  rfl
/-- how the parts of two dicts of dicts compare -/
def sub (T : Addr → List (Key × V)) : V → V → Bool
  | .ref c, .ref d => if c = d then true else sameF eqV (T c) (T d)
  | _, _ => false
/-- a == b, two dicts of dicts of flat values -/
def rEqN : R2 := fun x y H Q => ∃ (a b : Addr) (ks ls : List (Key × V)) (T : Addr → List (Key × V)), x = .ref a ∧ y = .ref b ∧ H a = some (.dK ks) ∧ H b = some (.dK ls) ∧
  (∀ p ∈ ks, ∃ c, p.2 = .ref c ∧ H c = some (.dK (T c)) ∧ ∀ q ∈ T c, flatV q.2 = true) ∧ (∀ p ∈ ls, ∃ c, p.2 = .ref c ∧ H c = some (.dK (T c)) ∧ ∀ q ∈ T c, flatV q.2 = true) ∧ Q (.bl (sameF (sub T) ks ls)) H
theorem op_eqN (hu : X.A.units + 1 < cLine) : OpR X (compareOp .Eq) rEqN := by
  intro ps s σ H x y v u Q I rx ry h
  obtain ⟨a, b, ks, ls, T, rfl, rfl, ea, eb, fk, fl, q⟩ := h
  obtain rfl : v = Value.ref a := rx
  obtain rfl : u = Value.ref b := ry
  obtain ⟨_, ya, va, ra, da⟩ := (show ObjOk X.prog X.w H s.heap a (.dK ks) from I.hok a _ ea)
  obtain ⟨_, yb, vb, rb, db⟩ := (show ObjOk X.prog X.w H s.heap b (.dK ls) from I.hok b _ eb)
  have part : ∀ p ∈ ks, ∀ u, valV ls p.1 = some u → ∀ y z, RelV p.2 y → RelV u z → SeqAt.EqP X.prog X.w X.A.in1 s y z (sub T p.2 u) := fun p hp u e y z ry rz => by
    obtain ⟨pu, hpu, rfl⟩ := valV_in e
    obtain ⟨c, ec, hc, fc⟩ := fk p hp
    obtain ⟨d, ed, hd, fd⟩ := fl pu hpu
    rw [ec] at ry ⊢
    rw [ed] at rz ⊢
    obtain rfl : y = Value.ref c := ry
    obtain rfl : z = Value.ref d := rz
    show SeqAt.EqP X.prog X.w X.A.in1 s (.ref c) (.ref d) (if c = d then true else sameF eqV (T c) (T d))
    by_cases g : c = d
    · subst g
      rw [if_pos rfl]
      exact (SeqAt.EqAt.same _).eqP
    · rw [if_neg g]
      obtain ⟨_, yc, vc, rc, dc⟩ := (show ObjOk X.prog X.w H s.heap c (.dK (T c)) from I.hok c _ hc)
      obtain ⟨_, yd, vd, rd, dd⟩ := (show ObjOk X.prog X.w H s.heap d (.dK (T d)) from I.hok d _ hd)
      refine SeqAt.eqP_refs g fun E Q2 q2 => PySem.W.keq_eq (knd := mixKind X.prog X.w) yc yd dc dd (show X.A.in1.units < cLine from hu) (fun _ => hits_F rd fd rc fc) ?_
      unfold sameF at q2
      rw [rc.length, rd.length] at q2
      exact q2
  refine PySem.W.rcP_dicts (knd := mixKind X.prog X.w) ya yb da db (by omega) (fun _ => hits_P rb ra part) _ _ ?_
  refine fin_bl I q ?_
  unfold sameF
  rw [ra.length, rb.length]
  rfl
end
end Dk
set_option Elab.async false
set_option linter.all false
set_option maxRecDepth 100000
set_option maxHeartbeats 4000000
namespace Dk
open PySem PySem.Spec PyProof.Rows L2 Er
/-! ### tuple(x), x a dict -/
section
variable {prog : Program} {w : World} {A : Around} {E : Value → Shared → Prop} {s : Shared} {T : String} {r d : Addr} {n : Nat} {P : Nat → Value → Prop} {OK : Heap → Prop}
theorem gather_src {Q : List Value → Shared → Prop} (K : PySem.W.KdlSrc prog w T r d n P OK) (hh : A.handled = none) (ok : OK s.heap) (hn : n ≤ sizeLine)
    (fin : ∀ (g : Heap) (tk : Nat) (acc : Array Value), (∀ b o, s.heap.get? b = some o → g.get? b = some o) → ItemsOf P acc n → Q acc.toList { s with heap := g, toks := tk }) : wpAny (model prog w) A (collect (.ref r)) Q E s := by
  have lt := K.there _ ok
  have new : (s.heap.push { cls := .type "list", data := .seq ([] : List Value).toArray }).get? s.heap.objs.size = some { cls := .type "list", data := .seq #[] 0 } := Heap.get?_push_size _ rfl
  unfold collect
  refine wpAny_bind (wpAny_runValue (codeAny_builtin F.entry_proto_collect ?_))
  rw [Around.under_plainId F.plain_proto_collect _]
  show wpAny _ A.in1 (newList [] >>= fun z => again (.builtin "list.__iadd__" ⟨[z, .ref r], []⟩)) _ _ s
  refine wpAny_bind (wpAny_newObj_type (wpAny_pure ⟨plainId_quiet F.plain_list_iadd _, codeAny_builtin F.entry_list_iadd ?_⟩))
  rw [Around.under_plainId F.plain_list_iadd _]
  show wpAny _ A.in1 (Builtin.List.listExtendWith (.ref s.heap.objs.size) (.ref r) (.ref s.heap.objs.size)) _ _ _
  refine wpAny_mono (PySem.W.kdl_extend (A := A) (R := fun rr s2 => rr = .ok (.ret (.ref s.heap.objs.size)) ∧ ∃ (g : Heap) (tk : Nat) (acc : Array Value) (c2 : Nat), s2 = { s with heap := g, toks := tk } ∧ (∀ b o, s.heap.get? b = some o → g.get? b = some o) ∧
      g.get? s.heap.objs.size = some { cls := .type "list", dict := none, data := .seq acc c2, slots := #[] } ∧ ItemsOf P acc n)
    (s := { s with heap := s.heap.push { cls := .type "list", data := .seq ([] : List Value).toArray } }) K hh (K.keep _ _ ok fun b _ o e => Heap.get?_push_of_some _ e) _ (Nat.ne_of_gt lt.1) (Nat.ne_of_gt lt.2) _ 0 new
    (fun g tk acc c2 k e i => ⟨rfl, g, tk, acc, c2, rfl, fun b o q => k b o (Nat.ne_of_lt (Heap.lt_size q)) (Heap.get?_push_of_some _ q), e, i⟩) hn) (fun f s2 h => ?_) (fun e s2 h => absurd h.1 (by simp))
  cases f with
  | done f =>
    obtain ⟨ef, g, tk, acc, c2, rfl, k, e, i⟩ := h
    cases ef
    show wpAny _ A (load s.heap.objs.size >>= _) _ _ _
    exact wpAny_bind (wpAny_load e (wpAny_pure (fin g tk acc k i)))
  | again c1 =>
    refine ⟨h.1, codeAny_mono h.2 fun rr s3 q => ?_⟩
    obtain ⟨rfl, g, tk, acc, c2, rfl, k, e, i⟩ := q
    show wpAny _ A (load s.heap.objs.size >>= _) _ _ _
    exact wpAny_bind (wpAny_load e (wpAny_pure (fin g tk acc k i)))
theorem code_tup_src {Q1 : Value → Shared → Prop} (K : PySem.W.KdlSrc prog w T r d n P OK) (hh : A.handled = none) (ok : OK s.heap) (hn : n ≤ sizeLine) (nt : (Value.type T == Value.type "tuple") = false)
    (fin : ∀ (g : Heap) (tk : Nat) (acc : Array Value), (∀ b o, s.heap.get? b = some o → g.get? b = some o) → ItemsOf P acc n → Q1 (.ref g.objs.size) { s with heap := g.push { cls := .type "tuple", data := .seq acc }, toks := tk }) :
    codeAny (model prog w) A (.call (.builtin "tuple.__new__") ⟨[.type "tuple", .ref r], []⟩) (wants Q1 E) s := by
  refine codeAny_of_tree ?_
  show wpAny _ A.in1 (do checkBuiltinCall "tuple.__new__" ⟨[.type "tuple", .ref r], []⟩; again (.builtin "tuple.__new__" ⟨[.type "tuple", .ref r], []⟩)) _ _ s
  refine wpAny_bind (wpAny_of_eq (F.newCall_tuple_1 _) (wpAny_pure ⟨plainId_quiet F.plain_tuple_new _, codeAny_builtin F.entry_tuple_new ?_⟩))
  rw [Around.under_plainId F.plain_tuple_new _]
  have h1 := sub_tuple_self
  have h2 := init_tuple_lookup
  have h3 := madeHere_tuple
  have h4 := K.type _ ok
  have h5 : A.in1.handled = none := hh
  wp_walk using wpAny_typeOf h4, gather_src (A := A.in1) K h5 ok hn
  intro g tk acc k i
  show wpAny _ _ (Builtin.Tuple.tupleExact acc.toList.toArray >>= fun v => ret v) _ _ _
  unfold Builtin.Tuple.tupleExact
  refine wpAny_bind (wpAny_newObj_type ?_ (by show acc.toList.toArray.size ≤ sizeLine; simp only [Array.toArray_toList]; rw [i.1]; exact hn))
  refine wpAny_pure ?_
  rw [show acc.toList.toArray = acc from by simp]
  exact fin g tk acc k i
end
def rTupD : List V → Hp → VK → Prop := fun xs H Q => ∃ p kvs, xs = [.ref p] ∧ H p = some (.dK kvs) ∧ ∀ q, H q = none → Q (.ref q) (upd H q (.tup (kvs.map fun kv => kV kv.1)))
theorem call_tup_dK {X : Cx} (hc : X.calm = true) : CallR X (.type "tuple") rTupD := by
  intro ps s σ H xs us Q I r h
  obtain ⟨p, kvs, rfl, hk, q⟩ := h
  obtain ⟨u, rfl, rx⟩ := vals1 r
  obtain rfl : u = Value.ref p := rx
  obtain ⟨z, lo, vs, rk, hd⟩ := (show ObjOk X.prog X.w H s.heap p (.dK kvs) from I.hok p _ hk)
  obtain ⟨ep, at_⟩ := hd.dictAt
  have hl : kvs.length = vs.length := Paired.length rk
  refine callType_codes (Q₁ := fun obj s1 => s1.TypeIs obj "tuple" ∧ EP X ps σ Q obj s1) F.called_tuple (F.typeCall_tuple_1 _) F.entry_object_init
    (code_tup_src (A := X.A.in1) (PySem.W.kdl_dict (knd := mixKind X.prog X.w) (kvs := vs) (ep := ep) lo) (I.ok.hd hc) at_ (by rw [← hl]; exact z) (by decide) fun g tk acc k i => ⟨⟨_, Heap.get?_push_size _ rfl, rfl⟩, ?_⟩) fun obj s1 h1 => ?_
  · have I1 : Inv X ps σ H { s with heap := g, toks := tk } := I.kept k
    refine ⟨.ref g.objs.size, upd H g.objs.size (.tup (kvs.map fun kv => kV kv.1)), I1.laid (t' := tk) (fun c o e => Heap.get?_push_of_some _ e) (Nat.le_refl _) (show ObjOk X.prog X.w _ _ _ (.tup (kvs.map fun kv => kV kv.1)) from ⟨?_, acc.toList, ?_, ?_⟩), rfl, q _ (I1.hok.fresh (Nat.le_refl _))⟩
    · rw [List.length_map]
      exact z
    · have el : acc.toList.length = acc.size := by simp
      refine vals_of_at (by rw [List.length_map, el, i.1, hl]) fun j x w e1 e2 => ?_
      obtain ⟨ky, y, hky, hi⟩ := i.2 j w (by rw [← Array.getElem?_toList]; exact e2)
      have g1 : (kvs.map (·.1))[j]? = some ky := by
        rw [KV.keys rk, List.getElem?_map, hky]
        rfl
      have g2 : (kvs.map fun kv => kV kv.1)[j]? = some (kV ky) := by
        rw [show (kvs.map fun kv => kV kv.1) = (kvs.map (·.1)).map kV from by rw [List.map_map]; rfl, List.getElem?_map, g1]
        rfl
      rw [g2] at e1
      cases Option.some.inj e1
      exact keyIs_rel hi
    · rw [Array.toArray_toList]
      exact IsTup.new _ _
  · exact ⟨h1.1, F.args_object_init_2 obj _, object_init_meets F.called_tuple.init.lookup F.called_tuple.made (by decide) X.prog X.w X.A.in1 _ s1 ⟨h1.1, rfl, h1.2⟩⟩
end Dk
set_option Elab.async false
set_option linter.all false
set_option maxRecDepth 100000
set_option maxHeartbeats 4000000
namespace Dk
open PySem PySem.Spec PyProof.Rows L2 Er
/-! ### Desk.__eq__ -/
theorem same_iff {F : V → V → Bool} {ws : List Str} {us vs : List V} (nd : ws.Nodup) (h1 : us.length = ws.length) (h2 : vs.length = ws.length) : sameF F (dkv ws us) (dkv ws vs) = true ↔ ∀ (j : Nat) (u v : V), us[j]? = some u → vs[j]? = some v → F u v = true := by
  have knd : ((dkv ws vs).map (·.1)).Nodup := by
    rw [dkv_keys h2.symm]
    exact List.Pairwise.map _ (fun a b n z => n (Sum.inr.inj z)) nd
  unfold sameF
  rw [dkv_len h1, dkv_len h2, decide_eq_true rfl, Bool.true_and, List.all_eq_true]
  constructor
  · intro h j u v e1 e2
    have jl : j < ws.length := by
      have := (List.getElem?_eq_some_iff.mp e1).1
      omega
    have ew : (ws.map Sum.inr : List Key)[j]? = some (.inr (ws[j]'jl)) := by
      rw [List.getElem?_map, List.getElem?_eq_getElem jl]
      rfl
    have m1 : (dkv ws us)[j]? = some (.inr (ws[j]'jl), u) := List.getElem?_zip_eq_some.mpr ⟨ew, e1⟩
    have m2 : (dkv ws vs)[j]? = some (.inr (ws[j]'jl), v) := List.getElem?_zip_eq_some.mpr ⟨ew, e2⟩
    have q := h _ (List.mem_of_getElem? m1)
    rw [valV_of knd m2] at q
    exact q
  · intro h p hp
    obtain ⟨j, hj⟩ := List.mem_iff_getElem?.mp hp
    obtain ⟨k, u⟩ := p
    obtain ⟨z, ez, rfl, eu⟩ := dkv_at hj
    have jl : j < vs.length := by
      have := (List.getElem?_eq_some_iff.mp ez).1
      omega
    have m2 : (dkv ws vs)[j]? = some (.inr z, vs[j]'jl) := List.getElem?_zip_eq_some.mpr ⟨by rw [List.getElem?_map, ez]; rfl, List.getElem?_eq_getElem jl⟩
    rw [valV_of knd m2]
    exact h j u _ eu (List.getElem?_eq_getElem jl)
theorem same_strs {ws ls ms : List Str} (nd : ws.Nodup) (h1 : ls.length = ws.length) (h2 : ms.length = ws.length) : sameF eqV (dkv ws (ls.map V.str)) (dkv ws (ms.map V.str)) = decide (ls = ms) := by
  rw [Bool.eq_iff_iff, decide_eq_true_iff, same_iff nd (by rw [List.length_map, h1]) (by rw [List.length_map, h2])]
  constructor
  · intro h
    refine List.ext_getElem (by omega) fun j j1 j2 => ?_
    have q := h j (.str (ls[j]'j1)) (.str (ms[j]'j2)) (by rw [List.getElem?_map, List.getElem?_eq_getElem j1]; rfl) (by rw [List.getElem?_map, List.getElem?_eq_getElem j2]; rfl)
    exact beq_iff_eq.mp q
  · rintro rfl j u v e1 e2
    rw [e1] at e2
    cases e2
    rw [List.getElem?_map] at e1
    cases g : ls[j]? with
    | none =>
      rw [g] at e1
      cases e1
    | some z =>
      rw [g] at e1
      cases e1
      exact beq_self_eq_true z
/-- the dict at an address -/
def dictAt (H : Hp) (a : Addr) : List (Key × V) := match H a with
  | some (.dK t) => t
  | _ => []
theorem dictAt_of {H : Hp} {a : Addr} {t : List (Key × V)} (e : H a = some (.dK t)) : dictAt H a = t := by
  unfold dictAt
  rw [e]
theorem same_tabs {H : Hp} {ws ds : List Str} {as bs : List Addr} {tb tc : List (List Str)} (nd : ws.Nodup) (dnd : ds.Nodup) (h1 : tb.length = ds.length) (h2 : tc.length = ds.length) (r1 : ∀ vs ∈ tb, vs.length = ws.length) (r2 : ∀ vs ∈ tc, vs.length = ws.length)
    (p1 : Paired (fun a vs => H a = some (.dK (dkv ws (vs.map V.str)))) as tb) (p2 : Paired (fun a vs => H a = some (.dK (dkv ws (vs.map V.str)))) bs tc) : sameF (sub (dictAt H)) (dkv ds (as.map V.ref)) (dkv ds (bs.map V.ref)) = decide (tb = tc) := by
  have l1 := paired_len p1
  have l2 := paired_len p2
  have step : ∀ (c d : Addr) (vs us : List Str), vs.length = ws.length → us.length = ws.length → H c = some (.dK (dkv ws (vs.map V.str))) → H d = some (.dK (dkv ws (us.map V.str))) → sub (dictAt H) (.ref c) (.ref d) = decide (vs = us) := fun c d vs us e1 e2 e3 e4 => by
    show (if c = d then true else sameF eqV (dictAt H c) (dictAt H d)) = _
    by_cases g : c = d
    · subst g
      rw [e3] at e4
      have e5 := HO.dK.inj (Option.some.inj e4)
      have e6 := same_strs nd e1 e2
      rw [← e5, same_strs nd e1 e1, decide_eq_true rfl] at e6
      rw [if_pos rfl]
      exact e6
    · rw [if_neg g, dictAt_of e3, dictAt_of e4, same_strs nd e1 e2]
  rw [Bool.eq_iff_iff, decide_eq_true_iff, same_iff dnd (by rw [List.length_map, l1, h1]) (by rw [List.length_map, l2, h2])]
  constructor
  · intro h
    refine List.ext_getElem (by omega) fun j j1 j2 => ?_
    have ja : j < as.length := by omega
    have jb : j < bs.length := by omega
    obtain ⟨vs, e1, e2⟩ := pair_at p1 (List.getElem?_eq_getElem ja)
    obtain ⟨us, e3, e4⟩ := pair_at p2 (List.getElem?_eq_getElem jb)
    have q := h j (.ref (as[j]'ja)) (.ref (bs[j]'jb)) (by rw [List.getElem?_map, List.getElem?_eq_getElem ja]; rfl) (by rw [List.getElem?_map, List.getElem?_eq_getElem jb]; rfl)
    rw [step _ _ vs us (r1 _ (List.mem_of_getElem? e1)) (r2 _ (List.mem_of_getElem? e3)) e2 e4, decide_eq_true_iff] at q
    rw [List.getElem?_eq_getElem j1] at e1
    rw [List.getElem?_eq_getElem j2] at e3
    rw [Option.some.inj e1, Option.some.inj e3, q]
  · rintro rfl j u v e1 e2
    rw [List.getElem?_map] at e1 e2
    cases ga : as[j]? with
    | none =>
      rw [ga] at e1
      cases e1
    | some c =>
      cases gb : bs[j]? with
      | none =>
        rw [gb] at e2
        cases e2
      | some d =>
        rw [ga] at e1
        rw [gb] at e2
        cases e1
        cases e2
        obtain ⟨vs, e3, e4⟩ := pair_at p1 ga
        obtain ⟨us, e5, e6⟩ := pair_at p2 gb
        rw [e3] at e5
        cases Option.some.inj e5
        have lv := r1 _ (List.mem_of_getElem? e3)
        rw [step _ _ vs vs lv lv e4 e6, decide_eq_true rfl]
theorem dp_strs {K : PySem.W.Frag} {H : Hp} : ∀ (ws : List Str), DpAll K H (ws.map V.str) (ws.map PyData.str)
  | [] => .nil
  | z :: ws => .cons (.str z) (dp_strs ws)
theorem lay_strs : ∀ {ws : List Str}, (∀ z ∈ ws, IsWord z) → PyData.canLayAll0 (ws.map PyData.str) = true ∧ PyData.depthAll (ws.map PyData.str) ≤ 1
  | [], _ => ⟨by simp [PyData.canLayAll0], by simp [PyData.depthAll]⟩
  | z :: ws, h => by
    have ih := lay_strs (ws := ws) fun y hy => h y (List.mem_cons_of_mem _ hy)
    exact ⟨by simp [PyData.canLayAll0, PyData.canLay0, (h z List.mem_cons_self).ok, ih.1], by simp only [List.map_cons, PyData.depthAll, PyData.depth]; omega⟩
theorem shaped_tupS {ws : List Str} (h : ∀ z ∈ ws, IsWord z) : SeqAt.shaped (.tuple (ws.map PyData.str)) = true := by
  have z := lay_strs h
  unfold SeqAt.shaped
  have c : (PyData.tuple (ws.map PyData.str)).canLay0 = true := by simpa [PyData.canLay0] using z.1
  rw [c, Bool.true_and, decide_eq_true_iff]
  have d : (PyData.tuple (ws.map PyData.str)).depth ≤ 2 := by
    simp only [PyData.depth]
    omega
  omega
theorem eqv_strs : ∀ {ws vs : List Str}, PyData.eqvAll (ws.map PyData.str) (vs.map PyData.str) = decide (ws = vs)
  | [], [] => by simp [PyData.eqvAll]
  | [], _ :: _ => by simp [PyData.eqvAll]
  | _ :: _, [] => by simp [PyData.eqvAll]
  | z :: ws, y :: vs => by
    have ih := eqv_strs (ws := ws) (vs := vs)
    simp only [List.map_cons, PyData.eqvAll, PyData.eqv, ih]
    rw [Bool.eq_iff_iff]
    simp
theorem eqv_tupS {ws vs : List Str} : PyData.eqv (.tuple (ws.map PyData.str)) (.tuple (vs.map PyData.str)) = decide (ws = vs) := by
  rw [← eqv_strs]
  simp only [PyData.eqv]
/-- what the written part says of Desk -/
structure DkC (K : PySem.W.Frag) (mg : Str → Option Value) (C : Addr) : Prop where
  cl : Cls K C
  ha : PySem.W.findIn K (.ref C) "__class__" = some (some (.builtin "object.__class__"))
  hn : PySem.W.specialIn K (.builtin "object.__class__") "__get__" = some (some (.builtin "getset_descriptor.__get__"))
  htk : PySem.W.takesIn K (.builtin "object.__class__") = some true
  hm : PySem.W.mroIn K C (.type "object") = some true
  kC : PySem.W.kitOne K (.ref C) (.ref C) = some true
  n1 : NoAttr K C "_standings"
  n2 : NoAttr K C "_leads"
  n3 : NoAttr K C "_sights"
  g : mg "Desk" = some (.ref C)
def spEqK (K : PySem.W.Frag) (C : Addr) : Sp := fun vs H Q _ => ∃ (x : Addr) (y : V) (ws ds : List Str) (tb : List (List Str)) (ls : List Str) (m : Nat), vs = [.ref x, y] ∧ DeskOb K C H x ws ds tb ls ∧ DkIs m ws ds tb ls ∧
  ((∃ (z : Addr) (ws' ds' : List Str) (tb' : List (List Str)) (ls' : List Str) (m' : Nat), y = .ref z ∧ DeskOb K C H z ws' ds' tb' ls' ∧ DkIs m' ws' ds' tb' ls' ∧ ∀ H', Sm H H' → Q (.bl (decide (ws = ws' ∧ ls = ls' ∧ ds = ds' ∧ tb = tb'))) H') ∨
   ∃ t, TyX K H y t ∧ PySem.W.kitOne K t (.ref C) = some false ∧ Q (.bl false) H)
abbrev nEq : List Str := ["self", "other"]
theorem scEq : FnScope nEq nEq (defScope (meth 7)) := ⟨rfl, rfl, rfl, by decide +kernel, rfl, by decide +kernel, by decide +kernel⟩
theorem keys_dkv {ds : List Str} {us : List V} (e : us.length = ds.length) : ((dkv ds us).map fun kv => kV kv.1) = ds.map V.str := by
  have z := dkv_keys e.symm
  rw [show ((dkv ds us).map fun kv => kV kv.1) = ((dkv ds us).map (·.1)).map kV from by rw [List.map_map]; rfl, z, List.map_map]
  rfl
section
variable {P : Program} {w : World} {K : PySem.W.Frag} {mg : Str → Option Value} {base : Heap} {f C : Addr} {fd : FuncData}
theorem ok_eqK (F : FunD K "__eq__" "Desk.__eq__" (defArgs (meth 7)) (defBody (meth 7)) (defScope (meth 7)) [] [] f fd) (mi : mg "isinstance" = none) (mT : mg "tuple" = none) (T : DkC K mg C) : FnOk P w K mg base CX0 1 f fd nEq (spEqK K C) := by
  refine F.ok (CX := CX0) scEq (fun vs H Q E h => ?_) (fun cdv A outer s H vs Q E hr h => ?_)
  · obtain ⟨x, y, ws, ds, tb, ls, m, rfl, _⟩ := h
    rfl
  · refine ⟨_, PSs.nox (pss_cons (ps_if (pt_not (pt_val (by exact (pe_callB call_isi rfl mi PyProof.Rows.boot_isinstance (pa_cons (pv 1) (pa_cons (pe_glob (v := .ref C) rfl T.g rfl) pa_nil)))))) (pss_one (ps_ret pe_bl)) pss_nil)
      (pss_cons (ps_if (PW.pt (pw_or (pt_cmpR (op_neD hr.units) (pe_fld (pv 0) rfl) (pe_fld (pv 1) rfl) (nomark _)) (pw_or1 (pt_cmpR (op_neF (hu_of hr)) (pe_fld (pv 0) rfl) (pe_fld (pv 1) rfl) (nomark _))))) (pss_one (ps_ret pe_bl)) pss_nil)
      (pss_one (ps_ret (by exact (pe_and (by exact (pe_cmpR (op_eqD hr.units) (by exact (pe_callTy (call_tup_dK rfl) rfl mT PyProof.Rows.boot_tuple (pa_cons (by exact (pe_fld (pv 0) rfl)) pa_nil))) (by exact (pe_callTy (call_tup_dK rfl) rfl mT PyProof.Rows.boot_tuple (pa_cons (by exact (pe_fld (pv 1) rfl)) pa_nil))) (nomark _)))
        (pe_one (by exact (pe_cmpR (op_eqN (hu_of hr)) (pe_fld (pv 0) rfl) (pe_fld (pv 1) rfl) (nomark _)))))))))), ?_⟩
    obtain ⟨x, y, ws, ds, tb, ls, m, rfl, ⟨dx, st, ld, si, as, hx, hst, hld, hsi, pr⟩, is, h⟩ := h
    rcases h with ⟨z, ws', ds', tb', ls', m', rfl, ⟨dz, st', ld', si', as', hz, hst', hld', hsi', pr'⟩, is', q⟩ | ⟨t, ty, kk, q⟩
    · refine ⟨_, rfl, _, .ref C, _, _, true, rfl, .own C, .base (.ins hz T.cl T.ha T.hn T.htk T.hm), T.kC, _, rfl, ?_⟩
      refine iteF ⟨_, rfl, x, C, dx, _, _, rfl, hx, T.cl, T.n1, rfl, _, rfl, z, C, dz, _, _, rfl, hz, T.cl, T.n1, rfl, .tuple (ws.map PyData.str), .tuple (ws'.map PyData.str), .tup hst (dp_strs ws), .tup hst' (dp_strs ws'), shaped_tupS is.word, shaped_tupS is'.word, _, rfl, ?_⟩
      rw [eqv_tupS]
      by_cases e1 : ws = ws'
      · subst e1
        rw [decide_eq_true rfl]
        refine iteF ⟨_, rfl, x, C, dx, _, _, rfl, hx, T.cl, T.n3, rfl, _, rfl, z, C, dz, _, _, rfl, hz, T.cl, T.n3, rfl, si, si', _, _, rfl, rfl, hsi, hsi', ?f1, ?f2, _, rfl, ?g1⟩
        case f1 =>
          intro p hp
          obtain ⟨u, hu, e⟩ := List.mem_map.mp (List.of_mem_zip (show (p.1, p.2) ∈ _ from hp)).2
          rw [← e]
          rfl
        case f2 =>
          intro p hp
          obtain ⟨u, hu, e⟩ := List.mem_map.mp (List.of_mem_zip (show (p.1, p.2) ∈ _ from hp)).2
          rw [← e]
          rfl
        case g1 =>
          rw [same_strs is.nd is.looks is'.looks]
          by_cases e2 : ls = ls'
          · subst e2
            rw [decide_eq_true rfl]
            have al : as.length = ds.length := by rw [paired_len pr, is.rows]
            have al' : as'.length = ds'.length := by rw [paired_len pr', is'.rows]
            refine iteF ⟨_, rfl, x, C, dx, _, _, rfl, hx, T.cl, T.n2, rfl, ld, _, rfl, hld, fun t1 n1 => ⟨_, rfl, z, C, dz, _, _, rfl, Sm.new n1 _ _ hz, T.cl, T.n2, rfl, ld', _, rfl, Sm.new n1 _ _ hld', fun t2 n2 => ?_⟩⟩
            have m1 := Sm.new (o := .tup ((dkv ds (as.map V.ref)).map fun kv => kV kv.1)) n1
            have m2 := m1.trans (Sm.new (o := .tup ((dkv ds' (as'.map V.ref)).map fun kv => kV kv.1)) n2)
            have a1 := Sm.new (o := .tup ((dkv ds' (as'.map V.ref)).map fun kv => kV kv.1)) n2 _ _ (show upd H t1 (.tup ((dkv ds (as.map V.ref)).map fun kv => kV kv.1)) t1 = _ from upd_same)
            have a2 : upd (upd H t1 (.tup ((dkv ds (as.map V.ref)).map fun kv => kV kv.1))) t2 (.tup ((dkv ds' (as'.map V.ref)).map fun kv => kV kv.1)) t2 = _ := upd_same
            have k1 := keys_dkv (ds := ds) (us := as.map V.ref) (by rw [List.length_map, al])
            have k2 := keys_dkv (ds := ds') (us := as'.map V.ref) (by rw [List.length_map, al'])
            clear m1
            generalize ((dkv ds (as.map V.ref)).map fun kv => kV kv.1) = l1 at k1 m2 a1 a2 n2 ⊢
            generalize ((dkv ds' (as'.map V.ref)).map fun kv => kV kv.1) = l2 at k2 m2 a1 a2 ⊢
            generalize upd (upd H t1 (.tup l1)) t2 (.tup l2) = G at m2 a1 a2 ⊢
            subst k1 k2
            refine ⟨.tuple (ds.map PyData.str), .tuple (ds'.map PyData.str), .tup (.inl (.inl a1)) (dp_strs ds), .tup (.inl (.inl a2)) (dp_strs ds'), shaped_tupS is.dword, shaped_tupS is'.dword, _, rfl, ?_⟩
            rw [eqv_tupS]
            have q := q G m2
            by_cases e3 : ds = ds'
            · subst e3
              rw [decide_eq_true rfl]
              have prG : Paired (fun a vs => G a = some (.dK (dkv ws (vs.map V.str)))) as tb := pair_mono pr fun a _ vs e => m2 _ _ e
              have prG' : Paired (fun a vs => G a = some (.dK (dkv ws (vs.map V.str)))) as' tb' := pair_mono pr' fun a _ vs e => m2 _ _ e
              have flats : ∀ {bs : List Addr} {tc : List (List Str)}, Paired (fun a vs => G a = some (.dK (dkv ws (vs.map V.str)))) bs tc → ∀ p ∈ dkv ds (bs.map V.ref), ∃ c, p.2 = .ref c ∧ G c = some (.dK (dictAt G c)) ∧ ∀ r ∈ dictAt G c, flatV r.2 = true := fun {bs tc} pp p hp => by
                obtain ⟨c, hc, e⟩ := List.mem_map.mp (List.of_mem_zip (show (p.1, p.2) ∈ _ from hp)).2
                obtain ⟨j, hj⟩ := List.mem_iff_getElem?.mp hc
                obtain ⟨vs, _, e5⟩ := pair_at pp hj
                refine ⟨c, e.symm, by rw [dictAt_of e5]; exact e5, fun r hr => ?_⟩
                rw [dictAt_of e5] at hr
                obtain ⟨u, hu, e6⟩ := List.mem_map.mp (List.of_mem_zip (show (r.1, r.2) ∈ _ from hr)).2
                rw [← e6]
                rfl
              refine iteT ⟨_, rfl, x, C, dx, _, _, rfl, m2 _ _ hx, T.cl, T.n2, rfl, _, rfl, z, C, dz, _, _, rfl, m2 _ _ hz, T.cl, T.n2, rfl, ld, ld', _, _, dictAt G, rfl, rfl, m2 _ _ hld, m2 _ _ hld', flats prG, flats prG', ?_⟩
              rw [same_tabs is.nd is.dnd is.rows is'.rows (fun vs hv => (is.row vs hv).1) (fun vs hv => (is'.row vs hv).1) prG prG']
              rw [show decide (ws = ws ∧ ls = ls ∧ ds = ds ∧ tb = tb') = decide (tb = tb') from by simp] at q
              exact q
            · rw [decide_eq_false e3]
              rw [decide_eq_false (fun z => e3 z.2.2.1)] at q
              exact iteF q
          · rw [decide_eq_false e2]
            have q := q H (Sm.refl H)
            rw [decide_eq_false (fun z => e2 z.2.1)] at q
            exact iteT q
      · rw [decide_eq_false e1]
        have q := q H (Sm.refl H)
        rw [decide_eq_false (fun z => e1 z.1)] at q
        exact iteT q
    · exact ⟨_, rfl, y, .ref C, _, _, false, rfl, .own C, ty, kk, _, rfl, iteT q⟩
end
end Dk
set_option Elab.async false
set_option linter.all false
set_option maxRecDepth 100000
set_option maxHeartbeats 4000000
namespace Dk
open PySem PySem.Spec PyProof.Rows L2 Er
/-! ### a function with one parameter, which is a cell, and with captured names: its frame -/
section
variable {M : Model} {A : Around} {E : Value → Shared → Prop} {s : Shared}
theorem env_one {scope : Scope} {globals : Addr} {closure : List (Str × Addr)} {x : Str} {v : Value} {qual : Str} {func : Option Addr} {code : Value} {builtins : Addr} {Q : Env → Shared → Prop}
    (hk : scope.kind = .function) (hx : scope.names.lookup x = some .cell) (hcl : closure.lookup x = none)
    (hQ : ∀ (c : Addr) (g : Heap) (tk : Nat), (cellsFrom (s.heap.objs.size + 1) scope.names closure).lookup x = some c → s.heap.objs.size < c → g.IsCell c (some v) → g.Ns s.heap.objs.size (fun _ => none) → (∀ b o, s.heap.get? b = some o → g.get? b = some o) →
      Q (newEnv scope s.heap.objs.size globals (cellsFrom (s.heap.objs.size + 1) scope.names closure) qual func code none builtins) { s with heap := g, toks := tk }) :
    wpAny M A (newFunctionEnv scope globals closure [(x, v)] qual func code none builtins) Q E s := by
  simp only [newFunctionEnv, Option.isSome_none, Bool.false_eq_true, if_false]
  refine wpAny_bind (wpAny_alloc ?_)
  refine wpAny_bind (wpAny_layCells _ (fun n k c => by cases e : k == NameKind.cell <;> simp [e]) _ _ _ _ ?_)
  obtain ⟨c, hc, lc, ic⟩ := oc_cell (h := s.heap.push { cls := .type "frame", data := .dict #[] }) hx hcl
  rw [Heap.size_push] at hc lc
  rw [show ({ s with heap := s.heap.push { cls := .type "frame", data := .dict #[] } } : Shared).heap.objs.size = s.heap.objs.size + 1 from Heap.size_push ..]
  have ns0 : (pushCells (s.heap.push { cls := .type "frame", data := .dict #[] }) scope.names).Ns s.heap.objs.size (fun _ => none) := (Heap.Ns.new s.heap (.type "frame")).keeps (pushCells_keeps _ _)
  have kp0 : ∀ b o, s.heap.get? b = some o → (pushCells (s.heap.push { cls := .type "frame", data := .dict #[] }) scope.names).get? b = some o := fun b o e => pushCells_keeps _ _ b o (Heap.get?_push_of_some _ e)
  refine wpAny_bind ?_
  rw [List.forIn_cons]
  refine wpAny_bind (wpAny_bind (wpAny_storeName_cell (env := newEnv scope s.heap.objs.size globals (cellsFrom (s.heap.objs.size + 1) scope.names closure) qual func code none builtins) hk hx hc ic fun g e k => wpAny_pure ?_))
  show wpAny M A (forIn ([] : List (Str × Value)) _ _) _ _ _
  rw [List.forIn_nil]
  refine wpAny_pure (wpAny_pure (hQ c g _ hc lc e (ns0.sameBut k (Nat.ne_of_lt lc)) fun b o q => ?_))
  have nb : b ≠ c := Nat.ne_of_lt (Nat.lt_trans (Heap.lt_size q) lc)
  exact k.extBut b o nb (kp0 b o q)
end
end Dk
set_option Elab.async false
set_option linter.all false
set_option maxRecDepth 100000
set_option maxHeartbeats 4000000
namespace PySem
namespace DspX
/-! ### {k: v} whose key is a tuple: the walk -/
section
variable {prog : Program} {w : World} {A : Around} {E : Value → Shared → Prop} {s : Shared} {env : Env} {K : Type} [DecidableEq K] {knd : HeapKind prog w K}
theorem dict1H {k v : Expr} {pos : Pos} {Q : Value → Shared → Prop} (hu : knd.room A)
    (h : wpAny (model prog w) A (evalPairs (pairTrees [some k] [v] env pos)) (fun vs s₁ => ∃ (b : Addr) (kk : K) (vv : Value), vs = [(.ref b, vv)] ∧ knd.is s₁.heap kk b ∧ s₁.heap.DictOfH knd s.heap.objs.size [] ∧
      ∀ h', h'.DictOfH knd s.heap.objs.size (storedH [] kk b vv) → Heap.SameBut s.heap.objs.size s₁.heap h' → Q (.ref s.heap.objs.size) { s₁ with heap := h', toks := s₁.toks + knd.draws kk }) E
      { s with heap := s.heap.push { cls := .type "dict", data := .dict #[] } }) :
    wpAny (model prog w) A (eval (.Dict [some k] [v] pos) env) Q E s := by
  rw [arm_eval_Dict, zip_pairTrees [some k] [v] env pos rfl rfl, dictDisplay_pairs _ (by simp [pairTrees]) (by simp [pairTrees])]
  refine wpAny_bind (wpAny_standAt (wpAny_bind ?_))
  unfold subDict
  refine wpAny_bind (wpAny_alloc ?_)
  refine wpAny_bind (wpAny_holding ?_)
  rw [if_pos (by simp [pairTrees])]
  refine wpAny_bind (wpAny_mono h (fun vs s₁ h₁ => ?_) fun _ _ e => e)
  obtain ⟨b, kk, vv, rfl, hk, hm, hQ⟩ := h₁
  refine wpAny_holding ?_
  refine wpAny_bind ?_
  rw [List.forIn_cons]
  refine wpAny_bind (wpAny_bind (wpAny_dictSet_heap (hsz := Nat.zero_le _) hu hk hm fun h' hm' hs' => wpAny_pure ?_))
  dsimp only
  rw [List.forIn_nil]
  exact wpAny_pure (wpAny_pure (wpAny_pure (wpAny_pure (hQ h' hm' hs'))))
end
end DspX
end PySem
namespace Dk
open PySem PySem.Spec PyProof.Rows L2 Er LamX NdefX
/-- {k: v}, the key a tuple -/
def tDisp1T (tk tv : TE) : TE := fun σ H Q => ∀ p, H p = none → tk σ (upd H p (.dT [])) fun x H1 => tv σ H1 fun y H2 => ∃ (b : Addr) (k : List Key), x = .ref b ∧ H2 b = some (.tup (k.map kV)) ∧ H2 p = some (.dT []) ∧ Q (.ref p) (upd H2 p (.dT [(k, y)]))
section
variable {X : Cx} {pos : Pos} {k v : Expr} {tk tv : TE}
theorem pe_disp1T (hu : X.A.units + 1 < cLine) (hk : PE X k tk) (hv : PE X v tv) : PE X (.Dict [some k] [v] pos) (tDisp1T tk tv) := by
  refine ⟨fun pins s σ H Q I q => ?_⟩
  have hn := I.hok.fresh (Nat.le_refl s.heap.objs.size)
  have I1 := I.laid (a := s.heap.objs.size) (o := .dT []) (h' := s.heap.push { cls := .type "dict", data := .dict #[] }) (t' := s.toks) (fun _ _ q => Heap.get?_push_of_some _ q) (Nat.le_refl _) (dt_empty s.heap I.big)
  refine PySem.DspX.dict1H (knd := tupleKind (mixKind X.prog X.w)) (show X.A.units < cLine from by omega) ?_
  refine pairTrees_cons_walk (thn (hk.run pins _ σ _ _ I1 (q _ hn)) fun u s1 ⟨x, H1, I2, rx, q1⟩ => thn (hv.run pins s1 σ H1 _ I2 q1) fun w2 s2 ⟨y, H2, I3, ry, b, kk, ex, eb, ep, q2⟩ => pairTrees_nil_walk ?_)
  subst ex
  obtain rfl : u = Value.ref b := rx
  obtain ⟨z, hd, xs, rel, dd⟩ := dt_of I3.hok ep
  cases rel
  refine ⟨b, kk, w2, rfl, key_of I3.hok eb, dd, fun h' dd' hs => ⟨.ref s.heap.objs.size, _, ?_, rfl, q2⟩⟩
  obtain ⟨q3, es, ep2, hq, h2, h3, h4, _, h5⟩ := dd'
  refine d_write I3 (by rw [ep]; exact True.intro) hs ⟨q3, hq⟩ ⟨by show 1 ≤ sizeLine; rw [sizeLine_eq]; decide, hd, _, ?_, q3, es, ep2, hq, h2, h3, h4, h5⟩
  show Paired _ [(kk, y)] (storedH [] kk b w2)
  refine .cons ⟨rfl, ?_, ry⟩ .nil
  show upd H2 s.heap.objs.size (.dT [(kk, y)]) b = some (.tup (kk.map kV))
  rw [upd_ne (ne_of eb ep (fun z => nomatch z))]
  exact eb
end
/-! ### what captured cells hold goes on -/
theorem cells_later {X : Cx} {pins : List (Addr × Obj)} {σ : L2.St} {H : Hp} {s : Shared} {cl : List (Str × Addr)} {fr : List Str} {ws : List (Option V)} (C : CellsAt cl fr ws X.s_0.heap X.H_0) (hx : X.ex = []) (I : Inv X pins σ H s) : CellsAt cl fr ws s.heap H := by
  have nx : ∀ c : Addr, c ∉ X.ex := fun c h => by
    rw [hx] at h
    exact nomatch h
  have kp : ∀ y c, cl.lookup y = some c → ∀ v, X.s_0.heap.IsCell c v → s.heap.IsCell c v := fun y c e v ⟨o, ho, hd⟩ => by
    obtain ⟨sl, q⟩ := I.base.any ho (C.all y c e).1 (nx c)
    exact ⟨_, q, hd⟩
  refine ⟨C.len, fun y c e => ?_, C.inj, fun i y e => ?_⟩
  · obtain ⟨n, v, z⟩ := C.all y c e
    refine ⟨?_, v, kp y c e v z⟩
    obtain ⟨o, ho, _⟩ := z
    exact I.base.free c o ho n (nx c)
  · obtain ⟨c, hc, hv⟩ := C.has i y e
    refine ⟨c, hc, fun v ev => ?_⟩
    obtain ⟨u, r, z⟩ := hv v ev
    exact ⟨u, r, kp y c hc _ z⟩
/-! ### f(e), f a local name that was handed a nested function -/
def tCallF (F : NF) (f : Addr) (i : Nat) (ws : List (Option V)) (sp : List (Option V) → Sp) (t : TA) : TE := fun σ H Q => σ[i]? = some (some (.ref f)) ∧ H f = some (FnO f F) ∧
  t σ H fun vs H1 => H1 f = some (FnO f F) ∧ H1 F.c = some (CodeO F.c F.qual) ∧ sp ws vs H1 Q E0
theorem pe_callF {X : Cx} {F : NF} {f : Addr} {ps fr : List Str} {ws : List (Option V)} {i j k : Nat} {x : Str} {sp : List (Option V) → Sp} {t : TA} {e : Expr} {es : List Expr} {p pos : Pos} (C : CellsAt F.cl fr ws X.s_0.heap X.H_0) (hx : X.ex = [])
    (Fn : NOk X.prog X.w X.K X.mg X.base CX0 k f F ps fr sp) (hr : Room j X.A) (hk : k ≤ j) (hN : X.N[i]? = some x) (hv : Vis X.env.scope x) (ha : PA X (e :: es) t)
    (hd : (x == ("__debug__" : Str)) = false := by decide) (hcd : (x == ("__classdict__" : Str)) = false := by decide)
    (he : starEach (e :: es) X.env = (false, eval e X.env) :: starEach es X.env := by rfl) (hpl : (backTo pos (starEach es X.env)).any (·.1) = false := by rfl) :
    PE X (.Call (.Name x p) (e :: es) [] pos) (tCallF F f i ws sp t) := by
  refine ⟨fun pins s σ H Q I h => ?_⟩
  obtain ⟨hs, hf, ht⟩ := h
  refine wpAny_Call_Name_kw (thn ((pe_var (pos := p) hN hv hd hcd).run pins s σ H (fun v H1 => v = .ref f ∧ H1 = H) I ⟨.ref f, hs, rfl, rfl⟩) fun u s1 ⟨v, H1, I1, r1, q1⟩ => ?_)
  obtain ⟨ev, eH⟩ := q1
  subst ev
  rw [eH] at I1
  obtain rfl : u = Value.ref f := r1
  refine PySem.W.callWith_F (first := []) (fnAt_of I1 hf) (thn (ha.run pos pins s1 σ H _ I1 ht) fun us s2 ⟨vs, H2, I2, r, h1, h2, q⟩ => ⟨fnAt_of I2 h1, ?_⟩) he hpl
  show wpAny _ _ (call (.ref f) us) _ _ _
  refine wpAny_call (codeAny_mono (Fn.run X.A X.stack s2 H2 us vs ws Q E0 (hr.mono hk) I2.env0 h1 h2 (cells_later C hx I2) r q) fun r s' hq => ?_)
  cases r with
  | error e => exact hq.elim
  | ok fl =>
    cases fl with
    | ret u => exact I2.after hq
    | next => exact False.elim hq
    | brk => exact False.elim hq
    | cont => exact False.elim hq
/-! ### a nested function with one parameter, which is a cell, and one captured name -/
structure Sc1' (sc : Scope) (x y : Str) : Prop where
  kind : sc.kind = .function
  co : sc.isCoroutine = false
  gen : sc.isGenerator = false
  nm : sc.names = [(x, .cell), (y, .free)]
  ne : x ≠ y
abbrev envN1 (F : NF) (f L : Addr) : Env := newEnv F.scope L mainGlobals (cellsFrom (L + 1) F.scope.names F.cl) (F.qual ++ ".<locals>.") (some f) (.ref F.c) none builtinsNs
def ncx1 (P : Program) (w : World) (K : PySem.W.Frag) (mg : Str → Option Value) (base : Heap) (N : List Str) (F : NF) (f : Addr) (A : Around) (outer : List Env) (s : Shared) (H : Hp) (E : XK) : Cx where
  prog := P
  w := w
  K := K
  mg := mg
  base := base
  A := A.deeper (envN1 F f s.heap.objs.size)
  N := N
  s_0 := s
  H_0 := H
  env := envN1 F f s.heap.objs.size
  outer := outer
  stack := envN1 F f s.heap.objs.size :: outer
  ex := []
  fn := fun _ => false
  calm := true
  pn := []
  xe := fun e s' => wpAny (model P w) (A.deeper (envN1 F f s.heap.objs.size)) (leaving (envN1 F f s.heap.objs.size) e) (fun _ s'' => CX0 outer H s E e s'') (fun e' s'' => CX0 outer H s E e' s'') s'
section
variable {P : Program} {w : World} {K : PySem.W.Frag} {mg : Str → Option Value} {base : Heap} {x y : Str} {N1 : List Str} {F : NF} {a f : Addr} {A : Around} {outer : List Env} {s : Shared} {H : Hp} {E : XK} {g : Heap} {tk : Nat} {v vf : V} {u uf : Value}
theorem cellsN1 (S : Sc1' F.scope x y) (hcl : F.cl = [(y, a)]) (L : Addr) : cellsFrom (L + 1) F.scope.names F.cl = [(x, L + 1), (y, a)] := by
  rw [S.nm, hcl]
  rfl
theorem start1 (S : Sc1' F.scope x y) (hcl : F.cl = [(y, a)]) (hd : A.handled = none) (e0 : Env0 P w K mg base A outer s H) (na : H a = none) (ca : s.heap.IsCell a (some uf)) (rf : RelV vf uf) (rv : RelV v u)
    (cx : g.IsCell (s.heap.objs.size + 1) (some u)) (ns : g.Ns s.heap.objs.size (fun _ => none)) (kp : ∀ b o, s.heap.get? b = some o → g.get? b = some o) :
    Inv (ncx1 P w K mg base (x :: y :: N1) F f A outer s H E) [] (some v :: some vf :: List.replicate N1.length none) H { s with heap := g, toks := tk } := by
  have la : a < s.heap.objs.size := by
    obtain ⟨o, ho, _⟩ := ca
    exact Heap.lt_size ho
  have cs := cellsN1 S hcl s.heap.objs.size
  have lk : ∀ {p : Str} {c : Addr}, (cellsFrom (s.heap.objs.size + 1) F.scope.names F.cl).lookup p = some c → (p = x ∧ c = s.heap.objs.size + 1) ∨ (p = y ∧ c = a) := fun {p c} e => by
    rw [cs] at e
    by_cases h1 : p = x
    · subst h1
      rw [List.lookup_cons, beq_self_eq_true] at e
      exact .inl ⟨rfl, (Option.some.inj e).symm⟩
    · rw [List.lookup_cons, show (p == x) = false from by simpa using h1] at e
      by_cases h2 : p = y
      · subst h2
        rw [List.lookup_cons, beq_self_eq_true] at e
        exact .inr ⟨rfl, (Option.some.inj e).symm⟩
      · rw [List.lookup_cons, show (p == y) = false from by simpa using h2] at e
        cases e
  have lx : (cellsFrom (s.heap.objs.size + 1) F.scope.names F.cl).lookup x = some (s.heap.objs.size + 1) := by
    rw [cs, List.lookup_cons, beq_self_eq_true]
  have ly : (cellsFrom (s.heap.objs.size + 1) F.scope.names F.cl).lookup y = some a := by
    rw [cs, List.lookup_cons, show (y == x) = false from by simpa using S.ne.symm, List.lookup_cons, beq_self_eq_true]
  have kx : F.scope.names.lookup x = some .cell := by rw [S.nm, List.lookup_cons, beq_self_eq_true]
  have ky : F.scope.names.lookup y = some .free := by rw [S.nm, List.lookup_cons, show (y == x) = false from by simpa using S.ne.symm, List.lookup_cons, beq_self_eq_true]
  have ca2 : g.IsCell a (some uf) := by
    obtain ⟨o, ho, hd2⟩ := ca
    exact ⟨o, kp _ _ ho, hd2⟩
  have ap : s.heap.objs.size + 1 ≠ a := Nat.ne_of_gt (Nat.lt_succ_of_lt la)
  have noA : ∀ b : Addr, b ∉ (ncx1 P w K mg base (x :: y :: N1) F f A outer s H E).ex := fun b q => absurd (show b ∈ ([] : List Addr) from q) (by simp)
  refine ⟨⟨e0.mod, S.kind, rfl, rfl, Nat.le_refl _, fun p q c e1 e2 => ?_, fun p hp => ?_, fun p c q _ => ?_, fun _ => hd, Around.frames_deeper e0.frames, .inr ⟨rfl, rfl⟩, fun b q => absurd q (noA b), e0.bs, e0.bsz, fun b _ _ => noA b,
      fun b q => absurd q (noA b), e0.funs, e0.frf⟩,
    rfl, e0.bare, Un.kept kp, ⟨_, ns, fun i p t e1 e2 e3 => ?_⟩, fun p c e => ?_, e0.hok.fresh (Nat.le_refl _), fun p c e => ?_, fun q hq => absurd (show q ∈ ([] : List (Addr × Obj)) ++ [] from hq) (by simp), e0.hok.kept kp, ?_⟩
  · rcases lk e1 with ⟨r1, c1⟩ | ⟨r1, c1⟩ <;> rcases lk e2 with ⟨r2, c2⟩ | ⟨r2, c2⟩
    · rw [r1, r2]
    · exact absurd (c1.symm.trans c2) ap
    · exact absurd (c2.symm.trans c1) ap
    · rw [r1, r2]
  · have hp : F.scope.names.lookup p = some .cell ∨ F.scope.names.lookup p = some .free := hp
    have : p = x ∨ p = y := by
      rcases hp with h | h <;> have m := PySem.mem_of_lookup h <;> rw [S.nm] at m <;> simp at m
      · exact .inl m
      · exact .inr m
    rcases this with rfl | rfl
    · exact ⟨_, lx⟩
    · exact ⟨_, ly⟩
  · have q : false = true := q
    cases q
  · match i, e1, e2 with
    | 0, e1, e2 =>
      cases Option.some.inj (show some x = some p from e1)
      cases Option.some.inj (Option.some.inj (show some (some v) = some (some t) from e2))
      exact ⟨u, rv, .inr ⟨.inl kx, _, lx, cx⟩⟩
    | 1, e1, e2 =>
      cases Option.some.inj (show some y = some p from e1)
      cases Option.some.inj (Option.some.inj (show some (some vf) = some (some t) from e2))
      exact ⟨uf, rf, .inr ⟨.inr ky, _, ly, ca2⟩⟩
    | n + 2, e1, e2 =>
      have e2 : (List.replicate N1.length (none : Option V))[n]? = some (some t) := e2
      rw [List.getElem?_replicate] at e2
      split at e2 <;> cases e2
  · rcases lk e with ⟨r1, c1⟩ | ⟨r1, c1⟩
    · exact ⟨_, by rw [c1]; exact cx⟩
    · exact ⟨_, by rw [c1]; exact ca2⟩
  · rcases lk e with ⟨r1, c1⟩ | ⟨r1, c1⟩
    · rw [c1]
      exact e0.hok.fresh (Nat.le_succ _)
    · rw [c1]
      exact na
  · show (some v :: some vf :: List.replicate N1.length none).length = (x :: y :: N1).length
    simp
/-- such a function's promise, by its body -/
theorem nok1_of {k : Nat} {sp : List (Option V) → Sp} (S : Sc1' F.scope x y) (hcl : F.cl = [(y, a)]) (hb : ∀ (doc pm ctv u : Value), bindArgs (F.fd doc pm ctv) ⟨[u], []⟩ = pure [(x, u)]) (len : ∀ ws vs H Q E, sp ws vs H Q E → vs.length = 1) (wsome : ∀ ws vs H Q E, sp ws vs H Q E → ∃ vf, ws = [some vf])
    (hbody : ∀ (A : Around) (outer : List Env) (s : Shared) (H : Hp) (v vf : V) (Q : VK) (E : XK), Room k (A.deeper (envN1 F f s.heap.objs.size)) → sp [some vf] [v] H Q E →
      ∃ t, PSs (ncx1 P w K mg base (x :: y :: N1) F f A outer s H E) F.body t ∧ t { nx := fun _ H' => Q .non H', rt := Q } (some v :: some vf :: List.replicate N1.length none) H) :
    NOk P w K mg base CX0 (k + 1) f F [x] [y] sp := by
  refine ⟨len, fun A outer s H us vs ws Q E hr e0 hf hc C r hsp => ?_⟩
  obtain ⟨vf, rfl⟩ := wsome _ _ _ _ _ hsp
  obtain ⟨v, rfl⟩ : ∃ v, vs = [v] := by
    have l := len _ _ _ _ _ hsp
    match vs, l with
    | [v], _ => exact ⟨v, rfl⟩
  obtain ⟨u, rfl, rv⟩ := vals1 r
  have lim : s.heap.NoLimit := e0.mod.nolimit.keeps fun b o e => (e0.bs b o e).1
  obtain ⟨od, sl, doc, pm, ctv, ho⟩ := fnO_at e0.hok hf
  refine codeAny_call_function hr.depth ho rfl S.co S.gen rfl (codeO_at e0.hok hc) ?_
  rw [hb doc pm ctv u]
  have kx : F.scope.names.lookup x = some .cell := by rw [S.nm, List.lookup_cons, beq_self_eq_true]
  have cn : F.cl.lookup x = none := by rw [hcl, List.lookup_cons, show (x == y) = false from by simpa using S.ne]; rfl
  obtain ⟨a2, ea, hv⟩ := C.has 0 y rfl
  have ea2 : a2 = a := by
    rw [hcl, List.lookup_cons, beq_self_eq_true] at ea
    exact (Option.some.inj ea).symm
  subst ea2
  obtain ⟨uf, rf, ca⟩ := hv vf rfl
  have na : H a2 = none := (C.all y a2 ea).1
  refine wpAny_pure (env_one S.kind kx cn fun c g2 tk e1 e2 ic ns kp => ⟨lim.keeps kp, ?_⟩)
  rw [cellsN1 S hcl, List.lookup_cons, beq_self_eq_true] at e1
  have ec : c = s.heap.objs.size + 1 := (Option.some.inj e1).symm
  subst ec
  show codeAny _ _ (.func F.body (envN1 F f s.heap.objs.size)) _ _
  refine codeAny_func ?_
  obtain ⟨t, ht, hq⟩ := hbody A outer s H v vf Q E (hr.deeper _) hsp
  have I : Inv (ncx1 P w K mg base (x :: y :: N1) F f A outer s H E) [] (some v :: some vf :: List.replicate N1.length none) H { s with heap := g2, toks := tk } := start1 S hcl hr.hd e0 na ca rf rv ic ns kp
  refine wpAny_mono (ht.run [] _ _ H _ I hq) (fun fl s' hs => ?_) fun e s' hs => hs
  have fin : ∀ {σ' : L2.St} {H' : Hp} {v : V} {u : Value}, Inv (ncx1 P w K mg base (x :: y :: N1) F f A outer s H E) [] σ' H' s' → L2.RelV v u → Q v H' → CE outer P w H s Q u s' :=
    fun {σ' H' v u} J rv q => ⟨v, H', J.os, J.bare, J.base, J.hok, rv, q⟩
  cases fl with
  | ret u =>
    obtain ⟨v, σ', H', J, rv, q⟩ := hs
    exact fin J rv q
  | next =>
    obtain ⟨σ', H', J, q⟩ := hs
    exact fin (v := V.non) (u := Value.none) J rfl q
  | brk =>
    obtain ⟨_, _, _, q⟩ := hs
    exact False.elim q
  | cont =>
    obtain ⟨_, _, _, q⟩ := hs
    exact False.elim q
end
end Dk
set_option Elab.async false
set_option linter.all false
set_option maxRecDepth 100000
set_option maxHeartbeats 4000000
namespace Dk
open PySem PySem.Spec PyProof.Rows L2 Er LamX NdefX
/-! ### keys that are tuples of tuples -/
mutual
inductive NK (H : Hp) : NestedKey → V → Prop
  | num (i : Int) : NK H (.num i) (.int i)
  | text (x : Str) : NK H (.text x) (.str x)
  | tup {a : Addr} {xs : List V} {ks : List NestedKey} (e : H a = some (.tup xs)) (h : NKs H ks xs) : NK H (.tup ks) (.ref a)
inductive NKs (H : Hp) : List NestedKey → List V → Prop
  | nil : NKs H [] []
  | cons {k : NestedKey} {v : V} {ks : List NestedKey} {vs : List V} (h : NK H k v) (r : NKs H ks vs) : NKs H (k :: ks) (v :: vs)
end
section
variable {H G : Hp}
mutual
theorem NK.keep (t : ∀ b ys, H b = some (.tup ys) → G b = some (.tup ys)) : ∀ {k : NestedKey} {v : V}, NK H k v → NK G k v
  | _, _, .num i => .num i
  | _, _, .text x => .text x
  | _, _, .tup e h => .tup (t _ _ e) (NKs.keep t h)
theorem NKs.keep (t : ∀ b ys, H b = some (.tup ys) → G b = some (.tup ys)) : ∀ {ks : List NestedKey} {vs : List V}, NKs H ks vs → NKs G ks vs
  | _, _, .nil => .nil
  | _, _, .cons h r => .cons (NK.keep t h) (NKs.keep t r)
end
theorem NK.sm {k : NestedKey} {v : V} (h : NK H k v) (m : Sm H G) : NK G k v := h.keep fun b ys e => m _ _ e
theorem NKs.sm {ks : List NestedKey} {vs : List V} (h : NKs H ks vs) (m : Sm H G) : NKs G ks vs := h.keep fun b ys e => m _ _ e
mutual
theorem NK.is {P : Program} {w : World} {h : Heap} (ok : HOk P w H h) : ∀ {k : NestedKey} {v : V}, NK H k v → ∀ u, RelV v u → NestedIs h k u
  | _, _, .num i, u, r => by
    obtain ⟨t, e⟩ := (show ∃ t, u = Value.int i t from r)
    subst e
    exact .int i t
  | _, _, .text x, u, r => by
    obtain ⟨t, e⟩ := (show ∃ t, u = Value.str x t from r)
    subst e
    exact .text x t
  | _, _, .tup (a := a) (xs := xs) e q, u, r => by
    obtain rfl : u = Value.ref a := r
    obtain ⟨_, its, rv, o, ho, hc, n, hd⟩ := (show ObjOk P w H h a (.tup xs) from ok a _ e)
    exact .tup ho hc hd (by simpa using NKs.is ok q _ rv)
theorem NKs.is {P : Program} {w : World} {h : Heap} (ok : HOk P w H h) : ∀ {ks : List NestedKey} {vs : List V}, NKs H ks vs → ∀ us, Vals vs us → NestedAll h ks us
  | _, _, .nil, us, r => by
    cases r
    exact .nil
  | _, _, .cons q z, us, r => by
    cases r with
    | cons r1 r2 => exact .cons (NK.is ok q _ r1) (NKs.is ok z _ r2)
end
end
/-- at a stands such a key -/
def NT (H : Hp) (a : Addr) (k : NestedKey) : Prop := NK H k (.ref a) ∧ k.depth ≤ 8
theorem NT.sm {H G : Hp} {a : Addr} {k : NestedKey} (h : NT H a k) (m : Sm H G) : NT G a k := ⟨h.1.sm m, h.2⟩
theorem NT.keep {H G : Hp} {a : Addr} {k : NestedKey} (h : NT H a k) (t : ∀ b ys, H b = some (.tup ys) → G b = some (.tup ys)) : NT G a k := ⟨h.1.keep t, h.2⟩
theorem NT.tup {H : Hp} {a : Addr} {k : NestedKey} (h : NT H a k) : ∃ xs, H a = some (.tup xs) := by
  obtain ⟨h, _⟩ := h
  cases h with
  | tup e _ => exact ⟨_, e⟩
theorem NT.kis {P : Program} {w : World} {H : Hp} {h : Heap} {a : Addr} {k : NestedKey} (ok : HOk P w H h) (n : NT H a k) : (nestedKind P w).is h k a := ⟨n.1.is ok _ rfl, n.2⟩
abbrev NE : Type := NestedKey × Addr × V
abbrev NV : Type := NestedKey × Addr × Value
abbrev NP : List NE → List NV → Prop := Paired fun p q => p.1 = q.1 ∧ p.2.1 = q.2.1 ∧ RelV p.2.2 q.2.2
def ent (x : NE) : NestedKey × V := (x.1, x.2.2)
/-- a dict with such keys, by what is true of its object -/
def DNo (P : Program) (w : World) (d : Addr) (xs : List NE) : HO := .ext fun h => xs.length ≤ sizeLine ∧ (d == sysModules) = false ∧ ∃ ys : List NV, NP xs ys ∧ ∃ o es ep, h.get? d = some o ∧ o.ExactDict ∧ o.data = .dict es ep ∧ es.toList = ys.map (entryOfKey (nestedKind P w)) ∧ (ys.map (·.1)).Nodup
theorem DNo.x {P : Program} {w : World} {d : Addr} {xs : List NE} : ∃ φ, DNo P w d xs = .ext φ := ⟨_, rfl⟩
section
variable {P : Program} {w : World} {H : Hp} {h : Heap} {d : Addr} {xs : List NE} {ys : List NV}
theorem dn_new (z : xs.length ≤ sizeLine) (hd : (d == sysModules) = false) (r : NP xs ys) (dd : h.DictOfH (nestedKind P w) d ys) : ObjOk P w H h d (DNo P w d xs) := by
  obtain ⟨o, es, ep, h1, h2, h3, h4, _, h5⟩ := dd
  refine ⟨⟨z, hd, ys, r, o, es, ep, h1, h2, h3, h4, h5⟩, ⟨o, h1⟩, fun k1 k2 p s => ?_⟩
  obtain ⟨z, hd, ys, r, o, es, ep, h1, h2⟩ := p
  exact ⟨z, hd, ys, r, o, es, ep, s _ h1, h2⟩
theorem dn_of (ok : HOk P w H h) (e : H d = some (DNo P w d xs)) (nt : ∀ x ∈ xs, NT H x.2.1 x.1) : xs.length ≤ sizeLine ∧ (d == sysModules) = false ∧ ∃ ys, NP xs ys ∧ h.DictOfH (nestedKind P w) d ys := by
  obtain ⟨⟨z, hd, ys, r, o, es, ep, h1, h2, h3, h4, h5⟩, _, _⟩ := (show ObjOk P w H h d (DNo P w d xs) from ok d _ e)
  refine ⟨z, hd, ys, r, o, es, ep, h1, h2, h3, h4, fun x hx => ?_, h5⟩
  have all : ∀ {l : List NE} {m : List NV}, NP l m → (∀ x ∈ l, NT H x.2.1 x.1) → ∀ y ∈ m, (nestedKind P w).is h y.1 y.2.1 := by
    intro l m q
    induction q with
    | nil => intro _ y hy; exact nomatch hy
    | @cons p q ps qs hq t ih =>
      intro hl y hy
      rcases List.mem_cons.mp hy with e | hy
      · subst e
        have := (hl p List.mem_cons_self).kis ok
        rw [← hq.1, ← hq.2.1]
        exact this
      · exact ih (fun x hx => hl x (List.mem_cons_of_mem _ hx)) y hy
  exact all r nt x hx
theorem NP.val (r : NP xs ys) (k : NestedKey) : RelO (valV (xs.map ent) k) ((atKey ys k).map (·.2)) := by
  induction r with
  | nil => exact True.intro
  | @cons p q ps qs h t ih =>
    obtain ⟨h1, _, h2⟩ := h
    rw [List.map_cons]
    by_cases e : p.1 = k
    · have e' : q.1 = k := h1.symm.trans e
      have b : atKey (q :: qs) k = some q.2 := by simp [atKey, List.find?_cons, e']
      rw [valV_pos (show (ent p).1 = k from e), b]
      exact h2
    · have e' : ¬ q.1 = k := fun z => e (h1.trans z)
      have b : atKey (q :: qs) k = atKey qs k := by simp [atKey, List.find?_cons, e']
      rw [valV_neg (show ¬ (ent p).1 = k from e), b]
      exact ih
def putN (xs : List NE) (k : NestedKey) (b : Addr) (v : V) : List NE := if (xs.any fun x => decide (x.1 = k)) = true then xs.map fun x => if x.1 = k then (x.1, x.2.1, v) else x else xs ++ [(k, b, v)]
theorem putN_ent {k : NestedKey} {b : Addr} {v : V} : (putN xs k b v).map ent = putK (xs.map ent) k v := by
  unfold putN putK
  have e : ((xs.map ent).any fun kv => decide (kv.1 = k)) = (xs.any fun x => decide (x.1 = k)) := by
    rw [List.any_map]
    rfl
  rw [e]
  by_cases c : (xs.any fun x => decide (x.1 = k)) = true
  · rw [if_pos c, if_pos c, List.map_map, List.map_map]
    refine List.map_congr_left fun x _ => ?_
    show ent (if x.1 = k then (x.1, x.2.1, v) else x) = if (ent x).1 = k then ((ent x).1, v) else ent x
    by_cases z : x.1 = k
    · rw [if_pos z, if_pos (show (ent x).1 = k from z)]
      rfl
    · rw [if_neg z, if_neg (show ¬ (ent x).1 = k from z)]
  · rw [if_neg c, if_neg c, List.map_append]
    rfl
theorem putN_nt {k : NestedKey} {b : Addr} {v : V} {G : Hp} (nt : ∀ x ∈ xs, NT G x.2.1 x.1) (hb : NT G b k) : ∀ x ∈ putN xs k b v, NT G x.2.1 x.1 := fun x hx => by
  unfold putN at hx
  by_cases c : (xs.any fun x => decide (x.1 = k)) = true
  · rw [if_pos c] at hx
    obtain ⟨y, hy, e⟩ := List.mem_map.mp hx
    by_cases z : y.1 = k
    · rw [if_pos z] at e
      rw [← e]
      exact nt y hy
    · rw [if_neg z] at e
      rw [← e]
      exact nt y hy
  · rw [if_neg c] at hx
    rcases List.mem_append.mp hx with q | q
    · exact nt x q
    · rw [List.mem_singleton.mp q]
      exact hb
theorem NP.put (r : NP xs ys) (k : NestedKey) (b : Addr) {v : V} {u : Value} (rv : RelV v u) : NP (putN xs k b v) (storedH ys k b u) := by
  have e : (xs.any fun x => decide (x.1 = k)) = (atKey ys k).isSome := by
    have := (r.val k).isSome_eq
    rw [Option.isSome_map, ← valV_any, List.any_map] at this
    exact this
  unfold putN storedH
  rw [e]
  by_cases q : (atKey ys k).isSome = true
  · rw [if_pos q, if_pos q]
    clear e q
    induction r with
    | nil => exact .nil
    | @cons p q ps qs h t ih =>
      rw [List.map_cons, List.map_cons]
      refine .cons ?_ ih
      obtain ⟨h1, h2, h3⟩ := h
      unfold putAt
      by_cases e : p.1 = k
      · rw [if_pos e, if_pos (h1.symm.trans e)]
        exact ⟨h1, h2, rv⟩
      · rw [if_neg e, if_neg (fun z => e (h1.trans z))]
        exact ⟨h1, h2, h3⟩
  · rw [if_neg q, if_neg q]
    exact Paired.snoc r ⟨rfl, rfl, rv⟩
end
/-- at d stands a dict with these keys and values -/
def DK (P : Program) (w : World) (H : Hp) (d : Addr) (kvs : List (NestedKey × V)) : Prop := ∃ xs : List NE, H d = some (DNo P w d xs) ∧ (∀ x ∈ xs, NT H x.2.1 x.1) ∧ kvs = xs.map ent
section
variable {P : Program} {w : World} {H G : Hp} {d : Addr} {kvs : List (NestedKey × V)}
theorem DK.sm (h : DK P w H d kvs) (m : Sm H G) : DK P w G d kvs := by
  obtain ⟨xs, h1, h2, h3⟩ := h
  exact ⟨xs, m _ _ h1, fun x hx => (h2 x hx).sm m, h3⟩
theorem DK.keep (h : DK P w H d kvs) (t : ∀ b ys, H b = some (.tup ys) → G b = some (.tup ys)) (e : G d = H d) : DK P w G d kvs := by
  obtain ⟨xs, h1, h2, h3⟩ := h
  exact ⟨xs, e.trans h1, fun x hx => (h2 x hx).keep t, h3⟩
/-- it is no other thing -/
theorem DK.ext (h : DK P w H d kvs) : ∃ φ, H d = some (.ext φ) := by
  obtain ⟨xs, h1, _⟩ := h
  exact ⟨_, h1⟩
theorem DK.ne {b : Addr} {o : HO} (h : DK P w H d kvs) (e : H b = some o) (n : ∀ φ, o ≠ .ext φ) : b ≠ d := fun z => by
  obtain ⟨φ, q⟩ := h.ext
  rw [z, q] at e
  exact n φ (Option.some.inj e).symm
end
/-- d[y]; y in d; y not in d; d[y] = v; {k: v} -/
def tNGet (P : Program) (w : World) (td ty : TE) : TE := fun σ H Q => td σ H fun x H1 => ty σ H1 fun y H2 => ∃ (d : Addr) (kvs : List (NestedKey × V)) (k : NestedKey) (b : Addr) (v : V), x = .ref d ∧ DK P w H2 d kvs ∧ y = .ref b ∧ NT H2 b k ∧ valV kvs k = some v ∧ Q v H2
def tNIn (P : Program) (w : World) (ty td : TE) : TE := fun σ H Q => ty σ H fun y H1 => td σ H1 fun x H2 => ∃ (d : Addr) (kvs : List (NestedKey × V)) (k : NestedKey) (b : Addr), x = .ref d ∧ DK P w H2 d kvs ∧ y = .ref b ∧ NT H2 b k ∧ Q (.bl (valV kvs k).isSome) H2
def tNNotIn (P : Program) (w : World) (ty td : TE) : TE := fun σ H Q => ty σ H fun y H1 => td σ H1 fun x H2 => ∃ (d : Addr) (kvs : List (NestedKey × V)) (k : NestedKey) (b : Addr), x = .ref d ∧ DK P w H2 d kvs ∧ y = .ref b ∧ NT H2 b k ∧ Q (.bl (!(valV kvs k).isSome)) H2
def sNPut (P : Program) (w : World) (td ty tv : TE) : TS := fun D σ H => tv σ H fun v H1 => td σ H1 fun x H2 => ty σ H2 fun y H3 => ∃ (d : Addr) (kvs : List (NestedKey × V)) (k : NestedKey) (b : Addr), x = .ref d ∧ DK P w H3 d kvs ∧ y = .ref b ∧ NT H3 b k ∧ kvs.length < sizeLine ∧
  ∀ φ, DK P w (upd H3 d (.ext φ)) d (putK kvs k v) → D.nx σ (upd H3 d (.ext φ))
def tNDisp (P : Program) (w : World) (tk tv : TE) : TE := fun σ H Q => ∀ p φ, H p = none → DK P w (upd H p (.ext φ)) p [] → tk σ (upd H p (.ext φ)) fun x H1 => tv σ H1 fun y H2 => ∃ (b : Addr) (k : NestedKey), x = .ref b ∧ NT H2 b k ∧ DK P w H2 p [] ∧ ∀ ψ, DK P w (upd H2 p (.ext ψ)) p [(k, y)] → Q (.ref p) (upd H2 p (.ext ψ))
section
variable {X : Cx} {pins : List (Addr × Obj)} {σ : L2.St} {H : Hp} {s : Shared} {d b : Addr} {kvs : List (NestedKey × V)} {k : NestedKey} {A : Around} {E : Value → Shared → Prop}
theorem room_n (hu : A.units + 64 < cLine) : (nestedKind X.prog X.w).room A.in1 := by
  show A.units + 1 + 8 < cLine
  omega
theorem dn_get {v : V} {Q : Value → Shared → Prop} (hu : A.units + 64 < cLine) (I : Inv X pins σ H s) (g : DK X.prog X.w H d kvs) (n : NT H b k) (l : valV kvs k = some v) (h : ∀ w' s', Inv X pins σ H s' → RelV v w' → Q w' s') :
    wpAny (model X.prog X.w) A (getItem (.ref d) (.ref b)) Q E s := by
  obtain ⟨xs, e, nt, rfl⟩ := g
  obtain ⟨z, hd, ys, rel, dd⟩ := dn_of I.hok e nt
  obtain ⟨w', hw, rw'⟩ := RelO.some_of (v := v) (o := (atKey ys k).map (·.2)) (by rw [← l]; exact rel.val k)
  obtain ⟨p, hp, hp2⟩ := Option.map_eq_some_iff.mp hw
  refine wpAny_getItem_heap (room_n hu) (n.kis I.hok) dd hp ?_
  rw [hp2]
  exact h w' _ (I.tok _) rw'
theorem dn_in {Q : Value → Shared → Prop} (hu : A.units + 64 < cLine) (I : Inv X pins σ H s) (g : DK X.prog X.w H d kvs) (n : NT H b k) (h : ∀ s', Inv X pins σ H s' → Q (.bool (valV kvs k).isSome) s') :
    wpAny (model X.prog X.w) A (compareOp .In (.ref b) (.ref d)) Q E s := by
  obtain ⟨xs, e, nt, rfl⟩ := g
  obtain ⟨z, hd, ys, rel, dd⟩ := dn_of I.hok e nt
  refine wpAny_in_heap (room_n hu) (n.kis I.hok) hd dd ?_
  have q := (rel.val k).isSome_eq
  rw [Option.isSome_map] at q
  rw [← q]
  exact h _ (I.tok _)
theorem dn_notIn {Q : Value → Shared → Prop} (hu : A.units + 64 < cLine) (I : Inv X pins σ H s) (g : DK X.prog X.w H d kvs) (n : NT H b k) (h : ∀ s', Inv X pins σ H s' → Q (.bool (!(valV kvs k).isSome)) s') :
    wpAny (model X.prog X.w) A (compareOp .NotIn (.ref b) (.ref d)) Q E s := by
  obtain ⟨xs, e, nt, rfl⟩ := g
  obtain ⟨z, hd, ys, rel, dd⟩ := dn_of I.hok e nt
  refine wpAny_notIn_heap (room_n hu) (n.kis I.hok) hd dd ?_
  have q := (rel.val k).isSome_eq
  rw [Option.isSome_map] at q
  rw [← q]
  exact h _ (I.tok _)
theorem dn_put {v : V} {r : Value} {Q : Unit → Shared → Prop} (hu : A.units + 64 < cLine) (I : Inv X pins σ H s) (g : DK X.prog X.w H d kvs) (n : NT H b k) (l : kvs.length < sizeLine) (rv : RelV v r)
    (h : ∀ φ s', DK X.prog X.w (upd H d (.ext φ)) d (putK kvs k v) → Inv X pins σ (upd H d (.ext φ)) s' → Q () s') : wpAny (model X.prog X.w) A (setItem (.ref d) (.ref b) r) Q E s := by
  obtain ⟨xs, e, nt, rfl⟩ := g
  obtain ⟨z, hd, ys, rel, dd⟩ := dn_of I.hok e nt
  have hz : ys.length ≤ sizeLine := by rw [← Paired.length rel]; exact z
  have hl : (putN xs k b v).length ≤ sizeLine := by
    have h1 := length_putK (xs.map ent) k v
    rw [← putN_ent (b := b), List.length_map] at h1
    omega
  have ku : ∀ c ys, H c = some (.tup ys) → upd H d (DNo X.prog X.w d (putN xs k b v)) c = some (.tup ys) := fun c ys ec => by
    rw [upd_ne (ne_of ec e (fun z => nomatch z))]
    exact ec
  refine wpAny_setItem_heap (hsz := hz) (room_n hu) (n.kis I.hok) dd fun h' dd' hs => h _ _ ⟨putN xs k b v, upd_same, fun x hx => (putN_nt nt n x hx).keep ku, putN_ent.symm⟩ ?_
  have he : ∃ q, h'.get? d = some q := let ⟨q, _, _, hq, _⟩ := dd'; ⟨q, hq⟩
  exact d_write I (by rw [e]; exact True.intro) hs he (dn_new hl hd (rel.put k b rv) dd')
end
section
variable {X : Cx} {o i value : Expr} {pos pos' : Pos} {td ty tv : TE}
theorem pe_nget (hu : X.A.units + 64 < cLine) (ho : PE X o td) (hi : PE X i ty) (hs : NoSl i) : PE X (.Subscript o i pos) (tNGet X.prog X.w td ty) := by
  refine ⟨fun pins s σ H Q I h => ?_⟩
  refine subD_of PySem.F.slot_dict_getitem.lookup hs (thn (ho.run pins s σ H _ I h) fun u s1 ⟨x, H1, I1, rx, q1⟩ => thn (hi.run pins s1 σ H1 _ I1 q1) fun iv s2 ⟨y, H2, I2, ry, d, kvs, k, b, v, ex, g, ey, n, l, q2⟩ => ?_)
  subst ex ey
  obtain rfl : u = Value.ref d := rx
  obtain rfl : iv = Value.ref b := ry
  refine ⟨?_, dn_get hu I2 g n l fun w' s3 I3 rw' => ⟨v, H2, I3, rw', q2⟩⟩
  obtain ⟨xs, e, nt, _⟩ := g
  obtain ⟨_, _, ys, _, dd⟩ := dn_of I2.hok e nt
  exact dd.typeIs
theorem pc_nin (hu : X.A.units + 64 < cLine) (hi : PE X i ty) (ho : PE X o td) : PC X .In i o (tNIn X.prog X.w ty td) := by
  refine ⟨fun pins s σ H Q I h => ?_⟩
  refine thn (hi.run pins s σ H _ I h) fun iv s1 ⟨y, H1, I1, ry, q1⟩ => thn (ho.run pins s1 σ H1 _ I1 q1) fun u s2 ⟨x, H2, I2, rx, d, kvs, k, b, ex, g, ey, n, q2⟩ => ?_
  subst ex ey
  obtain rfl : u = Value.ref d := rx
  obtain rfl : iv = Value.ref b := ry
  exact dn_in hu I2 g n fun s3 I3 => ⟨.bl (valV kvs k).isSome, H2, I3, rfl, q2⟩
theorem pc_nnotin (hu : X.A.units + 64 < cLine) (hi : PE X i ty) (ho : PE X o td) : PC X .NotIn i o (tNNotIn X.prog X.w ty td) := by
  refine ⟨fun pins s σ H Q I h => ?_⟩
  refine thn (hi.run pins s σ H _ I h) fun iv s1 ⟨y, H1, I1, ry, q1⟩ => thn (ho.run pins s1 σ H1 _ I1 q1) fun u s2 ⟨x, H2, I2, rx, d, kvs, k, b, ex, g, ey, n, q2⟩ => ?_
  subst ex ey
  obtain rfl : u = Value.ref d := rx
  obtain rfl : iv = Value.ref b := ry
  exact dn_notIn hu I2 g n fun s3 I3 => ⟨.bl (!(valV kvs k).isSome), H2, I3, rfl, q2⟩
theorem ps_nput (hu : X.A.units + 64 < cLine) (ho : PE X o td) (hi : PE X i ty) (hv : PE X value tv) (hs : swapsWith value (some (.Subscript o i pos')) pos.line X.env = pure false) :
    PS X (.Assign [.Subscript o i pos'] value pos) (sNPut X.prog X.w td ty tv) := by
  refine ⟨fun pins s σ H D I h => ?_⟩
  refine wpAny_Assign_Subscript (thn (hv.run pins s σ H _ I h) fun r s1 ⟨v, H1, I1, rv, q1⟩ => thn (ho.run pins s1 σ H1 _ I1 q1) fun u s2 ⟨x, H2, I2, rx, q2⟩ => thn (hi.run pins s2 σ H2 _ I2 q2) fun iv s3 ⟨y, H3, I3, ry, d, kvs, k, b, ex, g, ey, n, l, q3⟩ => ?_) hs
  subst ex ey
  obtain rfl : u = Value.ref d := rx
  obtain rfl : iv = Value.ref b := ry
  exact dn_put hu I3 g n l rv fun φ s4 hk I4 => ⟨σ, _, I4, q3 φ hk⟩
theorem pe_ndisp {k v : Expr} {tk : TE} (hu : X.A.units + 64 < cLine) (hk : PE X k tk) (hv : PE X v tv) : PE X (.Dict [some k] [v] pos) (tNDisp X.prog X.w tk tv) := by
  refine ⟨fun pins s σ H Q I q => ?_⟩
  have hn := I.hok.fresh (Nat.le_refl s.heap.objs.size)
  have hsys : (s.heap.objs.size == sysModules) = false := beq_eq_false_iff_ne.mpr (Ne.symm (Nat.ne_of_lt I.big))
  have new0 : ObjOk X.prog X.w (upd H s.heap.objs.size (DNo X.prog X.w s.heap.objs.size [])) (s.heap.push { cls := .type "dict", data := .dict #[] }) s.heap.objs.size (DNo X.prog X.w s.heap.objs.size []) :=
    dn_new (ys := []) (Nat.zero_le _) hsys .nil (Heap.DictOfH.new s.heap)
  have I1 := I.laid (a := s.heap.objs.size) (o := DNo X.prog X.w s.heap.objs.size []) (h' := s.heap.push { cls := .type "dict", data := .dict #[] }) (t' := s.toks) (fun _ _ q => Heap.get?_push_of_some _ q) (Nat.le_refl _) new0
  refine PySem.DspX.dict1H (knd := nestedKind X.prog X.w) (show X.A.units + 8 < cLine from by omega) ?_
  refine pairTrees_cons_walk (thn (hk.run pins _ σ _ _ I1 (q _ _ hn ⟨[], upd_same, (fun x hx => nomatch hx), rfl⟩)) fun u s1 ⟨x, H1, I2, rx, q1⟩ => thn (hv.run pins s1 σ H1 _ I2 q1) fun w2 s2 ⟨y, H2, I3, ry, b, kk, ex, n, ep, q2⟩ => pairTrees_nil_walk ?_)
  subst ex
  obtain rfl : u = Value.ref b := rx
  obtain ⟨xs, e, nt, en⟩ := ep
  have exs : xs = [] := by
    cases xs with
    | nil => rfl
    | cons a l => cases en
  subst exs
  obtain ⟨z, hd, ys, rel, dd⟩ := dn_of I3.hok e nt
  cases rel
  refine ⟨b, kk, w2, rfl, n.kis I3.hok, dd, fun h' dd' hs => ⟨.ref s.heap.objs.size, _, ?_, rfl, q2 _ ⟨[(kk, b, y)], upd_same, fun x hx => ?_, rfl⟩⟩⟩
  · have he : ∃ q, h'.get? s.heap.objs.size = some q := let ⟨q, _, _, hq, _⟩ := dd'; ⟨q, hq⟩
    exact d_write I3 (by rw [e]; exact True.intro) hs he (dn_new (by show 1 ≤ sizeLine; rw [sizeLine_eq]; decide) hd (.cons ⟨rfl, rfl, ry⟩ .nil) dd')
  · rw [List.mem_singleton.mp hx]
    refine n.keep fun c ys ec => ?_
    rw [upd_ne (ne_of ec e (fun z => nomatch z))]
    exact ec
end
end Dk
set_option linter.all false
namespace Bf
/-! ### the breadth-first going through -/
section
variable {T L : Type} [DecidableEq T]
/-- a row leads from one to another -/
inductive Led (mv : T → List (L × T)) (s : T) : List L → T → Prop
  | here : Led mv s [] s
  | on {r : List L} {t u : T} {l : L} (h : Led mv s r t) (hm : (l, u) ∈ mv t) : Led mv s (r ++ [l]) u
/-- what is met so far: q; how far it is looked at: i -/
structure Bfs (mv : T → List (L × T)) (fd : T → Bool) (s : T) (q : List (T × List L)) (i : Nat) : Prop where
  nd : (q.map (·.1)).Nodup
  first : q[0]? = some (s, [])
  led : ∀ p ∈ q, Led mv s p.2 p.1
  mono : ∀ (a b : Nat) (x y : T × List L), a ≤ b → q[a]? = some x → q[b]? = some y → x.2.length ≤ y.2.length
  lim : ∀ (a b : Nat) (x y : T × List L), i ≤ a → q[a]? = some x → q[b]? = some y → y.2.length ≤ x.2.length + 1
  done : ∀ (a : Nat) (x : T × List L), a < i → q[a]? = some x → fd x.1 = false ∧ ∀ (l : L) (u : T), (l, u) ∈ mv x.1 → ∃ (b : Nat) (y : T × List L), q[b]? = some y ∧ y.1 = u ∧ y.2.length ≤ x.2.length + 1
  le : i ≤ q.length
  short : ∀ (a : Nat) (x : T × List L), q[a]? = some x → x.2.length ≤ a
theorem Bfs.start {mv : T → List (L × T)} {fd : T → Bool} {s : T} : Bfs mv fd s [(s, [])] 0 := by
  have one : ∀ (b : Nat) (y : T × List L), [(s, ([] : List L))][b]? = some y → y = (s, []) := fun b y e => by
    cases b with
    | zero => exact (Option.some.inj e).symm
    | succ b => cases e
  refine ⟨by simp, rfl, fun p hp => ?_, fun a b x y _ e1 e2 => ?_, fun a b x y _ e1 e2 => ?_, fun a x h => absurd h (Nat.not_lt_zero _), Nat.zero_le _, fun a x e => ?_⟩
  · rw [List.mem_singleton.mp hp]
    exact .here
  · rw [one _ _ e1, one _ _ e2]
    exact Nat.le_refl _
  · rw [one _ _ e1, one _ _ e2]
    exact Nat.zero_le _
  · rw [one _ _ e]
    exact Nat.zero_le _
/-- one more is met, from the one that is looked at -/
theorem Bfs.more {mv : T → List (L × T)} {fd : T → Bool} {s t u : T} {r : List L} {l : L} {q : List (T × List L)} {i : Nat} (B : Bfs mv fd s q i) (ei : q[i]? = some (t, r)) (hm : (l, u) ∈ mv t) (nu : u ∉ q.map (·.1)) : Bfs mv fd s (q ++ [(u, r ++ [l])]) i := by
  have il : i < q.length := (List.getElem?_eq_some_iff.mp ei).1
  have at_ : ∀ (b : Nat) (y : T × List L), (q ++ [(u, r ++ [l])])[b]? = some y → q[b]? = some y ∨ (b = q.length ∧ y = (u, r ++ [l])) := fun b y e => by
    by_cases c : b < q.length
    · rw [List.getElem?_append_left c] at e
      exact .inl e
    · rw [List.getElem?_append_right (by omega)] at e
      by_cases d : b - q.length = 0
      · rw [d] at e
        exact .inr ⟨by omega, (Option.some.inj e).symm⟩
      · rw [List.getElem?_eq_none (by simp; omega)] at e
        cases e
  have keep : ∀ {b : Nat} {y : T × List L}, q[b]? = some y → (q ++ [(u, r ++ [l])])[b]? = some y := fun {b y} e => by
    rw [List.getElem?_append_left (List.getElem?_eq_some_iff.mp e).1]
    exact e
  have len : (r ++ [l]).length = r.length + 1 := by simp
  refine ⟨?_, keep B.first, fun p hp => ?_, fun a b x y ab e1 e2 => ?_, fun a b x y ia e1 e2 => ?_, fun a x h e => ?_, by rw [List.length_append]; have := B.le; omega, fun a x e => ?_⟩
  · rw [List.map_append]
    refine List.nodup_append.mpr ⟨B.nd, by simp, fun a ha b hb e => nu ?_⟩
    have hb : b = u := by simpa using hb
    rw [← hb, ← e]
    exact ha
  · rcases List.mem_append.mp hp with h | h
    · exact B.led p h
    · rw [List.mem_singleton.mp h]
      exact .on (B.led _ (List.mem_of_getElem? ei)) hm
  · rcases at_ _ _ e1 with h1 | ⟨h1, rfl⟩ <;> rcases at_ _ _ e2 with h2 | ⟨h2, rfl⟩
    · exact B.mono a b x y ab h1 h2
    · rw [len]
      exact B.lim i a _ x (Nat.le_refl _) ei h1
    · have := (List.getElem?_eq_some_iff.mp h2).1
      omega
    · exact Nat.le_refl _
  · rcases at_ _ _ e1 with h1 | ⟨h1, rfl⟩ <;> rcases at_ _ _ e2 with h2 | ⟨h2, rfl⟩
    · exact B.lim a b x y ia h1 h2
    · rw [len]
      have := B.mono i a _ x ia ei h1
      exact Nat.succ_le_succ this
    · rw [len]
      exact Nat.le_succ_of_le (B.lim i b _ y (Nat.le_refl _) ei h2)
    · omega
  · rcases at_ _ _ e with h1 | ⟨h1, _⟩
    · obtain ⟨f, d⟩ := B.done a x h h1
      exact ⟨f, fun l' u' hm' => by
        obtain ⟨b, y, e3, e4, e5⟩ := d l' u' hm'
        exact ⟨b, y, keep e3, e4, e5⟩⟩
    · omega
  · rcases at_ _ _ e with h1 | ⟨h1, rfl⟩
    · exact B.short a x h1
    · rw [len, h1]
      have := B.short i _ ei
      exact Nat.succ_le_of_lt (Nat.lt_of_le_of_lt this il)
/-- one is looked at -/
theorem Bfs.next {mv : T → List (L × T)} {fd : T → Bool} {s t : T} {r : List L} {q : List (T × List L)} {i : Nat} (B : Bfs mv fd s q i) (ei : q[i]? = some (t, r)) (hf : fd t = false)
    (all : ∀ (l : L) (u : T), (l, u) ∈ mv t → ∃ (b : Nat) (y : T × List L), q[b]? = some y ∧ y.1 = u ∧ y.2.length ≤ r.length + 1) : Bfs mv fd s q (i + 1) := by
  have il : i < q.length := (List.getElem?_eq_some_iff.mp ei).1
  refine ⟨B.nd, B.first, B.led, B.mono, fun a b x y ia e1 e2 => B.lim a b x y (by omega) e1 e2, fun a x h e => ?_, il, B.short⟩
  by_cases c : a < i
  · exact B.done a x c e
  · have z : a = i := by omega
    subst z
    rw [ei] at e
    cases Option.some.inj e
    exact ⟨hf, all⟩
theorem Bfs.near {mv : T → List (L × T)} {fd : T → Bool} {s : T} {q : List (T × List L)} {i : Nat} (B : Bfs mv fd s q i) {r : List L} {t : T} (h : Led mv s r t) :
    (∃ (b : Nat) (y : T × List L), q[b]? = some y ∧ y.1 = t ∧ y.2.length ≤ r.length) ∨ ∃ (b : Nat) (y : T × List L), i ≤ b ∧ q[b]? = some y ∧ y.2.length ≤ r.length := by
  induction h with
  | here => exact .inl ⟨0, _, B.first, rfl, Nat.zero_le _⟩
  | @on r t u l h hm ih =>
    have len : (r ++ [l]).length = r.length + 1 := by simp
    rcases ih with ⟨b, y, e1, e2, e3⟩ | ⟨b, y, e1, e2, e3⟩
    · by_cases c : b < i
      · subst e2
        obtain ⟨b2, y2, z1, z2, z3⟩ := (B.done b y c e1).2 l u hm
        exact .inl ⟨b2, y2, z1, z2, by omega⟩
      · exact .inr ⟨b, y, by omega, e1, by omega⟩
    · exact .inr ⟨b, y, e1, e2, by omega⟩
theorem Bfs.least {mv : T → List (L × T)} {fd : T → Bool} {s : T} {q : List (T × List L)} {i : Nat} (B : Bfs mv fd s q i) {t : T} {r : List L} (ei : q[i]? = some (t, r)) {r2 : List L} {t2 : T} (h : Led mv s r2 t2) (f2 : fd t2 = true) : r.length ≤ r2.length := by
  rcases B.near h with ⟨b, y, e1, e2, e3⟩ | ⟨b, y, e1, e2, e3⟩
  · by_cases c : b < i
    · have := (B.done b y c e1).1
      rw [e2, f2] at this
      cases this
    · exact Nat.le_trans (B.mono i b _ y (by omega) ei e1) e3
  · exact Nat.le_trans (B.mono i b _ y e1 ei e2) e3
theorem Bfs.never {mv : T → List (L × T)} {fd : T → Bool} {s : T} {q : List (T × List L)} (B : Bfs mv fd s q q.length) {r2 : List L} {t2 : T} (h : Led mv s r2 t2) : fd t2 = false := by
  rcases B.near h with ⟨b, y, e1, e2, e3⟩ | ⟨b, y, e1, e2, e3⟩
  · have := (B.done b y (List.getElem?_eq_some_iff.mp e1).1 e1).1
    rw [e2] at this
    exact this
  · have := (List.getElem?_eq_some_iff.mp e2).1
    omega
end
end Bf
set_option Elab.async false
set_option linter.all false
set_option maxRecDepth 100000
set_option maxHeartbeats 4000000
namespace Dk
open PySem PySem.Spec PyProof.Rows L2 Er LamX NdefX Bf
/-! ### spread, its states tuples: the breadth-first going through -/
theorem has_putK {κ : Type} [DecidableEq κ] {kvs : List (κ × V)} {k : κ} {v : V} (j : κ) : (valV (putK kvs k v) j).isSome = true ↔ j = k ∨ (valV kvs j).isSome = true := by
  rw [valV_put]
  by_cases c : j = k
  · rw [if_pos c]
    simp [c]
  · rw [if_neg c]
    simp [c]
theorem nodup_leG {α : Type} [DecidableEq α] : ∀ {l m : List α}, l.Nodup → (∀ x ∈ l, x ∈ m) → l.length ≤ m.length
  | [], _, _, _ => Nat.zero_le _
  | x :: l, m, hn, hs => by
    obtain ⟨h1, h2⟩ := List.nodup_cons.mp hn
    have hx : x ∈ m := hs x List.mem_cons_self
    have ih := nodup_leG (l := l) (m := m.erase x) h2 fun y hy => (List.mem_erase_of_ne (fun e : y = x => h1 (by rw [← e]; exact hy))).2 (hs y (List.mem_cons_of_mem _ hy))
    have hp : 0 < m.length := List.length_pos_of_mem hx
    rw [List.length_erase_of_mem hx] at ih
    rw [List.length_cons]
    omega
abbrev St2 : Type := NestedKey
abbrev Qu : Type := List (St2 × List V)
/-- what moves tells: a list of pairs, a label and a state -/
def Mvs (G : Hp) (l : Addr) (es : List (V × St2)) : Prop := ∃ ps : List Addr, G l = some (.lst (ps.map V.ref)) ∧ Paired (fun (p : Addr) (e : V × St2) => ∃ b, G p = some (.tup [e.1, .ref b]) ∧ NT G b e.2) ps es
/-- what stands in spread's dict and list -/
structure SpAt (P : Program) (w : World) (H G : Hp) (ro qu : Addr) (q : Qu) : Prop where
  dict : ∃ kvs : List (St2 × V), DK P w G ro kvs ∧ kvs.length ≤ q.length ∧ (∀ k, (valV kvs k).isSome = true ↔ k ∈ q.map (·.1)) ∧ ∀ p ∈ q, ∃ r, valV kvs p.1 = some (.ref r) ∧ r ≠ qu ∧ H r = none ∧ G r = some (.lst p.2)
  list : ∃ ts : List Addr, G qu = some (.lst (ts.map V.ref)) ∧ Paired (fun t (p : St2 × List V) => NT G t p.1) ts q
  old : Sm H G
  nr : H ro = none
  nq : H qu = none
theorem SpAt.sm {P : Program} {w : World} {H G G2 : Hp} {ro qu : Addr} {q : Qu} (s : SpAt P w H G ro qu q) (m : Sm G G2) : SpAt P w H G2 ro qu q := by
  obtain ⟨⟨kvs, d1, d2, d3, d4⟩, ⟨ts, l1, l2⟩, o, nr, nq⟩ := s
  exact ⟨⟨kvs, d1.sm m, d2, d3, fun p hp => by
    obtain ⟨r, e1, e2, e3, e4⟩ := d4 p hp
    exact ⟨r, e1, e2, e3, m _ _ e4⟩⟩, ⟨ts, m _ _ l1, pair_mono l2 fun t _ p e => e.sm m⟩, o.trans m, nr, nq⟩
theorem SpAt.more {P : Program} {w : World} {H G Gm : Hp} {ro qu rn b : Addr} {q : Qu} {u : St2} {row : List V} {kvs : List (St2 × V)} {ts : List Addr} {φ : Heap → Prop} (d1 : DK P w G ro kvs) (d2 : kvs.length ≤ q.length) (d3 : ∀ k, (valV kvs k).isSome = true ↔ k ∈ q.map (·.1)) (d4 : ∀ p ∈ q, ∃ r, valV kvs p.1 = some (.ref r) ∧ r ≠ qu ∧ H r = none ∧ G r = some (.lst p.2))
    (l1 : G qu = some (.lst (ts.map V.ref))) (l2 : Paired (fun t (p : St2 × List V) => NT G t p.1) ts q) (o : Sm H G) (nr : H ro = none) (nq : H qu = none) (m : Sm G Gm) (er : Gm rn = some (.lst row)) (nrn : G rn = none) (eb : NT G b u) (nu : u ∉ q.map (·.1)) (hk : DK P w (upd Gm ro (.ext φ)) ro (putK kvs u (.ref rn))) :
    SpAt P w H (upd (upd Gm ro (.ext φ)) qu (.lst ((ts ++ [b]).map V.ref))) ro qu (q ++ [(u, row)]) := by
  have roq : qu ≠ ro := d1.ne l1 (fun _ z => nomatch z)
  have lst : ∀ {c : Addr} {xs : List V}, Gm c = some (.lst xs) → c ≠ qu → upd (upd Gm ro (.ext φ)) qu (.lst ((ts ++ [b]).map V.ref)) c = some (.lst xs) := fun {c xs} e n => by
    rw [upd_ne n, upd_ne ((d1.sm m).ne e (fun _ z => nomatch z))]
    exact e
  have tup : ∀ (c : Addr) (xs : List V), G c = some (.tup xs) → upd (upd Gm ro (.ext φ)) qu (.lst ((ts ++ [b]).map V.ref)) c = some (.tup xs) := fun c xs e => by
    rw [upd_ne (ne_of e l1 (fun z => nomatch z)), upd_ne (d1.ne e (fun _ z => nomatch z))]
    exact m _ _ e
  refine ⟨⟨putK kvs u (.ref rn), hk.keep (fun c ys e => ?_) (upd_ne (Ne.symm roq)), ?_, fun k => ?_, fun p hp => ?_⟩, ⟨ts ++ [b], upd_same, pair_more (pair_mono l2 fun t _ p e => e.keep tup) (eb.keep tup)⟩, fun c x e => ?_, nr, nq⟩
  · rw [upd_ne (fun z => ?_)]
    · exact e
    · rw [z, upd_ne roq] at e
      rw [m _ _ l1] at e
      cases e
  · rw [List.length_append]
    exact Nat.le_trans (length_putK kvs u (.ref rn)) (Nat.succ_le_succ d2)
  · rw [has_putK, d3, List.map_append, List.mem_append, or_comm]
    simp
  · rcases List.mem_append.mp hp with h | h
    · obtain ⟨r, e1, e2, e3, e4⟩ := d4 p h
      refine ⟨r, ?_, e2, e3, lst (m _ _ e4) e2⟩
      rw [valV_put, if_neg]
      · exact e1
      · intro z
        exact nu (z ▸ List.mem_map.mpr ⟨p, h, rfl⟩)
    · rw [List.mem_singleton.mp h]
      have n1 : rn ≠ qu := fun z => by
        rw [z, l1] at nrn
        cases nrn
      refine ⟨rn, by rw [valV_put, if_pos rfl], n1, ?_, lst er n1⟩
      cases z : H rn with
      | none => rfl
      | some x =>
        rw [o _ _ z] at nrn
        cases nrn
  · rw [upd_ne (fun z => by rw [z, nq] at e; cases e), upd_ne (fun z => by rw [z, nr] at e; cases e)]
    exact m _ _ (o _ _ e)
/-- f(..): the slot i holds f; what it tells -/
def tAct (i : Nat) (f : Addr) (r : V → Hp → VK → Prop) (te : TE) : TE := fun σ H Q => σ[i]? = some (some (.ref f)) ∧ te σ H fun v H1 => r v H1 Q
/-- what comes of spread -/
def SpOut (P : Program) (w : World) (mv : St2 → List (V × St2)) (fd : St2 → Bool) (s : St2) (H G : Hp) (tu : Addr) : Prop := ∃ ro qu q x, SpAt P w H G ro qu q ∧ q.length ≤ 1000 ∧ G tu = some (.tup [.ref ro, x]) ∧
  ((∃ (i : Nat) (t : Addr) (k : St2) (row : List V), Bfs mv fd s q i ∧ x = .ref t ∧ NT G t k ∧ q[i]? = some (k, row) ∧ fd k = true) ∨ (x = .non ∧ Bfs mv fd s q q.length))
abbrev nSp : List Str := ["start", "moves", "found", "rows", "queue", "at", "state", "label", "target"]
theorem scSp : FnScope nSp ["start", "moves", "found"] (defScope (top 13)) := ⟨rfl, rfl, rfl, by decide +kernel, rfl, by decide +kernel, by decide +kernel⟩
section
variable {P : Program} {w : World} {K : PySem.W.Frag} {mg : Str → Option Value} {base : Heap} {g : Addr} {cdg : Value} {A : Around} {outer : List Env} {s : Shared} {H : Hp} {E : XK}
theorem spread_body {t0 fM fF : Addr} {st : St2} {mv : St2 → List (V × St2)} {fd : St2 → Bool} {dom : List St2} {rM rF : V → Hp → VK → Prop} {Q : VK} (hr : Room 1 (A.deeper (envOfC "spread" (defScope (top 13)) s.heap.objs.size g cdg))) (ml : mg "len" = none)
    (hF : ∀ q p pos, PE (cxOf CX0 P w K mg base nSp "spread" (defScope (top 13)) g cdg A outer s H E).nox (.Call (.Name "found" p) [.Name "state" q] [] pos) (tAct 2 fF rF (tVar 6)))
    (hM : ∀ q p pos, PE (cxOf CX0 P w K mg base nSp "spread" (defScope (top 13)) g cdg A outer s H E).nox (.Call (.Name "moves" p) [.Name "state" q] [] pos) (tAct 1 fM rM (tVar 6)))
    (okF : ∀ (t : Addr) (k : St2) (G : Hp) (Q : VK), Sm H G → k ∈ dom → NT G t k → (∀ G', Sm G G' → Q (.bl (fd k)) G') → rF (.ref t) G Q)
    (okM : ∀ (t : Addr) (k : St2) (G : Hp) (Q : VK), Sm H G → k ∈ dom → NT G t k → (∀ l G', Sm G G' → G l = none → Mvs G' l (mv k) → Q (.ref l) G') → rM (.ref t) G Q)
    (h0 : NT H t0 st) (d0 : st ∈ dom) (dcl : ∀ k ∈ dom, ∀ e ∈ mv k, e.2 ∈ dom) (d1000 : dom.length ≤ 1000)
    (q : ∀ (tu : Addr) (G : Hp), Sm H G → H tu = none → SpOut P w mv fd st H G tu → Q (.ref tu) G) :
    ∃ t, PSs (cxOf CX0 P w K mg base nSp "spread" (defScope (top 13)) g cdg A outer s H E) (defBody (top 13)) t ∧ t { nx := fun _ H' => Q .non H', rt := Q } (start nSp [.ref t0, .ref fM, .ref fF]) H := by
  refine ⟨_, PSs.nox (pss_cons (ps_set (i := 3) scSp.nd rfl (.inl rfl) (pe_ndisp hr.units (pv 0) (pe_lst pa_nil)))
    (pss_cons (ps_set (i := 4) scSp.nd rfl (.inl rfl) (pe_lst (pa_cons (pv 0) pa_nil)))
    (pss_cons (ps_set (i := 5) scSp.nd rfl (.inl rfl) pe_int)
    (pss_cons (ps_while PassesOwn.never (pt_cmpR op_lt (pv 5) (pe_callB call_len rfl ml boot_len (pa_cons (pv 4) pa_nil)) (nomark _))
      (pss_cons (ps_set (i := 6) scSp.nd rfl (.inl rfl) (by exact (pe_ix ix_list (pv 4) (pv 5) (fun _ _ => rfl))))
      (pss_cons (ps_aug (i := 5) scSp.nd rfl (.inl rfl) pe_int ip_add)
      (pss_cons (ps_if (pt_val (by exact (hF _ _ _))) (pss_one (ps_ret (pe_tup (pa_cons (pv 3) (pa_cons (pv 6) pa_nil))))) pss_nil)
      (pss_one (ps_for PassesOwn.never rfl (pi_list (by exact (hM _ _ _))) (pg_tup rfl (pgs_cons (pg_name (i := 7) scSp.nd rfl (.inl rfl)) (pgs_cons (pg_name (i := 8) scSp.nd rfl (.inl rfl)) pgs_nil)))
        (pss_one (ps_if (pt_cmp (pc_nnotin hr.units (pv 8) (pv 3)))
          (pss_cons (ps_nput hr.units (pv 3) (pv 8) (by exact (pe_op op_cat (by exact (pe_nget hr.units (pv 3) (pv 6) (fun _ _ => rfl))) (pe_lst (pa_cons (pv 7) pa_nil)))) (by rfl))
          (pss_one (ps_expr (pe_bm PySem.F.plainAttrs_list PySem.F.slot_list_append PySem.F.type_list_append mt_append (pv 4) (pa_cons (pv 8) pa_nil))))) pss_nil))))))))
    (pss_one (ps_ret (pe_tup (pa_cons (pv 3) (pa_cons pe_non pa_nil))))))))), ?_⟩
  intro ro φ0 nro hk0
  refine ⟨_, rfl, by show 0 ≤ sizeLine; exact Nat.zero_le _, fun r0 nr0 => ⟨t0, st, rfl, ?_, hk0.sm (Sm.new nr0), fun ψ hk1 => ?_⟩⟩
  · exact (h0.sm (Sm.new nro)).sm (Sm.new nr0)
  have r0ro : r0 ≠ ro := fun z => by
    rw [z, upd_same] at nr0
    cases nr0
  have nr0H : H r0 = none := by
    rw [upd_ne r0ro] at nr0
    exact nr0
  have e2 : upd (upd (upd H ro (.ext φ0)) r0 (.lst [])) ro (.ext ψ) r0 = some (.lst []) := by
    rw [upd_ne r0ro]
    exact upd_same
  have m0 : Sm H (upd (upd (upd H ro (.ext φ0)) r0 (.lst [])) ro (.ext ψ)) := fun b o e => by
    rw [upd_ne (ne_of_none e nro)]
    exact Sm.new nr0 _ _ (Sm.new nro _ _ e)
  generalize upd (upd (upd H ro (.ext φ0)) r0 (.lst [])) ro (.ext ψ) = G0 at hk1 e2 m0 ⊢
  refine ⟨_, rfl, by show 1 ≤ sizeLine; rw [sizeLine_eq]; decide, fun qu nqu => ?_⟩
  have sp0 : SpAt P w H (upd G0 qu (.lst [.ref t0])) ro qu [(st, [])] := by
    have m1 := Sm.new (o := .lst [.ref t0]) nqu
    have nqH := none_of_sm m0 nqu
    have r0q : r0 ≠ qu := ne_of_none e2 nqu
    refine ⟨⟨[(st, .ref r0)], hk1.sm m1, Nat.le_refl _, fun k => ?_, fun p hp => ?_⟩, ⟨[t0], upd_same, .cons ((h0.sm m0).sm m1) .nil⟩, m0.trans m1, nro, nqH⟩
    · by_cases c : st = k
      · subst c
        rw [valV_pos rfl]
        simp
      · rw [valV_neg c, valV_nil]
        simp [Ne.symm c]
    · rw [List.mem_singleton.mp hp]
      exact ⟨r0, by rw [valV_pos rfl], r0q, nr0H, m1 _ _ e2⟩
  generalize upd G0 qu (.lst [.ref t0]) = G1 at sp0 ⊢
  refine ⟨fun m σ G => ∃ (qq : Qu) (i : Nat) (v6 v7 v8 : Option V), σ = [some (.ref t0), some (.ref fM), some (.ref fF), some (.ref ro), some (.ref qu), some (.int (i : Nat)), v6, v7, v8] ∧ m = dom.length - i ∧ Bfs mv fd st qq i ∧ (∀ p ∈ qq, p.1 ∈ dom) ∧ SpAt P w H G ro qu qq,
    ⟨_, _, 0, none, none, none, rfl, rfl, .start, (fun p hp => by rw [List.mem_singleton.mp hp]; exact d0), sp0⟩, ?_⟩
  rintro m σ G ⟨qq, i, v6, v7, v8, rfl, rfl, B, qd, sp⟩
  have ql : qq.length ≤ dom.length := by
    have := nodup_leG B.nd (m := dom) fun x hx => by
      obtain ⟨p, hp, rfl⟩ := List.mem_map.mp hx
      exact qd p hp
    rwa [List.length_map] at this
  obtain ⟨ts, l1, l2⟩ := sp.list
  have tl : ts.length = qq.length := paired_len l2
  refine ⟨_, rfl, _, rfl, .ref qu, qq.length, rfl, .inl ⟨_, .inl (.inl l1), by rw [List.length_map, tl]⟩, _, _, rfl, rfl, _, rfl, ?_⟩
  by_cases c : ((i : Nat) : Int) < ((qq.length : Nat) : Int)
  · rw [decide_eq_true c]
    refine iteT ?_
    have il : i < qq.length := by omega
    refine ⟨fun σ' G' => ∃ (q2 : Qu) (v6 v7 v8 : Option V), σ' = [some (.ref t0), some (.ref fM), some (.ref fF), some (.ref ro), some (.ref qu), some (.int ((i + 1 : Nat) : Nat)), v6, v7, v8] ∧ Bfs mv fd st q2 (i + 1) ∧ (∀ p ∈ q2, p.1 ∈ dom) ∧ SpAt P w H G' ro qu q2,
      fun σ' G' ⟨q2, v6, v7, v8, h1, h2, h3, h4⟩ => ⟨dom.length - (i + 1), by omega, q2, i + 1, v6, v7, v8, h1, rfl, h2, h3, h4⟩, ?_⟩
    have et : ts[i]? = some (ts[i]'(by omega)) := List.getElem?_eq_getElem _
    generalize ts[i]'(by omega) = t at et
    obtain ⟨⟨k, row⟩, eq, ht⟩ := pair_at l2 et
    have hk : k ∈ dom := qd _ (List.mem_of_getElem? eq)
    refine ⟨_, rfl, _, rfl, qu, ts.map V.ref, i, .ref t, rfl, rfl, .inl (.inl l1), atI_nat (by rw [List.getElem?_map, et]; rfl), ?_⟩
    refine ⟨_, rfl, _, _, rfl, rfl, ?_⟩
    refine ⟨rfl, _, rfl, okF t k G _ sp.old hk ht fun G2 m2 => ⟨fd k, rfl, ?_⟩⟩
    have sp2 := sp.sm m2
    have ht2 := ht.sm m2
    cases ef : fd k with
    | true =>
      refine iteT ⟨_, rfl, _, rfl, by show 2 ≤ sizeLine; rw [sizeLine_eq]; decide, fun tu ntu => ?_⟩
      have m3 := Sm.new (o := .tup [.ref ro, .ref t]) ntu
      exact q tu _ (sp2.old.trans m3) (none_of_sm sp2.old ntu) ⟨ro, qu, qq, _, sp2.sm m3, Nat.le_trans ql d1000, upd_same, .inl ⟨i, t, k, row, B, rfl, ht2.sm m3, eq, ef⟩⟩
    | false =>
      refine iteF ⟨rfl, _, rfl, okM t k G2 _ sp2.old hk ht2 fun l G3 m3 nl mvs => ?_⟩
      obtain ⟨ps, el, pp⟩ := mvs
      have sp3 := sp2.sm m3
      have ht3 := ht2.sm m3
      refine ⟨l, rfl, ⟨_, .inl (.inl el)⟩, ?_⟩
      refine for_it (walk_list (xs := ps.map V.ref)) (fun j σ G => ∃ (q2 : Qu) (v7 v8 : Option V), σ = [some (.ref t0), some (.ref fM), some (.ref fF), some (.ref ro), some (.ref qu), some (.int ((i + 1 : Nat) : Nat)), some (.ref t), v7, v8] ∧ Bfs mv fd st q2 i ∧ q2[i]? = some (k, row) ∧
          (∀ e ∈ (mv k).take j, ∃ (b : Nat) (y : St2 × List V), q2[b]? = some y ∧ y.1 = e.2 ∧ y.2.length ≤ row.length + 1) ∧ (∀ p ∈ q2, p.1 ∈ dom) ∧ SpAt P w H G ro qu q2 ∧ l ≠ qu ∧ G l = some (.lst (ps.map V.ref)) ∧ Paired (fun (p : Addr) (e : V × St2) => ∃ b, G p = some (.tup [e.1, .ref b]) ∧ NT G b e.2) ps (mv k) ∧ NT G t k)
        ⟨qq, v7, v8, rfl, B, eq, (fun e he => nomatch he), qd, sp3, ?_, el, pp, ht3⟩ (fun j σ G _ p => ?_) (fun j x σ G5 G4 hj p yy => ?_) (fun σ G4 p => ?_)
      · intro z
        obtain ⟨ts2, z1, _⟩ := sp2.list
        rw [z, z1] at nl
        cases nl
      · obtain ⟨_, _, _, _, _, _, _, _, _, _, el, _⟩ := p
        exact .inl (.inl el)
      · obtain ⟨q2, v7, v8, rfl, B2, eq2, tk, qd2, sp4, lq, el4, pp4, ht4⟩ := p
        obtain ⟨rfl, ex⟩ := yy
        obtain ⟨pa, epa, rfl⟩ : ∃ a, ps[j]? = some a ∧ x = .ref a := by
          rw [List.getElem?_map] at ex
          cases e : ps[j]? with
          | none =>
            rw [e] at ex
            cases ex
          | some a =>
            rw [e] at ex
            exact ⟨a, rfl, (Option.some.inj ex).symm⟩
        obtain ⟨⟨lab, u⟩, ee, b, hp, hb⟩ := pair_at pp4 epa
        have tk2 : (mv k).take (j + 1) = (mv k).take j ++ [(lab, u)] := by
          rw [List.take_add_one, ee]
          rfl
        have hu : u ∈ dom := dcl k hk _ (List.mem_of_getElem? ee)
        refine ⟨pa, _, rfl, .inl (.inl hp), rfl, _, _, rfl, _, _, rfl, rfl, ?_⟩
        obtain ⟨kvs, d1, d2, d3, d4⟩ := sp4.dict
        refine ⟨_, rfl, _, rfl, ro, kvs, u, b, rfl, d1, rfl, hb, _, rfl, ?_⟩
        by_cases cu : u ∈ q2.map (·.1)
        · rw [(d3 u).mpr cu]
          refine iteF ⟨q2, _, _, rfl, B2, eq2, fun e he => ?_, qd2, sp4, lq, el4, pp4, ht4⟩
          rw [tk2] at he
          rcases List.mem_append.mp he with h | h
          · exact tk e h
          · rw [List.mem_singleton.mp h]
            obtain ⟨y, hy, ey⟩ := List.mem_map.mp cu
            obtain ⟨b2, hb2⟩ := List.mem_iff_getElem?.mp hy
            exact ⟨b2, y, hb2, ey, B2.lim i b2 _ y (Nat.le_refl _) eq2 hb2⟩
        · have no : (valV kvs u).isSome = false := by
            cases z : (valV kvs u).isSome with
            | true => exact absurd ((d3 u).mp z) cu
            | false => rfl
          rw [no]
          obtain ⟨ts4, l1, l2⟩ := sp4.list
          have tl4 : ts4.length = q2.length := paired_len l2
          obtain ⟨r, g1, g2, g3, g4⟩ := d4 (k, row) (List.mem_of_getElem? eq2)
          have il2 : i < q2.length := (List.getElem?_eq_some_iff.mp eq2).1
          have q2l : q2.length ≤ dom.length := by
            have := nodup_leG B2.nd (m := dom) fun x hx => by
              obtain ⟨p, hp, rfl⟩ := List.mem_map.mp hx
              exact qd2 p hp
            rwa [List.length_map] at this
          have rl : row.length ≤ i := B2.short i _ eq2
          refine iteT ⟨_, rfl, _, rfl, ro, kvs, k, t, .ref r, rfl, d1, rfl, ht4, g1, _, rfl, by show 1 ≤ sizeLine; rw [sizeLine_eq]; decide, fun n1 nn1 => ⟨r, n1, row, [lab], rfl, rfl, Sm.new nn1 _ _ g4, upd_same, by show row.length + 1 ≤ sizeLine; rw [sizeLine_eq]; omega, fun rn nrn => ?_⟩⟩
          have ms : Sm G4 (upd (upd G4 n1 (.lst [lab])) rn (.lst (row ++ [lab]))) := Sm.trans (Sm.new nn1) (Sm.new nrn)
          have er : upd (upd G4 n1 (.lst [lab])) rn (.lst (row ++ [lab])) rn = some (.lst (row ++ [lab])) := upd_same
          have nrn4 : G4 rn = none := none_of_sm (Sm.new nn1) nrn
          generalize upd (upd G4 n1 (.lst [lab])) rn (.lst (row ++ [lab])) = Gm at ms er ⊢
          refine ⟨_, rfl, _, rfl, ro, kvs, u, b, rfl, d1.sm ms, rfl, hb.sm ms, by rw [sizeLine_eq]; omega, fun φ hk => ?_⟩
          have more := SpAt.more d1 d2 d3 d4 l1 l2 sp4.old sp4.nr sp4.nq ms er nrn4 hb cu hk
          have roq : qu ≠ ro := d1.ne l1 (fun _ z => nomatch z)
          have eq1 : upd Gm ro (.ext φ) qu = some (.lst (ts4.map V.ref)) := by
            rw [upd_ne roq]
            exact ms _ _ l1
          refine ⟨_, rfl, .inl ⟨rfl, _, .inl (.inl eq1)⟩, _, rfl, qu, _, .ref b, rfl, rfl, eq1, by rw [List.length_map, tl4, sizeLine_eq]; omega, ?_⟩
          have em : ts4.map V.ref ++ [V.ref b] = (ts4 ++ [b]).map V.ref := by rw [List.map_append]; rfl
          rw [em]
          have keepL : ∀ {c : Addr} {xs : List V}, G4 c = some (.lst xs) → c ≠ qu → upd (upd Gm ro (.ext φ)) qu (.lst ((ts4 ++ [b]).map V.ref)) c = some (.lst xs) := fun {c xs} e n => by
            rw [upd_ne n, upd_ne (d1.ne e (fun _ z => nomatch z))]
            exact ms _ _ e
          have keepT : ∀ {c : Addr} {xs : List V}, G4 c = some (.tup xs) → upd (upd Gm ro (.ext φ)) qu (.lst ((ts4 ++ [b]).map V.ref)) c = some (.tup xs) := fun {c xs} e => by
            rw [upd_ne (ne_of e l1 (fun z => nomatch z)), upd_ne (d1.ne e (fun _ z => nomatch z))]
            exact ms _ _ e
          refine ⟨q2 ++ [(u, row ++ [lab])], _, _, rfl, B2.more eq2 (List.mem_of_getElem? ee) cu, ?_, fun e he => ?_, fun p hp => ?_, more, lq, keepL el4 lq, pair_mono pp4 fun p _ e ⟨b2, z1, z2⟩ => ⟨b2, keepT z1, z2.keep fun c ys e => keepT e⟩, ht4.keep fun c ys e => keepT e⟩
          · rw [List.getElem?_append_left il2]
            exact eq2
          · rw [tk2] at he
            rcases List.mem_append.mp he with h | h
            · obtain ⟨b2, y, h1, h2, h3⟩ := tk e h
              exact ⟨b2, y, by rw [List.getElem?_append_left (List.getElem?_eq_some_iff.mp h1).1]; exact h1, h2, h3⟩
            · rw [List.mem_singleton.mp h]
              exact ⟨q2.length, (u, row ++ [lab]), by rw [List.getElem?_append_right (Nat.le_refl _), Nat.sub_self]; rfl, rfl, by simp⟩
          · rcases List.mem_append.mp hp with h | h
            · exact qd2 p h
            · rw [List.mem_singleton.mp h]
              exact hu
      · obtain ⟨q2, v7, v8, rfl, B2, eq2, tk, qd2, sp4, lq, el4, pp4, ht4⟩ := p
        have pl : ps.length = (mv k).length := paired_len pp4
        rw [List.length_map, pl, List.take_length] at tk
        exact ⟨q2, _, _, _, rfl, B2.next eq2 ef fun l2 u hm => tk (l2, u) hm, qd2, sp4⟩
  · rw [decide_eq_false c]
    refine iteF ?_
    have e : i = qq.length := by
      have := B.le
      omega
    subst e
    refine ⟨_, rfl, by show 2 ≤ sizeLine; rw [sizeLine_eq]; decide, fun tu ntu => ?_⟩
    have m3 := Sm.new (o := .tup [.ref ro, .non]) ntu
    exact q tu _ (sp.old.trans m3) (none_of_sm sp.old ntu) ⟨ro, qu, qq, _, sp.sm m3, Nat.le_trans ql d1000, upd_same, .inr ⟨rfl, B⟩⟩
end
end Dk
set_option Elab.async false
set_option linter.all false
set_option maxRecDepth 100000
set_option maxHeartbeats 4000000
namespace Dk
open PySem PySem.Spec PyProof.Rows L2 Er LamX NdefX Bf
/-! ### spread, shortest_row: called with nested functions -/
/-- the two functions tell mv and fd, as long as what stands at H stands -/
structure Tells (H : Hp) (mv : St2 → List (V × St2)) (fd : St2 → Bool) (dom : List St2) (rM rF : V → Hp → VK → Prop) : Prop where
  f : ∀ (t : Addr) (k : St2) (G : Hp) (Q : VK), Sm H G → k ∈ dom → NT G t k → (∀ G', Sm G G' → Q (.bl (fd k)) G') → rF (.ref t) G Q
  m : ∀ (t : Addr) (k : St2) (G : Hp) (Q : VK), Sm H G → k ∈ dom → NT G t k → (∀ l G', Sm G G' → G l = none → Mvs G' l (mv k) → Q (.ref l) G') → rM (.ref t) G Q
  cl : ∀ k ∈ dom, ∀ e ∈ mv k, e.2 ∈ dom
  few : dom.length ≤ 1000
/-- the function F stands at f -/
def Stands (H : Hp) (f : Addr) (F : NF) : Prop := H f = some (FnO f F) ∧ H F.c = some (CodeO F.c F.qual)
theorem Stands.sm {H G : Hp} {f : Addr} {F : NF} (s : Stands H f F) (m : Sm H G) : Stands G f F := ⟨m _ _ s.1, m _ _ s.2⟩
def tSpread (P : Program) (w : World) (fM fF : Addr) (FM FF : NF) (wsM wsF : List (Option V)) (spM spF : List (Option V) → Sp) (t : TA) : TE := fun σ H Q => t σ H fun vs H1 => ∃ (t0 : Addr) (st : St2) (mv : St2 → List (V × St2)) (fd : St2 → Bool) (dom : List St2),
  vs = [.ref t0, .ref fM, .ref fF] ∧ Stands H1 fM FM ∧ Stands H1 fF FF ∧ Tells H1 mv fd dom (fun v G Q => spM wsM [v] G Q E0) (fun v G Q => spF wsF [v] G Q E0) ∧ NT H1 t0 st ∧ st ∈ dom ∧
  ∀ (tu : Addr) (G : Hp), Sm H1 G → H1 tu = none → SpOut P w mv fd st H1 G tu → Q (.ref tu) G
theorem pe_spread {X : Cx} {fS : Addr} {dS : FuncData} {FM FF : NF} {fM fF : Addr} {psM frM psF frF : List Str} {wsM wsF : List (Option V)} {spM spF : List (Option V) → Sp} {t : TA} {e1 e2 e3 : Expr} {p pos : Pos}
    (FS : FnP X.K "spread" (top 13) fS dS) (gS : X.mg "spread" = some (.ref fS)) (ml : X.mg "len" = none) (hg : Gl X "spread") (hr : Room 2 X.A) (CM : CellsAt FM.cl frM wsM X.s_0.heap X.H_0) (CF : CellsAt FF.cl frF wsF X.s_0.heap X.H_0) (hx : X.ex = [])
    (NM : NOk X.prog X.w X.K X.mg X.base CX0 1 fM FM psM frM spM) (NF_ : NOk X.prog X.w X.K X.mg X.base CX0 1 fF FF psF frF spF) (ha : PA X [e1, e2, e3] t)
    (he : starEach [e1, e2, e3] X.env = (false, eval e1 X.env) :: starEach [e2, e3] X.env := by rfl) (hpl : (backTo pos (starEach [e2, e3] X.env)).any (·.1) = false := by rfl) :
    PE X (.Call (.Name "spread" p) [e1, e2, e3] [] pos) (tSpread X.prog X.w fM fF FM FF wsM wsF spM spF t) := by
  refine ⟨fun ps s σ H Q I h => ?_⟩
  refine wpAny_Call_Name_kw (ld_glob I hg gS ?_ (by decide))
  refine PySem.W.callWith_K (h₀ := X.base) I.ok.mod.kin FS.kp (thn (ha.run pos ps s σ H _ I h) fun us s2 ⟨vs, H2, I2, rr, t0, st, mv, fd, dom, ev, sM, sF, T, h0, d0, q⟩ => ⟨I2.kIn, ?_⟩) he hpl
  subst ev
  have bR := L2.FunD.bindsA (ps := ["start", "moves", "found"]) FS fun _ _ _ _ _ _ us hl => match us, hl with
    | [_, _, _], _ => rfl
  obtain ⟨oc, od, dV, kV, doc, pm2, an, cdv, ct, osl, rfl, lk2, hcd, _, _⟩ := FS.ex
  have hr2 : Room 1 (X.A.deeper (envOfC "spread" (defScope (top 13)) s2.heap.objs.size fS cdv)) := hr.deeper _
  have hl : us.length = 3 := rr.length.symm
  show wpAny _ _ (call (.ref fS) us) _ _ _
  refine wpAny_call (codeAny_mono (run_ofS (CX := CX0) (N := nSp) (ps := ["start", "moves", "found"]) (us := us) (vs := [.ref t0, .ref fM, .ref fF]) (Q := Q) (E := E0) lk2 hcd scSp hr I2.env0 (bR s2 us hl) rr rfl fun _ => ?_) fun r s' hq => ?_)
  · refine spread_body (fM := fM) (fF := fF) (rM := fun v G Q => Stands G fM FM ∧ spM wsM [v] G Q E0) (rF := fun v G Q => Stands G fF FF ∧ spF wsF [v] G Q E0) (Q := Q) hr2 ml (fun q p pos => ?_) (fun q p pos => ?_)
      (fun t k G Q m hk ht q => ⟨sF.sm m, T.f t k G Q m hk ht q⟩) (fun t k G Q m hk ht q => ⟨sM.sm m, T.m t k G Q m hk ht q⟩) h0 d0 T.cl T.few q
    · have z := pe_callF (X := (cxOf CX0 X.prog X.w X.K X.mg X.base nSp "spread" (defScope (top 13)) fS cdv X.A X.stack s2 H2 E0).nox) (i := 2) (x := "found") (e := .Name "state" q) (es := []) (p := p) (pos := pos) (t := tCons (tVar 6) tNil) (cells_later CF hx I2) rfl NF_ hr2 (Nat.le_refl _) rfl (.inl rfl) (pa_cons (pv 6) pa_nil)
      exact ⟨fun ps s σ H Q I ⟨h1, v, h2, h3, h4⟩ => z.run ps s σ H Q I ⟨h1, h3.1, v, h2, h3.1, h3.2, h4⟩⟩
    · have z := pe_callF (X := (cxOf CX0 X.prog X.w X.K X.mg X.base nSp "spread" (defScope (top 13)) fS cdv X.A X.stack s2 H2 E0).nox) (i := 1) (x := "moves") (e := .Name "state" q) (es := []) (p := p) (pos := pos) (t := tCons (tVar 6) tNil) (cells_later CM hx I2) rfl NM hr2 (Nat.le_refl _) rfl (.inl rfl) (pa_cons (pv 6) pa_nil)
      exact ⟨fun ps s σ H Q I ⟨h1, v, h2, h3, h4⟩ => z.run ps s σ H Q I ⟨h1, h3.1, v, h2, h3.1, h3.2, h4⟩⟩
  · cases r with
    | error e => exact hq.elim
    | ok fl =>
      cases fl with
      | ret u => exact I2.after hq
      | next => exact False.elim hq
      | brk => exact False.elim hq
      | cont => exact False.elim hq
/-! ### shortest_row -/
/-- what comes of it: None, or a list that no shorter one betters -/
def ShOut (mv : St2 → List (V × St2)) (fd : St2 → Bool) (s : St2) (H G : Hp) (v : V) : Prop := (v = .non ∧ ∀ r k, Led mv s r k → fd k = false) ∨
  ∃ (rr : Addr) (row : List V) (k : St2), v = .ref rr ∧ G rr = some (.lst row) ∧ H rr = none ∧ row.length ≤ 1000 ∧ Led mv s row k ∧ fd k = true ∧ ∀ r2 k2, Led mv s r2 k2 → fd k2 = true → row.length ≤ r2.length
abbrev nSh : List Str := ["start", "moves", "found", "rows", "state"]
theorem scSh : FnScope nSh ["start", "moves", "found"] (defScope (top 14)) := ⟨rfl, rfl, rfl, by decide +kernel, rfl, by decide +kernel, by decide +kernel⟩
def tShort (mkM mkF : Addr → NF) (jsM jsF : List Nat) (spM spF : List (Option V) → Sp) (t : TA) : TE := fun σ H Q => t σ H fun vs H1 => ∃ (t0 fM fF cM cF : Addr) (st : St2) (mv : St2 → List (V × St2)) (fd : St2 → Bool) (dom : List St2),
  vs = [.ref t0, .ref fM, .ref fF] ∧ Stands H1 fM (mkM cM) ∧ Stands H1 fF (mkF cF) ∧ Tells H1 mv fd dom (fun v G Q => spM (jsM.map (slotAt σ)) [v] G Q E0) (fun v G Q => spF (jsF.map (slotAt σ)) [v] G Q E0) ∧ NT H1 t0 st ∧ st ∈ dom ∧
  ∀ (v : V) (G : Hp), Sm H1 G → ShOut mv fd st H1 G v → Q v G
theorem pe_short {X : Cx} {fR fS : Addr} {dR dS : FuncData} {mkM mkF : Addr → NF} {clM clF : List (Str × Addr)} {psM frM psF frF : List Str} {jsM jsF : List Nat} {spM spF : List (Option V) → Sp} {t : TA} {e1 e2 e3 : Expr} {p pos : Pos}
    (FR : FnP X.K "shortest_row" (top 14) fR dR) (gR : X.mg "shortest_row" = some (.ref fR)) (FS : FnP X.K "spread" (top 13) fS dS) (gS : X.mg "spread" = some (.ref fS)) (ml : X.mg "len" = none) (hg : Gl X "shortest_row") (hr : Room 3 X.A)
    (hM : ∀ c, (mkM c).cl = clM) (hF : ∀ c, (mkF c).cl = clF) (cpM : X.Ok → Caps X clM frM jsM) (cpF : X.Ok → Caps X clF frF jsF)
    (NM : ∀ f c, NOk X.prog X.w X.K X.mg X.base CX0 1 f (mkM c) psM frM spM) (NF_ : ∀ f c, NOk X.prog X.w X.K X.mg X.base CX0 1 f (mkF c) psF frF spF) (ha : PA X [e1, e2, e3] t)
    (he : starEach [e1, e2, e3] X.env = (false, eval e1 X.env) :: starEach [e2, e3] X.env := by rfl) (hpl : (backTo pos (starEach [e2, e3] X.env)).any (·.1) = false := by rfl) :
    PE X (.Call (.Name "shortest_row" p) [e1, e2, e3] [] pos) (tShort mkM mkF jsM jsF spM spF t) := by
  refine ⟨fun ps s σ H Q I h => ?_⟩
  refine wpAny_Call_Name_kw (ld_glob I hg gR ?_ (by decide))
  refine PySem.W.callWith_K (h₀ := X.base) I.ok.mod.kin FR.kp (thn (ha.run pos ps s σ H _ I h) fun us s2 ⟨vs, H2, I2, rr, t0, fM, fF, cM, cF, st, mv, fd, dom, ev, sM, sF, T, h0, d0, q⟩ => ⟨I2.kIn, ?_⟩) he hpl
  subst ev
  have bR := L2.FunD.bindsA (ps := ["start", "moves", "found"]) FR fun _ _ _ _ _ _ us hl => match us, hl with
    | [_, _, _], _ => rfl
  obtain ⟨oc, od, dV, kV, doc, pm2, an, cdv, ct, osl, rfl, lk2, hcd, _, _⟩ := FR.ex
  have hr2 : Room 2 (X.A.deeper (envOfC "shortest_row" (defScope (top 14)) s2.heap.objs.size fR cdv)) := hr.deeper _
  have hl : us.length = 3 := rr.length.symm
  have CM : CellsAt (mkM cM).cl frM (jsM.map (slotAt σ)) s2.heap H2 := by
    rw [hM]
    exact cells_of I2 (cpM I2.ok)
  have CF : CellsAt (mkF cF).cl frF (jsF.map (slotAt σ)) s2.heap H2 := by
    rw [hF]
    exact cells_of I2 (cpF I2.ok)
  show wpAny _ _ (call (.ref fR) us) _ _ _
  refine wpAny_call (codeAny_mono (run_ofS (CX := CX0) (N := nSh) (ps := ["start", "moves", "found"]) (us := us) (vs := [.ref t0, .ref fM, .ref fF]) (Q := Q) (E := E0) lk2 hcd scSh hr I2.env0 (bR s2 us hl) rr rfl fun _ => ?_) fun r s' hq => ?_)
  · refine ⟨_, PSs.nox (pss_cons (ps_asg (by exact (pe_spread (fM := fM) (fF := fF) (FM := mkM cM) (FF := mkF cF) (X := (cxOf CX0 X.prog X.w X.K X.mg X.base nSh "shortest_row" (defScope (top 14)) fR cdv X.A X.stack s2 H2 E0).nox) FS gS ml rfl hr2 CM CF rfl (NM fM cM) (NF_ fF cF) (pa_cons (pv 0) (pa_cons (pv 1) (pa_cons (pv 2) pa_nil)))))
        (pg_tup rfl (pgs_cons (pg_name (i := 3) scSh.nd rfl (.inl rfl)) (pgs_cons (pg_name (i := 4) scSh.nd rfl (.inl rfl)) pgs_nil))))
      (pss_one (ps_ret (pe_ifExp (pt_cmpR op_isN (pv 4) pe_non (nomark _)) pe_non (by exact (pe_nget hr2.units (pv 3) (pv 4) (fun _ _ => rfl))))))), ?_⟩
    refine ⟨_, rfl, _, rfl, _, rfl, t0, st, mv, fd, dom, rfl, sM, sF, T, h0, d0, fun tu G m ntu out => ?_⟩
    obtain ⟨ro, qu, qq, x, sp, ql, etu, out⟩ := out
    refine ⟨tu, _, rfl, .inl (.inl etu), rfl, _, _, rfl, _, _, rfl, rfl, ?_⟩
    rcases out with ⟨i, t, k, row, B, rfl, et, eq, ef⟩ | ⟨rfl, B⟩
    · obtain ⟨kvs, d1, d2, d3, d4⟩ := sp.dict
      obtain ⟨r, g1, g2, g3, g4⟩ := d4 (k, row) (List.mem_of_getElem? eq)
      have rl : row.length ≤ i := B.short i _ eq
      have il : i < qq.length := (List.getElem?_eq_some_iff.mp eq).1
      refine ⟨_, rfl, rfl, _, rfl, ?_⟩
      rw [show decide (V.ref t = V.non) = false from rfl]
      exact iteF ⟨_, rfl, _, rfl, ro, kvs, k, t, .ref r, rfl, d1, rfl, et, g1, q (.ref r) G m (.inr ⟨r, row, k, rfl, g4, g3, by omega, B.led _ (List.mem_of_getElem? eq), ef, fun r2 k2 h f2 => B.least eq h f2⟩)⟩
    · refine ⟨_, rfl, rfl, _, rfl, ?_⟩
      rw [show decide (V.non = V.non) = true from rfl]
      exact iteT (q .non G m (.inl ⟨rfl, fun r k h => B.never h⟩))
  · cases r with
    | error e => exact hq.elim
    | ok fl =>
      cases fl with
      | ret u => exact I2.after hq
      | next => exact False.elim hq
      | brk => exact False.elim hq
      | cont => exact False.elim hq
end Dk
set_option linter.all false
namespace Ap
/-! ### which are told apart, and in how many steps -/
section
variable {S D V : Type} [DecidableEq S] [DecidableEq V]
def led (nx : S → D → S) (z : S) (r : List D) : S := r.foldl nx z
/-- a row of k deeds parts two -/
def Sep (nx : S → D → S) (si : S → V) (ds : List D) (z y : S) (k : Nat) : Prop := ∃ r : List D, r.length = k ∧ (∀ d ∈ r, d ∈ ds) ∧ si (led nx z r) ≠ si (led nx y r)
/-- k is the least such number -/
def Min (nx : S → D → S) (si : S → V) (ds : List D) (z y : S) (k : Nat) : Prop := Sep nx si ds z y k ∧ ∀ j, j < k → ¬ Sep nx si ds z y j
/-- no row of at most k deeds parts two -/
def Eq (nx : S → D → S) (si : S → V) (ds : List D) (k : Nat) (z y : S) : Prop := ∀ j, j ≤ k → ¬ Sep nx si ds z y j
variable {nx : S → D → S} {si : S → V} {ds : List D}
theorem sep_zero {z y : S} : Sep nx si ds z y 0 ↔ si z ≠ si y := by
  constructor
  · rintro ⟨r, e, _, h⟩
    have : r = [] := List.eq_nil_of_length_eq_zero e
    subst this
    exact h
  · exact fun h => ⟨[], rfl, (fun d hd => nomatch hd), h⟩
theorem sep_succ {z y : S} {k : Nat} : Sep nx si ds z y (k + 1) ↔ ∃ d ∈ ds, Sep nx si ds (nx z d) (nx y d) k := by
  constructor
  · rintro ⟨r, e, h1, h2⟩
    cases r with
    | nil => cases e
    | cons d r => exact ⟨d, h1 d List.mem_cons_self, r, by simpa using e, fun x hx => h1 x (List.mem_cons_of_mem _ hx), h2⟩
  · rintro ⟨d, hd, r, e, h1, h2⟩
    exact ⟨d :: r, by simp [e], fun x hx => by
      rcases List.mem_cons.mp hx with h | h
      · rw [h]
        exact hd
      · exact h1 x h, h2⟩
theorem sep_symm {z y : S} {k : Nat} (h : Sep nx si ds z y k) : Sep nx si ds y z k := by
  obtain ⟨r, e, h1, h2⟩ := h
  exact ⟨r, e, h1, fun x => h2 x.symm⟩
theorem sep_trans {z y x : S} {k : Nat} (h : Sep nx si ds z y k) : Sep nx si ds z x k ∨ Sep nx si ds x y k := by
  obtain ⟨r, e, h1, h2⟩ := h
  by_cases c : si (led nx z r) = si (led nx x r)
  · exact .inr ⟨r, e, h1, by rw [← c]; exact h2⟩
  · exact .inl ⟨r, e, h1, c⟩
theorem sep_self {z : S} {k : Nat} : ¬ Sep nx si ds z z k := fun ⟨_, _, _, h⟩ => h rfl
theorem min_one {z y : S} {k j : Nat} (a : Min nx si ds z y k) (b : Min nx si ds z y j) : k = j := by
  rcases Nat.lt_trichotomy k j with c | c | c
  · exact absurd a.1 (b.2 k c)
  · exact c
  · exact absurd b.1 (a.2 j c)
theorem min_some {z y : S} : ∀ {k : Nat}, Sep nx si ds z y k → ∃ j, j ≤ k ∧ Min nx si ds z y j := by
  intro k
  induction k using Nat.strongRecOn with
  | ind k ih =>
    intro h
    by_cases c : ∃ j, j < k ∧ Sep nx si ds z y j
    · obtain ⟨j, hj, s⟩ := c
      obtain ⟨i, hi, m⟩ := ih j hj s
      exact ⟨i, by omega, m⟩
    · exact ⟨k, Nat.le_refl _, h, fun j hj s => c ⟨j, hj, s⟩⟩
theorem min_succ {z y : S} {k : Nat} (h : Min nx si ds z y (k + 1)) : ∃ d ∈ ds, Min nx si ds (nx z d) (nx y d) k := by
  obtain ⟨d, hd, s⟩ := sep_succ.mp h.1
  exact ⟨d, hd, s, fun j hj s2 => h.2 (j + 1) (by omega) (sep_succ.mpr ⟨d, hd, s2⟩)⟩
/-- where some need more than m, some need m + 1 -/
theorem min_next {ws : List S} (cl : ∀ z ∈ ws, ∀ d ∈ ds, nx z d ∈ ws) {m : Nat} : ∀ {k : Nat} {z y : S}, z ∈ ws → y ∈ ws → m < k → Min nx si ds z y k → ∃ z2 ∈ ws, ∃ y2 ∈ ws, Min nx si ds z2 y2 (m + 1) := by
  intro k
  induction k with
  | zero => intro z y _ _ h
            exact absurd h (Nat.not_lt_zero _)
  | succ k ih =>
    intro z y hz hy hk hm
    by_cases c : m = k
    · subst c
      exact ⟨z, hz, y, hy, hm⟩
    · obtain ⟨d, hd, m2⟩ := min_succ hm
      exact ih (cl z hz d hd) (cl y hy d hd) (by omega) m2
/-! ### how many rounds there can be -/
theorem countP_lt {α : Type} {p q : α → Bool} : ∀ {l : List α}, (∀ x ∈ l, p x = true → q x = true) → (∃ x ∈ l, q x = true ∧ p x = false) → l.countP p < l.countP q
  | [], _, ⟨x, hx, _⟩ => nomatch hx
  | a :: l, h, ⟨x, hx, h1, h2⟩ => by
    have le : l.countP p ≤ l.countP q := List.countP_mono_left fun y hy => h y (List.mem_cons_of_mem _ hy)
    rw [List.countP_cons, List.countP_cons]
    rcases List.mem_cons.mp hx with e | e
    · subst e
      rw [h1, h2]
      simp
      omega
    · have ih := countP_lt (l := l) (fun y hy => h y (List.mem_cons_of_mem _ hy)) ⟨x, e, h1, h2⟩
      have ha := h a List.mem_cons_self
      cases pa : p a with
      | true =>
        rw [ha pa]
        simp
        omega
      | false =>
        cases q a <;> simp <;> omega
open Classical in
/-- the first of its lot -/
noncomputable def rep (nx : S → D → S) (si : S → V) (ds : List D) (ws : List S) (k : Nat) (i : Nat) : Bool := decide (∀ j x y, j < i → ws[j]? = some x → ws[i]? = some y → ¬ Eq nx si ds k x y)
open Classical in
theorem rep_iff {ws : List S} {k i : Nat} : rep nx si ds ws k i = true ↔ ∀ j x y, j < i → ws[j]? = some x → ws[i]? = some y → ¬ Eq nx si ds k x y := by
  unfold rep
  exact decide_eq_true_iff
theorem rep_not {ws : List S} {k i : Nat} : rep nx si ds ws k i = false ↔ ¬ ∀ j x y, j < i → ws[j]? = some x → ws[i]? = some y → ¬ Eq nx si ds k x y := by
  rw [← rep_iff (ws := ws) (k := k) (i := i)]
  cases rep nx si ds ws k i <;> simp
noncomputable def lots (nx : S → D → S) (si : S → V) (ds : List D) (ws : List S) (k : Nat) : Nat := (List.range ws.length).countP (rep nx si ds ws k)
theorem lots_le {ws : List S} {k : Nat} : lots nx si ds ws k ≤ ws.length := by
  have := List.countP_le_length (p := rep nx si ds ws k) (l := List.range ws.length)
  rw [List.length_range] at this
  exact this
theorem lots_some {ws : List S} {k : Nat} (h : 1 ≤ ws.length) : 1 ≤ lots nx si ds ws k := by
  refine List.countP_pos_iff.mpr ⟨0, List.mem_range.mpr h, ?_⟩
  rw [rep_iff]
  exact fun j x y hj => absurd hj (Nat.not_lt_zero _)
theorem eq_symm {k : Nat} {z y : S} (h : Eq nx si ds k z y) : Eq nx si ds k y z := fun j hj s => h j hj (sep_symm s)
theorem eq_trans {k : Nat} {z y x : S} (h : Eq nx si ds k z y) (g : Eq nx si ds k y x) : Eq nx si ds k z x := fun j hj s => by
  rcases sep_trans (x := y) s with a | a
  · exact h j hj a
  · exact g j hj a
theorem eq_less {k j : Nat} {z y : S} (h : Eq nx si ds k z y) (l : j ≤ k) : Eq nx si ds j z y := fun i hi => h i (Nat.le_trans hi l)
theorem eq_refl {k : Nat} {z : S} : Eq nx si ds k z z := fun _ _ => sep_self
/-- the first one that is like one -/
theorem rep_of {ws : List S} {k : Nat} {z : S} : ∀ {i : Nat}, ws[i]? = some z → ∃ (j : Nat) (x : S), j ≤ i ∧ ws[j]? = some x ∧ Eq nx si ds k x z ∧ rep nx si ds ws k j = true := by
  intro i
  induction i using Nat.strongRecOn generalizing z with
  | ind i ih =>
    intro e
    cases c : rep nx si ds ws k i with
    | true => exact ⟨i, z, Nat.le_refl _, e, eq_refl, c⟩
    | false =>
      rw [rep_not] at c
      have ⟨j, x, y, hj, e1, e2, q⟩ : ∃ j x y, j < i ∧ ws[j]? = some x ∧ ws[i]? = some y ∧ Eq nx si ds k x y := by
        refine Classical.byContradiction fun n => c fun j x y h1 h2 h3 h4 => n ⟨j, x, y, h1, h2, h3, h4⟩
      rw [e] at e2
      cases Option.some.inj e2
      obtain ⟨j2, x2, h1, h2, h3, h4⟩ := ih j hj e1
      exact ⟨j2, x2, by omega, h2, eq_trans h3 q, h4⟩
theorem lots_more {ws : List S} {k : Nat} {z y : S} (hz : z ∈ ws) (hy : y ∈ ws) (h : Min nx si ds z y (k + 1)) : lots nx si ds ws k < lots nx si ds ws (k + 1) := by
  refine countP_lt (fun i _ c => ?_) ?_
  · rw [rep_iff] at c ⊢
    exact fun j x y h1 h2 h3 h4 => c j x y h1 h2 h3 (eq_less h4 (Nat.le_succ _))
  · obtain ⟨i, hi⟩ := List.mem_iff_getElem?.mp hz
    obtain ⟨i2, hi2⟩ := List.mem_iff_getElem?.mp hy
    have zy : Eq nx si ds k z y := fun j hj => h.2 j (by omega)
    have nzy : ¬ Eq nx si ds (k + 1) z y := fun e => e (k + 1) (Nat.le_refl _) h.1
    obtain ⟨a, x, _, ea, ax, ra⟩ := rep_of (nx := nx) (si := si) (ds := ds) (k := k) hi
    -- one of both is no longer like x
    obtain ⟨v, iv, ev, vx, nvx⟩ : ∃ (v : S) (iv : Nat), ws[iv]? = some v ∧ Eq nx si ds k x v ∧ ¬ Eq nx si ds (k + 1) x v := by
      by_cases c : Eq nx si ds (k + 1) x z
      · exact ⟨y, i2, hi2, eq_trans ax zy, fun e => nzy (eq_trans (eq_symm c) e)⟩
      · exact ⟨z, i, hi, ax, c⟩
    obtain ⟨b, u, _, eb, bu, rb⟩ := rep_of (nx := nx) (si := si) (ds := ds) (k := k + 1) ev
    refine ⟨b, List.mem_range.mpr (List.getElem?_eq_some_iff.mp eb).1, rb, ?_⟩
    have xu : Eq nx si ds k x u := eq_trans vx (eq_symm (eq_less bu (Nat.le_succ _)))
    have nxu : x ≠ u := fun e => nvx (by rw [e]; exact bu)
    -- a stands ahead of b
    have ab : a < b := by
      rcases Nat.lt_trichotomy a b with c | c | c
      · exact c
      · subst c
        rw [ea] at eb
        exact absurd (Option.some.inj eb) nxu
      · rw [rep_iff] at ra
        exact absurd (eq_symm xu) (ra b u x c eb ea)
    rw [rep_not]
    exact fun f => f a x u ab ea eb xu
end
end Ap
set_option Elab.async false
set_option linter.all false
set_option maxRecDepth 100000
set_option maxHeartbeats 4000000
namespace Dk
open PySem PySem.Spec PyProof.Rows L2 Er LamX NdefX Bf
/-! ### parting: its two nested functions; what is parted are standings of two desks -/
def stD : Stmt := (defBody (top 15)).getD 0 (.Pass ⟨0, 0, 0, 0⟩)
def stL : Stmt := (defBody (top 15)).getD 1 (.Pass ⟨0, 0, 0, 0⟩)
/-- the number of a desk and a standing of it -/
abbrev No : Type := Int × Str
def noK (a : No) : List Key := [.inl a.1, .inr a.2]
def noV (a : No) : List V := [.int a.1, .str a.2]
theorem noK_V (a : No) : (noK a).map kV = noV a := rfl
def noN (a : No) : NestedKey := .tup [.num a.1, .text a.2]
/-- two of them, as a key -/
def pr2 (a b : No) : NestedKey := .tup [noN a, noN b]
theorem pr2_inj {a b c d : No} (h : pr2 a b = pr2 c d) : a = c ∧ b = d := by
  have h1 := NestedKey.tup.inj h
  have h2 := (List.cons.inj h1).1
  have h3 := (List.cons.inj (List.cons.inj h1).2).1
  have f : ∀ {x y : No}, noN x = noN y → x = y := fun {x y} e => by
    have e1 := NestedKey.tup.inj e
    have e2 := NestedKey.num.inj (List.cons.inj e1).1
    have e3 := NestedKey.text.inj (List.cons.inj (List.cons.inj e1).2).1
    exact Prod.ext e2 e3
  exact ⟨f h2, f h3⟩
theorem nt_no {H : Hp} {t a1 a2 : Addr} {a b : No} (e : H t = some (.tup [.ref a1, .ref a2])) (h1 : H a1 = some (.tup (noV a))) (h2 : H a2 = some (.tup (noV b))) : NT H t (pr2 a b) :=
  ⟨.tup e (.cons (.tup h1 (.cons (.num _) (.cons (.text _) .nil))) (.cons (.tup h2 (.cons (.num _) (.cons (.text _) .nil))) .nil)), by simp [pr2, noN, NestedKey.depth, NestedKey.depthAll]⟩
theorem nk_no {H : Hp} {v : V} {a : No} (h : NK H (noN a) v) : ∃ p, v = .ref p ∧ H p = some (.tup (noV a)) := by
  unfold noN at h
  cases h with
  | tup e r =>
    cases r with
    | cons r1 r =>
      cases r with
      | cons r2 r =>
        cases r
        cases r1
        cases r2
        exact ⟨_, rfl, e⟩
theorem nt_pr2 {H : Hp} {t : Addr} {a b : No} (h : NT H t (pr2 a b)) : ∃ a1 a2, H t = some (.tup [.ref a1, .ref a2]) ∧ H a1 = some (.tup (noV a)) ∧ H a2 = some (.tup (noV b)) := by
  obtain ⟨h, _⟩ := h
  unfold pr2 at h
  cases h with
  | tup e r =>
    cases r with
    | cons r1 r =>
      cases r with
      | cons r2 r =>
        cases r
        obtain ⟨a1, rfl, h1⟩ := nk_no r1
        obtain ⟨a2, rfl, h2⟩ := nk_no r2
        exact ⟨a1, a2, e, h1, h2⟩
/-- what a table of texts tells of one -/
def look (ns ls : List Str) (z : Str) : Str := ls.getD (ns.idxOf z) ⟨#[]⟩
theorem look_at {ns ls : List Str} {z : Str} (e : ls.length = ns.length) (hz : z ∈ ns) : valV (dkv ns (ls.map V.str)) (.inr z) = some (.str (look ns ls z)) := by
  have il := idx_lt hz
  rw [dkv_get (by rw [List.length_map, e]) hz, List.getElem?_map]
  unfold look
  rw [List.getD_eq_getElem?_getD, List.getElem?_eq_getElem (by omega)]
  rfl
/-- whether something else is seen -/
def fdQ (sg : No → Str) : St2 → Bool
  | .tup [.tup [.num n, .text z], .tup [.num m, .text y]] => decide (sg (n, z) ≠ sg (m, y))
  | _ => false
/-- where the deeds lead two -/
def mvQ (nx : No → Str → No) (dz : Int → List Str) : St2 → List (V × St2)
  | .tup [.tup [.num n, .text z], .tup [.num m, .text y]] => (dz n).map fun d => (.str d, pr2 (nx (n, z) d) (nx (m, y) d))
  | _ => []
structure SgAt (H : Hp) (so : Addr) (ns : List No) (sg : No → Str) : Prop where
  at_ : ∃ kvs : List (List Key × V), H so = some (.dT kvs) ∧ ∀ a ∈ ns, valV kvs (noK a) = some (.str (sg a))
theorem SgAt.ext {H G : Hp} {so : Addr} {ns : List No} {sg : No → Str} (h : SgAt H so ns sg) (m : ExtN H G) : SgAt G so ns sg := by
  obtain ⟨kvs, h1, h2⟩ := h
  exact ⟨kvs, m _ _ h1 (fun _ z => nomatch z), h2⟩
theorem SgAt.sm {H G : Hp} {so : Addr} {ns : List No} {sg : No → Str} (h : SgAt H so ns sg) (m : Sm H G) : SgAt G so ns sg := h.ext (ExtN.of m)
/-- for each a dict from deeds to where they lead -/
structure MoAt (H : Hp) (mo : Addr) (ns : List No) (dz : Int → List Str) (nx : No → Str → No) : Prop where
  at_ : ∃ kvs : List (List Key × V), H mo = some (.dT kvs) ∧ ∀ a ∈ ns, ∃ (b : Addr) (ts : List Addr), valV kvs (noK a) = some (.ref b) ∧ H b = some (.dK (dkv (dz a.1) (ts.map V.ref))) ∧ Paired (fun t d => H t = some (.tup (noV (nx a d)))) ts (dz a.1)
  few : ns.length ≤ 18
  deeds : ∀ n, (dz n).length ≤ 4
theorem MoAt.ext {H G : Hp} {mo : Addr} {ns : List No} {dz : Int → List Str} {nx : No → Str → No} (h : MoAt H mo ns dz nx) (m : ExtN H G) : MoAt G mo ns dz nx := by
  obtain ⟨⟨kvs, h1, h2⟩, h3, h4⟩ := h
  refine ⟨⟨kvs, m _ _ h1 (fun _ z => nomatch z), fun a ha => ?_⟩, h3, h4⟩
  obtain ⟨b, ts, q1, q2, q3⟩ := h2 a ha
  exact ⟨b, ts, q1, m _ _ q2 (fun _ z => nomatch z), pair_mono q3 fun t _ d e => m _ _ e (fun _ z => nomatch z)⟩
theorem MoAt.sm {H G : Hp} {mo : Addr} {ns : List No} {dz : Int → List Str} {nx : No → Str → No} (h : MoAt H mo ns dz nx) (m : Sm H G) : MoAt G mo ns dz nx := h.ext (ExtN.of m)
theorem pair_find {H : Hp} {ts : List Addr} {ds : List Str} {f : Str → List V} (h : Paired (fun t d => H t = some (.tup (f d))) ts ds) {d : Str} (hd : d ∈ ds) : ∃ t, valV (dkv ds (ts.map V.ref)) (.inr d) = some (.ref t) ∧ H t = some (.tup (f d)) := by
  have tl : ts.length = ds.length := paired_len h
  have il := idx_lt hd
  have e1 : ts[ds.idxOf d]? = some (ts[ds.idxOf d]'(by omega)) := List.getElem?_eq_getElem _
  obtain ⟨d2, e2, e3⟩ := pair_at h e1
  rw [List.getElem?_eq_getElem il, List.getElem_idxOf il] at e2
  cases Option.some.inj e2
  exact ⟨_, by rw [dkv_get (by rw [List.length_map, tl]) hd, List.getElem?_map, e1]; rfl, e3⟩
theorem scD : NScope ["pair", "signs"] ["pair"] ["signs"] (C8.fnScope stD) := nscope_by (by decide +kernel)
theorem scL : Sc1' (C8.fnScope stL) "pair" "moves" := ⟨rfl, rfl, rfl, rfl, by decide⟩
/-- the functions, made in a frame whose cells are these -/
def mkD (cells : List (Str × Addr)) (c : Addr) : NF := .of stD "differ" (("parting" : Str) ++ ".<locals>." ++ "differ") (cloFrom cells (C8.fnScope stD).names []) c
def mkL (cells : List (Str × Addr)) (c : Addr) : NF := .of stL "led_pairs" (("parting" : Str) ++ ".<locals>." ++ "led_pairs") (cloFrom cells (C8.fnScope stL).names []) c
def spDi : List (Option V) → Sp := fun ws vs H Q _ => ∃ (so t : Addr) (a b : No) (ns : List No) (sg : No → Str), ws = [some (.ref so)] ∧ vs = [.ref t] ∧ NT H t (pr2 a b) ∧ SgAt H so ns sg ∧ a ∈ ns ∧ b ∈ ns ∧ Q (.bl (decide (sg a ≠ sg b))) H
def spLe : List (Option V) → Sp := fun ws vs H Q _ => ∃ (mo t : Addr) (a b : No) (ns : List No) (dz : Int → List Str) (nx : No → Str → No), ws = [some (.ref mo)] ∧ vs = [.ref t] ∧ NT H t (pr2 a b) ∧ MoAt H mo ns dz nx ∧ a ∈ ns ∧ b ∈ ns ∧ (∀ d ∈ dz a.1, d ∈ dz b.1) ∧
  ∀ l G, Sm H G → H l = none → Mvs G l (mvQ nx dz (pr2 a b)) → Q (.ref l) G
theorem Rd.sm {H G : Hp} {a : Addr} {u : HO} (r : Rd H a u) (m : Sm H G) : Rd G a u := by
  rcases r with h | ⟨o, h⟩
  · exact .inl (m _ _ h)
  · exact .inr ⟨o, m _ _ h⟩
section
variable {P : Program} {w : World} {K : PySem.W.Frag} {mg : Str → Option Value} {base : Heap} {f c : Addr} {cells : List (Str × Addr)}
theorem ok_differ : NOk P w K mg base CX0 1 f (mkD cells c) ["pair"] ["signs"] spDi := by
  refine nok_of (N := ["pair", "signs"]) scD (fun doc pm ctv us hl => match us, hl with
    | [_], _ => rfl) (fun ws vs H Q E h => ?_) fun A outer s H vs ws Q E hr hf hc hl h => ?_
  · obtain ⟨so, t, a, b, ns, sg, _, rfl, _⟩ := h
    rfl
  · refine ⟨_, PSs.nox (pss_one (ps_ret (by exact (pe_cmpR op_ne (by exact (pe_dget (hu_of hr) (by exact (pv 1)) (by exact (pe_ix ix_tup (pv 0) pe_int (fun _ _ => rfl))) (fun _ _ => rfl))) (by exact (pe_dget (hu_of hr) (by exact (pv 1)) (by exact (pe_ix ix_tup (pv 0) pe_int (fun _ _ => rfl))) (fun _ _ => rfl))) (nomark _))))), ?_⟩
    obtain ⟨so, t, a, b, ns, sg, rfl, rfl, ht, ⟨kvs, hs, hv⟩, ha, hb, q⟩ := h
    obtain ⟨a1, a2, e, h1, h2⟩ := nt_pr2 ht
    refine ⟨_, rfl, _, rfl, t, _, 0, .ref a1, rfl, rfl, .inl (.inl e), rfl, so, .str (sg a), rfl, .inr ⟨_, noK a, a1, .inl hs, rfl, h1, (hv a ha).symm⟩, _, rfl, _, rfl, t, _, 1, .ref a2, rfl, rfl, .inl (.inl e), rfl, so, .str (sg b), rfl, .inr ⟨_, noK b, a2, .inl hs, rfl, h2, (hv b hb).symm⟩, rfl, ?_⟩
    have e : (!decide (V.str (sg a) = V.str (sg b))) = decide (sg a ≠ sg b) := by
      by_cases c : sg a = sg b
      · rw [c]
        simp
      · have c2 : V.str (sg a) ≠ V.str (sg b) := fun x => c (V.str.inj x)
        simp [c, c2]
    rw [e]
    exact q
theorem ok_led : NOk P w K mg base CX0 1 f (mkL cells c) ["pair"] ["moves"] spLe := by
  refine nok1_of (a := (cells.lookup ("moves" : Str)).getD 0) (N1 := ["label", "node"]) scL rfl (fun doc pm ctv u => rfl) (fun ws vs H Q E h => ?_) (fun ws vs H Q E h => ?_) fun A outer s H v vf Q E hr h => ?_
  · obtain ⟨mo, t, a, b, ns, dz, nx, _, rfl, _⟩ := h
    rfl
  · obtain ⟨mo, t, a, b, ns, dz, nx, rfl, _⟩ := h
    exact ⟨_, rfl⟩
  · have ndN : (["pair", "moves", "label", "node"] : List Str).Nodup := by decide +kernel
    refine ⟨_, PSs.nox (pss_one (ps_ret (pe_lock (by exact (pe_lc (own := [("label", 2), ("node", 3)]) (g := gTup K 2 (gCons (gName 2) (gCons (gName 3) gNil))) (tt := tYes) (te := tTup (tCons (tVar 2) (tCons (tTup (tCons (tVar 3) (tCons (tDGet (tDGet (tVar 1) (tOp (rIxT K) (tVar 0) (tC (.int 1)))) (tVar 2)) tNil))) tNil))) rfl ndN
      (pi_items (by exact (pe_dget (hu_of hr) (by exact (pv 1)) (by exact (pe_ix ix_tup (pv 0) pe_int (fun _ _ => rfl))) (fun _ _ => rfl))))
      (blkOk_by (N := ["pair", "moves", "label", "node"]) (sc := C8.fnScope stL) (by decide +kernel)) (fun _ _ _ _ _ => by exact (pg_tup rfl (pgs_cons (pg_name (i := 2) ndN rfl (Or.inl rfl)) (pgs_cons (pg_name (i := 3) ndN rfl (Or.inl rfl)) pgs_nil)))) (fun _ _ _ _ _ => pts_nil)
      (fun _ _ _ _ _ => by exact (pe_tup (pa_cons (by exact (pv 2)) (pa_cons (by exact (pe_tup (pa_cons (by exact (pv 3)) (pa_cons (by exact (pe_dget (hu_of hr) (by exact (pe_dget (hu_of hr) (by exact (pv 1)) (by exact (pe_ix ix_tup (by exact (pv 0)) pe_int (fun _ _ => rfl))) (fun _ _ => rfl))) (by exact (pv 2)) (fun _ _ => rfl))) pa_nil)))) pa_nil))))))))), ?_⟩
    obtain ⟨mo, t, x, y, ns, dz, nx, ew, ev, ht, ⟨⟨kvs, hmo, hrow⟩, few, dl⟩, hx, hy, sub, q⟩ := h
    cases Option.some.inj (List.cons.inj ew).1
    cases (List.cons.inj ev).1
    obtain ⟨x1, y1, ha, hx1, hy1⟩ := nt_pr2 ht
    obtain ⟨b, ts, vb, hb, pts⟩ := hrow x hx
    obtain ⟨b', ts', vb', hb', pts'⟩ := hrow y hy
    have bmo : mo ≠ b := ne_of hmo hb (fun z => nomatch z)
    have tl : ts.length = (dz x.1).length := paired_len pts
    refine ⟨b, _, hb, True.intro, fun od => ?_⟩
    have tupL : ∀ {c : Addr} {xs : List V}, H c = some (.tup xs) → upd H b (.frz od (.dK (dkv (dz x.1) (ts.map V.ref)))) c = some (.tup xs) := fun {c xs} e => by
      rw [upd_ne (ne_of e hb (fun z => nomatch z))]
      exact e
    have haL := tupL ha
    have hxL := tupL hx1
    have hyL := tupL hy1
    have ptL := pair_mono pts fun t _ d e => tupL e
    have ptL' := pair_mono pts' fun t _ d e => tupL e
    have moL : upd H b (.frz od (.dK (dkv (dz x.1) (ts.map V.ref)))) mo = some (.dT kvs) := by
      rw [upd_ne bmo]
      exact hmo
    have bL : upd H b (.frz od (.dK (dkv (dz x.1) (ts.map V.ref)))) b = some (.frz od (.dK (dkv (dz x.1) (ts.map V.ref)))) := upd_same
    have rdL : Rd (upd H b (.frz od (.dK (dkv (dz x.1) (ts.map V.ref))))) b' (.dK (dkv (dz y.1) (ts'.map V.ref))) := by
      by_cases e : b' = b
      · rw [e, hb] at hb'
        rw [e, ← Option.some.inj hb']
        exact .inr ⟨od, upd_same⟩
      · exact .inl (by rw [upd_ne e]; exact hb')
    have unl : ∀ G, Sm (upd H b (.frz od (.dK (dkv (dz x.1) (ts.map V.ref))))) G → Sm H (upd G b (.dK (dkv (dz x.1) (ts.map V.ref)))) := fun G m => sm_unlock hb m
    generalize upd H b (.frz od (.dK (dkv (dz x.1) (ts.map V.ref)))) = L at haL hxL hyL ptL ptL' moL bL rdL unl ⊢
    refine ⟨_, rfl, _, rfl, t, _, 0, .ref x1, rfl, rfl, .inl (.inl haL), rfl, mo, .ref b, rfl, .inr ⟨_, noK x, x1, .inl moL, rfl, hxL, vb.symm⟩, b, od, _, rfl, bL, fun D nD => ?_⟩
    have dl4 := dl x.1
    have kl : (dkv (dz x.1) (ts.map V.ref)).length = (dz x.1).length := dkv_len (by rw [List.length_map, tl])
    have Db : D ≠ b := fun z => by
      rw [z, bL] at nD
      cases nD
    refine lc_it walk_items (vs := [2, 3]) (fun j G => ∃ ps : List Addr, G D = some (.lst (ps.map V.ref)) ∧ Paired (fun (p : Addr) (e : V × St2) => p ≠ b ∧ ∃ b2, G p = some (.tup [e.1, .ref b2]) ∧ NT G b2 e.2) ps ((mvQ nx dz (pr2 x y)).take j) ∧ Sm L G)
      ⟨[], upd_same, .nil, Sm.new nD⟩ (fun j G _ p => ?_) (fun j x0 G G' hj p yy => ?_) (fun G p => ?_)
    · obtain ⟨_, _, _, m⟩ := p
      exact m _ _ bL
    · obtain ⟨ps, eD, pp, m⟩ := p
      obtain ⟨T, x3, x2, rfl, hT, rfl, e1, e2⟩ := yy
      have jl : j < (dkv (dz x.1) (ts.map V.ref)).length := hj
      have ek : (dkv (dz x.1) (ts.map V.ref))[j]? = some ((dkv (dz x.1) (ts.map V.ref))[j]'jl) := List.getElem?_eq_getElem jl
      generalize (dkv (dz x.1) (ts.map V.ref))[j]'jl = kv at ek
      obtain ⟨kk, vv⟩ := kv
      obtain ⟨d, ed, rfl, ev2⟩ := dkv_at ek
      obtain ⟨n1, en1, rfl⟩ : ∃ n1, ts[j]? = some n1 ∧ vv = .ref n1 := by
        rw [List.getElem?_map] at ev2
        cases e : ts[j]? with
        | none =>
          rw [e] at ev2
          cases ev2
        | some n1 =>
          rw [e] at ev2
          exact ⟨n1, rfl, (Option.some.inj ev2).symm⟩
      obtain ⟨d2, ed2, hn1⟩ := pair_at ptL en1
      have edd : d2 = d := by
        rw [ed] at ed2
        exact (Option.some.inj ed2).symm
      subst edd
      have e1 : some (V.str d2) = some x3 := by
        have e1 : Option.map (fun kv : Key × V => kV kv.1) (dkv (dz x.1) (ts.map V.ref))[j]? = some x3 := e1
        rw [ek] at e1
        exact e1
      have e2 : some (V.ref n1) = some x2 := by
        have e2 : Option.map Prod.snd (dkv (dz x.1) (ts.map V.ref))[j]? = some x2 := e2
        rw [ek] at e2
        exact e2
      cases Option.some.inj e1
      cases Option.some.inj e2
      have hd := List.mem_of_getElem? ed
      obtain ⟨n2, vn2, hn2⟩ := pair_find ptL' (sub d2 hd)
      have m2 := m.trans (Sm.new (o := .tup [.str d2, .ref n1]) hT)
      have mT := Sm.new (o := .tup [.str d2, .ref n1]) hT
      refine ⟨T, _, rfl, .inl (.inl upd_same), rfl, _, _, rfl, _, _, rfl, rfl, rfl, ?_⟩
      generalize upd G T (.tup [.str d2, .ref n1]) = G2 at m2 mT ⊢
      unfold tYes
      dsimp only
      rw [if_pos rfl]
      refine ⟨_, rfl, _, rfl, _, rfl, _, rfl, t, _, 1, .ref y1, rfl, rfl, .inl (.inl (m2 _ _ haL)), rfl, mo, .ref b', rfl, .inr ⟨_, noK y, y1, .inl (m2 _ _ moL), rfl, m2 _ _ hyL, vb'.symm⟩, _, rfl, b', .ref n2, rfl, .inl ⟨_, .inr d2, Rd.sm rdL m2, rfl, vn2.symm⟩, by show 2 ≤ sizeLine; rw [sizeLine_eq]; decide, fun p2 np2 => ⟨by show 2 ≤ sizeLine; rw [sizeLine_eq]; decide, fun p1 np1 => ?_⟩⟩
      have m3 : Sm G2 (upd (upd G2 p2 (.tup [.ref n1, .ref n2])) p1 (.tup [.str d2, .ref p2])) := Sm.trans (Sm.new np2) (Sm.new np1)
      have q2 : upd (upd G2 p2 (.tup [.ref n1, .ref n2])) p1 (.tup [.str d2, .ref p2]) p2 = some (.tup [.ref n1, .ref n2]) := Sm.new np1 _ _ upd_same
      have q1 : upd (upd G2 p2 (.tup [.ref n1, .ref n2])) p1 (.tup [.str d2, .ref p2]) p1 = some (.tup [.str d2, .ref p2]) := upd_same
      have np1G : G2 p1 = none := none_of_sm (Sm.new np2) np1
      generalize upd (upd G2 p2 (.tup [.ref n1, .ref n2])) p1 (.tup [.str d2, .ref p2]) = G3 at m3 q1 q2 ⊢
      have mA := mT.trans m3
      have mL3 := m2.trans m3
      have q3 : NT G3 p2 (pr2 (nx x d2) (nx y d2)) := nt_no q2 (mL3 _ _ hn1) (mL3 _ _ hn2)
      have pl : ps.length = j := by
        have := paired_len pp
        have l2 : (mvQ nx dz (pr2 x y)).length = (dz x.1).length := List.length_map _
        rw [List.length_take] at this
        omega
      have ne : p1 ≠ b := fun z => by
        rw [z, m2 _ _ bL] at np1G
        cases np1G
      have D3 := mA _ _ eD
      have keep : ∀ (c : Addr) (xs : List V), G3 c = some (.tup xs) → upd G3 D (.lst (ps.map V.ref ++ [.ref p1])) c = some (.tup xs) := fun c xs e => by
        rw [upd_ne (ne_of e D3 (fun z => nomatch z))]
        exact e
      refine ⟨_, D3, by rw [List.length_map, sizeLine_eq]; omega, ps ++ [p1], ?_, ?_, ?_⟩
      · rw [upd_same, List.map_append]
        rfl
      · have tk : (mvQ nx dz (pr2 x y)).take (j + 1) = (mvQ nx dz (pr2 x y)).take j ++ [(.str d2, pr2 (nx x d2) (nx y d2))] := by
          rw [List.take_add_one]
          show _ ++ (((dz x.1).map fun d => ((V.str d, pr2 (nx x d) (nx y d)) : V × St2))[j]?).toList = _
          rw [List.getElem?_map, ed]
          rfl
        rw [tk]
        exact pair_more (pair_mono pp fun p _ e ⟨h1, b2, h3, h4⟩ => ⟨h1, b2, keep _ _ (mA _ _ h3), (h4.sm mA).keep keep⟩) ⟨ne, p2, keep _ _ q1, q3.keep keep⟩
      · intro c o e
        rw [upd_ne (ne_of_none e nD)]
        exact mA _ _ (m _ _ e)
    · obtain ⟨ps, eD, pp, m⟩ := p
      rw [kl, List.take_of_length_le (by show ((dz x.1).map _).length ≤ (dz x.1).length; rw [List.length_map]; exact Nat.le_refl _)] at pp
      have bG := m _ _ bL
      have kp : ∀ (c : Addr) (xs : List V), G c = some (.tup xs) → upd G b (.dK (dkv (dz x.1) (ts.map V.ref))) c = some (.tup xs) := fun c xs e => by
        rw [upd_ne (ne_of e bG (fun z => nomatch z))]
        exact e
      refine ⟨bG, q D _ (unl G m) ?_ ⟨ps, ?_, pair_mono pp fun p _ e ⟨h1, b2, h3, h4⟩ => ⟨b2, kp _ _ h3, h4.keep kp⟩⟩⟩
      · exact none_of_sm (unl L (Sm.refl L)) (by rw [upd_ne Db]; exact nD)
      · rw [upd_ne Db]
        exact eD
end
end Dk
set_option Elab.async false
set_option linter.all false
set_option maxRecDepth 100000
set_option maxHeartbeats 4000000
namespace Dk
open PySem PySem.Spec PyProof.Rows L2 Er LamX NdefX Bf
/-! ### parting -/
def posOf : Stmt → Pos
  | .FunctionDef _ _ _ _ _ _ _ _ _ p => p
  | _ => ⟨0, 0, 0, 0⟩
/-- the names of the code objects of its two functions, by their lines -/
def nmP : Nat → Nat → Str := fun l _ => if l = (posOf stD).line then ("parting" : Str) ++ ".<locals>." ++ "differ" else ("parting" : Str) ++ ".<locals>." ++ "led_pairs"
def partT (Pt : Addr) : List NTab := [(Pt, nmP)]
theorem led_to {nx : No → Str → No} {dz : Int → List Str} {ds : List Str} (hd : ∀ n d, d ∈ dz n ↔ d ∈ ds) {a b : No} {row : List V} {k : St2} (h : Led (mvQ nx dz) (pr2 a b) row k) : ∃ r : List Str, row = r.map V.str ∧ (∀ d ∈ r, d ∈ ds) ∧ k = pr2 (Ap.led nx a r) (Ap.led nx b r) := by
  induction h with
  | here => exact ⟨[], rfl, (fun d hd => nomatch hd), rfl⟩
  | @on r t u l h hm ih =>
    obtain ⟨r2, rfl, h2, rfl⟩ := ih
    obtain ⟨d, hd2, e⟩ := List.mem_map.mp (show (l, u) ∈ (dz (Ap.led nx a r2).1).map fun d => ((V.str d, pr2 (nx (Ap.led nx a r2) d) (nx (Ap.led nx b r2) d)) : V × St2) from hm)
    have e1 : V.str d = l := congrArg (fun p : V × St2 => p.1) e
    have e2 : pr2 (nx (Ap.led nx a r2) d) (nx (Ap.led nx b r2) d) = u := congrArg (fun p : V × St2 => p.2) e
    subst e1 e2
    refine ⟨r2 ++ [d], by rw [List.map_append]; rfl, fun x hx => ?_, ?_⟩
    · rcases List.mem_append.mp hx with q | q
      · exact h2 x q
      · rw [List.mem_singleton.mp q]
        exact (hd _ _).mp hd2
    · unfold Ap.led
      rw [List.foldl_append, List.foldl_append]
      rfl
theorem led_of {nx : No → Str → No} {dz : Int → List Str} {ds : List Str} (hz : ∀ n d, d ∈ dz n ↔ d ∈ ds) {a b : No} : ∀ r : List Str, (∀ d ∈ r, d ∈ ds) → Led (mvQ nx dz) (pr2 a b) (r.map V.str) (pr2 (Ap.led nx a r) (Ap.led nx b r)) := by
  refine DkSet.rev_ind (fun _ => .here) fun l d ih h => ?_
  have h1 := ih fun x hx => h x (List.mem_append_left _ hx)
  have hd := h d (List.mem_append_right _ (List.mem_singleton.mpr rfl))
  rw [List.map_append]
  have e : ∀ z, Ap.led nx z (l ++ [d]) = nx (Ap.led nx z l) d := fun z => by
    unfold Ap.led
    rw [List.foldl_append]
    rfl
  rw [e, e]
  exact .on h1 (show ((V.str d, pr2 (nx (Ap.led nx a l) d) (nx (Ap.led nx b l) d)) : V × St2) ∈ (dz (Ap.led nx a l).1).map _ from List.mem_map.mpr ⟨d, (hz _ _).mpr hd, rfl⟩)
/-- what parting tells -/
def PtOut (nx : No → Str → No) (sg : No → Str) (ds : List Str) (a b : No) (H G : Hp) (v : V) : Prop := (v = .non ∧ ∀ k, ¬ Ap.Sep nx sg ds a b k) ∨
  ∃ (rr : Addr) (row : List Str), v = .ref rr ∧ (∀ o, H rr = some o → ∃ ps, o = .tbl ps) ∧ G rr = some (.lst (row.map V.str)) ∧ row.length ≤ 1000 ∧ (∀ d ∈ row, d ∈ ds) ∧ sg (Ap.led nx a row) ≠ sg (Ap.led nx b row) ∧ Ap.Min nx sg ds a b row.length
theorem ptOut_of {nx : No → Str → No} {sg : No → Str} {dz : Int → List Str} {ds : List Str} (hz : ∀ n d, d ∈ dz n ↔ d ∈ ds) {a b : No} {H H1 G : Hp} {v : V} (h : ShOut (mvQ nx dz) (fdQ sg) (pr2 a b) H1 G v) (e : ExtN H H1) : PtOut nx sg ds a b H G v := by
  rcases h with ⟨rfl, h⟩ | ⟨rr, row, k, rfl, eG, nr, rl, h, hf, least⟩
  · refine .inl ⟨rfl, fun k ⟨r, _, h1, h2⟩ => ?_⟩
    have z := h _ _ (led_of (nx := nx) hz (a := a) (b := b) r h1)
    have z : decide (sg (Ap.led nx a r) ≠ sg (Ap.led nx b r)) = false := z
    exact (of_decide_eq_false z) h2
  · obtain ⟨r, rfl, h1, rfl⟩ := led_to hz h
    have h2 : sg (Ap.led nx a r) ≠ sg (Ap.led nx b r) := of_decide_eq_true (show decide (sg (Ap.led nx a r) ≠ sg (Ap.led nx b r)) = true from hf)
    refine .inr ⟨rr, r, rfl, fun o eo => ?_, eG, by rw [List.length_map] at rl; exact rl, h1, h2, ⟨r, rfl, h1, h2⟩, fun j hj ⟨r2, e2, h3, h4⟩ => ?_⟩
    · cases o with
      | tbl ps => exact ⟨ps, rfl⟩
      | _ => exact absurd ((e _ _ eo (fun _ z => nomatch z)).symm.trans nr) (by simp)
    · have z := least _ _ (led_of (nx := nx) hz (a := a) (b := b) r2 h3) (show decide (sg (Ap.led nx a r2) ≠ sg (Ap.led nx b r2)) = true from decide_eq_true h4)
      rw [List.length_map, List.length_map] at z
      omega
def spPart (Pt : Addr) : Sp := fun vs H Q _ => ∃ (so mo p1 p2 : Addr) (a b : No) (ns : List No) (sg : No → Str) (dz : Int → List Str) (ds : List Str) (nx : No → Str → No), vs = [.ref p1, .ref p2, .ref so, .ref mo] ∧ H p1 = some (.tup (noV a)) ∧ H p2 = some (.tup (noV b)) ∧ SgAt H so ns sg ∧ MoAt H mo ns dz nx ∧ (∀ n d, d ∈ dz n ↔ d ∈ ds) ∧ (∀ a ∈ ns, ∀ d ∈ ds, nx a d ∈ ns) ∧
  a ∈ ns ∧ b ∈ ns ∧ TabsN (partT Pt) H ∧ ∀ v G, ExtN H G → TabsN (partT Pt) G → PtOut nx sg ds a b H G v → Q v G
abbrev nPart : List Str := ["one", "other", "signs", "moves", "differ", "led_pairs"]
theorem scPart : FnScope nPart ["one", "other", "signs", "moves"] (defScope (top 15)) := ⟨rfl, rfl, rfl, by decide +kernel, rfl, by decide +kernel, by decide +kernel⟩
theorem free_D : ∀ y ∈ (C8.fnScope stD).names, y.2 = .free → (defScope (top 15)).names.lookup y.1 = some .cell ∨ (defScope (top 15)).names.lookup y.1 = some .free := by decide +kernel
theorem free_L : ∀ y ∈ (C8.fnScope stL).names, y.2 = .free → (defScope (top 15)).names.lookup y.1 = some .cell ∨ (defScope (top 15)).names.lookup y.1 = some .free := by decide +kernel
def pairs (ns : List No) : List St2 := ns.flatMap fun a => ns.map fun b => pr2 a b
theorem pairs_mem {ns : List No} {k : St2} : k ∈ pairs ns ↔ ∃ a ∈ ns, ∃ b ∈ ns, k = pr2 a b := by
  unfold pairs
  rw [List.mem_flatMap]
  constructor
  · rintro ⟨z, hz, h⟩
    obtain ⟨y, hy, rfl⟩ := List.mem_map.mp h
    exact ⟨z, hz, y, hy, rfl⟩
  · rintro ⟨z, hz, y, hy, rfl⟩
    exact ⟨z, hz, List.mem_map.mpr ⟨y, hy, rfl⟩⟩
theorem flat_len {α β : Type} (f : α → List β) (m : Nat) : ∀ {l : List α}, (∀ x ∈ l, (f x).length ≤ m) → (l.flatMap f).length ≤ l.length * m
  | [], _ => Nat.zero_le _
  | x :: l, h => by
    have ih := flat_len f m (l := l) fun y hy => h y (List.mem_cons_of_mem _ hy)
    have hx := h x List.mem_cons_self
    rw [List.flatMap_cons, List.length_append, List.length_cons, Nat.succ_mul]
    omega
theorem pairs_few {ns : List No} (h : ns.length ≤ 18) : (pairs ns).length ≤ 1000 := by
  have z := flat_len (fun a => ns.map fun b => pr2 a b) 18 (l := ns) fun x _ => by
    rw [List.length_map]
    exact h
  unfold pairs
  omega
section
variable {P : Program} {w : World} {K : PySem.W.Frag} {mg : Str → Option Value} {base : Heap} {f c Pt fR fS : Addr} {dR dS : FuncData} {dV kV doc pm ct oc : Value} {an od : Option Addr} {osl : Array (Option Value)}
theorem ok_parting (lk : K.lookup f = some ⟨oc, od, .func (PySem.W.fnOf "parting" "parting" (defArgs (top 15)) (defBody (top 15)) (defScope (top 15)) dV kV doc pm an (.ref c) ct), osl⟩) (hcd : PySem.W.codeIn K (.ref c) "parting" = true) (TB : TabB base mg c Pt)
    (ml : mg "len" = none) (FR : FnP K "shortest_row" (top 14) fR dR) (gR : mg "shortest_row" = some (.ref fR)) (FS : FnP K "spread" (top 13) fS dS) (gS : mg "spread" = some (.ref fS)) :
    FnOk P w K mg base CX0 4 f (PySem.W.fnOf "parting" "parting" (defArgs (top 15)) (defBody (top 15)) (defScope (top 15)) dV kV doc pm an (.ref c) ct) ["one", "other", "signs", "moves"] (spPart Pt) := by
  refine fn_of (CX := CX0) (N := nPart) lk hcd scPart (fun vs H Q E h => ?_) fun A outer s H vs Q E hr h => ?_
  · obtain ⟨so, mo, p1, p2, a, b, ns, sg, dz, ds, nx, rfl, _⟩ := h
    rfl
  · refine ⟨_, PSs.nox (pss_cons (ps_ndefS (st := stD) (T := partT Pt) (nm := nmP) (i := 4) rfl TB rfl (List.mem_singleton.mpr rfl) (by show nmP _ _ = ("parting" : Str) ++ ".<locals>." ++ "differ"; decide +kernel) (fun p hp _ => by rw [List.mem_singleton.mp hp]) free_D rfl rfl rfl scPart.nd rfl (.inl rfl) (.inr rfl))
      (pss_cons (ps_ndefS (st := stL) (T := partT Pt) (nm := nmP) (i := 5) rfl TB rfl (List.mem_singleton.mpr rfl) (by show nmP _ _ = ("parting" : Str) ++ ".<locals>." ++ "led_pairs"; decide +kernel) (fun p hp _ => by rw [List.mem_singleton.mp hp]) free_L rfl rfl rfl scPart.nd rfl (.inl rfl) (.inr rfl))
      (pss_one (ps_ret (by exact (pe_short (mkM := mkL _) (mkF := mkD _) (jsM := [3]) (jsF := [2]) FR gR FS gS ml rfl hr (fun _ => rfl) (fun _ => rfl) (fun ok => Caps.made ok free_L (by decide +kernel) rfl) (fun ok => Caps.made ok free_D (by decide +kernel) rfl) (fun f c => ok_led) (fun f c => ok_differ)
        (pa_cons (pe_tup (pa_cons (pv 0) (pa_cons (pv 1) pa_nil))) (pa_cons (pv 5) (pa_cons (pv 4) pa_nil))))))))), ?_⟩
    obtain ⟨so, mo, p1, p2, a, b, ns, sg, dz, ds, nx, rfl, h1, h2, hso, mv, hdz, cl, ha, hb, hT, q⟩ := h
    refine ⟨hT, fun f1 c1 H1 e1 T1 n1 s1 d1 => ⟨T1, fun f2 c2 H2 e2 T2 n2 s2 d2 => ?_⟩⟩
    have s1 : Stands H2 f1 (mkD _ c1) := ⟨e2 _ _ s1 (fun _ z => nomatch z), e2 _ _ d1 (fun _ z => nomatch z)⟩
    have s2 : Stands H2 f2 (mkL _ c2) := ⟨s2, d2⟩
    have e12 := e1.trans e2
    have so2 := hso.ext e12
    have mv2 := mv.ext e12
    have h12 := e12 _ _ h1 (fun _ z => nomatch z)
    have h22 := e12 _ _ h2 (fun _ z => nomatch z)
    refine ⟨_, rfl, _, rfl, by show 2 ≤ sizeLine; rw [sizeLine_eq]; decide, fun t0 nt0 => ⟨_, rfl, _, rfl, ?_⟩⟩
    have m3 := Sm.new (o := .tup [.ref p1, .ref p2]) nt0
    have et0 : NT (upd H2 t0 (.tup [.ref p1, .ref p2])) t0 (pr2 a b) := nt_no upd_same (m3 _ _ h12) (m3 _ _ h22)
    have nt0H : ExtN H (upd H2 t0 (.tup [.ref p1, .ref p2])) := e12.trans (ExtN.of m3)
    have T3 := TabsN.ext T2 m3
    have s1 := s1.sm m3
    have s2 := s2.sm m3
    have so2 := so2.sm m3
    have mv2 := mv2.sm m3
    generalize upd H2 t0 (.tup [.ref p1, .ref p2]) = H3 at *
    refine ⟨t0, f2, f1, c2, c1, pr2 a b, mvQ nx dz, fdQ sg, pairs ns, rfl, s2, s1, ⟨fun t k G Q m hk ht q => ?_, fun t k G Q m hk ht q => ?_, fun k hk e he => ?_, pairs_few mv.few⟩, et0, pairs_mem.mpr ⟨a, ha, b, hb, rfl⟩, fun v G m out => q v G (nt0H.trans (ExtN.of m)) (TabsN.ext T3 m) (ptOut_of hdz out nt0H)⟩
    · obtain ⟨z2, hz2, y2, hy2, rfl⟩ := pairs_mem.mp hk
      exact ⟨so, t, z2, y2, ns, sg, rfl, rfl, ht, so2.sm m, hz2, hy2, q G (Sm.refl _)⟩
    · obtain ⟨z2, hz2, y2, hy2, rfl⟩ := pairs_mem.mp hk
      exact ⟨mo, t, z2, y2, ns, dz, nx, rfl, rfl, ht, mv2.sm m, hz2, hy2, fun d hd => (hdz _ _).mpr ((hdz _ _).mp hd), q⟩
    · obtain ⟨z2, hz2, y2, hy2, rfl⟩ := pairs_mem.mp hk
      obtain ⟨d, hd, rfl⟩ := List.mem_map.mp (show e ∈ (dz z2.1).map fun d => ((V.str d, pr2 (nx z2 d) (nx y2 d)) : V × St2) from he)
      exact pairs_mem.mpr ⟨_, cl z2 hz2 d ((hdz _ _).mp hd), _, cl y2 hy2 d ((hdz _ _).mp hd), rfl⟩
end
end Dk
set_option Elab.async false
set_option linter.all false
set_option maxRecDepth 100000
set_option maxHeartbeats 8000000
namespace Dk
open PySem PySem.Spec PyProof.Rows L2 Er LamX NdefX
open PySem.ErK (EC)
structure MvAt (H : Hp) (mo : Addr) (ns ds : List Str) (bs : List Addr) (nx : Str → Str → Str) : Prop where
  at_ : H mo = some (.dK (dkv ns (bs.map V.ref)))
  rows : Paired (fun b z => b ≠ mo ∧ H b = some (.dK (dkv ds ((ds.map (nx z)).map V.str)))) bs ns
  few : ns.length ≤ 9
  deeds : ds.length ≤ 4
  dnd : ds.Nodup
theorem MvAt.sm {H G : Hp} {mo : Addr} {ns ds : List Str} {bs : List Addr} {nx : Str → Str → Str} (m : MvAt H mo ns ds bs nx) (s : Sm H G) : MvAt G mo ns ds bs nx := ⟨s _ _ m.at_, pair_mono m.rows fun b _ z e => ⟨e.1, s _ _ e.2⟩, m.few, m.deeds, m.dnd⟩
theorem MvAt.row {H : Hp} {mo : Addr} {ns ds : List Str} {bs : List Addr} {nx : Str → Str → Str} (m : MvAt H mo ns ds bs nx) {z : Str} (hz : z ∈ ns) : ∃ b, valV (dkv ns (bs.map V.ref)) (.inr z) = some (.ref b) ∧ b ≠ mo ∧ H b = some (.dK (dkv ds ((ds.map (nx z)).map V.str))) := by
  have bl : bs.length = ns.length := paired_len m.rows
  have il := idx_lt hz
  have e1 : bs[ns.idxOf z]? = some (bs[ns.idxOf z]'(by omega)) := List.getElem?_eq_getElem _
  obtain ⟨z2, e2, e3⟩ := pair_at m.rows e1
  rw [List.getElem?_eq_getElem il, List.getElem_idxOf il] at e2
  cases Option.some.inj e2
  exact ⟨_, by rw [dkv_get (by rw [List.length_map, bl]) hz, List.getElem?_map, e1]; rfl, e3⟩
theorem row_at {ds : List Str} {f : Str → Str} {d : Str} (hd : d ∈ ds) : valV (dkv ds ((ds.map f).map V.str)) (.inr d) = some (.str (f d)) := by
  rw [look_at (by rw [List.length_map]) hd]
  unfold look
  have il := idx_lt hd
  rw [List.getD_eq_getElem?_getD, List.getElem?_map, List.getElem?_eq_getElem il, List.getElem_idxOf il]
  rfl
/-! ### Desk.standings; desk_leads, desk_moves, desk_sights -/
def spStd (C : Addr) : Sp := fun vs H Q _ => ∃ (x dx st ld si : Addr), vs = [.ref x] ∧ H x = some (.ins C dx (fldsOf st ld si)) ∧ Q (.ref st) H
abbrev nSelf : List Str := ["self"]
theorem scStd : FnScope nSelf nSelf (defScope (meth 1)) := ⟨rfl, rfl, rfl, by decide +kernel, rfl, by decide +kernel, by decide +kernel⟩
/-- a dict comprehension over a dict's items -/
theorem dc_items {K : PySem.W.Frag} {d : Addr} {od : Obj} {kvs : List (Key × V)} {i j : Nat} {tk tv : TE} {σ : L2.St} {H1 : Hp} {Q : Addr → Hp → Prop} (w1 : ∀ v u, wipe ((((wipe σ [i, j]).set i (some v)).set j (some u))) [i, j] = wipe σ [i, j]) (Pv : Addr → Nat → Hp → Prop)
    (h0 : ∀ D, H1 D = none → Pv D 0 (upd H1 D (.dK []))) (hG : ∀ D n H, n ≤ kvs.length → Pv D n H → H d = some (.frz od (.dK kvs)))
    (hs : ∀ D n k v H H', H1 D = none → kvs[n]? = some (k, v) → Pv D n H → Sm H H' → tk (((wipe σ [i, j]).set i (some (kV k))).set j (some v)) H' fun y H4 => tv (((wipe σ [i, j]).set i (some (kV k))).set j (some v)) H4 fun z H5 => ∃ ks k2, y = kV k2 ∧ H5 D = some (.dK ks) ∧ ks.length < sizeLine ∧ Pv D (n + 1) (upd H5 D (.dK (putK ks k2 z))))
    (hd : ∀ D H, H1 D = none → Pv D kvs.length H → Q D H) : DcR (gTup K 2 (gCons (gName i) (gCons (gName j) gNil))) tk tv σ [i, j] H1 Q (Iti d od kvs) := by
  intro D nD
  have w := walk_items (d := d) (o := od) (kvs := kvs)
  refine ⟨fun n m H => m = kvs.length - n ∧ n ≤ kvs.length ∧ Pv D n H, ⟨kvs.length, rfl, Nat.zero_le _, h0 D nD⟩, ?_⟩
  rintro n m H ⟨rfl, hn, p⟩
  have q := hG D n H hn p
  by_cases lt : n < kvs.length
  · refine .inr ⟨w.goes n H lt q, Pv D (n + 1), fun H' p2 => ⟨kvs.length - (n + 1), by omega, rfl, lt, p2⟩, fun x H' y => ?_⟩
    obtain ⟨T, x1, x2, rfl, hT, rfl, e1, e2⟩ := w.yields n H x H' lt q y
    have ek : kvs[n]? = some (kvs[n]'lt) := List.getElem?_eq_getElem lt
    generalize kvs[n]'lt = kv at ek
    obtain ⟨k, v⟩ := kv
    have e1 : Option.map (fun kv : Key × V => kV kv.1) kvs[n]? = some x1 := e1
    have e2 : Option.map Prod.snd kvs[n]? = some x2 := e2
    rw [ek] at e1 e2
    have z1 : kV k = x1 := Option.some.inj (show some (kV k) = some x1 from e1)
    have z2 : v = x2 := Option.some.inj (show some v = some x2 from e2)
    subst z1 z2
    refine ⟨T, _, rfl, .inl (.inl upd_same), rfl, _, _, rfl, _, _, rfl, rfl, w1 _ _, ?_⟩
    unfold tYes
    dsimp only
    rw [if_pos rfl]
    exact hs D n k v H _ nD ek p (Sm.new hT)
  · have e : n = kvs.length := by omega
    subst e
    exact .inl ⟨w.stops H q, hd D H nD p⟩
def rDictD : List V → Hp → VK → Prop := fun xs H Q => ∃ (a : Addr) (kvs : List (Key × V)), xs = [.ref a] ∧ Rd H a (.dK kvs) ∧ ∀ p, H p = none → Q (.ref p) (upd H p (.dK kvs))
def spDl (K : PySem.W.Frag) (C : Addr) : Sp := fun vs H Q _ => ∃ (x : Addr) (ws ds : List Str) (tb : List (List Str)) (ls : List Str) (m : Nat), vs = [.ref x] ∧ DeskOb K C H x ws ds tb ls ∧ DkIs m ws ds tb ls ∧
  ∀ (q : Addr) (as : List Addr) H', Sm H H' → H q = none → H' q = some (.dK (dkv ds (as.map V.ref))) → Paired (fun a vs => a ≠ q ∧ H' a = some (.dK (dkv ws (vs.map V.str)))) as tb → Q (.ref q) H'
abbrev nDl : List Str := ["desk", "deed", "lead"]
theorem scDl : FnScope nDl ["desk"] (defScope (top 22)) := ⟨rfl, rfl, rfl, by decide +kernel, rfl, by decide +kernel, by decide +kernel⟩
/-- the dict of dicts that desk_moves tells -/
def spMv (K : PySem.W.Frag) (C : Addr) : Sp := fun vs H Q _ => ∃ (x : Addr) (ws ds : List Str) (tb : List (List Str)) (ls : List Str) (m : Nat), vs = [.ref x] ∧ DeskOb K C H x ws ds tb ls ∧ DkIs m ws ds tb ls ∧ m ≤ 9 ∧
  ∀ (q : Addr) (bs : List Addr) H', Sm H H' → H q = none → MvAt H' q ws ds bs (nxt ws ds tb) → Q (.ref q) H'
abbrev nMv : List Str := ["desk", "leads", "one", "deed"]
theorem scMv : FnScope nMv ["desk"] (defScope (top 23)) := ⟨rfl, rfl, rfl, by decide +kernel, rfl, by decide +kernel, by decide +kernel⟩
abbrev scMv1 : Scope := { kind := .function, names := [(".0", .local), ("one", .cell), ("leads", .cell)], isGenerator := false, isCoroutine := false }
def spSi (K : PySem.W.Frag) (C : Addr) : Sp := fun vs H Q _ => ∃ (x : Addr) (ws ds : List Str) (tb : List (List Str)) (ls : List Str) (m : Nat), vs = [.ref x] ∧ DeskOb K C H x ws ds tb ls ∧ DkIs m ws ds tb ls ∧ m ≤ 9 ∧
  ∀ (q : Addr) H', Sm H H' → H q = none → H' q = some (.dK (dkv ws (ls.map V.str))) → Q (.ref q) H'
abbrev nSi : List Str := ["desk", "standing"]
theorem scSi : FnScope nSi ["desk"] (defScope (top 24)) := ⟨rfl, rfl, rfl, by decide +kernel, rfl, by decide +kernel, by decide +kernel⟩
/-- Desk.sight of a standing -/
def spSight0 (K : PySem.W.Frag) (C : Addr) : Sp := fun vs H Q _ => ∃ (x : Addr) (z l : Str) (ws ds : List Str) (tb : List (List Str)) (ls : List Str), vs = [.ref x, .str z] ∧ DeskOb K C H x ws ds tb ls ∧ ls.length = ws.length ∧ z ∈ ws ∧ ls[ws.idxOf z]? = some l ∧ Q (.str l) H
section
variable {P : Program} {w : World} {K : PySem.W.Frag} {mg : Str → Option Value} {base : Heap} {f C fO fL fS pS gS : Addr} {fd dO dL dS dG : FuncData}
theorem ok_std (F : FunD K "standings" "Desk.standings" (defArgs (meth 1)) (defBody (meth 1)) (defScope (meth 1)) [] [] f fd) (hC : Cls K C) (n1 : NoAttr K C "_standings") : FnOk P w K mg base CX0 1 f fd nSelf (spStd C) := by
  refine F.ok (CX := CX0) scStd (fun vs H Q E h => ?_) (fun cdv A outer s H vs Q E hr h => ?_)
  · obtain ⟨x, dx, st, ld, si, rfl, _⟩ := h
    rfl
  · refine ⟨_, PSs.nox (pss_one (ps_ret (by exact (pe_fld (pv 0) rfl)))), ?_⟩
    obtain ⟨x, dx, st, ld, si, rfl, hx, q⟩ := h
    exact ⟨_, rfl, x, C, dx, _, _, rfl, hx, hC, n1, rfl, q⟩
theorem bStd (F : FunD K "standings" "Desk.standings" (defArgs (meth 1)) (defBody (meth 1)) (defScope (meth 1)) [] [] f fd) : Binds K fd nSelf [] := F.bindsN fun _ _ _ _ _ _ us hl => match us, hl with
  | [_], _ => rfl
theorem ok_sight0 (F : FunD K "sight" "Desk.sight" (defArgs (meth 5)) (defBody (meth 5)) (defScope (meth 5)) [] [] f fd) (hC : Cls K C) (n1 : NoAttr K C "_standings") (n3 : NoAttr K C "_sights")
    (GO : FnOk P w K mg base CX0 1 fO dO nOneOf (spOneOf K)) (FO : FnP K "is_one_of" (top 10) fO dO) (gO : mg "is_one_of" = some (.ref fO)) : FnOk P w K mg base CX0 2 f fd nSight (spSight0 K C) := by
  refine F.ok (CX := CX0) scSight (fun vs H Q E h => ?_) (fun cdv A outer s H vs Q E hr h => ?_)
  · obtain ⟨x, z, l, ws, ds, tb, ls, rfl, _⟩ := h
    rfl
  · refine ⟨_, PSs.nox (pss_cons (ps_if (pt_not (pt_val (by exact (pe_call GO hr rfl gO FO.kp (bOne FO) .nil pass0 (pa_cons (pv 1) (pa_cons (by exact (pe_fld (pv 0) rfl)) pa_nil)))))) (pss_one ps_never) pss_nil)
      (pss_one (ps_ret (by exact (pe_dget (hu_of hr) (by exact (pe_fld (pv 0) rfl)) (pv 1) (fun _ _ => rfl)))))), ?_⟩
    obtain ⟨x, z, l, ws, ds, tb, ls, rfl, ⟨dx, st, ld, si, as, hx, hst, hld, hsi, pr⟩, ll, hz, el, q⟩ := h
    refine ⟨_, rfl, _, rfl, x, C, dx, _, _, rfl, hx, hC, n1, rfl, .str z, st, rfl, .inl ⟨z, ws, rfl, .inr (.inl hst), _, rfl, ?_⟩⟩
    rw [decide_eq_true hz]
    refine iteF ⟨_, rfl, x, C, dx, _, _, rfl, hx, hC, n3, rfl, _, rfl, si, .str l, rfl, .inl ⟨_, .inr z, .inl hsi, rfl, ?_⟩, q⟩
    rw [dkv_get (by rw [List.length_map, ll]) hz, List.getElem?_map, el]
    rfl
theorem ok_dl (F : FnP K "desk_leads" (top 22) f fd) (hC : Cls K C) (n2 : NoAttr K C "_leads") (md : mg "dict" = none) : FnOk P w K mg base CX0 1 f fd ["desk"] (spDl K C) := by
  refine F.ok (CX := CX0) scDl (fun vs H Q E h => ?_) (fun cdv A outer s H vs Q E hr h => ?_)
  · obtain ⟨x, ws, ds, tb, ls, m, rfl, _⟩ := h
    rfl
  · refine ⟨_, PSs.nox (pss_one (ps_ret (pe_lock (by exact (pe_dc (own := [("deed", 1), ("lead", 2)]) (g := gTup K 2 (gCons (gName 1) (gCons (gName 2) gNil))) (tt := tYes) (tk := tVar 1) (tv := tCB rDictD (tCons (tVar 2) tNil)) rfl scDl.nd (pi_items (by exact (pe_fld (pv 0) rfl)))
      (blkOk_by (N := nDl) (sc := defScope (top 22)) (by decide +kernel)) (fun _ _ _ _ _ => by exact (pg_tup rfl (pgs_cons (pg_name (i := 1) scDl.nd rfl (Or.inl rfl)) (pgs_cons (pg_name (i := 2) scDl.nd rfl (Or.inl rfl)) pgs_nil)))) (fun _ _ _ _ _ => pts_nil) (fun _ _ _ _ _ => by exact (pv 1))
      (fun _ _ _ _ _ => by exact (pe_callTy call_dictD rfl md PyProof.Rows.boot_dict (pa_cons (by exact (pv 2)) pa_nil)))))))), ?_⟩
    obtain ⟨x, ws, ds, tb, ls, m, rfl, ⟨dx, st, ld, si, as, hx, hst, hld, hsi, pr⟩, is, q⟩ := h
    have al : as.length = ds.length := by rw [paired_len pr, is.rows]
    have d4 := is.dmost
    have kl : (dkv ds (as.map V.ref)).length = ds.length := dkv_len (by rw [List.length_map, al])
    refine ⟨ld, _, hld, True.intro, fun od => ?_⟩
    have lx : x ≠ ld := ne_of hx hld (fun z => nomatch z)
    have prL : Paired (fun a vs => a ≠ ld ∧ upd H ld (.frz od (.dK (dkv ds (as.map V.ref)))) a = some (.dK (dkv ws (vs.map V.str)))) as tb := paired_of (paired_len pr) fun j a vs e1 e2 => by
      obtain ⟨vs2, e3, e4⟩ := pair_at pr e1
      rw [e2] at e3
      have e5 := Option.some.inj e3
      subst e5
      have ne : a ≠ ld := fun z => by
        rw [z, hld] at e4
        exact dkv_ne is.some (is.row vs (List.mem_of_getElem? e2)).1 (HO.dK.inj (Option.some.inj e4)).symm
      exact ⟨ne, by rw [upd_ne ne]; exact e4⟩
    have xL : upd H ld (.frz od (.dK (dkv ds (as.map V.ref)))) x = some (.ins C dx (fldsOf st ld si)) := by
      rw [upd_ne lx]
      exact hx
    have dL : upd H ld (.frz od (.dK (dkv ds (as.map V.ref)))) ld = some (.frz od (.dK (dkv ds (as.map V.ref)))) := upd_same
    have unl : ∀ G, Sm (upd H ld (.frz od (.dK (dkv ds (as.map V.ref))))) G → Sm H (upd G ld (.dK (dkv ds (as.map V.ref)))) := fun G m => sm_unlock hld m
    generalize upd H ld (.frz od (.dK (dkv ds (as.map V.ref)))) = L at prL xL dL unl ⊢
    refine ⟨_, rfl, x, C, dx, _, _, rfl, xL, hC, n2, rfl, ld, od, _, rfl, dL, ?_⟩
    refine dc_items (fun _ _ => rfl) (fun D n G => ∃ es : List Addr, es.length = n ∧ G D = some (.dK (dkv (ds.take n) (es.map V.ref))) ∧ Paired (fun e vs => e ≠ D ∧ e ≠ ld ∧ G e = some (.dK (dkv ws (vs.map V.str)))) es (tb.take n) ∧ Sm L G)
      (fun D nD => ⟨[], rfl, upd_same, .nil, Sm.new nD⟩) (fun D n G _ ⟨_, _, _, _, m⟩ => m _ _ dL) (fun D n k v G G' nD ek p m => ?_) (fun D G nD p => ?_)
    · obtain ⟨es, el, eD, pe, mm⟩ := p
      obtain ⟨d, ed, rfl, ev⟩ := dkv_at ek
      obtain ⟨a, ea, rfl⟩ : ∃ a, as[n]? = some a ∧ v = .ref a := by
        rw [List.getElem?_map] at ev
        cases e : as[n]? with
        | none =>
          rw [e] at ev
          cases ev
        | some a =>
          rw [e] at ev
          exact ⟨a, rfl, (Option.some.inj ev).symm⟩
      obtain ⟨vs, et, an, ha⟩ := pair_at prL ea
      have m2 := mm.trans m
      refine ⟨_, rfl, _, rfl, a, _, rfl, .inl (m2 _ _ ha), fun e ne => ?_⟩
      have eD2 := m _ _ eD
      have De : D ≠ e := ne_of_none eD2 ne
      have m3 := Sm.new (o := .dK (dkv ws (vs.map V.str))) ne
      have il : n < ds.length := (List.getElem?_eq_some_iff.mp ed).1
      have tk : ds.take (n + 1) = ds.take n ++ [d] := by
        rw [List.take_add_one, ed]
        rfl
      have tt : tb.take (n + 1) = tb.take n ++ [vs] := by
        rw [List.take_add_one, et]
        rfl
      have l1 : es.length = (ds.take n).length := by
        rw [List.length_take]
        omega
      have eld : e ≠ ld := fun z => by
        rw [z, m2 _ _ dL] at ne
        cases ne
      refine ⟨_, .inr d, rfl, m3 _ _ eD2, by rw [dkv_len (by rw [List.length_map]; omega), List.length_take, sizeLine_eq]; omega, es ++ [e], by rw [List.length_append, el]; rfl, ?_, ?_, ?_⟩
      · rw [upd_same, put_dkv l1 (by rw [← tk]; exact is.dnd.sublist (List.take_sublist _ _)), tk]
      · rw [tt]
        refine pair_more (pair_mono pe fun b _ t eb => ⟨eb.1, eb.2.1, ?_⟩) ⟨Ne.symm De, eld, ?_⟩
        · rw [upd_ne eb.1]
          exact m3 _ _ (m _ _ eb.2.2)
        · rw [upd_ne (Ne.symm De)]
          exact upd_same
      · intro b o eb
        rw [upd_ne (ne_of_none eb nD)]
        exact m3 _ _ (m2 _ _ eb)
    · obtain ⟨es, el, eD, pe, mm⟩ := p
      rw [kl] at el eD pe
      rw [List.take_length] at eD
      rw [List.take_of_length_le (by rw [is.rows]; exact Nat.le_refl _)] at pe
      have Dl : D ≠ ld := fun z => by
        rw [z, dL] at nD
        cases nD
      refine ⟨mm _ _ dL, q D es _ (unl G mm) (none_of_sm (unl L (Sm.refl L)) (by rw [upd_ne Dl]; exact nD)) (by rw [upd_ne Dl]; exact eD) (pair_mono pe fun e _ vs h => ⟨h.1, by rw [upd_ne h.2.1]; exact h.2.2⟩)⟩
theorem bDl (F : FnP K "desk_leads" (top 22) f fd) : Binds K fd ["desk"] [] := F.bindsN fun _ _ _ _ _ _ us hl => match us, hl with
  | [_], _ => rfl
end

theorem put_dkvV {ds : List Str} {us : List V} {d : Str} {v : V} (e : us.length = ds.length) (nd : (ds ++ [d]).Nodup) : putK (dkv ds us) (.inr d) v = dkv (ds ++ [d]) (us ++ [v]) := by
  rw [put_new]
  · unfold dkv
    rw [List.map_append, List.zip_append (by rw [List.length_map, e])]
    rfl
  · rw [dkv_keys e.symm]
    intro z
    obtain ⟨x, hx, ex⟩ := List.mem_map.mp z
    have ex2 : x = d := Sum.inr.inj ex
    exact (List.nodup_append.mp nd).2.2 x hx d List.mem_cons_self ex2
/-- {k: e for k in d} -/
theorem dc_keysS {d : Addr} {od : Obj} {ds : List Str} {us : List V} {tv : TE} {fv : Str → V} {σ : L2.St} {i : Nat} {H1 : Hp} {Q : Addr → Hp → Prop} (hd : H1 d = some (.frz od (.dK (dkv ds us)))) (ul : us.length = ds.length) (nd : ds.Nodup) (hn : ds.length ≤ 1000)
    (w1 : ∀ v, wipe ((wipe σ [i]).set i (some v)) [i] = wipe σ [i]) (s1 : ∀ v, ((wipe σ [i]).set i (some v))[i]? = some (some v))
    (ev : ∀ (z : Str) (H2 : Hp) (Q : VK), z ∈ ds → Sm H1 H2 → Q (fv z) H2 → tv ((wipe σ [i]).set i (some (.str z))) H2 Q)
    (q : ∀ (D : Addr) (H2 : Hp), Sm H1 H2 → H1 D = none → H2 D = some (.dK (dkv ds (ds.map fv))) → Q D H2) : DcR (gName i) (tVar i) tv σ [i] H1 Q (Itk d od (dkv ds us)) := by
  have kl : (dkv ds us).length = ds.length := dkv_len ul
  refine dc_it walk_keys w1 (fun D j H => H D = some (.dK (dkv (ds.take j) ((ds.take j).map fv))) ∧ Sm H1 H) (fun D nD => ⟨upd_same, Sm.new nD⟩) (fun D j H _ p => p.2 _ _ hd) (fun D j x H H' nD hj p y => ?_) (fun D H nD p => ?_)
  · obtain ⟨ed, sm⟩ := p
    obtain ⟨rfl, k, v, ekv, rfl⟩ := y
    obtain ⟨z, ez, rfl, _⟩ := dkv_at ekv
    have tk : ds.take (j + 1) = ds.take j ++ [z] := by
      rw [List.take_add_one, ez]
      rfl
    refine ⟨_, s1 _, ev z _ _ (List.mem_of_getElem? ez) sm ⟨_, .inr z, rfl, ed, ?_, ?_, ?_⟩⟩
    · rw [dkv_len (by rw [List.length_map]), List.length_take, sizeLine_eq]
      omega
    · rw [upd_same, put_dkvV (by rw [List.length_map]) (by rw [← tk]; exact nd.sublist (List.take_sublist _ _)), tk, List.map_append]
      rfl
    · intro b o e
      rw [upd_ne (ne_of_none e nD)]
      exact sm _ _ e
  · obtain ⟨ed, sm⟩ := p
    rw [kl, List.take_length] at ed
    exact q D H sm nD ed
section
variable {P : Program} {w : World} {K : PySem.W.Frag} {mg : Str → Option Value} {base : Heap} {f C fO fL fS pS gS : Addr} {fd dO dL dS dG : FuncData}
theorem ok_mv (F : FnP K "desk_moves" (top 23) f fd) (hC : Cls K C) (PS_ : PropOf K C "standings" pS gS) (GG : FnOk P w K mg base CX0 1 gS dG nSelf (spStd C)) (bG : Binds K dG nSelf [])
    (GL : FnOk P w K mg base CX0 1 fL dL ["desk"] (spDl K C)) (FL : FnP K "desk_leads" (top 22) fL dL) (gL : mg "desk_leads" = some (.ref fL)) : FnOk P w K mg base CX0 3 f fd ["desk"] (spMv K C) := by
  refine F.ok (CX := CX0) scMv (fun vs H Q E h => ?_) (fun cdv A outer s H vs Q E hr h => ?_)
  · obtain ⟨x, ws, ds, tb, ls, m, rfl, _⟩ := h
    rfl
  · have hr1 := hr.mono (show 1 ≤ 2 by decide)
    refine ⟨_, PSs.nox (pss_cons (ps_set (i := 1) scMv.nd rfl (.inr rfl) (by exact (pe_call GL hr1 rfl gL FL.kp (bDl FL) .nil pass0 (pa_cons (pv 0) pa_nil))))
      (pss_one (ps_ret (by exact (pe_dc (own := [("one", 2)]) (g := gName 2) (tt := tYes) (tk := tVar 2) (tv := tLockE (tDc (iKeys (tVar 1)) (gName 3) tYes (tVar 3) (tDGet (tDGet (tVar 1) (tVar 3)) (tVar 2)) [3])) rfl scMv.nd (pi_seq (by exact (pe_prop (pv 0) hC PS_ GG hr bG .nil pass0 rfl)))
        (blkOk_by (N := nMv) (sc := defScope (top 23)) (by decide +kernel)) (fun _ _ _ _ _ => pg_name (i := 2) scMv.nd rfl (Or.inr rfl)) (fun _ _ _ _ _ => pts_nil) (fun _ _ _ _ _ => by exact (pv 2))
        (fun _ _ _ _ _ => by exact (pe_lock (by exact (pe_dc (own := [("deed", 3)]) (g := gName 3) (tt := tYes) (tk := tVar 3) (tv := tDGet (tDGet (tVar 1) (tVar 3)) (tVar 2)) rfl scMv.nd (pi_keys (by exact (pv 1)))
          (blkOk_by (N := nMv) (sc := scMv1) (by decide +kernel)) (fun _ _ _ _ _ => pg_name (i := 3) scMv.nd rfl (Or.inl rfl)) (fun _ _ _ _ _ => pts_nil) (fun _ _ _ _ _ => by exact (pv 3))
          (fun _ _ _ _ _ => by exact (pe_dget (hu_of hr) (by exact (pe_dget (hu_of hr) (by exact (pv 1)) (by exact (pv 3)) (fun _ _ => rfl))) (by exact (pv 2)) (fun _ _ => rfl)))))))))))), ?_⟩
    obtain ⟨x, ws, ds, tb, ls, m, rfl, ob, is, m9, q⟩ := h
    refine ⟨_, rfl, x, ws, ds, tb, ls, m, rfl, ob, is, fun lq as H1 m1 nq e1 pr1 => ?_⟩
    obtain ⟨dx, st, ld, si, as0, hx, hst, hld, hsi, _⟩ := ob.sm m1
    have al : as.length = ds.length := by rw [paired_len pr1, is.rows]
    have d4 := is.dmost
    have w9 := is.most
    refine ⟨_, rfl, x, dx, _, rfl, hx, x, dx, st, ld, si, rfl, hx, st, ws.map V.str, rfl, .inr ⟨hst, ?_⟩⟩
    refine dc_it walk_tup (fun _ => rfl) (fun D j G => ∃ bs : List Addr, bs.length = j ∧ G D = some (.dK (dkv (ws.take j) (bs.map V.ref))) ∧ Paired (fun b z => b ≠ D ∧ G b = some (.dK (dkv ds ((ds.map (nxt ws ds tb z)).map V.str)))) bs (ws.take j) ∧ Sm H1 G)
      (fun D nD => ⟨[], rfl, upd_same, .nil, Sm.new nD⟩) (fun D j G _ ⟨_, _, _, _, mm⟩ => SqT.sm hst mm) (fun D j x0 G G' nD hj p y => ?_) (fun D G nD p => ?_)
    · obtain ⟨bs, bl, eD, pb, mm⟩ := p
      obtain ⟨rfl, ex⟩ := y
      obtain ⟨z, ez, rfl⟩ : ∃ z, ws[j]? = some z ∧ x0 = .str z := by
        rw [List.getElem?_map] at ex
        cases e : ws[j]? with
        | none =>
          rw [e] at ex
          cases ex
        | some d =>
          rw [e] at ex
          exact ⟨d, rfl, (Option.some.inj ex).symm⟩
      have hz := List.mem_of_getElem? ez
      have eG := mm _ _ e1
      refine ⟨_, rfl, lq, _, eG, True.intro, fun od => ⟨_, rfl, lq, od, rfl, .inl ⟨_, upd_same, ?_⟩⟩⟩
      have prL : Paired (fun a vs => upd G' lq (.frz od (.dK (dkv ds (as.map V.ref)))) a = some (.dK (dkv ws (vs.map V.str)))) as tb := pair_mono pr1 fun a _ vs e => by
        rw [upd_ne e.1]
        exact mm _ _ e.2
      have lL : upd G' lq (.frz od (.dK (dkv ds (as.map V.ref)))) lq = some (.frz od (.dK (dkv ds (as.map V.ref)))) := upd_same
      have Dlq : D ≠ lq := fun z => by
        rw [z, e1] at nD
        cases nD
      have unl : ∀ G2, Sm (upd G' lq (.frz od (.dK (dkv ds (as.map V.ref))))) G2 → Sm G' (upd G2 lq (.dK (dkv ds (as.map V.ref)))) := fun G2 m => sm_unlock eG m
      generalize upd G' lq (.frz od (.dK (dkv ds (as.map V.ref)))) = L at prL lL unl ⊢
      refine dc_keysS (fv := fun d => .str (nxt ws ds tb z d)) lL (by rw [List.length_map, al]) is.dnd (by omega) (fun _ => rfl) (fun _ => rfl) (fun d G2 Q2 hd m2 q2 => ?_) (fun e G2 m2 ne ee => ?_)
      · obtain ⟨a, b1, b2, _⟩ := ob_step (pair_mono prL fun a _ vs e => m2 _ _ e) is hd hz
        exact ⟨_, rfl, _, rfl, lq, .ref a, rfl, .inl ⟨_, .inr d, .inr ⟨od, m2 _ _ lL⟩, rfl, b1.symm⟩, _, rfl, a, _, rfl, b2, q2⟩
      · have mu := unl G2 m2
        have eD2 := mu _ _ eD
        have elq : e ≠ lq := fun z => by
          rw [z, lL] at ne
          cases ne
        have ee2 : upd G2 lq (.dK (dkv ds (as.map V.ref))) e = some (.dK (dkv ds ((ds.map (nxt ws ds tb z)).map V.str))) := by
          rw [upd_ne elq, ee, List.map_map]
          rfl
        have neG : G' e = none := none_of_sm (unl L (Sm.refl L)) (by rw [upd_ne elq]; exact ne)
        have eDe : e ≠ D := fun z => by
          rw [z, eD] at neG
          cases neG
        refine ⟨m2 _ _ lL, ?_⟩
        generalize upd G2 lq (.dK (dkv ds (as.map V.ref))) = G3 at mu eD2 ee2 ⊢
        have jl : j < ws.length := (List.getElem?_eq_some_iff.mp ez).1
        have tk : ws.take (j + 1) = ws.take j ++ [z] := by
          rw [List.take_add_one, ez]
          rfl
        have l1 : bs.length = (ws.take j).length := by
          rw [List.length_take]
          omega
        refine ⟨_, .inr z, rfl, eD2, by rw [dkv_len (by rw [List.length_map]; omega), List.length_take, sizeLine_eq]; omega, bs ++ [e], by rw [List.length_append, bl]; rfl, ?_, ?_, ?_⟩
        · rw [upd_same, put_dkv l1 (by rw [← tk]; exact is.nd.sublist (List.take_sublist _ _)), tk]
        · rw [tk]
          refine pair_more (pair_mono pb fun b _ t eb => ⟨eb.1, ?_⟩) ⟨eDe, ?_⟩
          · rw [upd_ne eb.1]
            exact mu _ _ eb.2
          · rw [upd_ne eDe]
            exact ee2
        · intro b o eb
          rw [upd_ne (ne_of_none eb nD)]
          exact mu _ _ (mm _ _ eb)
    · obtain ⟨bs, bl, eD, pb, mm⟩ := p
      rw [List.length_map, List.take_length] at eD pb
      exact q D bs G (m1.trans mm) (none_of_sm m1 nD) ⟨eD, pb, by omega, d4, is.dnd⟩
theorem ok_si (F : FnP K "desk_sights" (top 24) f fd) (hC : Cls K C) (PS_ : PropOf K C "standings" pS gS) (GG : FnOk P w K mg base CX0 1 gS dG nSelf (spStd C)) (bG : Binds K dG nSelf [])
    (M : Meth K C "sight" fS) (GS : FnOk P w K mg base CX0 2 fS dS nSight (spSight0 K C)) (FS : FunD K "sight" "Desk.sight" (defArgs (meth 5)) (defBody (meth 5)) (defScope (meth 5)) [] [] fS dS) : FnOk P w K mg base CX0 3 f fd ["desk"] (spSi K C) := by
  refine F.ok (CX := CX0) scSi (fun vs H Q E h => ?_) (fun cdv A outer s H vs Q E hr h => ?_)
  · obtain ⟨x, ws, ds, tb, ls, m, rfl, _⟩ := h
    rfl
  · refine ⟨_, PSs.nox (pss_one (ps_ret (by exact (pe_dc (own := [("standing", 1)]) (g := gName 1) (tt := tYes) (tk := tVar 1) (tv := tMeth C "sight" (spSight0 K C) [] E0 (tVar 0) (tCons (tVar 1) tNil)) rfl scSi.nd (pi_seq (by exact (pe_prop (pv 0) hC PS_ GG hr bG .nil pass0 rfl)))
        (blkOk_by (N := nSi) (sc := defScope (top 24)) (by decide +kernel)) (fun _ _ _ _ _ => pg_name (i := 1) scSi.nd rfl (Or.inl rfl)) (fun _ _ _ _ _ => pts_nil) (fun _ _ _ _ _ => by exact (pv 1))
        (fun _ _ _ _ _ => by exact (pe_meth (by exact (pv 0)) hC M GS hr (bSight FS) .nil pass0 (pa_cons (by exact (pv 1)) pa_nil))))))), ?_⟩
    obtain ⟨x, ws, ds, tb, ls, m, rfl, ob, is, m9, q⟩ := h
    obtain ⟨dx, st, ld, si, as, hx, hst, hld, hsi, _⟩ := id ob
    have w9 := is.most
    refine ⟨_, rfl, x, dx, _, rfl, hx, x, dx, st, ld, si, rfl, hx, st, ws.map V.str, rfl, ?_⟩
    have z := dc_names (K := K) (a := st) (ws := ws) (i := 1) (σ := [some (.ref x), none]) (tv := tMeth C "sight" (spSight0 K C) [] E0 (tVar 0) (tCons (tVar 1) tNil)) (H1 := H) (fv := fun j => .str (ls.getD j ⟨#[]⟩)) (Q := fun D G => Q (.ref D) G) (.inr hst) is.nd (by omega) (fun _ => rfl) (fun _ => rfl) (fun j z G Q2 ez m2 q2 => ?_) (fun D G m2 nD eD => ?_)
    · rcases z with z | z
      · exact .inl z
      · exact .inr z
    · have jl : j < ls.length := by
        rw [is.looks]
        exact (List.getElem?_eq_some_iff.mp ez).1
      have el : ls[j]? = some (ls[j]'jl) := List.getElem?_eq_getElem jl
      rw [List.getD_eq_getElem?_getD, el] at q2
      exact ⟨_, rfl, x, dx, _, rfl, m2 _ _ hx, rfl, _, rfl, x, z, ls[j]'jl, ws, ds, tb, ls, rfl, ob.sm m2, is.looks, List.mem_of_getElem? ez, by rw [idx_of is.nd ez]; exact el, q2⟩
    · refine q D G m2 nD ?_
      rw [eD]
      congr 2
      refine congrArg (dkv ws) (List.ext_getElem (by rw [List.length_map, List.length_range, List.length_map, is.looks]) fun j h1 h2 => ?_)
      rw [List.length_map] at h2
      rw [List.getElem_map, List.getElem_range, List.getElem_map, List.getD_eq_getElem?_getD, List.getElem?_eq_getElem h2]
      rfl
theorem bMv (F : FnP K "desk_moves" (top 23) f fd) : Binds K fd ["desk"] [] := F.bindsN fun _ _ _ _ _ _ us hl => match us, hl with
  | [_], _ => rfl
theorem bSi (F : FnP K "desk_sights" (top 24) f fd) : Binds K fd ["desk"] [] := F.bindsN fun _ _ _ _ _ _ us hl => match us, hl with
  | [_], _ => rfl
end
end Dk
set_option Elab.async false
set_option linter.all false
set_option maxRecDepth 100000
set_option maxHeartbeats 8000000
namespace PyProof.Rows
open PySem Spec Calls
/-! ### sorted(t), t a tuple of texts -/
section
variable {prog : Program} {w : World} {A : Around} {E : Value → Shared → Prop} {s : Shared}
theorem collect_tup {l : Addr} {vs : List Value} {Q : List Value → Shared → Prop} (hl : ∃ o n, s.heap.get? l = some o ∧ o.cls = .type "tuple" ∧ o.data = .seq vs.toArray n)
    (h : Q vs { s with heap := (s.heap.push (seqObj "list" #[] 0)).update s.heap.objs.size (Obj.mapSeq (· ++ vs.toArray)) }) (hsz : vs.length ≤ sizeLine := by size_fits) :
    wpAny (model prog w) A (collect (.ref l)) Q E s := by
  obtain ⟨o, n, ho, hc, hd⟩ := id hl
  unfold collect
  refine wpAny_bind (wpAny_runValue (codeAny_builtin entry_proto_collect' ?_))
  show wpAny _ _ (do again (.builtin "list.__iadd__" ⟨[← newList [], .ref l], []⟩)) _ _ s
  refine wpAny_bind (wpAny_newList (wpAny_pure ⟨Code.quiet_builtin _ (by decide +kernel), codeAny_builtin entry_list_iadd' ?_⟩))
  show wpAny _ _ (Builtin.List.listExtendWith (.ref s.heap.objs.size) (.ref l) (.ref s.heap.objs.size)) _ _ { s with heap := s.heap.push (seqObj "list" #[] 0) }
  unfold Builtin.List.listExtendWith
  have ho' : (s.heap.push (seqObj "list" #[] 0)).get? l = some o := Heap.get?_push_of_some _ ho
  refine wpAny_bind (wpAny_typeOf (T := "tuple") ⟨o, ho', hc⟩ ?_)
  have ht : (Value.type "tuple" == Value.type "tuple") = true := by rfl
  rw [if_pos (by rw [ht]; simp)]
  refine wpAny_bind (listItems_at ho' hd ?_)
  refine wpAny_bind (listItems_at (xs := #[]) (n := 0) (Heap.get?_push_size _ rfl) rfl ?_)
  rw [if_neg (by simp)]
  refine wpAny_bind (listUpdate_at (xs := #[]) (n := 0) (Heap.get?_push_size _ rfl) rfl ?_ (Nat.zero_le _) (by show (#[] ++ vs.toArray).size ≤ sizeLine + 1; simp only [Array.size_append, List.size_toArray, List.length_nil]; omega))
  refine wpAny_pure ?_
  show wpAny (model prog w) A (do
      let o ← load s.heap.objs.size
      match o.data with
      | .seq xs _ => pure xs.toList
      | _ => unsupported "internal:collect") Q E { s with heap := (s.heap.push (seqObj "list" #[] 0)).update s.heap.objs.size (Obj.mapSeq (· ++ vs.toArray)) }
  refine wpAny_bind (wpAny_load (get?_update_seq (Heap.get?_push_size _ rfl) _) ?_)
  show wpAny _ _ (pure ((#[] : Array Value) ++ vs.toArray).toList) Q E _
  rw [show ((#[] : Array Value) ++ vs.toArray).toList = vs by simp]
  exact wpAny_pure h
theorem sorted_strsT {l : Addr} {vs : List Value} {ss : List Str} {Q : Value → Shared → Prop} (hl : ∃ o n, s.heap.get? l = some o ∧ o.cls = .type "tuple" ∧ o.data = .seq vs.toArray n) (hS : StrsAre vs ss) (h64 : vs.length < 64)
    (h : ∀ (out : Array Value) (ss' : List Str), StrsAre out.toList ss' → ss'.Perm ss → sortedS ss' = true → Q (.ref (s.heap.objs.size + 1)) { s with heap := sortedAll s.heap vs out }) :
    wpAny (model prog w) A (call (.builtin "sorted") [.ref l]) Q E s := by
  refine Calls.call_function_entry kind_sorted plain_sorted entry_sorted (args_sorted1 _) ?_
  unfold Builtin.«sorted»
  refine wpAny_bind (m := checkCount "sorted" 1 1 _) (wpAny_pure ?_)
  refine wpAny_bind (collect_tup hl ?_)
  refine wpAny_bind (wpAny_newList ?_)
  have hsz : ((s.heap.push (seqObj "list" #[] 0)).update s.heap.objs.size (Obj.mapSeq (· ++ vs.toArray))).objs.size = s.heap.objs.size + 1 := by
    rw [Heap.size_update, size_push']
  have hoL : (((s.heap.push (seqObj "list" #[] 0)).update s.heap.objs.size (Obj.mapSeq (· ++ vs.toArray))).push (seqObj "list" vs.toArray 0)).get? (s.heap.objs.size + 1) = some (seqObj "list" vs.toArray 0) := by
    rw [← hsz]; exact Heap.get?_push_size _ rfl
  show wpAny _ _ _ _ _ { s with heap := ((s.heap.push (seqObj "list" #[] 0)).update s.heap.objs.size (Obj.mapSeq (· ++ vs.toArray))).push (seqObj "list" vs.toArray 0) }
  rw [hsz]
  refine wpAny_bind (wpAny_holding (wpAny_call_entry slot_list_sort ⟨_, hoL, rfl⟩ entry_list_sort (list_sort_treeK strKind_oneLt hoL hS.keysOf (fun v₁ v₂ rest e => keyKind_strs (by rw [← e]; exact hS)) h64 fun st' hp hs => ?_) (args_list_sort _)))
  obtain ⟨ss', h1, h2, h3⟩ := sorted_out_str hS hp hs
  exact ⟨_, rfl, wpAny_pure ⟨_, rfl, h _ ss' h1 h2 h3⟩⟩
end
end PyProof.Rows
namespace Dk
open PySem PySem.Spec PyProof.Rows L2 Er LamX NdefX
def rSortT (K : PySem.W.Frag) : List V → Hp → VK → Prop := fun vs H Q => ∃ (a : Addr) (xs : List Str), vs = [V.ref a] ∧ H a = some (.tup (xs.map V.str)) ∧ xs.length < 64 ∧
  ∀ (ys : List Str) (p : Addr), ys.Perm xs → sortedS ys = true → H p = none → Q (.ref p) (upd H p (.lst (ys.map V.str)))
theorem cr_sortT {X : Cx} : CallR X (.builtin "sorted") (rSortT X.K) := by
  intro pins s σ H vs us Q I r h
  obtain ⟨a, xs, rfl, hs, h64, q⟩ := h
  obtain ⟨_, its, rv, o, ho, hc, n, hd⟩ := (show ObjOk X.prog X.w H s.heap a (.tup (xs.map V.str)) from I.hok a _ hs)
  rw [Vals.ref1 r]
  have hlen0 := rv.length
  rw [List.length_map] at hlen0
  refine PyProof.Rows.sorted_strsT ⟨o, n, ho, hc, hd⟩ rv.strs (by rw [← hlen0]; exact h64) fun out ys h1 h2 h3 => ?_
  obtain ⟨ep, he'⟩ := PyProof.Rows.sortedAll_at s.heap its out
  have hlen : (ys.map V.str).length ≤ sizeLine := by rw [List.length_map, h2.length_eq]; exact small64 h64
  exact ⟨.ref _, upd H (s.heap.objs.size + 1) (.lst (ys.map V.str)), I.laid (t' := s.toks) (fun _ _ => PyProof.Rows.sortedAll_old) (Nat.le_succ _) ⟨hlen, out.toList, ep, vals_of_strs h1, he'⟩, rfl, q ys _ h2 h3 (I.hok.fresh (Nat.le_succ _))⟩
end Dk
set_option Elab.async false
set_option linter.all false
set_option maxRecDepth 100000
set_option maxHeartbeats 8000000
namespace SrtT
open PySem PySem.Spec PyProof.Rows
def ltS (a b : Str) : Bool := ltCps a.cps.toList b.cps.toList
theorem cps_ir : ∀ a : List Nat, ltCps a a = false
  | [] => rfl
  | a :: r => by
    unfold ltCps
    rw [cps_ir r]
    simp
theorem cps_tr : ∀ a b c : List Nat, ltCps a b = true → ltCps b c = true → ltCps a c = true
  | [], [], _, h, _ => by simp [ltCps] at h
  | [], _ :: _, [], _, h => by simp [ltCps] at h
  | [], _ :: _, _ :: _, _, _ => rfl
  | _ :: _, [], _, h, _ => by simp [ltCps] at h
  | _ :: _, _ :: _, [], _, h => by simp [ltCps] at h
  | a :: r, b :: s, c :: t, h1, h2 => by
    unfold ltCps at h1 h2 ⊢
    rw [Bool.or_eq_true, Bool.and_eq_true, decide_eq_true_iff, beq_iff_eq] at h1 h2 ⊢
    rcases h1 with h1 | ⟨e1, h1⟩ <;> rcases h2 with h2 | ⟨e2, h2⟩
    · exact .inl (Nat.lt_trans h1 h2)
    · exact .inl (e2 ▸ h1)
    · exact .inl (e1 ▸ h2)
    · exact .inr ⟨e1.trans e2, cps_tr r s t h1 h2⟩
theorem cps_tri : ∀ a b : List Nat, ltCps a b = true ∨ a = b ∨ ltCps b a = true
  | [], [] => .inr (.inl rfl)
  | [], _ :: _ => .inl rfl
  | _ :: _, [] => .inr (.inr rfl)
  | a :: r, b :: s => by
    unfold ltCps
    rw [Bool.or_eq_true, Bool.and_eq_true, decide_eq_true_iff, beq_iff_eq, Bool.or_eq_true, Bool.and_eq_true, decide_eq_true_iff, beq_iff_eq]
    rcases Nat.lt_trichotomy a b with h | h | h
    · exact .inl (.inl h)
    · rcases cps_tri r s with q | q | q
      · exact .inl (.inr ⟨h, q⟩)
      · exact .inr (.inl (by rw [h, q]))
      · exact .inr (.inr (.inr ⟨h.symm, q⟩))
    · exact .inr (.inr (.inl h))
theorem ir (a : Str) : ltS a a = false := cps_ir _
theorem tr {a b c : Str} (h1 : ltS a b = true) (h2 : ltS b c = true) : ltS a c = true := cps_tr _ _ _ h1 h2
theorem tri (a b : Str) : ltS a b = true ∨ a = b ∨ ltS b a = true := by
  rcases cps_tri a.cps.toList b.cps.toList with h | h | h
  · exact .inl h
  · refine .inr (.inl ?_)
    obtain ⟨x⟩ := a
    obtain ⟨y⟩ := b
    congr 1
    exact Array.toList_inj.mp h
  · exact .inr (.inr h)
theorem asym {a b : Str} (h1 : ltS a b = true) (h2 : ltS b a = true) : False := by
  have := tr h1 h2
  rw [ir] at this
  cases this
abbrev Up (l : List Str) : Prop := l.Pairwise fun a b => ltS a b = true
def ins (k : Str) : List Str → List Str
  | [] => [k]
  | x :: l => if ltS k x = true then k :: x :: l else if k = x then x :: l else x :: ins k l
def srt (l : List Str) : List Str := l.foldr ins []
theorem mem_ins {k i : Str} : ∀ {l : List Str}, i ∈ ins k l ↔ i = k ∨ i ∈ l
  | [] => by simp [ins]
  | x :: l => by
    unfold ins
    split
    · simp
    · split
      · rename_i h
        subst h
        simp
      · rw [List.mem_cons, mem_ins, List.mem_cons]
        exact ⟨fun h => h.elim (fun e => .inr (.inl e)) fun h => h.elim .inl fun h => .inr (.inr h), fun h => h.elim (fun e => .inr (.inl e)) fun h => h.elim .inl fun h => .inr (.inr h)⟩
theorem ins_up {k : Str} : ∀ {l : List Str}, Up l → Up (ins k l)
  | [], _ => by simp [ins]
  | x :: l, h => by
    obtain ⟨h1, h2⟩ := List.pairwise_cons.mp h
    unfold ins
    split
    · rename_i c
      refine List.pairwise_cons.mpr ⟨fun y hy => ?_, h⟩
      rcases List.mem_cons.mp hy with e | hy
      · rw [e]
        exact c
      · exact tr c (h1 y hy)
    · split
      · exact h
      · rename_i c1 c2
        refine List.pairwise_cons.mpr ⟨fun y hy => ?_, ins_up h2⟩
        rcases mem_ins.mp hy with e | hy
        · rw [e]
          rcases tri k x with z | z | z
          · exact absurd z c1
          · exact absurd z c2
          · exact z
        · exact h1 y hy
theorem mem_srt {i : Str} : ∀ {l : List Str}, i ∈ srt l ↔ i ∈ l
  | [] => by simp [srt]
  | x :: l => by
    show i ∈ ins x (srt l) ↔ _
    rw [mem_ins, mem_srt, List.mem_cons]
theorem srt_up : ∀ l : List Str, Up (srt l)
  | [] => List.Pairwise.nil
  | x :: l => ins_up (srt_up l)
theorem uniq : ∀ {l m : List Str}, Up l → Up m → (∀ k, k ∈ l ↔ k ∈ m) → l = m
  | [], [], _, _, _ => rfl
  | [], b :: m, _, _, h => absurd ((h b).mpr List.mem_cons_self) (by simp)
  | a :: l, [], _, _, h => absurd ((h a).mp List.mem_cons_self) (by simp)
  | a :: l, b :: m, h1, h2, h => by
    obtain ⟨l1, l2⟩ := List.pairwise_cons.mp h1
    obtain ⟨m1, m2⟩ := List.pairwise_cons.mp h2
    have ab : a = b := by
      rcases List.mem_cons.mp ((h a).mp List.mem_cons_self) with e | ha
      · exact e
      · rcases List.mem_cons.mp ((h b).mpr List.mem_cons_self) with e | hb
        · exact e.symm
        · exact (asym (m1 a ha) (l1 b hb)).elim
    subst ab
    have no : ∀ {k : Str}, ltS a k = true → k ≠ a := fun {k} q e => by
      rw [e, ir] at q
      cases q
    refine congrArg _ (uniq l2 m2 fun k => ⟨fun hk => ?_, fun hk => ?_⟩)
    · rcases List.mem_cons.mp ((h k).mp (List.mem_cons_of_mem _ hk)) with e | z
      · exact absurd e (no (l1 k hk))
      · exact z
    · rcases List.mem_cons.mp ((h k).mpr (List.mem_cons_of_mem _ hk)) with e | z
      · exact absurd e (no (m1 k hk))
      · exact z
theorem srt_ext {l m : List Str} (e : ∀ k, k ∈ l ↔ k ∈ m) : srt l = srt m := uniq (srt_up l) (srt_up m) fun k => by rw [mem_srt, mem_srt, e]
theorem ins_len {k : Str} : ∀ {l : List Str}, (ins k l).length ≤ l.length + 1
  | [] => Nat.le_refl _
  | x :: l => by
    unfold ins
    split
    · simp
    · split
      · simp
      · rw [List.length_cons, List.length_cons]
        exact Nat.succ_le_succ ins_len
theorem srt_len : ∀ l : List Str, (srt l).length ≤ l.length
  | [] => Nat.le_refl _
  | x :: l => Nat.le_trans ins_len (Nat.succ_le_succ (srt_len l))
theorem le_tr {a b c : Str} (h1 : ltS b a = false) (h2 : ltS c b = false) : ltS c a = false := by
  cases h : ltS c a with
  | false => rfl
  | true =>
    rcases tri b c with q | q | q
    · rw [tr q h] at h1
      cases h1
    · rw [q, h] at h1
      cases h1
    · rw [q] at h2
      cases h2
theorem rise_all : ∀ (l : List Str) (p : Str), risingS p l = true → (p :: l).Pairwise fun a b => ltS b a = false
  | [], p, _ => List.pairwise_singleton _ _
  | x :: l, p, h => by
    unfold risingS at h
    rw [Bool.and_eq_true, Bool.not_eq_true'] at h
    have ih := rise_all l x h.2
    refine List.pairwise_cons.mpr ⟨fun y hy => ?_, ih⟩
    rcases List.mem_cons.mp hy with e | hy
    · rw [e]
      exact h.1
    · exact le_tr h.1 ((List.pairwise_cons.mp ih).1 y hy)
theorem up_of {l : List Str} (h : sortedS l = true) (nd : l.Nodup) : Up l := by
  have w : l.Pairwise fun a b => ltS b a = false := by
    cases l with
    | nil => exact List.Pairwise.nil
    | cons x l => exact rise_all l x h
  refine List.Pairwise.imp₂ (fun a b h1 h2 => ?_) w nd
  rcases tri a b with q | q | q
  · exact q
  · exact absurd q h2
  · rw [q] at h1
    cases h1
theorem srt_of {l m : List Str} (h : sortedS l = true) (nd : l.Nodup) (e : ∀ k, k ∈ l ↔ k ∈ m) : l = srt m := uniq (up_of h nd) (srt_up m) fun k => (e k).trans mem_srt.symm

end SrtT
namespace Dk
open PySem PySem.Spec PyProof.Rows L2 Er LamX NdefX
/-! ### picked: Desk.deeds, Desk.start, == of lists of texts -/
def spDds (K : PySem.W.Frag) (C : Addr) : Sp := fun vs H Q _ => ∃ (x : Addr) (ws ds : List Str) (tb : List (List Str)) (ls : List Str), vs = [.ref x] ∧ DeskOb K C H x ws ds tb ls ∧ tb.length = ds.length ∧ ∀ q G, Sm H G → H q = none → G q = some (.tup (ds.map V.str)) → Q (.ref q) G
theorem scDds : FnScope nSelf nSelf (defScope (meth 2)) := ⟨rfl, rfl, rfl, by decide +kernel, rfl, by decide +kernel, by decide +kernel⟩
section
variable {P : Program} {w : World} {K : PySem.W.Frag} {mg : Str → Option Value} {base : Heap} {f C fO fN fS fM pS gS : Addr} {fd dO dN dS dM dG : FuncData}
theorem bDds (F : FunD K "deeds" "Desk.deeds" (defArgs (meth 2)) (defBody (meth 2)) (defScope (meth 2)) [] [] f fd) : Binds K fd nSelf [] := F.bindsN fun _ _ _ _ _ _ us hl => match us, hl with
  | [_], _ => rfl
end
section
variable {P : Program} {w : World} {K : PySem.W.Frag} {mg : Str → Option Value} {base : Heap} {f C fO fN fS fM pS gS : Addr} {fd dO dN dS dM dG : FuncData}
theorem ok_dds (F : FunD K "deeds" "Desk.deeds" (defArgs (meth 2)) (defBody (meth 2)) (defScope (meth 2)) [] [] f fd) (hC : Cls K C) (n2 : NoAttr K C "_leads") (mT : mg "tuple" = none) : FnOk P w K mg base CX0 1 f fd nSelf (spDds K C) := by
  refine F.ok (CX := CX0) scDds (fun vs H Q E h => ?_) (fun cdv A outer s H vs Q E hr h => ?_)
  · obtain ⟨x, ws, ds, tb, ls, rfl, _⟩ := h
    rfl
  · refine ⟨_, PSs.nox (pss_one (ps_ret (by exact (pe_callTy (call_tup_dK rfl) rfl mT PyProof.Rows.boot_tuple (pa_cons (by exact (pe_fld (pv 0) rfl)) pa_nil))))), ?_⟩
    obtain ⟨x, ws, ds, tb, ls, rfl, ⟨dx, st, ld, si, as, hx, hst, hld, hsi, pr⟩, tl, q⟩ := h
    have al : as.length = ds.length := by rw [paired_len pr, tl]
    refine ⟨_, rfl, x, C, dx, _, _, rfl, hx, hC, n2, rfl, ld, _, rfl, hld, fun p np => ?_⟩
    rw [keys_dkv (by rw [List.length_map, al])]
    exact q p _ (Sm.new np) np upd_same
end
def spSt0 (K : PySem.W.Frag) (C : Addr) : Sp := fun vs H Q _ => ∃ (x : Addr) (z0 : Str) (ws ds : List Str) (tb : List (List Str)) (ls : List Str), vs = [.ref x] ∧ DeskOb K C H x ws ds tb ls ∧ ws[0]? = some z0 ∧ Q (.str z0) H
theorem scSt0 : FnScope nSelf nSelf (defScope (meth 3)) := ⟨rfl, rfl, rfl, by decide +kernel, rfl, by decide +kernel, by decide +kernel⟩
section
variable {P : Program} {w : World} {K : PySem.W.Frag} {mg : Str → Option Value} {base : Heap} {f C fC fL fS pS gS pD gD pT gT Pt : Addr} {fd dC dL dS dG dD dT : FuncData}
theorem bSt0 (F : FunD K "start" "Desk.start" (defArgs (meth 3)) (defBody (meth 3)) (defScope (meth 3)) [] [] f fd) : Binds K fd nSelf [] := F.bindsN fun _ _ _ _ _ _ us hl => match us, hl with
  | [_], _ => rfl
end
section
variable {P : Program} {w : World} {K : PySem.W.Frag} {mg : Str → Option Value} {base : Heap} {f C fC fL fS pS gS pD gD pT gT Pt : Addr} {fd dC dL dS dG dD dT : FuncData}
theorem ok_st0 (F : FunD K "start" "Desk.start" (defArgs (meth 3)) (defBody (meth 3)) (defScope (meth 3)) [] [] f fd) (hC : Cls K C) (n1 : NoAttr K C "_standings") : FnOk P w K mg base CX0 1 f fd nSelf (spSt0 K C) := by
  refine F.ok (CX := CX0) scSt0 (fun vs H Q E h => ?_) (fun cdv A outer s H vs Q E hr h => ?_)
  · obtain ⟨x, z0, ws, ds, tb, ls, rfl, _⟩ := h
    rfl
  · refine ⟨_, PSs.nox (pss_one (ps_ret (by exact (pe_ix ix_tup (by exact (pe_fld (pv 0) rfl)) pe_int (fun _ _ => rfl))))), ?_⟩
    obtain ⟨x, z0, ws, ds, tb, ls, rfl, ⟨dx, st, ld, si, as, hx, hst, hld, hsi, pr⟩, ez, q⟩ := h
    exact ⟨_, rfl, x, C, dx, _, _, rfl, hx, hC, n1, rfl, st, ws.map V.str, 0, .str z0, rfl, rfl, hst, atI_nat (j := 0) (by rw [List.getElem?_map, ez]; rfl), q⟩
end
theorem shaped_lstS {ws : List Str} (h : ∀ z ∈ ws, IsWord z) : SeqAt.shaped (.list (ws.map PyData.str)) = true := by
  have z := lay_strs h
  unfold SeqAt.shaped
  have c : (PyData.list (ws.map PyData.str)).canLay0 = true := by simpa [PyData.canLay0] using z.1
  rw [c, Bool.true_and, decide_eq_true_iff]
  have d : (PyData.list (ws.map PyData.str)).depth ≤ 2 := by
    simp only [PyData.depth]
    omega
  omega
theorem eqv_lstS {ws vs : List Str} : PyData.eqv (.list (ws.map PyData.str)) (.list (vs.map PyData.str)) = decide (ws = vs) := by
  rw [← eqv_strs]
  simp only [PyData.eqv]
end Dk
set_option Elab.async false
set_option linter.all false
set_option maxRecDepth 100000
set_option maxHeartbeats 8000000
namespace Dk
open PySem PySem.Spec PyProof.Rows L2 Er LamX NdefX
/-! ### have_same_deeds -/
def spHs (K : PySem.W.Frag) (C : Addr) : Sp := fun vs H Q _ => ∃ (x y : Addr) (ws ds : List Str) (tb : List (List Str)) (ls : List Str) (m : Nat) (ws' ds' : List Str) (tb' : List (List Str)) (ls' : List Str) (m' : Nat), vs = [.ref x, .ref y] ∧ DeskOb K C H x ws ds tb ls ∧ DkIs m ws ds tb ls ∧ DeskOb K C H y ws' ds' tb' ls' ∧ DkIs m' ws' ds' tb' ls' ∧
  ∀ (b : Bool) G, Sm H G → (b = true ↔ ∀ d, d ∈ ds ↔ d ∈ ds') → Q (.bl b) G
abbrev nHs : List Str := ["first", "second"]
theorem scHs : FnScope nHs nHs (defScope (top 26)) := ⟨rfl, rfl, rfl, by decide +kernel, rfl, by decide +kernel, by decide +kernel⟩
section
variable {P : Program} {w : World} {K : PySem.W.Frag} {mg : Str → Option Value} {base : Heap} {f C pD gD : Addr} {fd dD : FuncData}
theorem bHs (F : FnP K "have_same_deeds" (top 26) f fd) : Binds K fd nHs [] := F.bindsN fun _ _ _ _ _ _ us hl => match us, hl with
  | [_, _], _ => rfl
theorem ok_hs (F : FnP K "have_same_deeds" (top 26) f fd) (mso : mg "sorted" = none) (hC : Cls K C) (PD : PropOf K C "deeds" pD gD) (GD : FnOk P w K mg base CX0 1 gD dD nSelf (spDds K C)) (bD_ : Binds K dD nSelf []) : FnOk P w K mg base CX0 3 f fd nHs (spHs K C) := by
  refine F.ok (CX := CX0) scHs (fun vs H Q E h => ?_) (fun cdv A outer s H vs Q E hr h => ?_)
  · obtain ⟨x, y, ws, ds, tb, ls, m, ws', ds', tb', ls', m', rfl, _⟩ := h
    rfl
  · refine ⟨_, PSs.nox (pss_one (ps_ret (by exact (pe_cmpR (op_eqD hr.units) (by exact (pe_callB cr_sortT rfl mso boot_sorted (pa_cons (by exact (pe_prop (pv 0) hC PD GD hr bD_ .nil pass0 rfl)) pa_nil))) (by exact (pe_callB cr_sortT rfl mso boot_sorted (pa_cons (by exact (pe_prop (pv 1) hC PD GD hr bD_ .nil pass0 rfl)) pa_nil))) (nomark _))))), ?_⟩
    obtain ⟨x, y, ws, ds, tb, ls, m, ws', ds', tb', ls', m', rfl, ob, is, ob', is', q⟩ := h
    obtain ⟨dx, _, _, _, _, hx, _⟩ := id ob
    obtain ⟨dy, _, _, _, _, hy, _⟩ := id ob'
    have d4 := is.dmost
    have d4' := is'.dmost
    refine ⟨_, rfl, x, dx, _, rfl, hx, x, ws, ds, tb, ls, rfl, ob, is.rows, fun t1 G1 m1 nt1 e1 => ⟨t1, ds, rfl, e1, by omega, fun ys p pm so np => ?_⟩⟩
    have m2 := m1.trans (Sm.new (o := .lst (ys.map V.str)) np)
    have ep : upd G1 p (.lst (ys.map V.str)) p = some (.lst (ys.map V.str)) := upd_same
    generalize upd G1 p (.lst (ys.map V.str)) = G2 at m2 ep ⊢
    refine ⟨_, rfl, y, dy, _, rfl, m2 _ _ hy, y, ws', ds', tb', ls', rfl, ob'.sm m2, is'.rows, fun t2 G3 m3 nt2 e2 => ⟨t2, ds', rfl, e2, by omega, fun ys' p' pm' so' np' => ?_⟩⟩
    have m4 := m3.trans (Sm.new (o := .lst (ys'.map V.str)) np')
    have ep' : upd G3 p' (.lst (ys'.map V.str)) p' = some (.lst (ys'.map V.str)) := upd_same
    generalize upd G3 p' (.lst (ys'.map V.str)) = G4 at m4 ep' ⊢
    have w1 : ∀ z ∈ ys, IsWord z := fun z hz => is.dword z (pm.subset hz)
    have w2 : ∀ z ∈ ys', IsWord z := fun z hz => is'.dword z (pm'.subset hz)
    refine ⟨.list (ys.map PyData.str), .list (ys'.map PyData.str), .lst (.inl (.inl (m4 _ _ ep))) (dp_strs ys), .lst (.inl (.inl ep')) (dp_strs ys'), shaped_lstS w1, shaped_lstS w2, ?_⟩
    rw [eqv_lstS]
    refine q _ G4 (m2.trans m4) ?_
    rw [decide_eq_true_iff]
    have u1 : ys = SrtT.srt ds := SrtT.srt_of so (pm.symm.nodup is.dnd) fun k => pm.mem_iff
    have u2 : ys' = SrtT.srt ds' := SrtT.srt_of so' (pm'.symm.nodup is'.dnd) fun k => pm'.mem_iff
    constructor
    · intro e d
      rw [← pm.mem_iff, ← pm'.mem_iff, e]
    · intro e
      rw [u1, u2, SrtT.srt_ext e]
end
end Dk
set_option Elab.async false
set_option linter.all false
set_option maxRecDepth 100000
set_option maxHeartbeats 8000000
namespace Dk
open PySem PySem.Spec PyProof.Rows L2 Er LamX NdefX Bf
/-! ### parted_by -/
theorem noK_inj {a b : No} (h : noK a = noK b) : a = b := by
  have h1 : (Sum.inl a.1 : Key) = .inl b.1 := (List.cons.inj h).1
  have h2 : (Sum.inr a.2 : Key) = .inr b.2 := (List.cons.inj (List.cons.inj h).2).1
  exact Prod.ext (Sum.inl.inj h1) (Sum.inr.inj h2)
/-- the two dicts, as far as they are filled -/
def SgD (G : Hp) (so : Addr) (done : List No) (sg : No → Str) : Prop := ∃ kvs : List (List Key × V), G so = some (.dT kvs) ∧ kvs.length ≤ done.length ∧ ∀ a ∈ done, valV kvs (noK a) = some (.str (sg a))
def MoD (G : Hp) (mo : Addr) (done : List No) (dz : Int → List Str) (nx : No → Str → No) : Prop := ∃ kvs : List (List Key × V), G mo = some (.dT kvs) ∧ kvs.length ≤ done.length ∧
  ∀ a ∈ done, ∃ (b : Addr) (ts : List Addr), valV kvs (noK a) = some (.ref b) ∧ G b = some (.dK (dkv (dz a.1) (ts.map V.ref))) ∧ Paired (fun t d => G t = some (.tup (noV (nx a d)))) ts (dz a.1)
section
variable {G G2 : Hp} {so mo : Addr} {done : List No} {sg : No → Str} {dz : Int → List Str} {nx : No → Str → No}
theorem SgD.sm (h : SgD G so done sg) (m : Sm G G2) : SgD G2 so done sg := by
  obtain ⟨kvs, h1, h2, h3⟩ := h
  exact ⟨kvs, m _ _ h1, h2, h3⟩
theorem SgD.other {a : Addr} {o : HO} (h : SgD G so done sg) (n : so ≠ a) : SgD (upd G a o) so done sg := by
  obtain ⟨kvs, h1, h2, h3⟩ := h
  exact ⟨kvs, by rw [upd_ne n]; exact h1, h2, h3⟩
theorem MoD.sm (h : MoD G mo done dz nx) (m : Sm G G2) : MoD G2 mo done dz nx := by
  obtain ⟨kvs, h1, h2, h3⟩ := h
  refine ⟨kvs, m _ _ h1, h2, fun a ha => ?_⟩
  obtain ⟨b, ts, q1, q2, q3⟩ := h3 a ha
  exact ⟨b, ts, q1, m _ _ q2, pair_mono q3 fun t _ d e => m _ _ e⟩
theorem MoD.other {a : Addr} {kvs2 : List (List Key × V)} {o : HO} (h : MoD G mo done dz nx) (n : mo ≠ a) (e : G a = some (.dT kvs2)) : MoD (upd G a o) mo done dz nx := by
  obtain ⟨kvs, h1, h2, h3⟩ := h
  refine ⟨kvs, by rw [upd_ne n]; exact h1, h2, fun x hx => ?_⟩
  obtain ⟨b, ts, q1, q2, q3⟩ := h3 x hx
  exact ⟨b, ts, q1, by rw [upd_ne (ne_of q2 e (fun z => nomatch z))]; exact q2, pair_mono q3 fun t _ d q => by rw [upd_ne (ne_of q e (fun z => nomatch z))]; exact q⟩
theorem SgD.put {a : No} {kvs : List (List Key × V)} (h1 : G so = some (.dT kvs)) (h2 : kvs.length ≤ done.length) (h3 : ∀ a ∈ done, valV kvs (noK a) = some (.str (sg a))) : SgD (upd G so (.dT (putK kvs (noK a) (.str (sg a))))) so (done ++ [a]) sg := by
  refine ⟨_, upd_same, ?_, fun b hb => ?_⟩
  · rw [List.length_append]
    exact Nat.le_trans (length_putK _ _ _) (Nat.succ_le_succ h2)
  · rw [valV_put]
    by_cases c : noK b = noK a
    · rw [if_pos c, noK_inj c]
    · rw [if_neg c]
      rcases List.mem_append.mp hb with q | q
      · exact h3 b q
      · exact absurd (by rw [List.mem_singleton.mp q]) c
theorem MoD.put {a : No} {b : Addr} {ts : List Addr} {kvs : List (List Key × V)} (h1 : G mo = some (.dT kvs)) (h2 : kvs.length ≤ done.length)
    (h3 : ∀ a ∈ done, ∃ (b : Addr) (ts : List Addr), valV kvs (noK a) = some (.ref b) ∧ G b = some (.dK (dkv (dz a.1) (ts.map V.ref))) ∧ Paired (fun t d => G t = some (.tup (noV (nx a d)))) ts (dz a.1))
    (e : G b = some (.dK (dkv (dz a.1) (ts.map V.ref)))) (pr : Paired (fun t d => G t = some (.tup (noV (nx a d)))) ts (dz a.1)) : MoD (upd G mo (.dT (putK kvs (noK a) (.ref b)))) mo (done ++ [a]) dz nx := by
  have kd : ∀ {c : Addr} {o : HO}, G c = some o → (∀ k, o ≠ .dT k) → upd G mo (.dT (putK kvs (noK a) (.ref b))) c = some o := fun {c o} q n => by
    rw [upd_ne (ne_of q h1 (n _))]
    exact q
  have new : ∃ (b2 : Addr) (ts : List Addr), valV (putK kvs (noK a) (.ref b)) (noK a) = some (.ref b2) ∧ upd G mo (.dT (putK kvs (noK a) (.ref b))) b2 = some (.dK (dkv (dz a.1) (ts.map V.ref))) ∧ Paired (fun t d => upd G mo (.dT (putK kvs (noK a) (.ref b))) t = some (.tup (noV (nx a d)))) ts (dz a.1) :=
    ⟨b, ts, by rw [valV_put, if_pos rfl], kd e (fun _ z => nomatch z), pair_mono pr fun t _ d q => kd q (fun _ z => nomatch z)⟩
  refine ⟨_, upd_same, ?_, fun x hx => ?_⟩
  · rw [List.length_append]
    exact Nat.le_trans (length_putK _ _ _) (Nat.succ_le_succ h2)
  · by_cases c : noK x = noK a
    · rw [noK_inj c]
      exact new
    · rcases List.mem_append.mp hx with q | q
      · obtain ⟨b2, ts2, q1, q2, q3⟩ := h3 x q
        exact ⟨b2, ts2, by rw [valV_put, if_neg c]; exact q1, kd q2 (fun _ z => nomatch z), pair_mono q3 fun t _ d q => kd q (fun _ z => nomatch z)⟩
      · exact absurd (by rw [List.mem_singleton.mp q]) c
end
/-- a heap without two things -/
def wo (so mo : Addr) (G : Hp) : Hp := fun b => if b = so ∨ b = mo then none else G b
section
variable {G H : Hp} {so mo b : Addr}
theorem wo_le : Sm (wo so mo G) G := fun b o e => by
  unfold wo at e
  by_cases c : b = so ∨ b = mo
  · rw [if_pos c] at e
    cases e
  · rw [if_neg c] at e
    exact e
theorem wo_at {o : HO} (e : G b = some o) (n1 : b ≠ so) (n2 : b ≠ mo) : wo so mo G b = some o := (if_neg fun z => z.elim n1 n2).trans e
theorem wo_sm (m : Sm H G) (n1 : H so = none) (n2 : H mo = none) : Sm H (wo so mo G) := fun b o e => wo_at (m b o e) (fun z => by rw [z, n1] at e; cases e) (fun z => by rw [z, n2] at e; cases e)
theorem wo_l : wo so mo G so = none := if_pos (.inl rfl)
theorem wo_r : wo so mo G mo = none := if_pos (.inr rfl)
end
/-- the two desks, as one: numbers and standings -/
def two {α : Type} (a b : α) : Int → α := fun n => if n = 0 then a else b
def nxF (n0 n1 : Str → Str → Str) : No → Str → No := fun a d => (a.1, two n0 n1 a.1 a.2 d)
def sgF (l0 l1 : Str → Str) : No → Str := fun a => two l0 l1 a.1 a.2
def noS (n : Int) (ws : List Str) : List No := ws.map fun z => (n, z)
def spPb (K : PySem.W.Frag) (C Pt : Addr) : Sp := fun vs H Q _ => ∃ (x y : Addr) (ws ds : List Str) (tb : List (List Str)) (ls ws' ds' : List Str) (tb' : List (List Str)) (ls' : List Str) (z0 y0 : Str), vs = [.ref x, .ref y] ∧ DeskOb K C H x ws ds tb ls ∧ DkIs 9 ws ds tb ls ∧ DeskOb K C H y ws' ds' tb' ls' ∧ DkIs 9 ws' ds' tb' ls' ∧ (∀ d, d ∈ ds ↔ d ∈ ds') ∧
  ws[0]? = some z0 ∧ ws'[0]? = some y0 ∧ TabsN (partT Pt) H ∧ ∀ v G, ExtN H G → TabsN (partT Pt) G → PtOut (nxF (nxt ws ds tb) (nxt ws' ds' tb')) (sgF (look ws ls) (look ws' ls')) ds (0, z0) (1, y0) H G v → Q v G
abbrev nPb : List Str := ["first", "second", "signs", "moves", "number", "desk", "leads", "sights", "one", "deed"]
theorem scPb : FnScope nPb ["first", "second"] (defScope (top 27)) := ⟨rfl, rfl, rfl, by decide +kernel, rfl, by decide +kernel, by decide +kernel⟩
def dn (ws ws' : List Str) : Nat → List No
  | 0 => []
  | 1 => noS 0 ws
  | _ => noS 0 ws ++ noS 1 ws'
theorem noS_more {n : Int} {ws : List Str} {i : Nat} {z : Str} (e : ws[i]? = some z) : noS n (ws.take (i + 1)) = noS n (ws.take i) ++ [(n, z)] := by
  unfold noS
  rw [List.take_add_one, e, List.map_append]
  rfl
theorem noS_mem {n : Int} {ws : List Str} {a : No} : a ∈ noS n ws ↔ a.1 = n ∧ a.2 ∈ ws := by
  unfold noS
  rw [List.mem_map]
  constructor
  · rintro ⟨z, hz, rfl⟩
    exact ⟨rfl, hz⟩
  · rintro ⟨e, h⟩
    exact ⟨a.2, h, by rw [← e]⟩
section
variable {P : Program} {w : World} {K : PySem.W.Frag} {mg : Str → Option Value} {base : Heap} {f C Pt fM fS fP pS gS pD gD pT gT : Addr} {fd dM dS dP dG dD dT : FuncData}
theorem bPb (F : FnP K "parted_by" (top 27) f fd) : Binds K fd ["first", "second"] [] := F.bindsN fun _ _ _ _ _ _ us hl => match us, hl with
  | [_, _], _ => rfl
theorem ok_pb (F : FnP K "parted_by" (top 27) f fd) (me : mg "enumerate" = none) (hC : Cls K C) (PS_ : PropOf K C "standings" pS gS) (GG : FnOk P w K mg base CX0 1 gS dG nSelf (spStd C)) (bG : Binds K dG nSelf [])
    (PD : PropOf K C "deeds" pD gD) (GD : FnOk P w K mg base CX0 1 gD dD nSelf (spDds K C)) (bD_ : Binds K dD nSelf []) (PT : PropOf K C "start" pT gT) (GT : FnOk P w K mg base CX0 1 gT dT nSelf (spSt0 K C)) (bT_ : Binds K dT nSelf [])
    (GM : FnOk P w K mg base CX0 3 fM dM ["desk"] (spMv K C)) (FM : FnP K "desk_moves" (top 23) fM dM) (gM : mg "desk_moves" = some (.ref fM)) (GS : FnOk P w K mg base CX0 3 fS dS ["desk"] (spSi K C)) (FS : FnP K "desk_sights" (top 24) fS dS) (gSi : mg "desk_sights" = some (.ref fS))
    (GP : FnOk P w K mg base CX0 4 fP dP ["one", "other", "signs", "moves"] (spPart Pt)) (kP : PySem.W.keepIn K (.ref fP) = true) (bP_ : Binds K dP ["one", "other", "signs", "moves"] []) (gP : mg "parting" = some (.ref fP)) :
    FnOk P w K mg base CX0 5 f fd ["first", "second"] (spPb K C Pt) := by
  refine F.ok (CX := CX0) scPb (fun vs H Q E h => ?_) (fun cdv A outer s H vs Q E hr h => ?_)
  · obtain ⟨x, y, ws, ds, tb, ls, ws', ds', tb', ls', z0, y0, rfl, _⟩ := h
    rfl
  · have hr3 := hr.mono (show 3 ≤ 4 by decide)
    have hr2 := hr.mono (show 2 ≤ 4 by decide)
    refine ⟨_, PSs.nox (pss_cons (ps_set (i := 2) scPb.nd rfl (.inl rfl) pe_dnewT)
      (pss_cons (ps_set (i := 3) scPb.nd rfl (.inl rfl) pe_dnewT)
      (pss_cons (ps_for PassesOwn.never rfl (pi_enum rfl me (pa_cons (pe_lst (pa_cons (pv 0) (pa_cons (pv 1) pa_nil))) pa_nil)) (pg_tup rfl (pgs_cons (pg_name (i := 4) scPb.nd rfl (.inr rfl)) (pgs_cons (pg_name (i := 5) scPb.nd rfl (.inl rfl)) pgs_nil)))
        (pss_cons (ps_set (i := 6) scPb.nd rfl (.inr rfl) (by exact (pe_call GM hr3 rfl gM FM.kp (bMv FM) .nil pass0 (pa_cons (pv 5) pa_nil))))
        (pss_cons (ps_set (i := 7) scPb.nd rfl (.inl rfl) (by exact (pe_call GS hr3 rfl gSi FS.kp (bSi FS) .nil pass0 (pa_cons (pv 5) pa_nil))))
        (pss_one (ps_for PassesOwn.never rfl (pi_seq (by exact (pe_prop (pv 5) hC PS_ GG hr2 bG .nil pass0 rfl))) (pg_name (i := 8) scPb.nd rfl (.inr rfl))
          (pss_cons (ps_dput (hu_of hr) (pv 2) (by exact (pe_tup (pa_cons (pv 4) (pa_cons (pv 8) pa_nil)))) (by exact (pe_dget (hu_of hr) (pv 7) (pv 8) (fun _ _ => rfl))) (by rfl))
          (pss_one (ps_dput (hu_of hr) (pv 3) (by exact (pe_tup (pa_cons (pv 4) (pa_cons (pv 8) pa_nil)))) (by exact (pe_dc (own := [("deed", 9)]) (g := gName 9) (tt := tYes) (tk := tVar 9) (tv := tTup (tCons (tVar 4) (tCons (tDGet (tDGet (tVar 6) (tVar 8)) (tVar 9)) tNil))) rfl scPb.nd (pi_seq (by exact (pe_prop (pv 5) hC PD GD hr2 bD_ .nil pass0 rfl)))
            (blkOk_by (N := nPb) (sc := defScope (top 27)) (by decide +kernel)) (fun _ _ _ _ _ => pg_name (i := 9) scPb.nd rfl (Or.inl rfl)) (fun _ _ _ _ _ => pts_nil) (fun _ _ _ _ _ => by exact (pv 9))
            (fun _ _ _ _ _ => by exact (pe_tup (pa_cons (by exact (pv 4)) (pa_cons (by exact (pe_dget (hu_of hr) (by exact (pe_dget (hu_of hr) (by exact (pv 6)) (by exact (pv 8)) (fun _ _ => rfl))) (by exact (pv 9)) (fun _ _ => rfl))) pa_nil)))))) (by rfl)))))))))
      (pss_one (ps_ret (by exact (pe_call GP hr rfl gP kP bP_ .nil pass0 (pa_cons (by exact (pe_tup (pa_cons pe_int (pa_cons (by exact (pe_prop (pv 0) hC PT GT hr2 bT_ .nil pass0 rfl)) pa_nil)))) (pa_cons (by exact (pe_tup (pa_cons pe_int (pa_cons (by exact (pe_prop (pv 1) hC PT GT hr2 bT_ .nil pass0 rfl)) pa_nil)))) (pa_cons (pv 2) (pa_cons (pv 3) pa_nil))))))))))), ?_⟩
    obtain ⟨x, y, ws, ds, tb, ls, ws', ds', tb', ls', z0, y0, rfl, ob, is, ob', is', same, ez, ey, hT, q⟩ := h
    have two2 : 2 ≤ sizeLine := by rw [sizeLine_eq]; decide
    have w9 := is.most
    have w9' := is'.most
    have d4 := is.dmost
    have d4' := is'.dmost
    intro so nso mo nmo
    have mos : so ≠ mo := fun z => by
      rw [← z, upd_same] at nmo
      cases nmo
    have nmoH : H mo = none := by
      rw [upd_ne (Ne.symm mos)] at nmo
      exact nmo
    have m1 : Sm H (upd (upd H so (.dT [])) mo (.dT [])) := Sm.trans (Sm.new nso) (Sm.new nmo)
    have eso : upd (upd H so (.dT [])) mo (.dT []) so = some (.dT []) := Sm.new nmo _ _ upd_same
    have emo : upd (upd H so (.dT [])) mo (.dT []) mo = some (.dT []) := upd_same
    generalize upd (upd H so (.dT [])) mo (.dT []) = H1 at m1 eso emo ⊢
    refine ⟨_, rfl, _, rfl, two2, fun l nl => ⟨l, [.ref x, .ref y], rfl, .inl (.inl upd_same), ?_⟩⟩
    have m2 := m1.trans (Sm.new (o := .lst [.ref x, .ref y]) nl)
    have el : upd H1 l (.lst [.ref x, .ref y]) l = some (.lst [.ref x, .ref y]) := upd_same
    replace eso := Sm.new (o := .lst [.ref x, .ref y]) nl _ _ eso
    replace emo := Sm.new (o := .lst [.ref x, .ref y]) nl _ _ emo
    generalize upd H1 l (.lst [.ref x, .ref y]) = H2 at m2 el eso emo ⊢
    clear m1 nl nmo
    obtain ⟨B0, hB0⟩ : ∃ B, B = wo so mo H2 := ⟨_, rfl⟩
    have b0 : Sm B0 H2 := hB0 ▸ wo_le
    have hb0 : Sm H B0 := hB0 ▸ wo_sm m2 nso nmoH
    have lB : B0 l = some (.lst [.ref x, .ref y]) := hB0 ▸ wo_at el (ne_of el eso (fun z => nomatch z)) (ne_of el emo (fun z => nomatch z))
    have soB : B0 so = none := hB0 ▸ wo_l
    have moB : B0 mo = none := hB0 ▸ wo_r
    clear hB0
    obtain ⟨nx, hnx⟩ : ∃ nx, nx = nxF (nxt ws ds tb) (nxt ws' ds' tb') := ⟨_, rfl⟩
    obtain ⟨sg, hsg⟩ : ∃ sg, sg = sgF (look ws ls) (look ws' ls') := ⟨_, rfl⟩
    obtain ⟨dz, hdz⟩ : ∃ dz, dz = two ds ds' := ⟨_, rfl⟩
    refine for_it (walk_enum (xs := [.ref x, .ref y])) (fun j σ G => ∃ v4 v5 v6 v7 v8 v9 : Option V, σ = [some (.ref x), some (.ref y), some (.ref so), some (.ref mo), v4, v5, v6, v7, v8, v9] ∧ SgD G so (dn ws ws' j) sg ∧ MoD G mo (dn ws ws' j) dz nx ∧ Sm B0 G)
      ⟨none, none, none, none, none, none, rfl, ⟨[], eso, Nat.le_refl _, fun a h => nomatch h⟩, ⟨[], emo, Nat.le_refl _, fun a h => nomatch h⟩, b0⟩ (fun j σ G _ p => ?_) (fun j yv σ G G' hj p yy => ?_) (fun σ G p => ?_)
    · obtain ⟨_, _, _, _, _, _, _, _, _, mm⟩ := p
      exact .inl (.inl (mm _ _ lB))
    · obtain ⟨v4, v5, v6, v7, v8, v9, rfl, sD, mD, mm⟩ := p
      obtain ⟨T, x1, x2, rfl, nT, rfl, e1, e2⟩ := yy
      have e1 := Option.some.inj e1
      subst e1
      obtain ⟨xd, wj, dj, tbj, lsj, rfl, obj, isj, dnj, nxj, sgj, dzj, dl⟩ : ∃ (xd : Addr) (wj dj : List Str) (tbj : List (List Str)) (lsj : List Str), x2 = .ref xd ∧ DeskOb K C B0 xd wj dj tbj lsj ∧ DkIs 9 wj dj tbj lsj ∧ dn ws ws' (j + 1) = dn ws ws' j ++ noS ((j : Nat) : Int) wj ∧
          (∀ z d, nx (((j : Nat) : Int), z) d = (((j : Nat) : Int), nxt wj dj tbj z d)) ∧ (∀ z, sg (((j : Nat) : Int), z) = look wj lsj z) ∧ dz ((j : Nat) : Int) = dj ∧ (dn ws ws' j).length ≤ 9 := by
        match j, hj, e2 with
        | 0, _, e2 =>
          refine ⟨x, ws, ds, tb, ls, (Option.some.inj e2).symm, ob.sm hb0, is, rfl, fun z d => ?_, fun z => ?_, ?_, Nat.zero_le _⟩
          · rw [hnx]
            rfl
          · rw [hsg]
            rfl
          · rw [hdz]
            rfl
        | 1, _, e2 =>
          refine ⟨y, ws', ds', tb', ls', (Option.some.inj e2).symm, ob'.sm hb0, is', rfl, fun z d => ?_, fun z => ?_, ?_, ?_⟩
          · rw [hnx]
            rfl
          · rw [hsg]
            rfl
          · rw [hdz]
            rfl
          · show (ws.map _).length ≤ 9
            rw [List.length_map]
            exact w9
        | j + 2, hj, _ => exact absurd (show j + 2 < 2 from hj) (by omega)
      obtain ⟨dx, st, ld, si, as, hx, hst, hld, hsi, pr⟩ := id obj
      have mT := Sm.new (o := .tup [.int ((j : Nat) : Int), .ref xd]) nT
      refine ⟨T, _, rfl, .inl (.inl upd_same), rfl, _, _, rfl, _, _, rfl, rfl, ?_⟩
      replace sD := sD.sm mT
      replace mD := mD.sm mT
      replace mm := mm.trans mT
      generalize upd G T (.tup [.int ((j : Nat) : Int), .ref xd]) = G1 at sD mD mm ⊢
      clear mT nT
      refine ⟨_, rfl, xd, wj, dj, tbj, lsj, 9, rfl, obj.sm mm, isj, Nat.le_refl _, fun lq bs G2 m2 _ mv => ⟨_, rfl, xd, wj, dj, tbj, lsj, 9, rfl, obj.sm (mm.trans m2), isj, Nat.le_refl _, fun sq G3 m3 _ esq => ?_⟩⟩
      replace mv := mv.sm m3
      replace sD := sD.sm (m2.trans m3)
      replace mD := mD.sm (m2.trans m3)
      replace mm := mm.trans (m2.trans m3)
      clear m2 m3
      obtain ⟨k1, sk1, _⟩ := id sD
      obtain ⟨k2, mk1, _⟩ := id mD
      obtain ⟨B1, hB1⟩ : ∃ B, B = wo so mo G3 := ⟨_, rfl⟩
      have keep : ∀ {c : Addr} {o : HO}, G3 c = some o → (∀ k, o ≠ .dT k) → B1 c = some o := fun {c o} e n => hB1 ▸ wo_at e (ne_of e sk1 (n _)) (ne_of e mk1 (n _))
      have b1 : Sm B1 G3 := hB1 ▸ wo_le
      have b01 : Sm B0 B1 := hB1 ▸ wo_sm mm soB moB
      have so1 : B1 so = none := hB1 ▸ wo_l
      have mo1 : B1 mo = none := hB1 ▸ wo_r
      have mvB : MvAt B1 lq wj dj bs (nxt wj dj tbj) := ⟨keep mv.at_ (fun _ z => nomatch z), pair_mono mv.rows fun b _ z e => ⟨e.1, keep e.2 (fun _ z => nomatch z)⟩, mv.few, mv.deeds, mv.dnd⟩
      have sqB : B1 sq = some (.dK (dkv wj (lsj.map V.str))) := keep esq (fun _ z => nomatch z)
      clear keep hB1 mv esq sk1 mk1
      have obB := obj.sm b01
      obtain ⟨_, hxB⟩ : ∃ o, B1 xd = some o := ⟨_, b01 _ _ hx⟩
      have hxB := b01 _ _ hx
      have hstB := SqT.sm hst b01
      refine ⟨_, rfl, xd, dx, _, rfl, b1 _ _ hxB, xd, dx, st, ld, si, rfl, b1 _ _ hxB, st, wj.map V.str, rfl, .inr ⟨SqT.sm hstB b1, ?_⟩⟩
      refine for_it (walk_tup (xs := wj.map V.str)) (fun i σ G => ∃ v8 v9 : Option V, σ = [some (.ref x), some (.ref y), some (.ref so), some (.ref mo), some (.int ((j : Nat) : Int)), some (.ref xd), some (.ref lq), some (.ref sq), v8, v9] ∧ SgD G so (dn ws ws' j ++ noS ((j : Nat) : Int) (wj.take i)) sg ∧ MoD G mo (dn ws ws' j ++ noS ((j : Nat) : Int) (wj.take i)) dz nx ∧ Sm B1 G)
        ⟨v8, v9, rfl, by rw [List.take_zero]; show SgD G3 so (dn ws ws' j ++ []) sg; rw [List.append_nil]; exact sD, by rw [List.take_zero]; show MoD G3 mo (dn ws ws' j ++ []) dz nx; rw [List.append_nil]; exact mD, b1⟩ (fun i σ G _ p => ?_) (fun i x0 σ G G' hi p yy => ?_) (fun σ G p => ?_)
      · obtain ⟨_, _, _, _, _, mB⟩ := p
        exact SqT.sm hstB mB
      · obtain ⟨v8, v9, rfl, sD, mD, mB⟩ := p
        obtain ⟨rfl, ex⟩ := yy
        obtain ⟨z, ez1, rfl⟩ : ∃ z, wj[i]? = some z ∧ x0 = .str z := by
          rw [List.getElem?_map] at ex
          cases e : wj[i]? with
          | none =>
            rw [e] at ex
            cases ex
          | some d =>
            rw [e] at ex
            exact ⟨d, rfl, (Option.some.inj ex).symm⟩
        have hz := List.mem_of_getElem? ez1
        have few : (dn ws ws' j ++ noS ((j : Nat) : Int) (wj.take i)).length ≤ 18 := by
          have := isj.most
          rw [List.length_append]
          unfold noS
          rw [List.length_map, List.length_take]
          omega
        rw [noS_more ez1, ← List.append_assoc]
        -- its sign
        refine ⟨_, rfl, _, rfl, sq, .str (look wj lsj z), rfl, .inl ⟨_, .inr z, .inl (mB _ _ sqB), rfl, (look_at isj.looks hz).symm⟩, _, rfl, _, rfl, _, rfl, two2, fun kp nkp => ?_⟩
        have mk := Sm.new (o := .tup [.int ((j : Nat) : Int), .str z]) nkp
        obtain ⟨kvs, h1, h2, h3⟩ := sD.sm mk
        replace mD := mD.sm mk
        replace mB := mB.trans mk
        refine ⟨so, _, rfl, DPut.t (k := noK (((j : Nat) : Int), z)) h1 upd_same (by rw [sizeLine_eq]; omega), ?_⟩
        generalize upd G' kp (.tup [.int ((j : Nat) : Int), .str z]) = G4 at h1 mD mB ⊢
        have sD := SgD.put (a := (((j : Nat) : Int), z)) h1 h2 h3
        replace mD := mD.other (Ne.symm mos) h1 (o := .dT (putK kvs (noK (((j : Nat) : Int), z)) (.str (sg (((j : Nat) : Int), z)))))
        replace mB : Sm B1 (upd G4 so (.dT (putK kvs (noK (((j : Nat) : Int), z)) (.str (sg (((j : Nat) : Int), z)))))) := fun b o e => by
          rw [upd_ne (fun q => by rw [q, so1] at e; cases e)]
          exact mB b o e
        rw [show look wj lsj z = sg (((j : Nat) : Int), z) from (sgj z).symm]
        generalize upd G4 so (.dT (putK kvs (noK (((j : Nat) : Int), z)) (.str (sg (((j : Nat) : Int), z))))) = G5 at sD mD mB ⊢
        clear h1 h2 h3 mk
        -- where its deeds lead
        refine ⟨_, rfl, xd, dx, _, rfl, mB _ _ hxB, xd, wj, dj, tbj, lsj, rfl, obB.sm mB, isj.rows, fun t1 G6 m6 _ e6 => ⟨t1, dj.map V.str, rfl, .inr ⟨.inl (.inl e6), ?_⟩⟩⟩
        replace sD := sD.sm m6
        replace mD := mD.sm m6
        replace mB := mB.trans m6
        have dj4 := isj.dmost
        refine dc_it walk_tup (fun _ => rfl) (fun D i G => ∃ ts : List Addr, ts.length = i ∧ G D = some (.dK (dkv (dj.take i) (ts.map V.ref))) ∧ Paired (fun t d => G t = some (.tup (noV (nx (((j : Nat) : Int), z) d)))) ts (dj.take i) ∧ Sm G6 G)
          (fun D nD => ⟨[], rfl, upd_same, .nil, Sm.new nD⟩) (fun D i G _ ⟨_, _, _, _, m⟩ => .inl (.inl (m _ _ e6))) (fun D i2 x0 G G' nD hi2 p yy => ?_) (fun D G nD p => ?_)
        · obtain ⟨ts, tl, eD, pt, m⟩ := p
          obtain ⟨rfl, ex⟩ := yy
          obtain ⟨d, ed, rfl⟩ : ∃ d, dj[i2]? = some d ∧ x0 = .str d := by
            rw [List.getElem?_map] at ex
            cases e : dj[i2]? with
            | none =>
              rw [e] at ex
              cases ex
            | some d =>
              rw [e] at ex
              exact ⟨d, rfl, (Option.some.inj ex).symm⟩
          have hd := List.mem_of_getElem? ed
          obtain ⟨b, vb, bmo, hb⟩ := (mvB.sm (mB.trans m)).row hz
          refine ⟨_, rfl, _, rfl, _, rfl, _, rfl, lq, .ref b, rfl, .inl ⟨_, .inr z, .inl (mvB.sm (mB.trans m)).at_, rfl, vb.symm⟩, _, rfl, b, .str (nxt wj dj tbj z d), rfl, .inl ⟨_, .inr d, .inl hb, rfl, (row_at hd).symm⟩, two2, fun tp ntp => ?_⟩
          have mt := Sm.new (o := .tup [.int ((j : Nat) : Int), .str (nxt wj dj tbj z d)]) ntp
          have et : upd G' tp (.tup [.int ((j : Nat) : Int), .str (nxt wj dj tbj z d)]) tp = some (.tup (noV (nx (((j : Nat) : Int), z) d))) := by
            rw [nxj]
            exact upd_same
          generalize upd G' tp (.tup [.int ((j : Nat) : Int), .str (nxt wj dj tbj z d)]) = G7 at mt et ⊢
          have il : i2 < dj.length := (List.getElem?_eq_some_iff.mp ed).1
          have tk : dj.take (i2 + 1) = dj.take i2 ++ [d] := by
            rw [List.take_add_one, ed]
            rfl
          have l1 : ts.length = (dj.take i2).length := by
            rw [List.length_take]
            omega
          have D7 := mt _ _ eD
          have kt : ∀ {c : Addr} {xs : List V} {u : HO}, G7 c = some (.tup xs) → upd G7 D u c = some (.tup xs) := fun {c xs u} e => by
            rw [upd_ne (ne_of e D7 (fun z => nomatch z))]
            exact e
          refine ⟨_, .inr d, rfl, D7, by rw [dkv_len (by rw [List.length_map]; omega), List.length_take, sizeLine_eq]; omega, ts ++ [tp], by rw [List.length_append, tl]; rfl, ?_, ?_, ?_⟩
          · rw [upd_same, put_dkv l1 (by rw [← tk]; exact isj.dnd.sublist (List.take_sublist _ _)), tk]
          · rw [tk]
            exact pair_more (pair_mono pt fun t _ d e => kt (mt _ _ e)) (kt et)
          · intro b o eb
            rw [upd_ne (ne_of_none eb nD)]
            exact mt _ _ (m _ _ eb)
        · obtain ⟨ts, tl, eD, pt, m⟩ := p
          rw [List.length_map, List.take_length] at eD pt
          replace sD := sD.sm m
          replace mD := mD.sm m
          replace mB := mB.trans m
          refine ⟨_, rfl, _, rfl, _, rfl, two2, fun kp nkp => ?_⟩
          have mk := Sm.new (o := .tup [.int ((j : Nat) : Int), .str z]) nkp
          obtain ⟨kvs, h1, h2, h3⟩ := mD.sm mk
          replace sD := sD.sm mk
          replace mB := mB.trans mk
          replace eD := mk _ _ eD
          replace pt : Paired (fun t d => upd G kp (.tup [.int ((j : Nat) : Int), .str z]) t = some (.tup (noV (nx (((j : Nat) : Int), z) d)))) ts dj := pair_mono pt fun t _ d e => mk _ _ e
          refine ⟨mo, _, rfl, DPut.t (k := noK (((j : Nat) : Int), z)) h1 upd_same (by rw [sizeLine_eq]; omega), ?_⟩
          generalize upd G kp (.tup [.int ((j : Nat) : Int), .str z]) = G8 at h1 h3 sD mB eD pt ⊢
          refine ⟨_, _, rfl, sD.other mos, MoD.put (a := (((j : Nat) : Int), z)) h1 h2 h3 (by rw [dzj]; exact eD) (by rw [dzj]; exact pt), fun b o e => ?_⟩
          rw [upd_ne (fun q => by rw [q, mo1] at e; cases e)]
          exact mB b o e
      · obtain ⟨v8, v9, rfl, sD, mD, mB⟩ := p
        rw [List.length_map, List.take_length, ← dnj] at sD mD
        exact ⟨_, _, _, _, _, _, rfl, sD, mD, b01.trans mB⟩
    · obtain ⟨v4, v5, v6, v7, v8, v9, rfl, sD, mD, mm⟩ := p
      have sD : SgD G so (noS 0 ws ++ noS 1 ws') sg := sD
      have mD : MoD G mo (noS 0 ws ++ noS 1 ws') dz nx := mD
      have mH := hb0.trans mm
      obtain ⟨dx, _, _, _, _, hx, _⟩ := id ob
      obtain ⟨dy, _, _, _, _, hy, _⟩ := id ob'
      refine ⟨_, rfl, x, dx, _, rfl, mH _ _ hx, x, z0, ws, ds, tb, ls, rfl, ob.sm mH, ez, two2, fun p1 np1 => ?_⟩
      have n1 := Sm.new (o := .tup [.int 0, .str z0]) np1
      have e1 : upd G p1 (.tup [.int 0, .str z0]) p1 = some (.tup (noV (0, z0))) := upd_same
      replace sD := sD.sm n1
      replace mD := mD.sm n1
      replace mH := mH.trans n1
      generalize upd G p1 (.tup [.int 0, .str z0]) = G1 at e1 sD mD mH ⊢
      refine ⟨_, rfl, y, dy, _, rfl, mH _ _ hy, y, y0, ws', ds', tb', ls', rfl, ob'.sm mH, ey, two2, fun p2 np2 => ?_⟩
      have n2 := Sm.new (o := .tup [.int 1, .str y0]) np2
      have e2 : upd G1 p2 (.tup [.int 1, .str y0]) p2 = some (.tup (noV (1, y0))) := upd_same
      replace e1 := n2 _ _ e1
      replace sD := sD.sm n2
      replace mD := mD.sm n2
      replace mH := mH.trans n2
      generalize upd G1 p2 (.tup [.int 1, .str y0]) = G2 at e1 e2 sD mD mH ⊢
      obtain ⟨k1, s1, _, s3⟩ := sD
      obtain ⟨k2, q1, _, q3⟩ := mD
      have hin : ∀ n d, d ∈ dz n ↔ d ∈ ds := fun n d => by
        rw [hdz]
        unfold two
        by_cases c : n = 0
        · rw [if_pos c]
        · rw [if_neg c]
          exact (same d).symm
      have z0m : (0, z0) ∈ noS 0 ws ++ noS 1 ws' := List.mem_append_left _ (noS_mem.mpr ⟨rfl, List.mem_of_getElem? ez⟩)
      have y0m : (1, y0) ∈ noS 0 ws ++ noS 1 ws' := List.mem_append_right _ (noS_mem.mpr ⟨rfl, List.mem_of_getElem? ey⟩)
      refine ⟨_, rfl, _, rfl, so, mo, p1, p2, (0, z0), (1, y0), noS 0 ws ++ noS 1 ws', sg, dz, ds, nx, rfl, e1, e2, ⟨k1, s1, s3⟩, ⟨⟨k2, q1, q3⟩, ?_, fun n => ?_⟩, hin, fun a ha d hd => ?_, z0m, y0m, TabsN.ext hT mH, fun v G3 ext tabs out => ?_⟩
      · rw [List.length_append]
        unfold noS
        rw [List.length_map, List.length_map]
        omega
      · rw [hdz]
        unfold two
        split
        · exact d4
        · exact d4'
      · rw [hnx]
        unfold nxF two
        rcases List.mem_append.mp ha with h | h
        · obtain ⟨a1, a2⟩ := noS_mem.mp h
          refine List.mem_append_left _ (noS_mem.mpr ⟨a1, ?_⟩)
          show (if a.1 = 0 then nxt ws ds tb else nxt ws' ds' tb') a.2 d ∈ ws
          rw [if_pos a1]
          obtain ⟨_, _, _, _, _, _, _, _, _, pr⟩ := id ob
          obtain ⟨_, _, _, h⟩ := ob_step pr is hd a2
          exact h
        · obtain ⟨a1, a2⟩ := noS_mem.mp h
          refine List.mem_append_right _ (noS_mem.mpr ⟨a1, ?_⟩)
          show (if a.1 = 0 then nxt ws ds tb else nxt ws' ds' tb') a.2 d ∈ ws'
          rw [if_neg (by rw [a1]; decide)]
          obtain ⟨_, _, _, _, _, _, _, _, _, pr⟩ := id ob'
          obtain ⟨_, _, _, h⟩ := ob_step pr is' ((same d).mp hd) a2
          exact h
      · refine q v G3 ((ExtN.of mH).trans ext) tabs ?_
        rw [hnx, hsg] at out
        rcases out with o | ⟨rr, row, o1, o2, o3⟩
        · exact .inl o
        · exact .inr ⟨rr, row, o1, fun o eo => o2 o (mH _ _ eo), o3⟩
end
end Dk
set_option Elab.async false
set_option linter.all false
set_option maxRecDepth 100000
set_option maxHeartbeats 8000000
namespace Dk
open PySem PySem.Spec PyProof.Rows L2 Er LamX NdefX Bf
open PySem.ErK (EC)
/-! ### desks_alike, desks_parted -/
/-- two desks, as they stand -/
structure TwoD (K : PySem.W.Frag) (C : Addr) (H : Hp) (x y : Addr) (ws ds : List Str) (tb : List (List Str)) (ls ws' ds' : List Str) (tb' : List (List Str)) (ls' : List Str) (z0 y0 : Str) : Prop where
  ob : DeskOb K C H x ws ds tb ls
  is : DkIs 9 ws ds tb ls
  ob' : DeskOb K C H y ws' ds' tb' ls'
  is' : DkIs 9 ws' ds' tb' ls'
  z : ws[0]? = some z0
  y : ws'[0]? = some y0
theorem TwoD.sm {K : PySem.W.Frag} {C : Addr} {H G : Hp} {x y : Addr} {ws ds : List Str} {tb : List (List Str)} {ls ws' ds' : List Str} {tb' : List (List Str)} {ls' : List Str} {z0 y0 : Str} (h : TwoD K C H x y ws ds tb ls ws' ds' tb' ls' z0 y0) (m : Sm H G) : TwoD K C G x y ws ds tb ls ws' ds' tb' ls' z0 y0 := ⟨h.ob.sm m, h.is, h.ob'.sm m, h.is', h.z, h.y⟩
abbrev Parts (ws ds : List Str) (tb : List (List Str)) (ls ws' ds' : List Str) (tb' : List (List Str)) (ls' : List Str) (z0 y0 : Str) (k : Nat) : Prop := Ap.Sep (nxF (nxt ws ds tb) (nxt ws' ds' tb')) (sgF (look ws ls) (look ws' ls')) ds (0, z0) (1, y0) k
def spDa (K : PySem.W.Frag) (C Pt : Addr) : Sp := fun vs H Q _ => ∃ (x y : Addr) (ws ds : List Str) (tb : List (List Str)) (ls ws' ds' : List Str) (tb' : List (List Str)) (ls' : List Str) (z0 y0 : Str), vs = [.ref x, .ref y] ∧ TwoD K C H x y ws ds tb ls ws' ds' tb' ls' z0 y0 ∧ TabsN (partT Pt) H ∧
  ∀ (b : Bool) G, ExtN H G → TabsN (partT Pt) G → (b = true ↔ (∀ d, d ∈ ds ↔ d ∈ ds') ∧ ∀ k, ¬ Parts ws ds tb ls ws' ds' tb' ls' z0 y0 k) → Q (.bl b) G
def spDp (K : PySem.W.Frag) (C CB Pt : Addr) : Sp := fun vs H Q E => ∃ (x y : Addr) (ws ds : List Str) (tb : List (List Str)) (ls ws' ds' : List Str) (tb' : List (List Str)) (ls' : List Str) (z0 y0 : Str), vs = [.ref x, .ref y] ∧ TwoD K C H x y ws ds tb ls ws' ds' tb' ls' z0 y0 ∧ TabsN (partT Pt) H ∧
  ((∀ d, d ∈ ds ↔ d ∈ ds') → ∀ v G, ExtN H G → TabsN (partT Pt) G → PtOut (nxF (nxt ws ds tb) (nxt ws' ds' tb')) (sgF (look ws ls) (look ws' ls')) ds (0, z0) (1, y0) H G v → Q v G) ∧
  (¬ (∀ d, d ∈ ds ↔ d ∈ ds') → ∀ (t d : Addr) G, Sm H G → H t = none → H d = none → G d = some (.xd [("value", .ref t)]) → G t = some (.tup (ds'.map V.str)) → E (.ref CB) (some d) G)
abbrev nDa : List Str := ["first", "second"]
theorem scDa : FnScope nDa nDa (defScope (top 28)) := ⟨rfl, rfl, rfl, by decide +kernel, rfl, by decide +kernel, by decide +kernel⟩
theorem scDp : FnScope nDa nDa (defScope (top 29)) := ⟨rfl, rfl, rfl, by decide +kernel, rfl, by decide +kernel, by decide +kernel⟩
theorem scErD : FnScope ["self", "value"] ["self", "value"] (defScope (ini (top 4))) := ⟨rfl, rfl, rfl, by decide +kernel, rfl, by decide +kernel, by decide +kernel⟩
section
variable {P : Program} {w : World} {K : PySem.W.Frag} {mg : Str → Option Value} {base : Heap} {f C CB Pt fH fP fI pD gD : Addr} {fd dH dP dI dD : FuncData}
theorem ok_erD (B : Bad K mg "BadDeeds" "value" (ini (top 4)) CB fI dI) : FnOk P w K mg base CX0 1 fI dI ["self", "value"] (spErr K "value") := by
  refine B.F.ok (CX := CX0) scErD (fun vs H Q E h => ?_) (fun cdv A outer s H vs Q E hr h => ?_)
  · obtain ⟨a, C, v, rfl, _⟩ := h
    rfl
  · refine ⟨_, PSs.nox (pss_one (ps_ost (pv 0) (pv 1))), ?_⟩
    obtain ⟨a, C, v, rfl, T, no, ha, q⟩ := h
    exact ⟨_, rfl, _, rfl, a, C, rfl, T, no, .inl ⟨ha, q⟩⟩
theorem bErD (B : Bad K mg "BadDeeds" "value" (ini (top 4)) CB fI dI) : Binds K dI ["self", "value"] [] := B.F.bindsN fun _ _ _ _ _ _ us hl => match us, hl with
  | [_, _], _ => rfl
theorem bDa (F : FnP K "desks_alike" (top 28) f fd) : Binds K fd nDa [] := F.bindsN fun _ _ _ _ _ _ us hl => match us, hl with
  | [_, _], _ => rfl
theorem bDp (F : FnP K "desks_parted" (top 29) f fd) : Binds K fd nDa [] := F.bindsN fun _ _ _ _ _ _ us hl => match us, hl with
  | [_, _], _ => rfl
theorem ok_da (F : FnP K "desks_alike" (top 28) f fd) (GH : FnOk P w K mg base CX0 3 fH dH nHs (spHs K C)) (FH : FnP K "have_same_deeds" (top 26) fH dH) (gH : mg "have_same_deeds" = some (.ref fH))
    (GP : FnOk P w K mg base CX0 5 fP dP ["first", "second"] (spPb K C Pt)) (FP : FnP K "parted_by" (top 27) fP dP) (gP : mg "parted_by" = some (.ref fP)) : FnOk P w K mg base CX0 6 f fd nDa (spDa K C Pt) := by
  refine F.ok (CX := CX0) scDa (fun vs H Q E h => ?_) (fun cdv A outer s H vs Q E hr h => ?_)
  · obtain ⟨x, y, ws, ds, tb, ls, ws', ds', tb', ls', z0, y0, rfl, _⟩ := h
    rfl
  · have hr3 := hr.mono (show 3 ≤ 5 by decide)
    refine ⟨_, PSs.nox (pss_one (ps_ret (by exact (pe_and (by exact (pe_call GH hr3 rfl gH FH.kp (bHs FH) .nil pass0 (pa_cons (pv 0) (pa_cons (pv 1) pa_nil)))) (pe_one (by exact (pe_cmpR op_isN (by exact (pe_call GP hr rfl gP FP.kp (bPb FP) .nil pass0 (pa_cons (pv 0) (pa_cons (pv 1) pa_nil)))) pe_non (nomark _)))))))), ?_⟩
    obtain ⟨x, y, ws, ds, tb, ls, ws', ds', tb', ls', z0, y0, rfl, p2, hT, q⟩ := h
    refine ⟨_, rfl, _, rfl, x, y, ws, ds, tb, ls, 9, ws', ds', tb', ls', 9, rfl, p2.ob, p2.is, p2.ob', p2.is', fun b G m hb => ⟨_, rfl, ?_⟩⟩
    cases b with
    | false => exact iteF (q false G (ExtN.of m) (TabsN.ext hT m) ⟨(fun z => nomatch z), fun z => absurd (hb.mpr z.1) (by decide)⟩)
    | true =>
      have same := hb.mp rfl
      have p3 := p2.sm m
      refine iteT ⟨_, rfl, _, rfl, x, y, ws, ds, tb, ls, ws', ds', tb', ls', z0, y0, rfl, p3.ob, p3.is, p3.ob', p3.is', same, p3.z, p3.y, TabsN.ext hT m, fun v G2 ext tabs out => ?_⟩
      have e2 := (ExtN.of m).trans ext
      rcases out with ⟨rfl, no⟩ | ⟨rr, row, rfl, _, _, _, _, _, mn⟩
      · refine ⟨rfl, q _ G2 e2 tabs ?_⟩
        rw [decide_eq_true rfl]
        exact ⟨fun _ => ⟨same, no⟩, fun _ => rfl⟩
      · refine ⟨rfl, q _ G2 e2 tabs ?_⟩
        rw [show decide (V.ref rr = V.non) = false from rfl]
        exact ⟨(fun z => nomatch z), fun z => absurd mn.1 (z.2 _)⟩
theorem ok_dp (F : FnP K "desks_parted" (top 29) f fd) (B : Bad K mg "BadDeeds" "value" (ini (top 4)) CB fI dI) (hC : Cls K C) (PD : PropOf K C "deeds" pD gD) (GD : FnOk P w K mg base CX0 1 gD dD nSelf (spDds K C)) (bD_ : Binds K dD nSelf [])
    (GH : FnOk P w K mg base CX0 3 fH dH nHs (spHs K C)) (FH : FnP K "have_same_deeds" (top 26) fH dH) (gH : mg "have_same_deeds" = some (.ref fH))
    (GP : FnOk P w K mg base CX0 5 fP dP ["first", "second"] (spPb K C Pt)) (FP : FnP K "parted_by" (top 27) fP dP) (gP : mg "parted_by" = some (.ref fP)) : FnOk P w K mg base (L2.CX P w) 6 f fd nDa (spDp K C CB Pt) := by
  refine F.ok (CX := L2.CX P w) scDp (fun vs H Q E h => ?_) (fun cdv A outer s H vs Q E hr h => ?_)
  · obtain ⟨x, y, ws, ds, tb, ls, ws', ds', tb', ls', z0, y0, rfl, _⟩ := h
    rfl
  · have GE : FnOk P w K mg base CX0 1 fI dI ["self", "value"] (spErr K "value") := ok_erD B
    have hr3 := hr.mono (show 3 ≤ 5 by decide)
    have hr2 := hr.mono (show 2 ≤ 5 by decide)
    refine ⟨_, pss_cons (ps_if (pt_not (pt_val (by exact (pe_call GH hr3 rfl gH FH.kp (bHs FH) .nil pass0 (pa_cons (pv 0) (pa_cons (pv 1) pa_nil)))))) (pss_one (ps_raise rfl (takes_of rfl rfl rfl rfl) (pmk_oex (e := .Attribute (.Name "second" _) "deeds" _) (es := []) B.ec.ox B.ec.iC B.ec.tI GE hr2 (bErD B) .nil pass0 rfl B.gl (pa_cons (by exact (pe_prop (pv 1) hC PD GD hr2 bD_ .nil pass0 rfl)) pa_nil)))) pss_nil)
      (PSs.nox (pss_one (ps_ret (by exact (pe_call GP hr rfl gP FP.kp (bPb FP) .nil pass0 (pa_cons (pv 0) (pa_cons (pv 1) pa_nil))))))), ?_⟩
    obtain ⟨x, y, ws, ds, tb, ls, ws', ds', tb', ls', z0, y0, rfl, p2, hT, qy, qn⟩ := h
    refine ⟨_, rfl, _, rfl, x, y, ws, ds, tb, ls, 9, ws', ds', tb', ls', 9, rfl, p2.ob, p2.is, p2.ob', p2.is', fun b G m hb => ⟨_, rfl, ?_⟩⟩
    have p3 := p2.sm m
    cases b with
    | true =>
      have same := hb.mp rfl
      refine iteF ⟨_, rfl, _, rfl, x, y, ws, ds, tb, ls, ws', ds', tb', ls', z0, y0, rfl, p3.ob, p3.is, p3.ob', p3.is', same, p3.z, p3.y, TabsN.ext hT m, fun v G2 ext tabs out => qy same v G2 ((ExtN.of m).trans ext) tabs ?_⟩
      rcases out with o | ⟨rr, row, o1, o2, o3⟩
      · exact .inl o
      · exact .inr ⟨rr, row, o1, fun o eo => o2 o (m _ _ eo), o3⟩
    | false =>
      have no : ¬ (∀ d, d ∈ ds ↔ d ∈ ds') := fun z => absurd (hb.mpr z) (by decide)
      obtain ⟨dy, _, _, _, _, hy, _⟩ := id p3.ob'
      refine iteT ⟨_, rfl, y, dy, _, rfl, hy, y, ws', ds', tb', ls', rfl, p3.ob', p3.is'.rows, fun t G2 m2 nt et => bad_reads B.ec.ox B.ec.noN fun d nd => ?_⟩
      have n1 := Sm.new (o := .xd [("value", .ref t)]) nd
      exact qn no t d _ (m.trans (m2.trans n1)) (none_of_sm m nt) (none_of_sm (m.trans m2) nd) upd_same (n1 _ _ et)
end
end Dk
set_option Elab.async false
set_option linter.all false
set_option maxRecDepth 100000
set_option maxHeartbeats 8000000
namespace Dk
open PySem PySem.Spec PyProof.Rows L2 Er LamX NdefX Bf
/-! ### _law_refused -/
def spRe (K : PySem.W.Frag) (C Pt : Addr) : Sp := fun vs H Q _ => ∃ (x y : Addr) (ws ds : List Str) (tb : List (List Str)) (ls ws' ds' : List Str) (tb' : List (List Str)) (ls' : List Str) (z0 y0 : Str), vs = [.ref x, .ref y] ∧ TwoD K C H x y ws ds tb ls ws' ds' tb' ls' z0 y0 ∧ TabsN (partT Pt) H ∧ ¬ (∀ d, d ∈ ds ↔ d ∈ ds') ∧
  ∀ (p t : Addr) G, Sm H G → H p = none → G p = some (.tup [.str "deeds", .ref t]) → G t = some (.tup (ds'.map V.str)) → Q (.ref p) G
abbrev nRe : List Str := ["_law_first", "_law_second", "_law_found", "error"]
theorem scRe : FnScope nRe ["_law_first", "_law_second"] (defScope (top 51)) := ⟨rfl, rfl, rfl, by decide +kernel, rfl, by decide +kernel, by decide +kernel⟩
section
variable {P : Program} {w : World} {K : PySem.W.Frag} {mg : Str → Option Value} {base : Heap} {f fI C CB Pt fR : Addr} {fd dI dR : FuncData}
theorem bRe (F : FnP K "_law_refused" (top 51) f fd) : Binds K fd ["_law_first", "_law_second"] [] := F.bindsN fun _ _ _ _ _ _ us hl => match us, hl with
  | [_, _], _ => rfl
theorem ok_re (F : FnP K "_law_refused" (top 51) f fd) (B : Bad K mg "BadDeeds" "value" (ini (top 4)) CB fI dI) (te : PySem.W.exmOne K (.ref CB) (.ref CB) = some true)
    (GR : FnOk P w K mg base (L2.CX P w) 6 fR dR nDa (spDp K C CB Pt)) (FR : FnP K "desks_parted" (top 29) fR dR) (gR : mg "desks_parted" = some (.ref fR)) :
    FnOk P w K mg base CX0 7 f fd ["_law_first", "_law_second"] (spRe K C Pt) := by
  refine F.ok (CX := CX0) scRe (fun vs H Q E h => ?_) (fun cdv A outer s H vs Q E hr h => ?_)
  · obtain ⟨x, y, ws, ds, tb, ls, ws', ds', tb', ls', z0, y0, rfl, _⟩ := h
    rfl
  · refine ⟨_, PSs.nox (pss_cons (ps_set (i := 2) scRe.nd rfl (.inl rfl) pe_non)
      (pss_cons (ps_try_as (i := 3) (c := .ref CB) (Wout := fun _ _ _ _ => False) rfl rfl scRe.nd rfl rfl ⟨rfl, by decide, .inl B.gl⟩ takesN
        (fun W pn xe tk _ => pss_one (ps_set (i := 2) scRe.nd rfl (.inl rfl) (pe_tup (pa_cons pe_str (pa_cons (by exact (pe_callS GR hr rfl gR FR.kp (bDp FR) (fun σ => passAt tk σ) (pa_cons (pv 0) (pa_cons (pv 1) pa_nil)))) pa_nil)))))
        (fun a oe cls d pn hz hf => by exact (pss_one (ps_set (i := 2) scRe.nd rfl (.inl rfl) (pe_tup (pa_cons pe_str (pa_cons (by exact (pe_xf (C := CB) B.ec.xf B.ec.noN hz hf (pv 3))) pa_nil)))))))
      (pss_one (ps_ret (pv 2))))), ?_⟩
    obtain ⟨x, y, ws, ds, tb, ls, ws', ds', tb', ls', z0, y0, rfl, p2, hT, no, q⟩ := h
    have two : 2 ≤ sizeLine := by rw [sizeLine_eq]; decide
    refine ⟨_, rfl, _, rfl, x, y, ws, ds, tb, ls, ws', ds', tb', ls', z0, y0, rfl, p2, hT, fun same => absurd same no, fun _ t d G mG nt nd ed et => ⟨true, te, fun _ a na => ?_, fun z => nomatch z⟩⟩
    exact ⟨_, rfl, rfl, rfl, d, _, .ref t, rfl, ed, rfl, two, fun p np => ⟨_, rfl, q p t _ (mG.trans (Sm.new np)) (none_of_sm mG np) upd_same (Sm.new np _ _ et)⟩⟩
end
end Dk
set_option Elab.async false
set_option linter.all false
set_option maxRecDepth 100000
set_option maxHeartbeats 8000000
namespace Dk
open PySem PySem.Spec PyProof.Rows L2 Er LamX NdefX
open PySem.ErK (EC)
/-! ### repr of lists and tuples of any depth, with empty dicts -/
mutual
inductive Rr (H : Hp) : V → PyData → Prop
  | non : Rr H .non .none
  | bl (b : Bool) : Rr H (.bl b) (.bool b)
  | int (i : Int) : Rr H (.int i) (.int i)
  | str (x : Str) : Rr H (.str x) (.str x)
  | lst {a : Addr} {xs : List V} {ds : List PyData} (e : H a = some (.lst xs)) (h : Rrs H xs ds) : Rr H (.ref a) (.list ds)
  | tup {a : Addr} {xs : List V} {ds : List PyData} (e : H a = some (.tup xs)) (h : Rrs H xs ds) : Rr H (.ref a) (.tuple ds)
  | emp {a : Addr} (e : H a = some (.dK [])) : Rr H (.ref a) (.dict [])
inductive Rrs (H : Hp) : List V → List PyData → Prop
  | nil : Rrs H [] []
  | cons {v : V} {d : PyData} {vs : List V} {ds : List PyData} (h : Rr H v d) (r : Rrs H vs ds) : Rrs H (v :: vs) (d :: ds)
end
mutual
theorem Rr.sm {H H' : Hp} (m : Sm H H') : ∀ {v : V} {d : PyData}, Rr H v d → Rr H' v d
  | _, _, .non => .non
  | _, _, .bl b => .bl b
  | _, _, .int i => .int i
  | _, _, .str x => .str x
  | _, _, .lst e h => .lst (m _ _ e) (Rrs.sm m h)
  | _, _, .tup e h => .tup (m _ _ e) (Rrs.sm m h)
  | _, _, .emp e => .emp (m _ _ e)
theorem Rrs.sm {H H' : Hp} (m : Sm H H') : ∀ {vs : List V} {ds : List PyData}, Rrs H vs ds → Rrs H' vs ds
  | _, _, .nil => .nil
  | _, _, .cons h r => .cons (Rr.sm m h) (Rrs.sm m r)
end
theorem Rrs.len {H : Hp} : ∀ {vs : List V} {ds : List PyData}, Rrs H vs ds → vs.length = ds.length
  | _, _, .nil => rfl
  | _, _, .cons _ r => by
    rw [List.length_cons, List.length_cons, r.len]
theorem Rrs.app {H : Hp} : ∀ {vs us : List V} {ds es : List PyData}, Rrs H vs ds → Rrs H us es → Rrs H (vs ++ us) (ds ++ es)
  | _, _, _, _, .nil, h => h
  | _, _, _, _, .cons a r, h => .cons a (r.app h)
theorem Rrs.strs {H : Hp} : ∀ (ws : List Str), Rrs H (ws.map V.str) (ws.map PyData.str)
  | [] => .nil
  | w :: ws => .cons (.str w) (Rrs.strs ws)
theorem Rrs.of {H : Hp} : ∀ {vs : List V}, (∀ v ∈ vs, ∃ d, Rr H v d) → ∃ ds, Rrs H vs ds
  | [], _ => ⟨[], .nil⟩
  | v :: vs, h => by
    obtain ⟨d, hd⟩ := h v List.mem_cons_self
    obtain ⟨ds, hs⟩ := Rrs.of (vs := vs) fun x hx => h x (List.mem_cons_of_mem _ hx)
    exact ⟨d :: ds, .cons hd hs⟩
section
variable {X : Cx} {pins : List (Addr × Obj)} {σ : L2.St} {H : Hp} {s : Shared}
mutual
theorem Rr.reads (S : IsSys X.K) (I : Inv X pins σ H s) : ∀ {v : V} {d : PyData}, Rr H v d → ∃ as : List Addr, (∀ u, RelV v u → Reads s.heap u d as) ∧ sysModules ∉ as
  | _, _, .non => ⟨[], fun u r => (Flat.non).reads r, fun z => nomatch z⟩
  | _, _, .bl b => ⟨[], fun u r => (Flat.bl b).reads r, fun z => nomatch z⟩
  | _, _, .int i => ⟨[], fun u r => by
      obtain ⟨t, q⟩ := (show ∃ t, u = Value.int i t from r)
      cases q
      exact .int i t, fun z => nomatch z⟩
  | _, _, .str x => ⟨[], fun u r => (Flat.str x).reads r, fun z => nomatch z⟩
  | _, _, .lst (a := a) (xs := xs) e h => by
    obtain ⟨_, its, n, rv, ho⟩ := (show ObjOk X.prog X.w H s.heap a (.lst xs) from I.hok a _ e)
    have ne := not_sys S I ho rfl
    obtain ⟨as, k, nas⟩ := Rrs.reads S I h
    refine ⟨a :: as, fun u r => ?_, fun z => ?_⟩
    · cases (show u = Value.ref a from r)
      exact Reads.list ho rfl rfl (by simpa using k _ rv)
    · rcases List.mem_cons.mp z with z | z
      · exact ne z.symm
      · exact nas z
  | _, _, .tup (a := a) (xs := xs) e h => by
    obtain ⟨_, its, rv, o, ho, hc, n, hd⟩ := (show ObjOk X.prog X.w H s.heap a (.tup xs) from I.hok a _ e)
    obtain ⟨as, k, nas⟩ := Rrs.reads S I h
    refine ⟨as, fun u r => ?_, nas⟩
    cases (show u = Value.ref a from r)
    exact Reads.tuple ho hc hd (by simpa using k _ rv)
  | _, _, .emp (a := a) e => (Thing.dct (ks := []) (xs := []) (ds := []) e rfl .nil).reads S I
theorem Rrs.reads (S : IsSys X.K) (I : Inv X pins σ H s) : ∀ {vs : List V} {ds : List PyData}, Rrs H vs ds → ∃ as : List Addr, (∀ us, Vals vs us → ReadsAll s.heap us ds as) ∧ sysModules ∉ as
  | _, _, .nil => ⟨[], fun us r => by
      cases r
      exact .nil, fun z => nomatch z⟩
  | _, _, .cons h r => by
    obtain ⟨as, k, na⟩ := Rr.reads S I h
    obtain ⟨bs, l, nb⟩ := Rrs.reads S I r
    refine ⟨as ++ bs, fun us z => ?_, fun z => ?_⟩
    · cases z with
      | cons r1 r2 => exact .cons (k _ r1) (l _ r2)
    · rcases List.mem_append.mp z with z | z
      · exact na z
      · exact nb z
end
end
/-- d can be shown, is no deeper than k, and its text is no longer than n -/
def Fit (d : PyData) (k n : Nat) : Prop := d.showable = true ∧ d.depth ≤ k ∧ d.shown.length ≤ n
theorem Fit.more {d : PyData} {k n k2 n2 : Nat} (h : Fit d k n) (a : k ≤ k2) (b : n ≤ n2) : Fit d k2 n2 := ⟨h.1, Nat.le_trans h.2.1 a, Nat.le_trans h.2.2 b⟩
theorem fits_all {k n : Nat} : ∀ {ds : List PyData}, (∀ d ∈ ds, Fit d k n) → PyData.showableAll ds = true ∧ PyData.depthAll ds ≤ k ∧ ((PyData.shownAll ds).map (·.length)).sum ≤ n * ds.length ∧ (PyData.shownAll ds).length = ds.length
  | [], _ => by simp [PyData.showableAll, PyData.depthAll, PyData.shownAll]
  | d :: ds, h => by
    have a := h d List.mem_cons_self
    have ih := fits_all (ds := ds) fun x hx => h x (List.mem_cons_of_mem _ hx)
    refine ⟨by simp [PyData.showableAll, a.1, ih.1], ?_, ?_, ?_⟩
    · have := a.2.1
      have := ih.2.1
      simp only [PyData.depthAll]
      omega
    · simp only [PyData.shownAll, List.map_cons, List.sum_cons, List.length_cons, Nat.mul_succ]
      have := a.2.2
      have := ih.2.2.1
      omega
    · simp only [PyData.shownAll, List.length_cons, ih.2.2.2]
theorem Fit.list {k n : Nat} {ds : List PyData} (h : ∀ d ∈ ds, Fit d k n) : Fit (.list ds) (k + 1) ((n + 2) * ds.length + 3) := by
  obtain ⟨a, b, c, d⟩ := fits_all h
  refine ⟨by simpa [PyData.showable] using a, by simp only [PyData.depth]; omega, ?_⟩
  have z := listText_len_le (PyData.shownAll ds)
  rw [d] at z
  rw [Nat.add_mul]
  simp only [PyData.shown]
  omega
theorem Fit.tuple {k n : Nat} {ds : List PyData} (h : ∀ d ∈ ds, Fit d k n) : Fit (.tuple ds) (k + 1) ((n + 2) * ds.length + 3) := by
  obtain ⟨a, b, c, d⟩ := fits_all h
  refine ⟨by simpa [PyData.showable] using a, by simp only [PyData.depth]; omega, ?_⟩
  have z := tupleText_len_le (PyData.shownAll ds)
  rw [d] at z
  rw [Nat.add_mul]
  simp only [PyData.shown]
  omega
def rShR : List V → Hp → VK → Prop := fun xs H Q => ∃ (p : Addr) (vs : List V) (ds : List PyData), xs = [.ref p] ∧ H p = some (.lst vs) ∧ Rrs H vs ds ∧ Fit (.list ds) 20 500000 ∧ Q (.str (PyData.shown (.list ds))) H
theorem call_rR {X : Cx} (S : IsSys X.K) (hg : X.A.guards = some []) (hu : X.A.units + 64 < cLine) : CallR X (.builtin "repr") rShR := by
  intro pins s σ H xs us Q I r h
  obtain ⟨p, vs, ds, rfl, e, hd, ⟨sh, dp, sl⟩, q⟩ := h
  obtain ⟨u, rfl, ru⟩ := r.one
  obtain rfl : u = Value.ref p := ru
  obtain ⟨as, k, nas⟩ := Rr.reads S I (Rr.lst e hd)
  exact repr_of_reads' (k _ rfl) sh (fun _ => nas) hg (by omega) (fun _ _ z => z) (fun h' w tk kk => ⟨.str _, H, I.kept (t' := tk) kk, ⟨w, rfl⟩, q⟩) (by
    rw [sizeLine_eq]
    omega)

theorem DkIs.more {m m2 : Nat} {ws ds : List Str} {tb : List (List Str)} {ls : List Str} (h : DkIs m ws ds tb ls) (l : m ≤ m2) : DkIs m2 ws ds tb ls := { h with most := Nat.le_trans h.most l }
theorem src_ne {H : Hp} {p a : Addr} {o : HO} (s : Src H p) (e : H a = some o) (n : ∀ i j : Int, o ≠ .lst [.int i, .int j]) : a ≠ p := fun z => by
  obtain ⟨own, mix, h, _⟩ := s
  rw [z, h] at e
  exact n _ _ (Option.some.inj e).symm
theorem src_ne_strs {H : Hp} {p a : Addr} {ws : List Str} (s : Src H p) (e : H a = some (.lst (ws.map V.str))) (h : 1 ≤ ws.length) : a ≠ p := src_ne s e fun i j z => by
  cases ws with
  | nil => simp at h
  | cons w ws =>
    have := HO.lst.inj z
    simp at this
theorem DkAt.sx {H H' : Hp} {u nm dd sg p : Addr} {ws ds : List Str} {as : List Addr} {tb : List (List Str)} {ls : List Str} {m0 : Nat} (h : DkAt H u nm dd sg ws ds as tb ls) (is : DkIs m0 ws ds tb ls) (s : Src H p) (m : Sx p H H') : DkAt H' u nm dd sg ws ds as tb ls := by
  obtain ⟨h1, h2, h3, h4, h5⟩ := h
  exact ⟨m _ _ (src_ne s h1 fun _ _ z => nomatch z) h1, m _ _ (src_ne_strs s h2 is.some) h2, m _ _ (src_ne s h3 fun _ _ z => nomatch z) h3, m _ _ (src_ne s h4 fun _ _ z => nomatch z) h4, pair_mono h5 fun a _ vs e => m _ _ (src_ne s e fun _ _ z => nomatch z) e⟩
theorem ifp {c : Prop} [Decidable c] {A B : Prop} (h : c) (a : A) : if c then A else B := by
  rw [if_pos h]
  exact a
theorem ifn {c : Prop} [Decidable c] {A B : Prop} (h : ¬ c) (b : B) : if c then A else B := by
  rw [if_neg h]
  exact b
theorem str_at {ws : List Str} {k : Nat} {v : V} (h : (ws.map V.str)[k]? = some v) : ∃ z ∈ ws, v = .str z := by
  obtain ⟨z, hz, e⟩ := List.mem_map.mp (List.mem_of_getElem? h)
  exact ⟨z, hz, e.symm⟩
theorem src_upd {H : Hp} {p a : Addr} {o : HO} (s : Src H p) (n : a ≠ p) : Src (upd H a o) p := by
  obtain ⟨own, mix, e, r⟩ := s
  exact ⟨own, mix, by rw [upd_ne (Ne.symm n)]; exact e, r⟩
theorem sx_own {H M : Hp} {p a : Addr} {o : HO} (m : Sx p H M) (n : H a = none) : Sx p H (upd M a o) := fun b u nb e => by
  rw [upd_ne (fun z => by rw [z, n] at e; cases e)]
  exact m b u nb e
theorem none_sx {H M : Hp} {p a : Addr} (s : Src H p) (m : Sx p H M) (s2 : Src M p) (n : M a = none) : H a = none := by
  cases e : H a with
  | none => rfl
  | some o => rw [m a o (s2.ne n) e] at n; cases n
section
variable {P : Program} {w : World} {K : PySem.W.Frag} {mg : Str → Option Value} {base : Heap} {f fP fT fK : Addr} {fd dP dT dK : FuncData}
theorem bDk (F : FnP K "_law_desk" (top 40) fK dK) : Binds K dK ["_law_source_here", "_law_most"] [] := F.bindsN fun _ _ _ _ _ _ us hl => match us, hl with
  | [_, _], _ => rfl
end
/-! ### defs that are called where no repr runs -/
structure FnOkG (P : Program) (w : World) (K : PySem.W.Frag) (mg : Str → Option Value) (base : Heap) (CX : CXT) (k : Nat) (f : Addr) (fd : FuncData) (ps : List Str) (sp : Sp) : Prop where
  len : ∀ vs H Q E, sp vs H Q E → vs.length = ps.length
  run : ∀ (A : Around) (outer : List Env) (s : Shared) (H : Hp) (args : Args) (us : List Value) (vs : List V) (Q : VK) (E : XK), A.guards = some [] → Room k A → Env0 P w K mg base A outer s H → BindsTo s fd args (ps.zip us) → Vals vs us → sp vs H Q E →
    codeAny (model P w) A (.call (.ref f) args) (CR CX outer P w H s Q E) s
section
variable {P : Program} {w : World} {K : PySem.W.Frag} {mg : Str → Option Value} {base : Heap} {k : Nat} {f : Addr} {fd : FuncData} {x qual : Str} {params : Arguments} {body : List Stmt} {scope : Scope} {dvs : List V} {kws : List (Str × V)}
theorem okG {CX : CXT} {N ps : List Str} {sp : Sp} (F : FunD K x qual params body scope dvs kws f fd) (S : FnScope N ps scope) (len : ∀ vs H Q E, sp vs H Q E → vs.length = ps.length)
    (hbody : ∀ (cdv : Value) (A : Around) (outer : List Env) (s : Shared) (H : Hp) (vs : List V) (Q : VK) (E : XK), A.guards = some [] → Room k (A.deeper (envOfC qual scope s.heap.objs.size f cdv)) → sp vs H Q E →
      ∃ t, PSs (cxOf CX P w K mg base N qual scope f cdv A outer s H E) body t ∧ t { nx := fun _ H' => Q .non H', rt := Q } (start N vs) H) : FnOkG P w K mg base CX (k + 1) f fd ps sp := by
  obtain ⟨oc, od, dV, kV, doc, pm, an, cdv, ct, osl, rfl, lk, hcd, _, _⟩ := F.ex
  refine ⟨len, fun A outer s H args us vs Q E hg hr e0 hb r hsp => ?_⟩
  have many := len _ _ _ _ hsp
  have inK : K.In s.heap := PySem.W.Frag.In.keeps e0.mod.kin fun b o e => (e0.bs b o e).1
  have free : s.heap.NoLimit := e0.mod.nolimit.keeps fun b o e => (e0.bs b o e).1
  have kinds : ∀ y ∈ ps.zip us, scope.names.lookup y.1 = some .local ∨ (scope.names.lookup y.1 = some .cell ∧ ((cellsFrom (s.heap.objs.size + 1) scope.names []).lookup y.1).isSome = true) := fun y hy => by
    obtain ⟨n, v⟩ := y
    rcases S.par n (List.of_mem_zip hy).1 with e | e
    · exact .inl e
    · exact .inr ⟨e, PySem.W.cellsFrom_some _ _ _ (.inl e)⟩
  refine codeAny_call_function hr.depth (inK _ _ lk) rfl S.co S.gen rfl (PySem.W.codeRec_of inK hcd) (hb _ _ _ _ ?_)
  refine wpAny_newFunctionEnv_cells S.kind kinds fun env he s1 x => ?_
  subst he
  refine ⟨free.keeps x.toInCall.keep, codeAny_func ?_⟩
  obtain ⟨t, ht, hq⟩ := hbody cdv A outer s H vs Q E hg (hr.deeper _) hsp
  have I := inv_start (CX := CX) (P := P) (w := w) (K := K) (mg := mg) (base := base) (E := E) S hr.hd e0 many r x
  refine wpAny_mono (ht.run [] s1 (start N vs) H _ I hq) (fun fl s' hs => ?_) fun e s' z => z
  cases fl with
  | ret u =>
    obtain ⟨v, σ', H', J, rv, q⟩ := hs
    exact ⟨v, H', J.os, J.bare, J.base, J.hok, rv, q⟩
  | next =>
    obtain ⟨σ', H', J, q⟩ := hs
    exact ⟨V.non, H', J.os, J.bare, J.base, J.hok, rfl, q⟩
  | brk =>
    obtain ⟨_, _, _, q⟩ := hs
    exact q.elim
  | cont =>
    obtain ⟨_, _, _, q⟩ := hs
    exact q.elim
end
section
variable {X : Cx} {CX : CXT} {k : Nat} {f : Addr} {fd : FuncData} {ps : List Str} {sp : Sp} {x : Str} {p pos : Pos} {e : Expr} {es : List Expr} {t : TA} {E : XK}
theorem pe_callG (F : FnOkG X.prog X.w X.K X.mg X.base CX k f fd ps sp) (hgd : X.A.guards = some []) (hr : Room k X.A) (hg : Gl X x) (hm : X.mg x = some (.ref f)) (hk : PySem.W.keepIn X.K (.ref f) = true) (hb : Binds X.K fd ps []) (hx : Passes CX X E)
    (ha : PA X (e :: es) t) (hdb : (x == ("__debug__" : Str)) = false := by decide) (he : starEach (e :: es) X.env = (false, eval e X.env) :: starEach es X.env := by rfl) (hpl : (backTo pos (starEach es X.env)).any (·.1) = false := by rfl) :
    PE X (.Call (.Name x p) (e :: es) [] pos) (tCall sp [] E t) := by
  refine ⟨fun pins s σ H Q I h => ?_⟩
  refine wpAny_Call_Name_kw (ld_glob I hg hm ?_ hdb)
  refine PySem.W.callWith_K (h₀ := X.base) I.ok.mod.kin hk (thn (ha.run pos pins s σ H _ I h) fun us s1 ⟨vs, H1, I1, r, q⟩ => ⟨I1.kIn, ?_⟩) he hpl
  have r2 : Vals (vs ++ []) (us ++ []) := r.append .nil
  have hl : (us ++ []).length = ps.length := by rw [← r2.length]; exact F.len _ _ _ _ q
  refine wpAny_call (codeAny_mono (F.run X.A X.stack s1 H1 ⟨us, []⟩ (us ++ []) (vs ++ []) Q E hgd hr I1.env0 (hb s1 us I1.kIn hl) r2 q) fun r s' hq => ?_)
  cases r with
  | error e => exact hx pins σ H1 s1 e s' I1 hq
  | ok fl =>
    cases fl with
    | ret u => exact I1.after hq
    | next => exact False.elim hq
    | brk => exact False.elim hq
    | cont => exact False.elim hq
end
/-! ### what stays over a draw -/
theorem src_ne_strs0 {H : Hp} {p a : Addr} {ws : List Str} (s : Src H p) (e : H a = some (.lst (ws.map V.str))) : a ≠ p := src_ne s e fun i j z => by
  cases ws with
  | nil => exact nomatch HO.lst.inj z
  | cons w ws =>
    have := HO.lst.inj z
    simp at this
theorem SqT.sx {K : PySem.W.Frag} {H H' : Hp} {a p : Addr} {xs : List V} (h : SqT K H a xs) (s : Src H p) (m : Sx p H H') : SqT K H' a xs := by
  rcases h with (h | ⟨o, h⟩) | h
  · exact .inl (.inl (m _ _ (src_ne s h fun _ _ z => nomatch z) h))
  · exact .inl (.inr ⟨o, m _ _ (src_ne s h fun _ _ z => nomatch z) h⟩)
  · exact .inr h
theorem DeskOb.sx {K : PySem.W.Frag} {C : Addr} {H H' : Hp} {x p : Addr} {ws ds : List Str} {tb : List (List Str)} {ls : List Str} (h : DeskOb K C H x ws ds tb ls) (s : Src H p) (m : Sx p H H') : DeskOb K C H' x ws ds tb ls := by
  obtain ⟨dx, st, ld, si, as, h1, h2, h3, h4, pr⟩ := h
  exact ⟨dx, st, ld, si, as, m _ _ (src_ne s h1 fun _ _ z => nomatch z) h1, SqT.sx h2 s m, m _ _ (src_ne s h3 fun _ _ z => nomatch z) h3, m _ _ (src_ne s h4 fun _ _ z => nomatch z) h4, pair_mono pr fun a _ vs e => m _ _ (src_ne s e fun _ _ z => nomatch z) e⟩

/-! ### a heap without two things that change -/
def rid (p q : Addr) (G : Hp) : Hp := fun b => if b = p ∨ b = q then none else G b
theorem rid_ne {p q b : Addr} {G : Hp} (h1 : b ≠ p) (h2 : b ≠ q) : rid p q G b = G b := if_neg fun z => z.elim h1 h2
theorem rid_l {p q : Addr} {G : Hp} : rid p q G p = none := if_pos (.inl rfl)
theorem rid_r {p q : Addr} {G : Hp} : rid p q G q = none := if_pos (.inr rfl)
theorem rid_le {p q : Addr} {G : Hp} : Sm (rid p q G) G := fun b o e => by
  unfold rid at e
  by_cases c : b = p ∨ b = q
  · rw [if_pos c] at e
    cases e
  · rw [if_neg c] at e
    exact e
theorem sm_rid {p q : Addr} {B G : Hp} (m : Sm B G) (h1 : B p = none) (h2 : B q = none) : Sm B (rid p q G) := fun b o e => by
  rw [rid_ne (fun z => by rw [z, h1] at e; cases e) (fun z => by rw [z, h2] at e; cases e)]
  exact m b o e
theorem sm_upd {B G : Hp} {a : Addr} {o : HO} (m : Sm B G) (h : B a = none) : Sm B (upd G a o) := fun b u e => by
  rw [upd_ne (fun z => by rw [z, h] at e; cases e)]
  exact m b u e
theorem sm_sx {B G G2 : Hp} {p : Addr} (m : Sm B G) (h : B p = none) (x : Sx p G G2) : Sm B G2 := fun b o e => x b o (fun z => by rw [z, h] at e; cases e) (m b o e)
theorem sx_rid {p q : Addr} {H G : Hp} (m : Sx p H G) (h : H q = none) : Sx p H (rid p q G) := fun b o n e => by
  rw [rid_ne n (fun z => by rw [z, h] at e; cases e)]
  exact m b o n e
theorem sx_of_rid {p : Addr} {H B G : Hp} (m : Sx p H B) (k : Sm B G) : Sx p H G := fun b o n e => k b o (m b o n e)
/-! ### things that are no deeds -/
theorem word_fit {z : Str} (l : z.length ≤ 8) (o : PyData.strOk z = true) : Fit (.str z) 1 88 := by
  refine ⟨rfl, by simp [PyData.depth], ?_⟩
  have a := PyData.shown_le 8 (Nat.le_refl 8) (.str z) (PyData.leavesShort_of_canLay0 8 _ (by simpa [PyData.canLay0] using o) rfl)
  have b : (PyData.str z).weight ≤ 8 := l
  omega
theorem list_fit {z : Str} (l : z.length ≤ 8) (o : PyData.strOk z = true) : Fit (.list [.str z]) 2 93 := by
  have a := Fit.list (ds := [.str z]) (k := 1) (n := 88) fun d hd => by
    have e : d = .str z := by simpa using hd
    rw [e]
    exact word_fit l o
  exact a.more (by decide) (by show (88 + 2) * 1 + 3 ≤ 93; decide)
theorem tup_fit {z : Str} (l : z.length ≤ 8) (o : PyData.strOk z = true) : Fit (.tuple [.str z]) 2 93 := by
  have a := Fit.tuple (ds := [.str z]) (k := 1) (n := 88) fun d hd => by
    have e : d = .str z := by simpa using hd
    rw [e]
    exact word_fit l o
  exact a.more (by decide) (by show (88 + 2) * 1 + 3 ≤ 93; decide)
inductive Odd (H : Hp) (ds : List Str) : V → PyData → Prop
  | non : Odd H ds .non .none
  | five : Odd H ds (.int 5) (.int 5)
  | tru : Odd H ds (.bl true) (.bool true)
  | str {z : Str} (n : z ∉ ds) (l : z.length ≤ 8) (o : PyData.strOk z = true) : Odd H ds (.str z) (.str z)
  | lst {a : Addr} {z : Str} (e : H a = some (.lst [.str z])) (l : z.length ≤ 8) (o : PyData.strOk z = true) : Odd H ds (.ref a) (.list [.str z])
  | tup {a : Addr} {z : Str} (e : H a = some (.tup [.str z])) (l : z.length ≤ 8) (o : PyData.strOk z = true) : Odd H ds (.ref a) (.tuple [.str z])
  | tlst {a b : Addr} {z : Str} (e : H a = some (.tup [.ref b])) (e2 : H b = some (.lst [.str z])) (l : z.length ≤ 8) (o : PyData.strOk z = true) : Odd H ds (.ref a) (.tuple [.list [.str z]])
  | emp {a : Addr} (e : H a = some (.dK [])) : Odd H ds (.ref a) (.dict [])
theorem Odd.sm {H H' : Hp} {ds : List Str} {v : V} {d : PyData} (m : Sm H H') (h : Odd H ds v d) : Odd H' ds v d := by
  cases h with
  | non => exact .non
  | five => exact .five
  | tru => exact .tru
  | str n l o => exact .str n l o
  | lst e l o => exact .lst (m _ _ e) l o
  | tup e l o => exact .tup (m _ _ e) l o
  | tlst e e2 l o => exact .tlst (m _ _ e) (m _ _ e2) l o
  | emp e => exact .emp (m _ _ e)
theorem Odd.not {K : PySem.W.Frag} {H : Hp} {ds : List Str} {v : V} {d : PyData} (h : Odd H ds v d) : NotOf K H ds v := by
  cases h with
  | non => exact .inr .non
  | five => exact .inr .int
  | tru => exact .inr .bl
  | str n l o => exact .inl ⟨_, rfl, n⟩
  | lst e l o => exact .inr (.lst e)
  | tup e l o => exact .inr (.tup e)
  | tlst e e2 l o => exact .inr (.tup e)
  | emp e => exact .inr (.dK e)
theorem Odd.rr {H : Hp} {ds : List Str} {v : V} {d : PyData} (h : Odd H ds v d) : Rr H v d := by
  cases h with
  | non => exact .non
  | five => exact .int 5
  | tru => exact .bl true
  | str n l o => exact .str _
  | lst e l o => exact .lst e (.cons (.str _) .nil)
  | tup e l o => exact .tup e (.cons (.str _) .nil)
  | tlst e e2 l o => exact .tup e (.cons (.lst e2 (.cons (.str _) .nil)) .nil)
  | emp e => exact .emp e
theorem Odd.fit {H : Hp} {ds : List Str} {v : V} {d : PyData} (h : Odd H ds v d) : Fit d 3 200 := by
  cases h with
  | non => exact ⟨rfl, by decide, by decide +kernel⟩
  | five => exact ⟨by decide +kernel, by decide, by decide +kernel⟩
  | tru => exact ⟨rfl, by decide, by decide +kernel⟩
  | str n l o => exact (word_fit l o).more (by decide) (by decide)
  | lst e l o => exact (list_fit l o).more (by decide) (by decide)
  | tup e l o => exact (tup_fit l o).more (by decide) (by decide)
  | @tlst a b z e e2 l o =>
    have a := Fit.tuple (ds := [.list [.str z]]) (k := 2) (n := 93) fun d hd => by
      have e : d = .list [.str z] := by simpa using hd
      rw [e]
      exact list_fit l o
    exact a.more (by decide) (by show (93 + 2) * 1 + 3 ≤ 200; decide)
  | emp e => exact ⟨by decide +kernel, by decide +kernel, by decide +kernel⟩
/-- isinstance(v, list), isinstance(v, str) -/
theorem Odd.ty {K : PySem.W.Frag} {H : Hp} {ds : List Str} {v : V} {d : PyData} (h : Odd H ds v d) : ∃ t l s, TyX K H v t ∧ PySem.W.kitOne K t (.type "list") = some l ∧ PySem.W.kitOne K t (.type "str") = some s ∧ (l = true → ∃ a z, v = .ref a ∧ H a = some (.lst [.str z]) ∧ d = .list [.str z]) ∧ (s = true ↔ ∃ z, v = .str z) := by
  cases h with
  | non => exact ⟨_, false, false, .base .non, kit_ty (by decide +kernel), kit_ty (by decide +kernel), (fun z => nomatch z), (fun z => nomatch z), fun ⟨_, z⟩ => nomatch z⟩
  | five => exact ⟨_, false, false, .base (.int 5), kit_ty (by decide +kernel), kit_ty (by decide +kernel), (fun z => nomatch z), (fun z => nomatch z), fun ⟨_, z⟩ => nomatch z⟩
  | tru => exact ⟨_, false, false, .base (.bl true), kit_ty (by decide +kernel), kit_ty (by decide +kernel), (fun z => nomatch z), (fun z => nomatch z), fun ⟨_, z⟩ => nomatch z⟩
  | str n l o => exact ⟨_, false, true, .base (.str _), kit_ty (by decide +kernel), kit_ty (by decide +kernel), (fun z => nomatch z), fun _ => ⟨_, rfl⟩, fun _ => rfl⟩
  | @lst a z e l o => exact ⟨_, true, false, .base (.lst e), kit_ty (by decide +kernel), kit_ty (by decide +kernel), (fun _ => ⟨a, z, rfl, e, rfl⟩), (fun z => nomatch z), fun ⟨_, z⟩ => nomatch z⟩
  | tup e l o => exact ⟨_, false, false, .base (.tup e), kit_ty (by decide +kernel), kit_ty (by decide +kernel), (fun z => nomatch z), (fun z => nomatch z), fun ⟨_, z⟩ => nomatch z⟩
  | tlst e e2 l o => exact ⟨_, false, false, .base (.tup e), kit_ty (by decide +kernel), kit_ty (by decide +kernel), (fun z => nomatch z), (fun z => nomatch z), fun ⟨_, z⟩ => nomatch z⟩
  | emp e => exact ⟨_, false, false, .base (.dK e), kit_ty (by decide +kernel), kit_ty (by decide +kernel), (fun z => nomatch z), (fun z => nomatch z), fun ⟨_, z⟩ => nomatch z⟩

theorem rrs_of {H : Hp} : ∀ {xs : List V}, (∀ y ∈ xs, ∃ e, Rr H y e ∧ Fit e 3 200) → ∃ es, Rrs H xs es ∧ ∀ e ∈ es, Fit e 3 200
  | [], _ => ⟨[], .nil, fun e z => nomatch z⟩
  | x :: xs, h => by
    obtain ⟨e, h1, h2⟩ := h x List.mem_cons_self
    obtain ⟨es, h3, h4⟩ := rrs_of (xs := xs) fun y hy => h y (List.mem_cons_of_mem _ hy)
    refine ⟨e :: es, .cons h1 h3, fun d hd => ?_⟩
    rcases List.mem_cons.mp hd with z | z
    · exact z ▸ h2
    · exact h4 d z
theorem rrs_rep {H : Hp} {d : PyData} : ∀ {as : List Addr}, (∀ a ∈ as, Rr H (.ref a) d) → Rrs H (as.map V.ref) (List.replicate as.length d)
  | [], _ => .nil
  | a :: as, h => .cons (h a List.mem_cons_self) (rrs_rep (as := as) fun b hb => h b (List.mem_cons_of_mem _ hb))
theorem lc_filt {K : PySem.W.Frag} {a b : Addr} {ws vs : List Str} {σ : L2.St} {i k : Nat} {H1 : Hp} {Q : Addr → Hp → Prop} (ha : SqL K H1 a (ws.map V.str)) (hb : SqL K H1 b (vs.map V.str)) (hn : ws.length ≤ 1000) (w1 : ∀ v, wipe ((wipe σ [i]).set i (some v)) [i] = wipe σ [i])
    (s1 : ∀ v, ((wipe σ [i]).set i (some v))[i]? = some (some v)) (s2 : ∀ v, ((wipe σ [i]).set i (some v))[k]? = some (some (.ref b)))
    (q : ∀ (D : Addr) (H' : Hp), Sm H1 H' → H1 D = none → H' D = some (.lst ((ws.filter fun z => decide (z ∉ vs)).map V.str)) → Q D H') :
    ∀ D, H1 D = none → ∃ W : Nat → Nat → Hp → Prop, (∃ m, W 0 m (upd H1 D (.lst []))) ∧ ∀ i₁ m H, W i₁ m H →
      ((Itl K a).stop i₁ H ∧ Q D H) ∨ ((Itl K a).go i₁ H ∧ ∃ Nx : Hp → Prop, (∀ H', Nx H' → ∃ m', m' < m ∧ W (i₁ + 1) m' H') ∧ ∀ x H', (Itl K a).yld i₁ H x H' → gName i x (wipe σ [i]) H' fun σ2 H2 => wipe σ2 [i] = wipe σ [i] ∧ (tTest (tOp (rIn K true) (tVar i) (tVar k))) σ2 H2 fun b H3 =>
        if b = true then (tVar i) σ2 H3 fun y H4 => ∃ acc, H4 D = some (.lst acc) ∧ acc.length < sizeLine ∧ Nx (upd H4 D (.lst (acc ++ [y]))) else Nx H3) := by
  intro D hD
  refine lc_list (xs := ws.map V.str) (g := gName i) (tt := tTest (tOp (rIn K true) (tVar i) (tVar k))) (te := tVar i) (vs := [i]) (Qd := fun H => Q D H) (fun j G2 => G2 D = some (.lst (((ws.take j).filter (fun z => decide (z ∉ vs))).map V.str)) ∧ Sm H1 G2) ⟨upd_same, Sm.new hD⟩ (fun j G2 _ p => SqL.sm ha p.2) ?_ ?_
  · rintro j x G2 ex ⟨ed, sg⟩
    obtain ⟨z, ez, rfl⟩ : ∃ z, ws[j]? = some z ∧ x = .str z := by
      rw [List.getElem?_map] at ex
      cases e : ws[j]? with
      | none =>
        rw [e] at ex
        cases ex
      | some d =>
        rw [e] at ex
        exact ⟨d, rfl, (Option.some.inj ex).symm⟩
    have tk : ws.take (j + 1) = ws.take j ++ [z] := by
      rw [List.take_add_one, ez]
      rfl
    have jl := (List.getElem?_eq_some_iff.mp ez).1
    refine ⟨w1 _, _, s1 _, _, s2 _, b, vs.map V.str, rfl, .inl (SqL.sm hb sg), rfl, flat_strs vs, _, rfl, ?_⟩
    rw [in_strs, if_pos rfl]
    by_cases c : z ∈ vs
    · rw [decide_eq_true c]
      refine iteF ⟨?_, sg⟩
      rw [tk, List.filter_append, List.filter_cons_of_neg (by simpa using c), List.filter_nil, List.append_nil]
      exact ed
    · rw [decide_eq_false c]
      refine iteT ⟨_, s1 _, _, ed, ?_, ?_, ?_⟩
      · have h1 := List.length_filter_le (fun z => decide (z ∉ vs)) (ws.take j)
        rw [List.length_take] at h1
        rw [List.length_map, sizeLine_eq]
        omega
      · rw [upd_same, tk, List.filter_append, List.filter_cons_of_pos (by simpa using c), List.filter_nil, List.map_append]
        rfl
      · intro b o eb
        rw [upd_ne (ne_of_none eb hD)]
        exact sg _ _ eb
  · rintro G2 ⟨ed, sg⟩
    rw [List.length_map, List.take_length] at ed
    exact q D G2 sg hD ed
theorem menu_ok : ∀ z ∈ menu, z.length ≤ 8 ∧ PyData.strOk z = true := by decide +kernel
section
variable {P : Program} {w : World} {K : PySem.W.Frag} {mg : Str → Option Value} {base : Heap} {f fD fG fM fT fS C : Addr} {fd dD dG dM dT dS : FuncData}
theorem bStr (F : FnP K "_law_stranger" (top 44) fG dG) : Binds K dG ["_law_names_here"] [] := F.bindsN fun _ _ _ _ _ _ us hl => match us, hl with
  | [_], _ => rfl
end
/-! ### == and != of an instance with its own __eq__, and of anything whose type is known -/
section
open PySem.W PySem.Calls
variable {prog : Program} {w : World} {M : Model} {A A₀ : Around} {E : Value → Shared → Prop} {s : Shared} {K : PySem.W.Frag} {x C L f : Addr} {h₀ : Heap} {m : Str → Option Value} {ox : Obj} {od : Option Obj} {name : Str} {b tb : Value} {id : String}
theorem ifBound_B {args : List Value} {Q : Option Value → Shared → Prop} (X : K.In s.heap) (I : InstAt s.heap x ox C od) (hs : findIn K (.ref C) name = some (some (.builtin id))) (hb : ∀ self, bindSpecial (.builtin id) self = pure (.builtin id, [self]))
    (h : wpAny M A (call (.builtin id) (.ref x :: args)) (fun v => Q (some v)) E s) : wpAny M A (callSpecialIfBound? (.ref x) name args) Q E s := by
  simp only [callSpecialIfBound?, bindSpecialIfBound?]
  refine wpAny_holding (wpAny_bind (wpAny_bind (wpAny_bind (I.type.here ((looks_findIn X hs).here ?_)))))
  refine wpAny_bind (wpAny_askSetting (wpAny_ite ?_))
  have fin : wpAny M A (call (.builtin id) ([.ref x] ++ args) >>= fun v => pure (some v)) Q E s := wpAny_bind (wpAny_mono h (fun v s' h' => wpAny_pure h') fun _ _ h' => h')
  split
  · exact wpAny_bind ((Looks.of_pure (hb _)).here (wpAny_pure (by exact fin)))
  · exact wpAny_tryCatch (wpAny_bind ((Looks.of_pure (hb _)).here (wpAny_pure (by exact fin))))
open Builtin in
theorem one_ne {Q : Value → Shared → Prop} (hu : A.in1.units < cLine) (X : K.In s.heap) (I : InstAt s.heap x ox C od) (hm : mroIn K C (.type "object") = some true) (hr : findIn K (.ref C) "__eq__" = some (some (.ref f))) (hf : isFn K (.ref f) = true)
    (h : wpAny (model prog w) A.in1 (call (.ref f) [.ref x, b]) (fun v s' => ∃ k, v = .bool k ∧ Q (.bool (!k)) s') E s) : wpAny (model prog w) A (call (.builtin "object.__ne__") [.ref x, b]) Q E s := by
  refine wpAny_call (codeAny_call_builtin PySem.F.slot_object_ne.plain PySem.F.entry_object_ne (PySem.W.check_slot (i := "object.__ne__") (owner := "object") (n := "__ne__") (by decide +kernel) (by decide +kernel) (I.type.andThen (looks_mroIn X hm)) (F.cmpArgs_ne _ _) ?_))
  unfold Builtin.«object.__ne__»
  refine wpAny_bind (m := slotArgs "__ne__" 1 _) (wpAny_pure ?_)
  refine wpAny_bind (m := cRoomFor _ _) (wpAny_cRoomFor hu ?_)
  refine wpAny_bind (m := callSpecialIfBound? (.ref x) (Str.ofString "__eq__") _) (ifBound_K X I hr hf (wpAny_mono h (fun r s' hq => ?_) fun _ _ y => y))
  obtain ⟨k, rfl, q⟩ := hq
  exact wpAny_bind (wpAny_truthy_bool (wpAny_pure q))
open PySem.W in
theorem ne_K {Q : Value → Shared → Prop} (hu : A.in1.units < cLine) (hu0 : A.units < cLine) (F : Fr h₀ L s.heap m) (X₀ : K.In h₀) (I : InstAt s.heap x ox C od) (hb : Looks (model prog w) s.heap (typeOf b) tb) (hn : notFirst K C tb = true)
    (hm : mroIn K C (.type "object") = some true) (hs : findIn K (.ref C) "__ne__" = some (some (.builtin "object.__ne__"))) (hr : findIn K (.ref C) "__eq__" = some (some (.ref f))) (hf : isFn K (.ref f) = true)
    (h : wpAny (model prog w) A.in1 (call (.ref f) [.ref x, b]) (fun v s' => ∃ k, v = .bool k ∧ Q (.bool (!k)) s') E s) : wpAny (model prog w) A (richCompare .NotEq (.ref x) b) Q E s := by
  have X := X₀.keeps F.keep
  have one : wpAny (model prog w) A (tryCompare (.ref x) (cmpInfo .NotEq).2.1 b) (fun r s' => ∃ v, r = some v ∧ Q v s') E s := by
    unfold tryCompare
    refine wpAny_bind (ifBound_B X I hs PySem.F.slot_object_ne.bind (one_ne hu X I hm hr hf (wpAny_mono h (fun v s' hv => ?_) fun _ _ e => e)))
    obtain ⟨k, rfl, q⟩ := hv
    exact ⟨k, rfl, wpAny_pure ⟨_, rfl, q⟩⟩
  unfold richCompare
  simp only [oneThing_ref]
  refine wpAny_holding (wpAny_bind (wpAny_cRoomFor hu0 ?_))
  refine wpAny_bind (I.type.here (wpAny_bind (hb.here ?_)))
  split
  · rename_i q
    have e : subIn K tb (.ref C) = some false := by
      rcases Bool.or_eq_true_iff.mp hn with e | e
      · rw [beq_iff_eq.mp e] at q; simp at q
      · exact beq_iff_eq.mp e
    refine wpAny_bind ((looks_subIn X e).here ?_)
    simp only [Bool.false_eq_true, if_false]
    refine wpAny_bind (wpAny_mono one (fun r s' z => ?_) fun _ _ e => e)
    obtain ⟨v, rfl, hq⟩ := z
    exact wpAny_pure hq
  · refine wpAny_bind (wpAny_pure ?_)
    simp only [Bool.false_eq_true, if_false]
    refine wpAny_bind (wpAny_mono one (fun r s' z => ?_) fun _ _ e => e)
    obtain ⟨v, rfl, hq⟩ := z
    exact wpAny_pure hq
end
/-- None, a number, a text, a list, a tuple, a dict, an object of the class -/
inductive EqY (C : Addr) (H : Hp) : V → Prop
  | own {b dy : Addr} {gs : List (Str × V)} (e : H b = some (.ins C dy gs)) : EqY C H (.ref b)
  | non : EqY C H .non
  | int (i : Int) : EqY C H (.int i)
  | str (z : Str) : EqY C H (.str z)
  | lst {b : Addr} {xs : List V} (e : H b = some (.lst xs)) : EqY C H (.ref b)
  | tup {b : Addr} {xs : List V} (e : H b = some (.tup xs)) : EqY C H (.ref b)
  | dK {b : Addr} {kvs : List (Key × V)} (e : H b = some (.dK kvs)) : EqY C H (.ref b)
abbrev eqTypes : List String := ["NoneType", "int", "str", "list", "tuple", "dict"]
section
variable {X : Cx} {CX : CXT} {n : Nat} {C f : Addr} {fd : FuncData} {ps : List Str} {sp : Sp} {E : XK}
theorem eqy_ty {pins : List (Addr × Obj)} {σ : L2.St} {s : Shared} {H : Hp} {y : V} {u : Value} (I : Inv X pins σ H s) (N : ∀ t ∈ eqTypes, PySem.W.notFirst X.K C (.type t) = true) (h : EqY C H y) (ry : RelV y u) :
    ∃ t, PySem.W.Looks (model X.prog X.w) s.heap (typeOf u) t ∧ PySem.W.notFirst X.K C t = true := by
  cases h with
  | own hb =>
    rename_i b dy gs
    cases (show u = Value.ref b from ry)
    obtain ⟨mB, J', _⟩ := ins_get I.hok hb
    obtain ⟨od', J', _⟩ := J'.look
    exact ⟨_, J'.type, by simp [PySem.W.notFirst]⟩
  | non =>
    cases (show u = Value.none from ry)
    exact ⟨_, PySem.W.Looks.of_pure rfl, N "NoneType" (by decide)⟩
  | int i =>
    obtain ⟨t, e⟩ := (show ∃ t, u = Value.int i t from ry)
    subst e
    exact ⟨_, PySem.W.Looks.of_pure rfl, N "int" (by decide)⟩
  | str z =>
    obtain ⟨t, e⟩ := (show ∃ t, u = Value.str z t from ry)
    subst e
    exact ⟨_, PySem.W.Looks.of_pure rfl, N "str" (by decide)⟩
  | lst e =>
    rename_i b xs
    cases (show u = Value.ref b from ry)
    obtain ⟨_, its, k, rv, ho⟩ := (show ObjOk X.prog X.w H s.heap b (.lst xs) from I.hok b _ e)
    exact ⟨.type "list", (PySem.W.Looks.ld ho).andThen .now, N "list" (by decide)⟩
  | tup e =>
    rename_i b xs
    cases (show u = Value.ref b from ry)
    obtain ⟨_, its, rv, o, ho, hc, k, hd⟩ := (show ObjOk X.prog X.w H s.heap b (.tup xs) from I.hok b _ e)
    exact ⟨.type "tuple", hc ▸ (PySem.W.Looks.ld ho).andThen .now, N "tuple" (by decide)⟩
  | dK e =>
    rename_i b kvs
    cases (show u = Value.ref b from ry)
    obtain ⟨_, ns, vs, kv, o, es, ep, ho, hx, hd, _, hp, _⟩ := (show ObjOk X.prog X.w H s.heap b (.dK kvs) from I.hok b _ e)
    exact ⟨.type "dict", hx.1 ▸ (PySem.W.Looks.ld ho).andThen .now, N "dict" (by decide)⟩
def rEqY (C : Addr) (sp : Sp) (E : XK) : R2 := fun x y H Q => ∃ a dx fs, x = .ref a ∧ H a = some (.ins C dx fs) ∧ EqY C H y ∧ sp [x, y] H Q E
def rNeY (C : Addr) (sp : Sp) (E : XK) : R2 := fun x y H Q => ∃ a dx fs, x = .ref a ∧ H a = some (.ins C dx fs) ∧ EqY C H y ∧ sp [x, y] H (fun v H' => ∃ k, v = .bl k ∧ Q (.bl (!k)) H') E
theorem op_eqY (F : FnOk X.prog X.w X.K X.mg X.base CX n f fd ps sp) (hs : PySem.W.findIn X.K (.ref C) "__eq__" = some (some (.ref f))) (hf : PySem.W.isFn X.K (.ref f) = true) (hb : Binds X.K fd ps []) (hr : Room n X.A) (hx : Passes CX X E)
    (N : ∀ t ∈ eqTypes, PySem.W.notFirst X.K C (.type t) = true) : OpR X (compareOp .Eq) (rEqY C sp E) := by
  intro pins s σ H x y v u Q I rx ry h
  obtain ⟨a, dx, fs, rfl, ha, hy, q⟩ := h
  cases (show v = Value.ref a from rx)
  obtain ⟨mA, J, _⟩ := ins_get I.hok ha
  obtain ⟨od, J, _⟩ := J.look
  obtain ⟨m, hF⟩ := I.fr
  obtain ⟨t, lk, nf⟩ := eqy_ty I N hy ry
  show wpAny (model X.prog X.w) X.A (richCompare .Eq _ u) (EP X pins σ Q) X.xe s
  refine PySem.W.cmp_K (op := .Eq) hr.units0 hF I.ok.mod.kin J lk nf hs hf ?_
  refine wpAny_mono (run_fn (us := [.ref a, u]) (vs := [.ref a, y]) F hr hb .nil hx I (.cons rfl (.cons ry .nil)) q) (fun w s' z => ?_) fun _ _ x => x
  obtain ⟨z', H', I', rz, qz⟩ := z
  exact SlX.cmpback rz ⟨z', H', I', rz, qz⟩
theorem op_neY (F : FnOk X.prog X.w X.K X.mg X.base CX n f fd ps sp) (hm : PySem.W.mroIn X.K C (.type "object") = some true) (hne : PySem.W.findIn X.K (.ref C) "__ne__" = some (some (.builtin "object.__ne__"))) (hs : PySem.W.findIn X.K (.ref C) "__eq__" = some (some (.ref f))) (hf : PySem.W.isFn X.K (.ref f) = true) (hb : Binds X.K fd ps []) (hr : Room (n + 1) X.A) (hx : Passes CX X E)
    (N : ∀ t ∈ eqTypes, PySem.W.notFirst X.K C (.type t) = true) : OpR X (compareOp .NotEq) (rNeY C sp E) := by
  intro pins s σ H x y v u Q I rx ry h
  obtain ⟨a, dx, fs, rfl, ha, hy, q⟩ := h
  cases (show v = Value.ref a from rx)
  obtain ⟨mA, J, _⟩ := ins_get I.hok ha
  obtain ⟨od, J, _⟩ := J.look
  obtain ⟨m, hF⟩ := I.fr
  obtain ⟨t, lk, nf⟩ := eqy_ty I N hy ry
  show wpAny (model X.prog X.w) X.A (richCompare .NotEq _ u) (EP X pins σ Q) X.xe s
  have r2 : Vals [V.ref a, y] [Value.ref a, u] := .cons rfl (.cons ry .nil)
  have hl : [Value.ref a, u].length = ps.length := by rw [← r2.length]; exact F.len _ _ _ _ q
  refine ne_K hr.in1.units0 hr.units0 hF I.ok.mod.kin J lk nf hm hne hs hf ?_
  refine wpAny_call (codeAny_mono (F.run X.A.in1 X.stack s H ⟨[.ref a, u], []⟩ [.ref a, u] [.ref a, y] _ E hr.in1 I.env0.in1 (by simpa using hb s [.ref a, u] I.kIn (by simpa using hl)) r2 q) fun r s' hq => ?_)
  cases r with
  | error e => exact hx pins σ H s e s' I hq
  | ok fl =>
    cases fl with
    | ret u' =>
      obtain ⟨z', H', I', rz, k, rfl, qz⟩ := I.after hq
      cases (show u' = Value.bool k from rz)
      exact ⟨k, rfl, .bl (!k), H', I', rfl, qz⟩
    | next => exact False.elim hq
    | brk => exact False.elim hq
    | cont => exact False.elim hq
end

theorem putK_set : ∀ {ws : List Str} {us : List V} {z : Str} {v : V}, us.length = ws.length → ws.Nodup → z ∈ ws → putK (dkv ws us) (.inr z) v = dkv ws (us.set (ws.idxOf z) v)
  | ws, us, z, v, e, nd, hz => by
    have any : ((dkv ws us).any fun kv => decide (kv.1 = Sum.inr z)) = true := by
      rw [List.any_eq_true]
      have il := idx_lt hz
      have e2 : us[ws.idxOf z]? = some (us[ws.idxOf z]'(by omega)) := List.getElem?_eq_getElem _
      refine ⟨(Sum.inr z, us[ws.idxOf z]'(by omega)), ?_, by simp⟩
      refine List.mem_of_getElem? (i := ws.idxOf z) ?_
      unfold dkv
      rw [List.getElem?_zip_eq_some]
      refine ⟨?_, e2⟩
      rw [List.getElem?_map, List.getElem?_eq_getElem il, List.getElem_idxOf il]
      rfl
    unfold putK
    rw [if_pos any]
    refine List.ext_getElem? fun j => ?_
    rw [List.getElem?_map]
    unfold dkv
    cases ew : ws[j]? with
    | none =>
      have l1 := List.getElem?_eq_none_iff.mp ew
      rw [List.getElem?_eq_none (by rw [List.length_zip, List.length_map]; omega), List.getElem?_eq_none (by rw [List.length_zip, List.length_map]; omega)]
      rfl
    | some w =>
      have jl := (List.getElem?_eq_some_iff.mp ew).1
      have eu : us[j]? = some (us[j]'(by omega)) := List.getElem?_eq_getElem _
      have a1 : ((ws.map (Sum.inr : Str → Key)).zip us)[j]? = some (Sum.inr w, us[j]'(by omega)) := List.getElem?_zip_eq_some.mpr ⟨by rw [List.getElem?_map, ew]; rfl, eu⟩
      rw [a1]
      by_cases c : w = z
      · have ij : ws.idxOf z = j := by
          rw [← c]
          exact idx_of nd ew
        have a2 : ((ws.map (Sum.inr : Str → Key)).zip (us.set (ws.idxOf z) v))[j]? = some (Sum.inr w, v) := List.getElem?_zip_eq_some.mpr ⟨by rw [List.getElem?_map, ew]; rfl, by rw [ij, List.getElem?_set_self (by omega)]⟩
        rw [a2]
        simp [c]
      · have ij : ws.idxOf z ≠ j := fun x => c (by
          have il := idx_lt hz
          have e3 : ws[ws.idxOf z]? = some z := by rw [List.getElem?_eq_getElem il, List.getElem_idxOf il]
          rw [x, ew] at e3
          exact Option.some.inj e3)
        have a2 : ((ws.map (Sum.inr : Str → Key)).zip (us.set (ws.idxOf z) v))[j]? = some (Sum.inr w, us[j]'(by omega)) := List.getElem?_zip_eq_some.mpr ⟨by rw [List.getElem?_map, ew]; rfl, by rw [List.getElem?_set_ne ij]; exact eu⟩
        rw [a2]
        simp [c]
theorem tab_at {H : Hp} {ws ds : List Str} {as : List Addr} {tb : List (List Str)} (pr : Paired (fun a vs => H a = some (.dK (dkv ws (vs.map V.str)))) as tb) (al : as.length = ds.length) {d : Str} (hd : d ∈ ds) :
    ∃ a vs, valV (dkv ds (as.map V.ref)) (.inr d) = some (.ref a) ∧ a ∈ as ∧ vs ∈ tb ∧ H a = some (.dK (dkv ws (vs.map V.str))) := by
  have il := idx_lt hd
  have e1 : as[ds.idxOf d]? = some (as[ds.idxOf d]'(by omega)) := List.getElem?_eq_getElem _
  obtain ⟨vs, et, ha⟩ := pair_at pr e1
  refine ⟨_, vs, ?_, List.getElem_mem (by omega), List.mem_of_getElem? et, ha⟩
  rw [dkv_get (by rw [List.length_map, al]) hd, List.getElem?_map, e1]
  rfl
end Dk
set_option Elab.async false
set_option linter.all false
set_option maxRecDepth 100000
set_option maxHeartbeats 8000000
namespace Dk
open PySem PySem.Spec PyProof.Rows L2 Er LamX NdefX
/-! ### _law_bent -/
theorem pair_set {α β : Type} {f : α → β → Prop} {x : α} {y : β} : ∀ {l : List α} {m : List β}, Paired f l m → f x y → ∀ i, Paired f (l.set i x) (m.set i y)
  | _, _, .nil, _, i => by
    simp
    exact .nil
  | _, _, .cons h t, e, 0 => .cons e t
  | _, _, .cons h t, e, i + 1 => .cons h (pair_set t e i)
theorem word_zz : IsWord "zz" := by decide +kernel
def spBe : Sp := fun vs H Q _ => ∃ (p u nm dd sg : Addr) (ws ds : List Str) (as : List Addr) (tb : List (List Str)) (ls : List Str), vs = [.ref p, .ref u] ∧ Src H p ∧ DkAt H u nm dd sg ws ds as tb ls ∧ DkIs 9 ws ds tb ls ∧
  ∀ (u' nm' dd' sg' : Addr) (as' : List Addr) (tb' : List (List Str)) (ls' : List Str) G, Sx p H G → Src G p → H u' = none → DkAt G u' nm' dd' sg' ws ds as' tb' ls' → DkIs 9 ws ds tb' ls' → Q (.ref u') G
abbrev nBe : List Str := ["_law_source_here", "_law_desk_here", "_law_deeds", "_law_sights_here", "_law_deed", "_law_leads_here"]
theorem scBe : FnScope nBe ["_law_source_here", "_law_desk_here"] (defScope (top 47)) := ⟨rfl, rfl, rfl, by decide +kernel, rfl, by decide +kernel, by decide +kernel⟩
section
variable {P : Program} {w : World} {K : PySem.W.Frag} {mg : Str → Option Value} {base : Heap} {f fP fD : Addr} {fd dP dD : FuncData}
theorem bBe (F : FnP K "_law_bent" (top 47) f fd) : Binds K fd ["_law_source_here", "_law_desk_here"] [] := F.bindsN fun _ _ _ _ _ _ us hl => match us, hl with
  | [_, _], _ => rfl
theorem ok_be (F : FnP K "_law_bent" (top 47) f fd) (mt : mg "list" = none) (md : mg "dict" = none) (GP : FnOk P w K mg base CX0 2 fP dP nPick (spPick K)) (FP : FnP K "_law_pick" (top 33) fP dP) (gP : mg "_law_pick" = some (.ref fP))
    (GD : FnOk P w K mg base CX0 1 fD dD ["_law_source_here", "_law_span"] spD) (FD : FnP K "_law_draw" (top 32) fD dD) (gD : mg "_law_draw" = some (.ref fD)) : FnOk P w K mg base CX0 3 f fd ["_law_source_here", "_law_desk_here"] spBe := by
  refine F.ok (CX := CX0) scBe (fun vs H Q E h => ?_) (fun cdv A outer s H vs Q E hr2 h => ?_)
  · obtain ⟨p, u, nm, dd, sg, ws, ds, as, tb, ls, rfl, _⟩ := h
    rfl
  · have hr1 := hr2.mono (show 1 ≤ 2 by decide)
    have hr := hr2
    refine ⟨_, PSs.nox (pss_cons (ps_par (i := 2) (j := 3) rfl scBe.nd rfl rfl (by decide) rfl rfl (pa_cons (by exact (pe_callTy call_dictD rfl md PyProof.Rows.boot_dict (pa_cons (by exact (pe_ix ix_tup (pv 1) pe_int (fun _ _ => rfl))) pa_nil))) (pa_cons (by exact (pe_callTy call_dictD rfl md PyProof.Rows.boot_dict (pa_cons (by exact (pe_ix ix_tup (pv 1) pe_int (fun _ _ => rfl))) pa_nil))) pa_nil)) (by rfl))
      (pss_cons (ps_if (pt_cmpR op_eq (by exact (pe_call GD hr1 rfl gD FD.kp (bD FD) .nil pass0 (pa_cons (pv 0) (pa_cons pe_int pa_nil)))) pe_int (nomark _))
        (pss_cons (ps_dput (hu_of hr) (pv 3) (by exact (pe_call GP hr2 rfl gP FP.kp (bP FP) .nil pass0 (pa_cons (pv 0) (pa_cons (by exact (pe_ix ix_tup (pv 1) pe_int (fun _ _ => rfl))) pa_nil)))) (by exact (pe_call GP hr2 rfl gP FP.kp (bP FP) .nil pass0 (pa_cons (pv 0) (pa_cons (pe_lst (pa_cons pe_str (pa_cons (by exact (pe_dget (hu_of hr) (pv 3) (by exact (pe_ix ix_list (by exact (pe_ix ix_tup (pv 1) pe_int (fun _ _ => rfl))) pe_int (fun _ _ => rfl))) (fun _ _ => rfl))) pa_nil))) pa_nil)))) (by rfl))
        (pss_one (ps_ret (by exact (pe_tup (pa_cons (by exact (pe_ix ix_tup (pv 1) pe_int (fun _ _ => rfl))) (pa_cons (pv 2) (pa_cons (pv 3) pa_nil)))))))) pss_nil)
      (pss_cons (ps_set (i := 4) scBe.nd rfl (.inl rfl) (by exact (pe_call GP hr2 rfl gP FP.kp (bP FP) .nil pass0 (pa_cons (pv 0) (pa_cons (by exact (pe_callTy (call_list_dK rfl) rfl mt PyProof.Rows.boot_list (pa_cons (pv 2) pa_nil))) pa_nil)))))
      (pss_cons (ps_set (i := 5) scBe.nd rfl (.inl rfl) (by exact (pe_callTy call_dictD rfl md PyProof.Rows.boot_dict (pa_cons (by exact (pe_dget (hu_of hr) (pv 2) (pv 4) (fun _ _ => rfl))) pa_nil))))
      (pss_cons (ps_dput (hu_of hr) (pv 5) (by exact (pe_call GP hr2 rfl gP FP.kp (bP FP) .nil pass0 (pa_cons (pv 0) (pa_cons (by exact (pe_ix ix_tup (pv 1) pe_int (fun _ _ => rfl))) pa_nil)))) (by exact (pe_call GP hr2 rfl gP FP.kp (bP FP) .nil pass0 (pa_cons (pv 0) (pa_cons (by exact (pe_ix ix_tup (pv 1) pe_int (fun _ _ => rfl))) pa_nil)))) (by rfl))
      (pss_cons (ps_dput (hu_of hr) (pv 2) (pv 4) (pv 5) (by rfl))
      (pss_one (ps_ret (by exact (pe_tup (pa_cons (by exact (pe_ix ix_tup (pv 1) pe_int (fun _ _ => rfl))) (pa_cons (pv 2) (pa_cons (pv 3) pa_nil))))))))))))), ?_⟩
    obtain ⟨p, u, nm, dd, sg, ws, ds, as, tb, ls, rfl, hs, hk, is, q⟩ := h
    obtain ⟨hu, hnm, hdd, hsg, pr⟩ := id hk
    have al : as.length = ds.length := by rw [paired_len pr, is.rows]
    have w1 := is.some
    have w9 := is.most
    have d1 := is.dsome
    have d4 := is.dmost
    have sz : ∀ n : Nat, n ≤ 1000 → n ≤ sizeLine := fun n z => by
      rw [sizeLine_eq]
      omega
    have wn : ∀ {vs : List Str}, vs.length = ws.length → (dkv ws (vs.map V.str)).length < sizeLine := fun {vs} e => by
      rw [dkv_len (by rw [List.length_map, e]), sizeLine_eq]
      omega
    have nmp := src_ne_strs hs hnm w1
    have up := src_ne hs hu fun _ _ z => nomatch z
    have asp : ∀ {a : Addr} {vs : List Str}, H a = some (.dK (dkv ws (vs.map V.str))) → a ≠ p := fun e => src_ne hs e fun _ _ z => nomatch z
    have wl1 : 0 < (ws.map V.str).length := by
      rw [List.length_map]
      omega
    have wl2 : (ws.map V.str).length ≤ 1000 := by
      rw [List.length_map]
      omega
    refine ⟨_, rfl, u, _, 1, .ref dd, rfl, rfl, .inl (.inl hu), atI_nat (j := 1) rfl, dd, _, rfl, .inl hdd, fun s1 n1 => ⟨_, rfl, u, _, 2, .ref sg, rfl, rfl, .inl (.inl (Sm.new n1 _ _ hu)), atI_nat (j := 2) rfl, sg, _, rfl, .inl (Sm.new n1 _ _ hsg), fun l1 n2 => ⟨_, _, rfl, ?_⟩⟩⟩
    have m1 : Sx p H (upd (upd H s1 (.dK (dkv ds (as.map V.ref)))) l1 (.dK (dkv ws (ls.map V.str)))) := (Sx.of (Sm.new n1)).trans (Sx.of (Sm.new n2))
    have r1 : Src (upd (upd H s1 (.dK (dkv ds (as.map V.ref)))) l1 (.dK (dkv ws (ls.map V.str)))) p := (hs.new n1).new n2
    have e2 : upd (upd H s1 (.dK (dkv ds (as.map V.ref)))) l1 (.dK (dkv ws (ls.map V.str))) s1 = some (.dK (dkv ds (as.map V.ref))) := Sm.new n2 _ _ upd_same
    have e1 : upd (upd H s1 (.dK (dkv ds (as.map V.ref)))) l1 (.dK (dkv ws (ls.map V.str))) l1 = some (.dK (dkv ws (ls.map V.str))) := upd_same
    have s1p : s1 ≠ p := hs.ne n1
    have l1p : l1 ≠ p := (hs.new n1).ne n2
    have d12 : s1 ≠ l1 := ne_of_none (upd_same (H := H) (a := s1) (o := .dK (dkv ds (as.map V.ref)))) n2
    have l1H : H l1 = none := by
      rw [upd_ne (Ne.symm d12)] at n2
      exact n2
    generalize upd (upd H s1 (.dK (dkv ds (as.map V.ref)))) l1 (.dK (dkv ws (ls.map V.str))) = M at m1 r1 e1 e2 ⊢
    clear n2
    refine ⟨_, rfl, p, 2, rfl, r1, by decide, by decide, fun kd M1 hkd sx1 r1b _ => ⟨rfl, _, rfl, ?_⟩⟩
    replace m1 := m1.trans sx1
    replace e1 := sx1 _ _ l1p e1
    replace e2 := sx1 _ _ s1p e2
    clear sx1 r1
    by_cases c : V.int ((kd : Nat) : Int) = V.int 0
    · rw [decide_eq_true c]
      -- looks[..] = ..
      have z0 : ws[0]? = some (ws[0]'(by omega)) := List.getElem?_eq_getElem _
      have z0m : ws[0]'(by omega) ∈ ws := List.getElem_mem _
      have el0 := look_at is.looks z0m
      have l0w : IsWord (look ws ls (ws[0]'(by omega))) := by
        have il := idx_lt z0m
        have hl : ls.length = ws.length := is.looks
        refine is.look _ ?_
        unfold look
        rw [List.getD_eq_getElem?_getD, List.getElem?_eq_getElem (show ws.idxOf (ws[0]'(by omega)) < ls.length by omega)]
        exact List.getElem_mem _
      refine iteT ⟨_, rfl, _, rfl, _, rfl, u, _, 0, .ref nm, rfl, rfl, .inl (.inl (m1 _ _ up hu)), atI_nat (j := 0) rfl, nm, _, 0, .str (ws[0]'(by omega)), rfl, rfl, .inl (.inl (m1 _ _ nmp hnm)), atI_nat (j := 0) (by rw [List.getElem?_map, z0]; rfl), l1, _, rfl, .inl ⟨_, .inr (ws[0]'(by omega)), .inl e1, rfl, el0.symm⟩, sz _ (by show 2 ≤ 1000; decide), fun t1 nt => ⟨p, _, rfl, r1b.new nt, .inl ⟨t1, _, rfl, r1b.ne nt, .inl (.inl upd_same), by show 0 < 2; decide, by show 2 ≤ 1000; decide, fun k v M2 ev sx2 src2 fr2 => ?_⟩⟩⟩
      obtain ⟨y, yw, rfl⟩ : ∃ y, IsWord y ∧ v = .str y := by
        match k, ev with
        | 0, ev => exact ⟨"zz", word_zz, (Option.some.inj ev).symm⟩
        | 1, ev => exact ⟨_, l0w, (Option.some.inj ev).symm⟩
        | k + 2, ev => exact nomatch ev
      have m2 : Sx p M1 M2 := (Sx.of (Sm.new nt)).trans sx2
      have m12 := m1.trans m2
      refine ⟨_, rfl, _, rfl, _, rfl, u, _, 0, .ref nm, rfl, rfl, .inl (.inl (m12 _ _ up hu)), atI_nat (j := 0) rfl, p, _, rfl, src2, .inl ⟨nm, _, rfl, nmp, .inl (.inl (m12 _ _ nmp hnm)), wl1, wl2, fun k2 v2 M3 ev2 sx3 src3 fr3 => ?_⟩⟩
      obtain ⟨x, hx, rfl⟩ := str_at ev2
      have m3 := m2.trans sx3
      refine ⟨l1, _, rfl, DPut.k (k := .inr x) (m3 _ _ l1p e1) (wn is.looks), ?_⟩
      rw [putK_set (by rw [List.length_map, is.looks]) is.nd hx, ← List.map_set]
      have f1 : upd M3 l1 (.dK (dkv ws ((ls.set (ws.idxOf x) y).map V.str))) l1 = some (.dK (dkv ws ((ls.set (ws.idxOf x) y).map V.str))) := upd_same
      have f2 : upd M3 l1 (.dK (dkv ws ((ls.set (ws.idxOf x) y).map V.str))) s1 = some (.dK (dkv ds (as.map V.ref))) := by
        rw [upd_ne d12]
        exact m3 _ _ s1p e2
      have m4 : Sx p H (upd M3 l1 (.dK (dkv ws ((ls.set (ws.idxOf x) y).map V.str)))) := sx_own (m1.trans m3) l1H
      have r4 : Src (upd M3 l1 (.dK (dkv ws ((ls.set (ws.idxOf x) y).map V.str)))) p := src_upd src3 l1p
      generalize upd M3 l1 (.dK (dkv ws ((ls.set (ws.idxOf x) y).map V.str))) = N at f1 f2 m4 r4 ⊢
      refine ⟨_, rfl, u, _, 0, .ref nm, rfl, rfl, .inl (.inl (m4 _ _ up hu)), atI_nat (j := 0) rfl, _, rfl, _, rfl, sz _ (by show 3 ≤ 1000; decide), fun u2 nu => ?_⟩
      have n5 := Sm.new (o := .tup [.ref nm, .ref s1, .ref l1]) nu
      refine q u2 nm s1 l1 as tb _ _ (m4.trans (Sx.of n5)) (r4.new nu) (none_back m4 r4 nu) ⟨upd_same, n5 _ _ (m4 _ _ nmp hnm), n5 _ _ f2, n5 _ _ f1, pair_mono pr fun a _ vs e => n5 _ _ (m4 _ _ (asp e) e)⟩ { is with looks := by rw [List.length_set, is.looks], look := fun z hz => ?_ }
      rcases List.mem_or_eq_of_mem_set hz with z1 | z1
      · exact is.look z z1
      · exact z1 ▸ yw
    · rw [decide_eq_false c]
      -- a deed, its table with one entry exchanged
      refine iteF ⟨_, rfl, _, rfl, s1, _, rfl, e2, fun t nt => ⟨p, _, rfl, r1b.new nt, .inl ⟨t, _, rfl, r1b.ne nt, .inl (.inl upd_same), ?_, ?_, fun k v N2 ev sx2 r5 fr2 => ?_⟩⟩⟩
      · rw [keys_dkv (by rw [List.length_map, al]), List.length_map]
        omega
      · rw [keys_dkv (by rw [List.length_map, al]), List.length_map]
        omega
      rw [keys_dkv (by rw [List.length_map, al])] at ev
      obtain ⟨d, hd, rfl⟩ := str_at ev
      have m5 : Sx p M1 N2 := (Sx.of (Sm.new nt)).trans sx2
      clear ev sx2 fr2 nt
      have m6 := m1.trans m5
      have pr2 : Paired (fun a vs => N2 a = some (.dK (dkv ws (vs.map V.str)))) as tb := pair_mono pr fun a _ vs e => m6 _ _ (asp e) e
      obtain ⟨a, vs, ea, has, hvs, ha⟩ := tab_at pr2 al hd
      have vsok := is.row vs hvs
      refine ⟨_, rfl, _, rfl, s1, .ref a, rfl, .inl ⟨_, .inr d, .inl (m5 _ _ s1p e2), rfl, ea.symm⟩, a, _, rfl, .inl ha, fun v1 nv => ?_⟩
      have m7 : Sx p N2 (upd N2 v1 (.dK (dkv ws (vs.map V.str)))) := Sx.of (Sm.new nv)
      have r7 := r5.new (o := .dK (dkv ws (vs.map V.str))) nv
      have v1p := r5.ne nv
      have v1H : N2 v1 = none := nv
      have g3 : upd N2 v1 (.dK (dkv ws (vs.map V.str))) v1 = some (.dK (dkv ws (vs.map V.str))) := upd_same
      generalize upd N2 v1 (.dK (dkv ws (vs.map V.str))) = N3 at m7 r7 g3 ⊢
      have pk : ∀ {G : Hp}, Sx p H G → G nm = some (.lst (ws.map V.str)) := fun m => m _ _ nmp hnm
      have pu : ∀ {G : Hp}, Sx p H G → G u = some (.tup [.ref nm, .ref dd, .ref sg]) := fun m => m _ _ up hu
      refine ⟨_, rfl, _, rfl, u, _, 0, .ref nm, rfl, rfl, .inl (.inl (pu (m6.trans m7))), atI_nat (j := 0) rfl, p, _, rfl, r7, .inl ⟨nm, _, rfl, nmp, .inl (.inl (pk (m6.trans m7))), wl1, wl2, fun k v N4 ev sx4 r8 fr4 => ?_⟩⟩
      obtain ⟨y2, hy2, rfl⟩ := str_at ev
      have m8 := m7.trans sx4
      refine ⟨_, rfl, _, rfl, _, rfl, u, _, 0, .ref nm, rfl, rfl, .inl (.inl (pu (m6.trans m8))), atI_nat (j := 0) rfl, p, _, rfl, r8, .inl ⟨nm, _, rfl, nmp, .inl (.inl (pk (m6.trans m8))), wl1, wl2, fun k v N5 ev2 sx5 r9 fr5 => ?_⟩⟩
      obtain ⟨x2, hx2, rfl⟩ := str_at ev2
      have m9 := m8.trans sx5
      refine ⟨v1, _, rfl, DPut.k (k := .inr x2) (sx5 _ _ v1p (sx4 _ _ v1p g3)) (wn vsok.1), ?_⟩
      rw [putK_set (by rw [List.length_map, vsok.1]) is.nd hx2, ← List.map_set]
      have vs2ok : (vs.set (ws.idxOf x2) y2).length = ws.length ∧ ∀ z ∈ vs.set (ws.idxOf x2) y2, z ∈ ws := ⟨by rw [List.length_set, vsok.1], fun z hz => by
        rcases List.mem_or_eq_of_mem_set hz with z1 | z1
        · exact vsok.2 z z1
        · exact z1 ▸ hy2⟩
      generalize vs.set (ws.idxOf x2) y2 = vs2 at vs2ok ⊢
      have d1v : l1 ≠ v1 := fun z => by
        rw [← z, m5 _ _ l1p e1] at v1H
        cases v1H
      have dsv : s1 ≠ v1 := fun z => by
        rw [← z, m5 _ _ s1p e2] at v1H
        cases v1H
      have g1 : upd N5 v1 (.dK (dkv ws (vs2.map V.str))) l1 = some (.dK (dkv ws (ls.map V.str))) := by
        rw [upd_ne d1v]
        exact m9 _ _ l1p (m5 _ _ l1p e1)
      have g2 : upd N5 v1 (.dK (dkv ws (vs2.map V.str))) s1 = some (.dK (dkv ds (as.map V.ref))) := by
        rw [upd_ne dsv]
        exact m9 _ _ s1p (m5 _ _ s1p e2)
      have g4 : upd N5 v1 (.dK (dkv ws (vs2.map V.str))) v1 = some (.dK (dkv ws (vs2.map V.str))) := upd_same
      have v1HH : H v1 = none := none_sx hs m6 r5 v1H
      have m10 : Sx p H (upd N5 v1 (.dK (dkv ws (vs2.map V.str)))) := sx_own (m6.trans m9) v1HH
      have r10 : Src (upd N5 v1 (.dK (dkv ws (vs2.map V.str)))) p := src_upd r9 v1p
      generalize upd N5 v1 (.dK (dkv ws (vs2.map V.str))) = N6 at g1 g2 g4 m10 r10 ⊢
      clear m5 m6 m7 m8 m9 r5 r7 r8 r9 sx4 sx5 fr4 fr5 g3 ev ev2 pr2 ha nv v1H
      refine ⟨_, rfl, _, rfl, _, rfl, s1, _, rfl, DPut.k (k := .inr d) g2 (by rw [dkv_len (by rw [List.length_map, al]), sizeLine_eq]; omega), ?_⟩
      rw [putK_set (by rw [List.length_map, al]) is.dnd hd, ← List.map_set]
      have k2 : upd N6 s1 (.dK (dkv ds ((as.set (ds.idxOf d) v1).map V.ref))) s1 = some (.dK (dkv ds ((as.set (ds.idxOf d) v1).map V.ref))) := upd_same
      have k1 : upd N6 s1 (.dK (dkv ds ((as.set (ds.idxOf d) v1).map V.ref))) l1 = some (.dK (dkv ws (ls.map V.str))) := by
        rw [upd_ne (Ne.symm d12)]
        exact g1
      have k4 : upd N6 s1 (.dK (dkv ds ((as.set (ds.idxOf d) v1).map V.ref))) v1 = some (.dK (dkv ws (vs2.map V.str))) := by
        rw [upd_ne (Ne.symm dsv)]
        exact g4
      have m11 : Sx p H (upd N6 s1 (.dK (dkv ds ((as.set (ds.idxOf d) v1).map V.ref)))) := sx_own m10 n1
      have r11 : Src (upd N6 s1 (.dK (dkv ds ((as.set (ds.idxOf d) v1).map V.ref)))) p := src_upd r10 s1p
      generalize upd N6 s1 (.dK (dkv ds ((as.set (ds.idxOf d) v1).map V.ref))) = N7 at k1 k2 k4 m11 r11 ⊢
      refine ⟨_, rfl, u, _, 0, .ref nm, rfl, rfl, .inl (.inl (m11 _ _ up hu)), atI_nat (j := 0) rfl, _, rfl, _, rfl, sz _ (by show 3 ≤ 1000; decide), fun u2 nu => ?_⟩
      have n5 := Sm.new (o := .tup [.ref nm, .ref s1, .ref l1]) nu
      refine q u2 nm s1 l1 _ (tb.set (ds.idxOf d) vs2) _ _ (m11.trans (Sx.of n5)) (r11.new nu) (none_back m11 r11 nu) ⟨upd_same, n5 _ _ (m11 _ _ nmp hnm), n5 _ _ k2, n5 _ _ k1, pair_set (pair_mono pr fun a _ vs e => n5 _ _ (m11 _ _ (asp e) e)) (n5 _ _ k4) _⟩ { is with rows := by rw [List.length_set, is.rows], row := fun vs hvs => ?_ }
      rcases List.mem_or_eq_of_mem_set hvs with z1 | z1
      · exact is.row vs z1
      · exact z1 ▸ vs2ok
end
end Dk
set_option Elab.async false
set_option linter.all false
set_option maxRecDepth 100000
set_option maxHeartbeats 8000000
namespace Dk
open PySem PySem.Spec PyProof.Rows L2 Er LamX NdefX
/-! ### _law_grown -/
theorem menu_word : ∀ z ∈ menu, IsWord z := by decide +kernel
theorem snoc_nd {ws : List Str} {st : Str} (h : ws.Nodup) (n : st ∉ ws) : (ws ++ [st]).Nodup := List.nodup_append.mpr ⟨h, List.nodup_cons.mpr ⟨(fun h => nomatch h), .nil⟩, fun a ha b hb e => n (by rw [← List.mem_singleton.mp hb, ← e]; exact ha)⟩
/-- all but two stands -/
def S2 (p q : Addr) (H G : Hp) : Prop := ∀ b o, b ≠ p → b ≠ q → H b = some o → G b = some o
theorem S2.sx {p q : Addr} {H G G2 : Hp} (h : S2 p q H G) (m : Sx p G G2) : S2 p q H G2 := fun b o n1 n2 e => m b o n1 (h b o n1 n2 e)
theorem S2.own {p q : Addr} {H G : Hp} {o : HO} (h : S2 p q H G) : S2 p q H (upd G q o) := fun b u n1 n2 e => by
  rw [upd_ne n2]
  exact h b u n1 n2 e
def spGw (K : PySem.W.Frag) : Sp := fun vs H Q _ => ∃ (p u nm dd sg : Addr) (ws ds : List Str) (as : List Addr) (tb : List (List Str)) (ls : List Str), vs = [.ref p, .ref u] ∧ Src H p ∧ DkAt H u nm dd sg ws ds as tb ls ∧ DkIs 9 ws ds tb ls ∧
  ∀ (u' nm' dd' sg' : Addr) (ws' : List Str) (as' : List Addr) (tb' : List (List Str)) (ls' : List Str) G, Sx p H G → Src G p → DkAt G u' nm' dd' sg' ws' ds as' tb' ls' → DkIs 9 ws' ds tb' ls' → Q (.ref u') G
abbrev nGw : List Str := ["_law_source_here", "_law_desk_here", "_law_late", "_law_twin", "_law_deeds", "_law_sights_here", "_law_deed", "_law_leads_here", "_law_one"]
theorem scGw : FnScope nGw ["_law_source_here", "_law_desk_here"] (defScope (top 46)) := ⟨rfl, rfl, rfl, by decide +kernel, rfl, by decide +kernel, by decide +kernel⟩
section
variable {P : Program} {w : World} {K : PySem.W.Frag} {mg : Str → Option Value} {base : Heap} {f fP fD fG : Addr} {fd dP dD dG : FuncData}
theorem bGw (F : FnP K "_law_grown" (top 46) f fd) : Binds K fd ["_law_source_here", "_law_desk_here"] [] := F.bindsN fun _ _ _ _ _ _ us hl => match us, hl with
  | [_, _], _ => rfl
theorem ok_gw (F : FnP K "_law_grown" (top 46) f fd) (ml : mg "len" = none) (md : mg "dict" = none) (GP : FnOk P w K mg base CX0 2 fP dP nPick (spPick K)) (FP : FnP K "_law_pick" (top 33) fP dP) (gP : mg "_law_pick" = some (.ref fP))
    (GD : FnOk P w K mg base CX0 1 fD dD ["_law_source_here", "_law_span"] spD) (FD : FnP K "_law_draw" (top 32) fD dD) (gD : mg "_law_draw" = some (.ref fD))
    (GG : FnOk P w K mg base CX0 1 fG dG ["_law_names_here"] (spStranger K)) (FG : FnP K "_law_stranger" (top 44) fG dG) (gG : mg "_law_stranger" = some (.ref fG)) : FnOk P w K mg base CX0 3 f fd ["_law_source_here", "_law_desk_here"] (spGw K) := by
  refine F.ok (CX := CX0) scGw (fun vs H Q E h => ?_) (fun cdv A outer s H vs Q E hr2 h => ?_)
  · obtain ⟨p, u, nm, dd, sg, ws, ds, as, tb, ls, rfl, _⟩ := h
    rfl
  · have hr1 := hr2.mono (show 1 ≤ 2 by decide)
    have hr := hr2
    refine ⟨_, PSs.nox (pss_cons (ps_set (i := 2) scGw.nd rfl (.inl rfl) (by exact (pe_call GG hr1 rfl gG FG.kp (bStr FG) .nil pass0 (pa_cons (by exact (pe_ix ix_tup (pv 1) pe_int (fun _ _ => rfl))) pa_nil))))
      (pss_cons (ps_if (pt_cmpR op_eq (by exact (pe_callB call_len rfl ml boot_len (pa_cons (by exact (pe_ix ix_tup (pv 1) pe_int (fun _ _ => rfl))) pa_nil))) pe_int (nomark _)) (pss_one (ps_ret (pv 1))) pss_nil)
      (pss_cons (ps_par3 (i := 3) (j := 4) (l := 5) rfl scGw.nd rfl rfl rfl (by decide) (by decide) (by decide) rfl rfl rfl (pa_cons (by exact (pe_call GP hr2 rfl gP FP.kp (bP FP) .nil pass0 (pa_cons (pv 0) (pa_cons (by exact (pe_ix ix_tup (pv 1) pe_int (fun _ _ => rfl))) pa_nil)))) (pa_cons pe_dnewK (pa_cons (by exact (pe_callTy call_dictD rfl md PyProof.Rows.boot_dict (pa_cons (by exact (pe_ix ix_tup (pv 1) pe_int (fun _ _ => rfl))) pa_nil))) pa_nil))) (by rfl))
      (pss_cons (ps_dput (hu_of hr) (pv 5) (pv 2) (by exact (pe_dget (hu_of hr) (pv 5) (pv 3) (fun _ _ => rfl))) (by rfl))
      (pss_cons (ps_lock (ps_for PassesOwn.never rfl (pi_keys (by exact (pe_ix ix_tup (pv 1) pe_int (fun _ _ => rfl)))) (pg_name (i := 6) scGw.nd rfl (.inl rfl))
        (pss_cons (ps_set (i := 7) scGw.nd rfl (.inl rfl) (by exact (pe_callTy call_dictD rfl md PyProof.Rows.boot_dict (pa_cons (by exact (pe_dget (hu_of hr) (by exact (pe_ix ix_tup (pv 1) pe_int (fun _ _ => rfl))) (pv 6) (fun _ _ => rfl))) pa_nil))))
        (pss_cons (ps_dput (hu_of hr) (pv 7) (pv 2) (by exact (pe_dget (hu_of hr) (pv 7) (pv 3) (fun _ _ => rfl))) (by rfl))
        (pss_cons (ps_for PassesOwn.never rfl (pi_list (by exact (pe_ix ix_tup (pv 1) pe_int (fun _ _ => rfl)))) (pg_name (i := 8) scGw.nd rfl (.inl rfl))
          (pss_one (ps_if (PW.pt (pw_and (pt_cmpR op_eq (by exact (pe_dget (hu_of hr) (pv 7) (pv 8) (fun _ _ => rfl))) (pv 3) (nomark _)) (pw_and1 (pt_cmpR op_eq (by exact (pe_call GD hr1 rfl gD FD.kp (bD FD) .nil pass0 (pa_cons (pv 0) (pa_cons pe_int pa_nil)))) pe_int (nomark _)))))
            (pss_one (ps_dput (hu_of hr) (pv 7) (pv 8) (pv 2) (by rfl))) pss_nil)))
        (pss_one (ps_dput (hu_of hr) (pv 4) (pv 6) (pv 7) (by rfl))))))))
      (pss_one (ps_ret (by exact (pe_tup (pa_cons (by exact (pe_op op_cat (by exact (pe_ix ix_tup (pv 1) pe_int (fun _ _ => rfl))) (by exact (pe_lst (pa_cons (pv 2) pa_nil))))) (pa_cons (pv 4) (pa_cons (pv 5) pa_nil)))))))))))), ?_⟩
    obtain ⟨p, u, nm, dd, sg, ws, ds, as, tb, ls, rfl, hs, hk, is, q⟩ := h
    obtain ⟨hu, hnm, hdd, hsg, pr⟩ := id hk
    have al : as.length = ds.length := by rw [paired_len pr, is.rows]
    have w1 := is.some
    have w9 := is.most
    have d4 := is.dmost
    have sz : ∀ n : Nat, n ≤ 1000 → n ≤ sizeLine := fun n z => by
      rw [sizeLine_eq]
      omega
    have nmp := src_ne_strs hs hnm w1
    have up := src_ne hs hu fun _ _ z => nomatch z
    have sgp := src_ne hs hsg fun _ _ z => nomatch z
    have ddp := src_ne hs hdd fun _ _ z => nomatch z
    have asp : ∀ {a : Addr} {vs : List Str}, H a = some (.dK (dkv ws (vs.map V.str))) → a ≠ p := fun e => src_ne hs e fun _ _ z => nomatch z
    have wl1 : 0 < (ws.map V.str).length := by
      rw [List.length_map]
      omega
    have wl2 : (ws.map V.str).length ≤ 1000 := by
      rw [List.length_map]
      omega
    refine ⟨_, rfl, u, _, 0, .ref nm, rfl, rfl, .inl (.inl hu), atI_nat (j := 0) rfl, nm, ws, rfl, .inl (.inl hnm), by omega, fun st H1 m1 hst hno => ?_⟩
    have x1 : Sx p H H1 := Sx.of m1
    have s1 := hs.sm m1
    refine ⟨_, rfl, u, _, 0, .ref nm, rfl, rfl, .inl (.inl (m1 _ _ hu)), atI_nat (j := 0) rfl, .ref nm, ws.length, rfl, .inl ⟨_, .inl (.inl (m1 _ _ hnm)), by rw [List.length_map]⟩, rfl, _, rfl, ?_⟩
    by_cases c9 : V.int ((ws.length : Nat) : Int) = V.int 9
    · rw [decide_eq_true c9]
      exact iteT ⟨_, rfl, q u nm dd sg ws as tb ls H1 x1 s1 (by exact ⟨m1 _ _ hu, m1 _ _ hnm, m1 _ _ hdd, m1 _ _ hsg, pair_mono pr fun a _ vs e => m1 _ _ e⟩) is⟩
    rw [decide_eq_false c9]
    have w8 : ws.length ≤ 8 := by
      rcases Nat.lt_or_ge ws.length 9 with z | z
      · omega
      · exact absurd (by rw [show ws.length = 9 by omega]; rfl) c9
    have stw := menu_word st hst
    refine iteF ⟨_, rfl, _, rfl, u, _, 0, .ref nm, rfl, rfl, .inl (.inl (m1 _ _ hu)), atI_nat (j := 0) rfl, p, _, rfl, s1, .inl ⟨nm, _, rfl, nmp, .inl (.inl (m1 _ _ hnm)), wl1, wl2, fun k v H2 ev sx2 s2 fr2 => ?_⟩⟩
    obtain ⟨tw, htw, rfl⟩ := str_at ev
    have x2 := x1.trans sx2
    clear ev sx2 fr2 m1 s1
    intro dn ndn
    have y1 := Sm.new (o := .dK []) ndn
    refine ⟨_, rfl, u, _, 2, .ref sg, rfl, rfl, .inl (.inl (y1 _ _ (x2 _ _ up hu))), atI_nat (j := 2) rfl, sg, _, rfl, .inl (y1 _ _ (x2 _ _ sgp hsg)), fun l1 nl1 => ⟨_, _, _, rfl, ?_⟩⟩
    have y2 := y1.trans (Sm.new (o := .dK (dkv ws (ls.map V.str))) nl1)
    have edn : upd (upd H2 dn (.dK [])) l1 (.dK (dkv ws (ls.map V.str))) dn = some (.dK []) := Sm.new nl1 _ _ upd_same
    have el1 : upd (upd H2 dn (.dK [])) l1 (.dK (dkv ws (ls.map V.str))) l1 = some (.dK (dkv ws (ls.map V.str))) := upd_same
    have dnl : dn ≠ l1 := ne_of_none (upd_same (H := H2) (a := dn) (o := .dK [])) nl1
    have l1H2 : H2 l1 = none := none_of_sm y1 nl1
    generalize upd (upd H2 dn (.dK [])) l1 (.dK (dkv ws (ls.map V.str))) = H3 at y2 edn el1 ⊢
    have tl := look_at is.looks htw
    refine ⟨_, rfl, _, rfl, l1, _, rfl, .inl ⟨_, .inr tw, .inl el1, rfl, tl.symm⟩, _, rfl, _, rfl, l1, _, rfl, DPut.k (k := .inr st) el1 (by rw [dkv_len (by rw [List.length_map, is.looks]), sizeLine_eq]; omega), ?_⟩
    rw [put_dkvV (by rw [List.length_map, is.looks]) (snoc_nd is.nd hno)]
    have els : ls.map V.str ++ [V.str (look ws ls tw)] = (ls ++ [look ws ls tw]).map V.str := by rw [List.map_append]; rfl
    rw [els]
    have x3 : Sx p H (upd H3 l1 (.dK (dkv (ws ++ [st]) ((ls ++ [look ws ls tw]).map V.str)))) := fun b o n e => by
      have e2 := x2 b o n e
      rw [upd_ne (ne_of_none e2 l1H2)]
      exact y2 _ _ e2
    have r3 : Src (upd H3 l1 (.dK (dkv (ws ++ [st]) ((ls ++ [look ws ls tw]).map V.str)))) p := src_upd (s2.sm y2) (s2.ne l1H2)
    have dnH : H dn = none := none_sx hs x2 s2 ndn
    have edn : upd H3 l1 (.dK (dkv (ws ++ [st]) ((ls ++ [look ws ls tw]).map V.str))) dn = some (.dK []) := by
      rw [upd_ne dnl]
      exact edn
    have el1 : upd H3 l1 (.dK (dkv (ws ++ [st]) ((ls ++ [look ws ls tw]).map V.str))) l1 = some (.dK (dkv (ws ++ [st]) ((ls ++ [look ws ls tw]).map V.str))) := upd_same
    generalize upd H3 l1 (.dK (dkv (ws ++ [st]) ((ls ++ [look ws ls tw]).map V.str))) = H4 at x3 r3 edn el1 ⊢
    clear y1 y2 x2 s2 ndn nl1 l1H2
    have dnp := src_ne r3 edn (fun _ _ z => nomatch z)
    have l1p := src_ne r3 el1 (fun _ _ z => nomatch z)
    -- each deed's table, grown
    have hdd4 := x3 _ _ ddp hdd
    have udd : u ≠ dd := ne_of hu hdd (fun z => nomatch z)
    have nmd : nm ≠ dd := ne_of hnm hdd (fun z => nomatch z)
    have dndd : dn ≠ dd := fun z => by
      rw [z, hdd] at dnH
      cases dnH
    have l1dd : l1 ≠ dd := fun z => by
      have h := is.nd
      rw [z, hdd4] at el1
      have e6 := HO.dK.inj (Option.some.inj el1)
      have : (dkv ds (as.map V.ref)).map (·.2) = (dkv (ws ++ [st]) ((ls ++ [look ws ls tw]).map V.str)).map (·.2) := by rw [e6]
      have a1 : 0 < as.length := by
        have := is.dsome
        omega
      cases as with
      | nil => exact absurd a1 (by decide)
      | cons a as =>
        cases ds with
        | nil => cases al
        | cons d ds =>
          cases ws with
          | nil => exact absurd w1 (by decide)
          | cons w0 ws =>
            cases ls with
            | nil => exact absurd is.looks (by simp)
            | cons l ls => exact nomatch (List.cons.inj this).1
    have asd : ∀ a ∈ as, a ≠ dd := fun a ha z => by
      obtain ⟨i, hi, ei⟩ := List.mem_iff_getElem.mp ha
      obtain ⟨vs, e3, e4⟩ := pair_at pr (show as[i]? = some a by rw [List.getElem?_eq_getElem hi, ei])
      rw [z, hdd] at e4
      exact dkv_ne is.some (is.row vs (List.mem_of_getElem? e3)).1 (HO.dK.inj (Option.some.inj e4)).symm
    have pr4 : Paired (fun a vs => a ≠ p ∧ a ≠ dn ∧ a ≠ dd ∧ H4 a = some (.dK (dkv ws (vs.map V.str)))) as tb := paired_of (paired_len pr) fun j a vs e1 e2 => by
      obtain ⟨vs2, e3, e4⟩ := pair_at pr e1
      rw [e2] at e3
      have e5 := Option.some.inj e3
      subst e5
      exact ⟨asp e4, (fun z => by rw [z, dnH] at e4; cases e4), asd a (List.mem_of_getElem? e1), x3 _ _ (asp e4) e4⟩
    refine ⟨dd, _, hdd4, True.intro, fun od => ?_⟩
    have uL : upd H4 dd (.frz od (.dK (dkv ds (as.map V.ref)))) u = some (.tup [.ref nm, .ref dd, .ref sg]) := by
      rw [upd_ne udd]
      exact x3 _ _ up hu
    have nmL : upd H4 dd (.frz od (.dK (dkv ds (as.map V.ref)))) nm = some (.lst (ws.map V.str)) := by
      rw [upd_ne nmd]
      exact x3 _ _ nmp hnm
    have dL : upd H4 dd (.frz od (.dK (dkv ds (as.map V.ref)))) dd = some (.frz od (.dK (dkv ds (as.map V.ref)))) := upd_same
    have dnL : upd H4 dd (.frz od (.dK (dkv ds (as.map V.ref)))) dn = some (.dK []) := by
      rw [upd_ne dndd]
      exact edn
    have l1L : upd H4 dd (.frz od (.dK (dkv ds (as.map V.ref)))) l1 = some (.dK (dkv (ws ++ [st]) ((ls ++ [look ws ls tw]).map V.str))) := by
      rw [upd_ne l1dd]
      exact el1
    have prL : Paired (fun a vs => a ≠ p ∧ a ≠ dn ∧ upd H4 dd (.frz od (.dK (dkv ds (as.map V.ref)))) a = some (.dK (dkv ws (vs.map V.str)))) as tb := pair_mono pr4 fun a _ vs e => ⟨e.1, e.2.1, by
      rw [upd_ne e.2.2.1]
      exact e.2.2.2⟩
    have srL : Src (upd H4 dd (.frz od (.dK (dkv ds (as.map V.ref))))) p := src_upd r3 ddp
    have unl : ∀ G, S2 p dn (upd H4 dd (.frz od (.dK (dkv ds (as.map V.ref))))) G → Sx p H (upd G dd (.dK (dkv ds (as.map V.ref)))) := fun G m b o n e => by
      by_cases c : b = dd
      · rw [c, upd_same, ← hdd, ← c]
        exact e
      · rw [upd_ne c]
        exact m b o n (fun z => by rw [z, dnH] at e; cases e) (by rw [upd_ne c]; exact x3 b o n e)
    generalize upd H4 dd (.frz od (.dK (dkv ds (as.map V.ref)))) = L at uL nmL dL dnL l1L prL srL unl ⊢
    have dun : u ≠ dn := fun z => by rw [z, dnH] at hu; cases hu
    have nmn : nm ≠ dn := fun z => by rw [z, dnH] at hnm; cases hnm
    have dkl : (dkv ds (as.map V.ref)).length = ds.length := dkv_len (by rw [List.length_map, al])
    refine ⟨_, rfl, u, _, 1, .ref dd, rfl, rfl, .inl (.inl uL), atI_nat (j := 1) rfl, dd, od, rfl, .inl ⟨_, dL, ?_⟩⟩
    refine for_it walk_keys (fun i σ G => ∃ (es : List Addr) (t2 : List (List Str)) (v6 v7 v8 : Option V), σ = [some (.ref p), some (.ref u), some (.str st), some (.str tw), some (.ref dn), some (.ref l1), v6, v7, v8] ∧ es.length = i ∧ G dn = some (.dK (dkv (ds.take i) (es.map V.ref))) ∧
      Paired (fun e vs => e ≠ dn ∧ e ≠ dd ∧ e ≠ p ∧ G e = some (.dK (dkv (ws ++ [st]) (vs.map V.str)))) es t2 ∧ (∀ vs ∈ t2, vs.length = (ws ++ [st]).length ∧ ∀ z ∈ vs, z ∈ ws ++ [st]) ∧ S2 p dn L G ∧ Src G p)
      ⟨[], [], _, _, _, rfl, rfl, dnL, .nil, (fun vs h => nomatch h), (fun b o _ _ e => e), srL⟩ (fun i σ G _ p0 => ?_) (fun i x σ G G' hi p0 yy => ?_) (fun σ G p0 => ?_)
    · obtain ⟨_, _, _, _, _, _, _, _, _, _, mm, _⟩ := p0
      exact mm _ _ ddp (Ne.symm dndd) dL
    · obtain ⟨es, t2, v6, v7, v8, rfl, el, ed, pe, tok, mm, src⟩ := p0
      obtain ⟨rfl, k, v, ekv, rfl⟩ := yy
      obtain ⟨d, e1, rfl, ev⟩ := dkv_at ekv
      have hd := List.mem_of_getElem? e1
      have ddn : dd ≠ dn := Ne.symm dndd
      have prG : Paired (fun a vs => G' a = some (.dK (dkv ws (vs.map V.str)))) as tb := pair_mono prL fun a _ vs e => mm _ _ e.1 e.2.1 e.2.2
      obtain ⟨a, vs, ea, has, hvs, ha⟩ := tab_at prG al hd
      have vsok := is.row vs hvs
      refine ⟨_, rfl, u, _, 1, .ref dd, rfl, rfl, .inl (.inl (mm _ _ up dun uL)), atI_nat (j := 1) rfl, _, rfl, dd, .ref a, rfl, .inl ⟨_, .inr d, .inr ⟨od, mm _ _ ddp ddn dL⟩, rfl, ea.symm⟩, a, _, rfl, .inl ha, fun v1 nv => ?_⟩
      have tl2 := look_at vsok.1 htw
      have tw2 : look ws vs tw ∈ ws := by
        have il := idx_lt htw
        refine vsok.2 _ ?_
        unfold look
        rw [List.getD_eq_getElem?_getD, List.getElem?_eq_getElem (show ws.idxOf tw < vs.length by omega)]
        exact List.getElem_mem _
      refine ⟨_, rfl, _, rfl, v1, _, rfl, .inl ⟨_, .inr tw, .inl upd_same, rfl, tl2.symm⟩, _, rfl, _, rfl, v1, _, rfl, DPut.k (k := .inr st) upd_same (by rw [dkv_len (by rw [List.length_map, vsok.1]), sizeLine_eq]; omega), ?_⟩
      rw [put_dkvV (by rw [List.length_map, vsok.1]) (snoc_nd is.nd hno)]
      have evs : vs.map V.str ++ [V.str (look ws vs tw)] = (vs ++ [look ws vs tw]).map V.str := by rw [List.map_append]; rfl
      rw [evs]
      have vs2l : (vs ++ [look ws vs tw]).length = (ws ++ [st]).length := by rw [List.length_append, List.length_append, vsok.1]; rfl
      have vs2m : ∀ z ∈ vs ++ [look ws vs tw], z ∈ ws ++ [st] := fun z hz => List.mem_append_left _ (by
        rcases List.mem_append.mp hz with h | h
        · exact vsok.2 z h
        · rw [List.mem_singleton.mp h]
          exact tw2)
      generalize vs ++ [look ws vs tw] = vs2 at vs2l vs2m ⊢
      have g1 : Sm G' (upd (upd G' v1 (.dK (dkv ws (vs.map V.str)))) v1 (.dK (dkv (ws ++ [st]) (vs2.map V.str)))) := fun b o e => by
        rw [upd_ne (ne_of_none e nv), upd_ne (ne_of_none e nv)]
        exact e
      have ev1 : upd (upd G' v1 (.dK (dkv ws (vs.map V.str)))) v1 (.dK (dkv (ws ++ [st]) (vs2.map V.str))) v1 = some (.dK (dkv (ws ++ [st]) (vs2.map V.str))) := upd_same
      have src2 := src.sm g1
      have v1p := src.ne nv
      generalize upd (upd G' v1 (.dK (dkv ws (vs.map V.str)))) v1 (.dK (dkv (ws ++ [st]) (vs2.map V.str))) = G2 at g1 ev1 src2 ⊢
      have uv : u ≠ v1 := ne_of_none (mm _ _ up dun uL) nv
      have nmv : nm ≠ v1 := ne_of_none (mm _ _ nmp nmn nmL) nv
      have u2 := g1 _ _ (mm _ _ up dun uL)
      have nm2 := g1 _ _ (mm _ _ nmp nmn nmL)
      refine ⟨_, rfl, u, _, 0, .ref nm, rfl, rfl, .inl (.inl u2), atI_nat (j := 0) rfl, nm, rfl, ⟨_, .inl (.inl nm2)⟩, ?_⟩
      refine for_it (walk_list (xs := ws.map V.str)) (fun i2 σ G3 => ∃ (vs3 : List Str) (v8 : Option V), σ = [some (.ref p), some (.ref u), some (.str st), some (.str tw), some (.ref dn), some (.ref l1), some (kV (.inr d)), some (.ref v1), v8] ∧ G3 v1 = some (.dK (dkv (ws ++ [st]) (vs3.map V.str))) ∧ vs3.length = (ws ++ [st]).length ∧ (∀ z ∈ vs3, z ∈ ws ++ [st]) ∧ S2 p v1 G2 G3 ∧ Src G3 p)
        ⟨vs2, v8, rfl, ev1, vs2l, vs2m, (fun b o _ _ e => e), src2⟩ (fun i2 σ G3 _ p1 => ?_) (fun i2 x σ G3 G4 hi2 p1 yy => ?_) (fun σ G3 p1 => ?_)
      · obtain ⟨_, _, _, _, _, _, m3, _⟩ := p1
        exact .inl (.inl (m3 _ _ nmp nmv nm2))
      · obtain ⟨vs3, v8, rfl, e3, l3, in3, m3, s3⟩ := p1
        obtain ⟨rfl, ex⟩ := yy
        obtain ⟨z, hz, rfl⟩ := str_at ex
        have hz2 : z ∈ ws ++ [st] := List.mem_append_left _ hz
        have gz := look_at l3 hz2
        refine ⟨_, rfl, _, rfl, v1, _, rfl, .inl ⟨_, .inr z, .inl e3, rfl, gz.symm⟩, _, rfl, rfl, _, rfl, ?_⟩
        by_cases c : V.str (look (ws ++ [st]) vs3 z) = V.str tw
        · rw [decide_eq_true c]
          refine iteT ⟨_, rfl, p, 2, rfl, s3, by decide, by decide, fun kk G5 hkk sx5 s5 fr5 => ⟨rfl, _, rfl, ?_⟩⟩
          have e5 := sx5 _ _ v1p e3
          have m5 := m3.sx sx5
          by_cases c2 : V.int ((kk : Nat) : Int) = V.int 0
          · rw [decide_eq_true c2]
            refine iteT ⟨_, rfl, _, rfl, _, rfl, v1, _, rfl, DPut.k (k := .inr z) e5 (by rw [dkv_len (by rw [List.length_map, l3]), List.length_append, sizeLine_eq]; show ws.length + 1 < _; omega), ?_⟩
            rw [putK_set (by rw [List.length_map, l3]) (snoc_nd is.nd hno) hz2, ← List.map_set]
            refine ⟨vs3.set ((ws ++ [st]).idxOf z) st, _, rfl, upd_same, by rw [List.length_set, l3], fun y hy => ?_, m5.own, src_upd s5 v1p⟩
            rcases List.mem_or_eq_of_mem_set hy with h | h
            · exact in3 y h
            · rw [h]
              exact List.mem_append_right _ (List.mem_singleton.mpr rfl)
          · rw [decide_eq_false c2]
            exact iteF ⟨vs3, _, rfl, e5, l3, in3, m5, s5⟩
        · rw [decide_eq_false c]
          exact iteF (iteF ⟨vs3, _, rfl, e3, l3, in3, m3, s3⟩)
      · obtain ⟨vs3, v8, rfl, e3, l3, in3, m3, s3⟩ := p1
        have v1n : v1 ≠ dn := Ne.symm (ne_of_none ed nv)
        have v1d : v1 ≠ dd := Ne.symm (ne_of_none (mm _ _ ddp ddn dL) nv)
        have ed3 := m3 _ _ dnp (Ne.symm v1n) (g1 _ _ ed)
        have il : i < ds.length := (List.getElem?_eq_some_iff.mp e1).1
        have l2 : es.length = (ds.take i).length := by
          rw [List.length_take]
          omega
        have tk : ds.take (i + 1) = ds.take i ++ [d] := by
          rw [List.take_add_one, e1]
          rfl
        refine ⟨_, rfl, _, rfl, _, rfl, dn, _, rfl, DPut.k (k := .inr d) ed3 (by rw [dkv_len (by rw [List.length_map]; omega), List.length_take, sizeLine_eq]; omega), ?_⟩
        rw [put_dkv l2 (by rw [← tk]; exact is.dnd.sublist (List.take_sublist _ _)), ← tk]
        refine ⟨es ++ [v1], t2 ++ [vs3], _, _, _, rfl, by rw [List.length_append, el]; rfl, upd_same, ?_, fun vs hvs => ?_, fun b o n1 n2 e => ?_, src_upd s3 dnp⟩
        · refine pair_more (pair_mono pe fun e _ vs ⟨h1, h2, h3, h4⟩ => ⟨h1, h2, h3, ?_⟩) ⟨v1n, v1d, v1p, ?_⟩
          · rw [upd_ne h1]
            exact m3 _ _ h3 (ne_of_none h4 nv) (g1 _ _ h4)
          · rw [upd_ne v1n]
            exact e3
        · rcases List.mem_append.mp hvs with h | h
          · exact tok vs h
          · rw [List.mem_singleton.mp h]
            exact ⟨l3, in3⟩
        · rw [upd_ne n2]
          have eG := mm b o n1 n2 e
          exact m3 b o n1 (ne_of_none eG nv) (g1 _ _ eG)
    · obtain ⟨es, t2, v6, v7, v8, rfl, el, ed, pe, tok, mm, src⟩ := p0
      rw [dkl, List.take_length] at ed
      have x5 := unl G mm
      have s5 : Src (upd G dd (.dK (dkv ds (as.map V.ref)))) p := src_upd src ddp
      refine ⟨mm _ _ ddp (Ne.symm dndd) dL, ?_⟩
      have kd : ∀ {b : Addr} {o : HO}, b ≠ dd → G b = some o → upd G dd (.dK (dkv ds (as.map V.ref))) b = some o := fun {b o} n e => by
        rw [upd_ne n]
        exact e
      have dn5 := kd dndd ed
      have l15 := kd l1dd (mm _ _ l1p (Ne.symm dnl) l1L)
      have pe5 : Paired (fun e vs => upd G dd (.dK (dkv ds (as.map V.ref))) e = some (.dK (dkv (ws ++ [st]) (vs.map V.str)))) es t2 := pair_mono pe fun e _ vs h => kd h.2.1 h.2.2.2
      generalize upd G dd (.dK (dkv ds (as.map V.ref))) = G5 at x5 s5 dn5 l15 pe5 ⊢
      refine ⟨_, rfl, u, _, 0, .ref nm, rfl, rfl, .inl (.inl (x5 _ _ up hu)), atI_nat (j := 0) rfl, _, rfl, sz _ (by show 1 ≤ 1000; decide), fun c1 nc1 => ⟨nm, c1, _, _, rfl, rfl, Sm.new nc1 _ _ (x5 _ _ nmp hnm), upd_same, sz _ (by rw [List.length_map]; show ws.length + 1 ≤ 1000; omega), fun nn nnn => ⟨_, rfl, _, rfl, sz _ (by show 3 ≤ 1000; decide), fun u2 nu => ?_⟩⟩⟩
      have g := Sm.trans (Sm.new (o := .lst [.str st]) nc1) (Sm.trans (Sm.new (o := .lst (ws.map V.str ++ [.str st])) nnn) (Sm.new (o := .tup [.ref nn, .ref dn, .ref l1]) nu))
      have en : upd (upd (upd G5 c1 (.lst [.str st])) nn (.lst (ws.map V.str ++ [.str st]))) u2 (.tup [.ref nn, .ref dn, .ref l1]) nn = some (.lst ((ws ++ [st]).map V.str)) := by
        rw [List.map_append]
        exact Sm.new (o := .tup [.ref nn, .ref dn, .ref l1]) nu _ _ upd_same
      have eu : upd (upd (upd G5 c1 (.lst [.str st])) nn (.lst (ws.map V.str ++ [.str st]))) u2 (.tup [.ref nn, .ref dn, .ref l1]) u2 = some (.tup [.ref nn, .ref dn, .ref l1]) := upd_same
      generalize upd (upd (upd G5 c1 (.lst [.str st])) nn (.lst (ws.map V.str ++ [.str st]))) u2 (.tup [.ref nn, .ref dn, .ref l1]) = G6 at g en eu ⊢
      have wl : (ws ++ [st]).length = ws.length + 1 := by rw [List.length_append]; rfl
      refine q u2 nn dn l1 (ws ++ [st]) es t2 _ G6 (x5.trans (Sx.of g)) (s5.sm g) ⟨eu, en, g _ _ dn5, g _ _ l15, pair_mono pe5 fun e _ vs h => g _ _ h⟩ ⟨by omega, by omega, snoc_nd is.nd hno, fun z hz => ?_, is.dsome, is.dmost, is.dnd, is.dword, ?_, tok, ?_, fun z hz => ?_⟩
      · rcases List.mem_append.mp hz with h | h
        · exact is.word z h
        · rw [List.mem_singleton.mp h]
          exact stw
      · rw [← paired_len pe, el, dkl]
      · rw [List.length_append, is.looks, wl]
        rfl
      · rcases List.mem_append.mp hz with h | h
        · exact is.look z h
        · rw [List.mem_singleton.mp h]
          have il := idx_lt htw
          have hl : ls.length = ws.length := is.looks
          refine is.look _ ?_
          unfold look
          rw [List.getD_eq_getElem?_getD, List.getElem?_eq_getElem (show ws.idxOf tw < ls.length by omega)]
          exact List.getElem_mem _
end
end Dk
set_option linter.all false
namespace Lv2
/-! ### going through in rounds, any states -/
section
variable {S D : Type} {go : D → S → S} {fin : S → Prop} {ds : List D} {s : S}
def st (go : D → S → S) (s : S) (r : List D) : S := r.foldl (fun x d => go d x) s
theorem st_next {r : List D} {d : D} : go d (st go s r) = st go s (r ++ [d]) := by
  unfold st
  rw [List.foldl_append]
  rfl
theorem st_more {r r2 : List D} (e : st go s r = st go s r2) (q : List D) : st go s (r ++ q) = st go s (r2 ++ q) := by
  unfold st at e ⊢
  rw [List.foldl_append, List.foldl_append, e]
/-- a shorter row leads to the same -/
def Low (go : D → S → S) (ds : List D) (s : S) (n : Nat) (r : List D) : Prop := ∃ r2 : List D, (∀ d ∈ r2, d ∈ ds) ∧ r2.length < n ∧ st go s r2 = st go s r
/-- where a round begins -/
structure Rnd (go : D → S → S) (fin : S → Prop) (ds : List D) (s : S) (n : Nat) (N M : List S) : Prop where
  new : ∀ L ∈ N, ∃ r : List D, (∀ d ∈ r, d ∈ ds) ∧ r.length = n ∧ L = st go s r
  met : ∀ L ∈ M, ∃ r : List D, (∀ d ∈ r, d ∈ ds) ∧ r.length ≤ n ∧ L = st go s r
  all : ∀ r : List D, (∀ d ∈ r, d ∈ ds) → r.length ≤ n → st go s r ∈ M
  un : ∀ r : List D, (∀ d ∈ r, d ∈ ds) → r.length < n → ¬ fin (st go s r)
  low : ∀ r : List D, (∀ d ∈ r, d ∈ ds) → r.length = n → st go s r ∈ N ∨ Low go ds s n r
theorem Rnd.start : Rnd go fin ds s 0 [st go s []] [st go s []] := by
  have one : ∀ L ∈ [st go s []], ∃ r : List D, (∀ d ∈ r, d ∈ ds) ∧ r.length = 0 ∧ L = st go s r := fun L h => ⟨[], (fun d hd => nomatch hd), rfl, List.mem_singleton.mp h⟩
  refine ⟨one, fun L h => ?_, fun r _ h => ?_, fun r _ h => absurd h (Nat.not_lt_zero _), fun r _ h => ?_⟩
  · obtain ⟨r, h1, h2, h3⟩ := one L h
    exact ⟨r, h1, by omega, h3⟩
  · rw [List.eq_nil_of_length_eq_zero (by omega : r.length = 0)]
    exact List.mem_singleton.mpr rfl
  · rw [List.eq_nil_of_length_eq_zero h]
    exact .inl (List.mem_singleton.mpr rfl)
/-- within a round: those looked at are not sure, and all to which they lead are met -/
structure Amid (go : D → S → S) (fin : S → Prop) (ds : List D) (s : S) (n : Nat) (N M F M2 : List S) (i : Nat) : Prop where
  far : ∀ L ∈ F, ∃ r : List D, (∀ d ∈ r, d ∈ ds) ∧ r.length = n + 1 ∧ L = st go s r
  split : ∀ L, L ∈ M2 ↔ L ∈ M ∨ L ∈ F
  gone : ∀ L ∈ N.take i, (∀ d ∈ ds, go d L ∈ M2) ∧ ∀ r : List D, (∀ d ∈ r, d ∈ ds) → L = st go s r → ¬ fin (st go s r)
theorem Amid.start {n : Nat} {N M : List S} : Amid go fin ds s n N M [] M 0 := ⟨(fun L h => by cases h), (fun L => by simp), fun L h => by simp at h⟩
theorem Amid.end_ {n : Nat} {N M F M2 : List S} (R : Rnd go fin ds s n N M) (A : Amid go fin ds s n N M F M2 N.length) : Rnd go fin ds s (n + 1) F M2 := by
  have gone : ∀ L ∈ N, _ := fun L h => A.gone L (by rw [List.take_length]; exact h)
  have un : ∀ r : List D, (∀ d ∈ r, d ∈ ds) → r.length < n + 1 → ¬ fin (st go s r) := fun r hr h q0 => by
    by_cases c : r.length < n
    · exact R.un r hr c q0
    · rcases R.low r hr (by omega) with q | ⟨r2, h2, l2, e2⟩
      · exact (gone _ q).2 r hr rfl q0
      · exact R.un r2 h2 l2 (by rw [e2]; exact q0)
  have all : ∀ r : List D, (∀ d ∈ r, d ∈ ds) → r.length ≤ n + 1 → st go s r ∈ M2 := fun r hr h => by
    by_cases c : r.length ≤ n
    · exact (A.split _).mpr (.inl (R.all r hr c))
    · obtain ⟨p, d, rfl⟩ : ∃ p d, r = p ++ [d] := by
        have : r ≠ [] := fun e => by rw [e] at c; exact c (Nat.zero_le _)
        exact ⟨_, _, (List.dropLast_concat_getLast this).symm⟩
      rw [List.length_append, List.length_singleton] at h c
      have hp : ∀ x ∈ p, x ∈ ds := fun x hx => hr x (List.mem_append_left _ hx)
      have hd := hr d (List.mem_append_right _ (List.mem_singleton.mpr rfl))
      rcases R.low p hp (by omega) with q | ⟨r2, h2, l2, e2⟩
      · rw [← st_next]
        exact (gone _ q).1 d hd
      · rw [← st_more e2 [d]]
        refine (A.split _).mpr (.inl (R.all _ (fun x hx => ?_) (by rw [List.length_append, List.length_singleton]; omega)))
        rcases List.mem_append.mp hx with a | a
        · exact h2 x a
        · rw [List.mem_singleton.mp a]
          exact hd
  refine ⟨A.far, fun L h => ?_, all, un, fun r hr h => ?_⟩
  · rcases (A.split L).mp h with q | q
    · obtain ⟨r, h1, h2, h3⟩ := R.met L q
      exact ⟨r, h1, by omega, h3⟩
    · obtain ⟨r, h1, h2, h3⟩ := A.far L q
      exact ⟨r, h1, by omega, h3⟩
  · rcases (A.split _).mp (all r hr (by omega)) with q | q
    · obtain ⟨r2, h1, h2, h3⟩ := R.met _ q
      exact .inr ⟨r2, h1, by omega, h3.symm⟩
    · exact .inl q
/-- where none are new, no row is sure -/
theorem Rnd.never {n : Nat} {M : List S} (R : Rnd go fin ds s n [] M) : ∀ (k : Nat) (r : List D), r.length ≤ k → (∀ d ∈ r, d ∈ ds) → ¬ fin (st go s r)
  | 0, r, h, hr => by
    by_cases c : r.length < n
    · exact R.un r hr c
    · rcases R.low r hr (by omega) with q | ⟨r2, h2, l2, e2⟩
      · exact nomatch q
      · omega
  | k + 1, r, h, hr => by
    by_cases c : r.length < n
    · exact R.un r hr c
    · have ht : ∀ d ∈ r.take n, d ∈ ds := fun d hd => hr d (List.mem_of_mem_take hd)
      have hq : ∀ d ∈ r.drop n, d ∈ ds := fun d hd => hr d (List.mem_of_mem_drop hd)
      rcases R.low (r.take n) ht (by rw [List.length_take]; omega) with q | ⟨r2, h2, l2, e2⟩
      · exact nomatch q
      · have e := st_more e2 (r.drop n)
        rw [List.take_append_drop] at e
        have ih := Rnd.never R k (r2 ++ r.drop n) (by rw [List.length_append, List.length_drop]; omega) fun d hd => by
          rcases List.mem_append.mp hd with a | a
          · exact h2 d a
          · exact hq d a
        exact fun q0 => ih (by rw [e]; exact q0)
theorem Amid.more {n i : Nat} {N M F M2 : List S} {q : S} (A : Amid go fin ds s n N M F M2 i) (h : ∃ r : List D, (∀ d ∈ r, d ∈ ds) ∧ r.length = n + 1 ∧ q = st go s r) : Amid go fin ds s n N M (F ++ [q]) (M2 ++ [q]) i := by
  refine ⟨fun L hL => ?_, fun L => ?_, fun L hL => ⟨fun d hd => List.mem_append_left _ ((A.gone L hL).1 d hd), (A.gone L hL).2⟩⟩
  · rcases List.mem_append.mp hL with z | z
    · exact A.far L z
    · rw [List.mem_singleton.mp z]
      exact h
  · rw [List.mem_append, List.mem_append, A.split, or_assoc]
theorem Amid.next {n i : Nat} {N M F M2 : List S} {p : S} (A : Amid go fin ds s n N M F M2 i) (e : N[i]? = some p) (h1 : ∀ d ∈ ds, go d p ∈ M2) (h2 : ¬ fin p) : Amid go fin ds s n N M F M2 (i + 1) := by
  refine ⟨A.far, A.split, fun L hL => ?_⟩
  rw [List.take_add_one, e] at hL
  rcases List.mem_append.mp hL with z | z
  · exact A.gone L z
  · have z : L = p := by simpa using z
    exact ⟨z ▸ h1, fun r _ er q => h2 (by rw [← z, er]; exact q)⟩
end
end Lv2
set_option Elab.async false
set_option linter.all false
set_option maxRecDepth 100000
set_option maxHeartbeats 8000000
namespace Dk
open PySem PySem.Spec PyProof.Rows L2 Er LamX NdefX Lv2
/-! ### _law_many -/
abbrev PS2 : Type := Str × Str
def pV (p : PS2) : List V := [.str p.1, .str p.2]
def pD (p : PS2) : PyData := .tuple [.str p.1, .str p.2]
theorem pD_eqv {p q : PS2} : PyData.eqv (pD p) (pD q) = decide (p = q) := by
  have h := eqv_strs (ws := [p.1, p.2]) (vs := [q.1, q.2])
  have e : PyData.eqv (pD p) (pD q) = PyData.eqvAll ([p.1, p.2].map PyData.str) ([q.1, q.2].map PyData.str) := by
    unfold pD
    simp only [PyData.eqv]
    rfl
  rw [e, h]
  refine decide_eq_decide.mpr ⟨fun z => ?_, fun z => by rw [z]⟩
  exact Prod.ext (List.cons.inj z).1 (List.cons.inj (List.cons.inj z).2).1
theorem pD_any {M : List PS2} {q : PS2} : ((M.map pD).any fun z => PyData.eqv z (pD q)) = decide (q ∈ M) := by
  rw [Bool.eq_iff_iff, List.any_eq_true, decide_eq_true_iff]
  constructor
  · rintro ⟨x, hx, e⟩
    obtain ⟨p, hp, rfl⟩ := List.mem_map.mp hx
    rw [pD_eqv, decide_eq_true_iff] at e
    exact e ▸ hp
  · exact fun h => ⟨pD q, List.mem_map_of_mem h, by rw [pD_eqv]; exact decide_eq_true rfl⟩
theorem pD_lay {M : List PS2} (hw : ∀ p ∈ M, IsWord p.1 ∧ IsWord p.2) : PyData.canLayAll0 (M.map pD) = true ∧ PyData.depthAll (M.map pD) ≤ 2 := by
  induction M with
  | nil => exact ⟨by simp [PyData.canLayAll0], by simp [PyData.depthAll]⟩
  | cons p M ih =>
    obtain ⟨i1, i2⟩ := ih fun q hq => hw q (List.mem_cons_of_mem _ hq)
    have l := lay_strs (ws := [p.1, p.2]) fun z hz => by
      rcases List.mem_cons.mp hz with h | h
      · rw [h]
        exact (hw p List.mem_cons_self).1
      · rw [List.mem_singleton.mp h]
        exact (hw p List.mem_cons_self).2
    have c : PyData.canLay0 (pD p) = true := by
      unfold pD
      simpa [PyData.canLay0] using l.1
    have d : (pD p).depth ≤ 2 := by
      have h2 := l.2
      unfold pD
      simp only [PyData.depth]
      have : PyData.depthAll [PyData.str p.1, PyData.str p.2] ≤ 1 := h2
      omega
    refine ⟨?_, ?_⟩
    · rw [List.map_cons]
      simp only [PyData.canLayAll0, c, i1, Bool.and_true]
    · rw [List.map_cons]
      simp only [PyData.depthAll]
      omega
theorem pD_all {K : PySem.W.Frag} {G : Hp} {ts : List Addr} {M : List PS2} (h : Paired (fun t p => G t = some (.tup (pV p))) ts M) : DpAll K G (ts.map V.ref) (M.map pD) := by
  induction h with
  | nil => exact .nil
  | @cons t p ts M e _ ih => exact .cons (.tup (.inl (.inl e)) (dp_strs [p.1, p.2])) ih
theorem shaped2 {ds : List PyData} (h1 : PyData.canLayAll0 ds = true) (h2 : PyData.depthAll ds ≤ 2) : SeqAt.shaped (.list ds) = true := by
  unfold SeqAt.shaped
  have c : (PyData.list ds).canLay0 = true := by simpa [PyData.canLay0] using h1
  rw [c, Bool.true_and]
  refine decide_eq_true ?_
  simp only [PyData.depth]
  omega
theorem shaped0 : SeqAt.shaped (.list []) = true := shaped2 (by simp [PyData.canLayAll0]) (by simp [PyData.depthAll])
theorem shapedP {p : PS2} (h : IsWord p.1 ∧ IsWord p.2) : SeqAt.shaped (pD p) = true := by
  obtain ⟨a, b⟩ := pD_lay (M := [p]) fun q hq => by rw [List.mem_singleton.mp hq]; exact h
  rw [List.map_singleton] at a b
  simp only [PyData.canLayAll0, Bool.and_true] at a
  simp only [PyData.depthAll] at b
  unfold SeqAt.shaped
  rw [a, Bool.true_and]
  exact decide_eq_true (by omega)
/-- what a locked dict was read for is read for still -/
theorem dget_lock {H G : Hp} {dd a : Addr} {k0 : List (Key × V)} {od : Obj} {y : V} {o : Option V} (h : H dd = some (.dK k0)) (m : Sx dd H G) (e : G dd = some (.frz od (.dK k0))) (g : DGet H a y o) : DGet G a y o := by
  have rd : ∀ {c : Addr} {u : HO}, Rd H c u → Rd G c u := fun {c u} r => by
    by_cases q : c = dd
    · rcases r with r | ⟨o2, r⟩
      · rw [q, h] at r
        rw [q, ← Option.some.inj r]
        exact .inr ⟨od, e⟩
      · rw [q, h] at r
        cases r
    · rcases r with r | ⟨o2, r⟩
      · exact .inl (m _ _ q r)
      · exact .inr ⟨o2, m _ _ q r⟩
  rcases g with ⟨kvs, k, r, e1, e2⟩ | ⟨kvs, k, b, r, e1, e2, e3⟩
  · exact .inl ⟨kvs, k, rd r, e1, e2⟩
  · exact .inr ⟨kvs, k, b, rd r, e1, m _ _ (ne_of e2 h (fun z => nomatch z)) e2, e3⟩
/-- the three lists, and what stands in them -/
structure MnAt (G : Hp) (me nw fu : Addr) (ts : List Addr) (N M F : List PS2) : Prop where
  nw_ : G nw = some (.lst (ts.map V.ref))
  new : Paired (fun t p => G t = some (.tup (pV p))) ts N
  me_ : ∃ ms : List Addr, G me = some (.lst (ms.map V.ref)) ∧ Paired (fun t p => G t = some (.tup (pV p))) ms M
  fu_ : ∃ fs : List Addr, G fu = some (.lst (fs.map V.ref)) ∧ Paired (fun t p => G t = some (.tup (pV p))) fs F
  n1 : nw ≠ me
  n2 : nw ≠ fu
  n3 : me ≠ fu
theorem MnAt.sm {G G2 : Hp} {me nw fu : Addr} {ts : List Addr} {N M F : List PS2} (h : MnAt G me nw fu ts N M F) (m : Sm G G2) : MnAt G2 me nw fu ts N M F := by
  obtain ⟨h1, h2, ⟨ms, h3, h4⟩, ⟨fs, h5, h6⟩, n1, n2, n3⟩ := h
  exact ⟨m _ _ h1, pair_mono h2 fun t _ p e => m _ _ e, ⟨ms, m _ _ h3, pair_mono h4 fun t _ p e => m _ _ e⟩, ⟨fs, m _ _ h5, pair_mono h6 fun t _ p e => m _ _ e⟩, n1, n2, n3⟩
theorem MnAt.dk {G : Hp} {me nw fu d : Addr} {ts : List Addr} {N M F : List PS2} {o o0 : HO} (h : MnAt G me nw fu ts N M F) (e : G d = some o0) (q1 : ∀ k, o0 ≠ .lst k) (q2 : ∀ k, o0 ≠ .tup k) : MnAt (upd G d o) me nw fu ts N M F := by
  obtain ⟨h1, h2, ⟨ms, h3, h4⟩, ⟨fs, h5, h6⟩, n1, n2, n3⟩ := h
  have k1 : ∀ {c : Addr} {xs : List V}, G c = some (.lst xs) → upd G d o c = some (.lst xs) := fun {c xs} z => by
    rw [upd_ne (ne_of z e (fun y => q1 _ y.symm))]
    exact z
  have k2 : ∀ {c : Addr} {xs : List V}, G c = some (.tup xs) → upd G d o c = some (.tup xs) := fun {c xs} z => by
    rw [upd_ne (ne_of z e (fun y => q2 _ y.symm))]
    exact z
  exact ⟨k1 h1, pair_mono h2 fun t _ p e => k2 e, ⟨ms, k1 h3, pair_mono h4 fun t _ p e => k2 e⟩, ⟨fs, k1 h5, pair_mono h6 fun t _ p e => k2 e⟩, n1, n2, n3⟩
theorem MnAt.add {G : Hp} {me nw fu t2 : Addr} {ts ms fs : List Addr} {N M F : List PS2} {q : PS2} (h : MnAt G me nw fu ts N M F) (h3 : G me = some (.lst (ms.map V.ref))) (h4 : Paired (fun t p => G t = some (.tup (pV p))) ms M) (h5 : G fu = some (.lst (fs.map V.ref))) (h6 : Paired (fun t p => G t = some (.tup (pV p))) fs F) (et : G t2 = some (.tup (pV q))) :
    MnAt (upd (upd G me (.lst ((ms ++ [t2]).map V.ref))) fu (.lst ((fs ++ [t2]).map V.ref))) me nw fu ts N (M ++ [q]) (F ++ [q]) := by
  have tup : ∀ {c : Addr} {xs : List V}, G c = some (.tup xs) → upd (upd G me (.lst ((ms ++ [t2]).map V.ref))) fu (.lst ((fs ++ [t2]).map V.ref)) c = some (.tup xs) := fun {c xs} z => by
    rw [upd_ne (ne_of z h5 (fun y => nomatch y)), upd_ne (ne_of z h3 (fun y => nomatch y))]
    exact z
  refine ⟨?_, pair_mono h.new fun t _ p e => tup e, ⟨ms ++ [t2], ?_, pair_more (pair_mono h4 fun t _ p e => tup e) (tup et)⟩, ⟨fs ++ [t2], upd_same, pair_more (pair_mono h6 fun t _ p e => tup e) (tup et)⟩, h.n1, h.n2, h.n3⟩
  · rw [upd_ne h.n2, upd_ne h.n1]
    exact h.nw_
  · rw [upd_ne h.n3, upd_same]
def goP (n0 n1 : Str → Str → Str) (d : Str) (p : PS2) : PS2 := (n0 p.1 d, n1 p.2 d)
def finP (l0 l1 : Str → Str) (p : PS2) : Prop := l0 p.1 ≠ l1 p.2
/-- what it tells -/
def MnOut (go : Str → PS2 → PS2) (fin : PS2 → Prop) (ds : List Str) (s : PS2) (v : V) : Prop := (v = .non ∧ ∀ r : List Str, (∀ d ∈ r, d ∈ ds) → ¬ fin (st go s r)) ∨
  ∃ n : Nat, v = .int (n : Nat) ∧ (∃ r : List Str, (∀ d ∈ r, d ∈ ds) ∧ r.length = n ∧ fin (st go s r)) ∧ ∀ r : List Str, (∀ d ∈ r, d ∈ ds) → fin (st go s r) → n ≤ r.length
def spMn : Sp := fun vs H Q _ => ∃ (u nm dd sg u' nm' dd' sg' : Addr) (ws ds : List Str) (as : List Addr) (tb : List (List Str)) (ls ws' ds' : List Str) (as' : List Addr) (tb' : List (List Str)) (ls' : List Str) (z0 y0 : Str), vs = [.ref u, .ref u'] ∧ DkAt H u nm dd sg ws ds as tb ls ∧ DkIs 9 ws ds tb ls ∧ DkAt H u' nm' dd' sg' ws' ds' as' tb' ls' ∧ DkIs 9 ws' ds' tb' ls' ∧
  (∀ d, d ∈ ds ↔ d ∈ ds') ∧ ws[0]? = some z0 ∧ ws'[0]? = some y0 ∧ ∀ v G, Sm H G → MnOut (goP (nxt ws ds tb) (nxt ws' ds' tb')) (finP (look ws ls) (look ws' ls')) ds (z0, y0) v → Q v G
abbrev nMn : List Str := ["_law_one", "_law_two", "_law_outset", "_law_newest", "_law_met", "_law_many_here", "_law_further", "_law_first", "_law_second", "_law_deed", "_law_pair"]
theorem scMn : FnScope nMn ["_law_one", "_law_two"] (defScope (top 49)) := ⟨rfl, rfl, rfl, by decide +kernel, rfl, by decide +kernel, by decide +kernel⟩
section
variable {P : Program} {w : World} {K : PySem.W.Frag} {mg : Str → Option Value} {base : Heap} {f : Addr} {fd : FuncData}
theorem bMn (F : FnP K "_law_many" (top 49) f fd) : Binds K fd ["_law_one", "_law_two"] [] := F.bindsN fun _ _ _ _ _ _ us hl => match us, hl with
  | [_, _], _ => rfl
theorem ok_mn (F : FnP K "_law_many" (top 49) f fd) : FnOk P w K mg base CX0 1 f fd ["_law_one", "_law_two"] spMn := by
  refine F.ok (CX := CX0) scMn (fun vs H Q E h => ?_) (fun cdv A outer s H vs Q E hr h => ?_)
  · obtain ⟨u, nm, dd, sg, u', nm', dd', sg', ws, ds, as, tb, ls, ws', ds', as', tb', ls', z0, y0, rfl, _⟩ := h
    rfl
  · have hu65 : (A.deeper (envOfC "_law_many" (defScope (top 49)) s.heap.objs.size f cdv)).units + 65 < cLine := by
      have := hr.un
      omega
    refine ⟨_, PSs.nox (pss_cons (ps_set (i := 2) scMn.nd rfl (.inl rfl) (pe_tup (pa_cons (by exact (pe_ix ix_list (by exact (pe_ix ix_tup (pv 0) pe_int (fun _ _ => rfl))) pe_int (fun _ _ => rfl))) (pa_cons (by exact (pe_ix ix_list (by exact (pe_ix ix_tup (pv 1) pe_int (fun _ _ => rfl))) pe_int (fun _ _ => rfl))) pa_nil))))
      (pss_cons (ps_par3 (i := 3) (j := 4) (l := 5) rfl scMn.nd rfl rfl rfl (by decide) (by decide) (by decide) rfl rfl rfl (pa_cons (pe_lst (pa_cons (pv 2) pa_nil)) (pa_cons (pe_lst (pa_cons (pv 2) pa_nil)) (pa_cons pe_int pa_nil))) (by rfl))
      (pss_cons (ps_while PassesOwn.never (pt_cmpR (op_neD hr.units) (pv 3) (pe_lst pa_nil) (nomark _))
        (pss_cons (ps_set (i := 6) scMn.nd rfl (.inl rfl) (pe_lst pa_nil))
        (pss_cons (ps_for PassesOwn.never rfl (pi_list (pv 3)) (pg_tup rfl (pgs_cons (pg_name (i := 7) scMn.nd rfl (.inl rfl)) (pgs_cons (pg_name (i := 8) scMn.nd rfl (.inl rfl)) pgs_nil)))
          (pss_cons (ps_if (pt_cmpR op_ne (by exact (pe_dget (hu_of hr) (by exact (pe_ix ix_tup (pv 0) pe_int (fun _ _ => rfl))) (pv 7) (fun _ _ => rfl))) (by exact (pe_dget (hu_of hr) (by exact (pe_ix ix_tup (pv 1) pe_int (fun _ _ => rfl))) (pv 8) (fun _ _ => rfl))) (nomark _)) (pss_one (ps_ret (pv 5))) pss_nil)
          (pss_one (ps_lock (ps_for PassesOwn.never rfl (pi_keys (by exact (pe_ix ix_tup (pv 0) pe_int (fun _ _ => rfl)))) (pg_name (i := 9) scMn.nd rfl (.inl rfl))
            (pss_cons (ps_set (i := 10) scMn.nd rfl (.inl rfl) (pe_tup (pa_cons (by exact (pe_dget (hu_of hr) (by exact (pe_dget (hu_of hr) (by exact (pe_ix ix_tup (pv 0) pe_int (fun _ _ => rfl))) (pv 9) (fun _ _ => rfl))) (pv 7) (fun _ _ => rfl))) (pa_cons (by exact (pe_dget (hu_of hr) (by exact (pe_dget (hu_of hr) (by exact (pe_ix ix_tup (pv 1) pe_int (fun _ _ => rfl))) (pv 9) (fun _ _ => rfl))) (pv 8) (fun _ _ => rfl))) pa_nil))))
            (pss_one (ps_if (pt_cmpR (op_notInD hu65) (pv 10) (pv 4) rfl)
              (pss_cons (ps_expr (pe_bm PySem.F.plainAttrs_list PySem.F.slot_list_append PySem.F.type_list_append mt_append (pv 4) (pa_cons (pv 10) pa_nil)))
              (pss_one (ps_expr (pe_bm PySem.F.plainAttrs_list PySem.F.slot_list_append PySem.F.type_list_append mt_append (pv 6) (pa_cons (pv 10) pa_nil))))) pss_nil))))))))
        (pss_one (ps_par (i := 3) (j := 5) rfl scMn.nd rfl rfl (by decide) rfl rfl (pa_cons (pv 6) (pa_cons (pe_op op_add (pv 5) pe_int) pa_nil)) (by rfl))))))
      (pss_one (ps_ret pe_non))))), ?_⟩
    obtain ⟨u, nm, dd, sg, u', nm', dd', sg', ws, ds, as, tb, ls, ws', ds', as', tb', ls', z0, y0, rfl, hk, is, hk', is', same, ez, ey, q⟩ := h
    obtain ⟨hu, hnm, hdd, hsg, pr⟩ := id hk
    obtain ⟨hu', hnm', hdd', hsg', pr'⟩ := id hk'
    have al : as.length = ds.length := by rw [paired_len pr, is.rows]
    have w9 := is.most
    have w9' := is'.most
    have d4 := is.dmost
    have sz : ∀ n : Nat, n ≤ 1000 → n ≤ sizeLine := fun n z => by
      rw [sizeLine_eq]
      omega
    have udd : u ≠ dd := ne_of hu hdd (fun z => nomatch z)
    have udd' : u' ≠ dd := ne_of hu' hdd (fun z => nomatch z)
    have T1 : ∀ d ∈ ds, ∀ z ∈ ws, ∃ a, DGet H dd (.str d) (some (.ref a)) ∧ DGet H a (.str z) (some (.str (nxt ws ds tb z d))) ∧ nxt ws ds tb z d ∈ ws := fun d hd z hz => by
      obtain ⟨a, e1, e2, e3⟩ := dk_step hk is hd hz
      refine ⟨a, ?_, e2, e3⟩
      have g := DGet.k (k := .inr d) hdd
      rw [e1] at g
      exact g
    have T2 : ∀ d ∈ ds, ∀ z ∈ ws', ∃ a, DGet H dd' (.str d) (some (.ref a)) ∧ DGet H a (.str z) (some (.str (nxt ws' ds' tb' z d))) ∧ nxt ws' ds' tb' z d ∈ ws' := fun d hd z hz => by
      obtain ⟨a, e1, e2, e3⟩ := dk_step hk' is' ((same d).mp hd) hz
      refine ⟨a, ?_, e2, e3⟩
      have g := DGet.k (k := .inr d) hdd'
      rw [e1] at g
      exact g
    obtain ⟨go, hgo⟩ : ∃ go, go = goP (nxt ws ds tb) (nxt ws' ds' tb') := ⟨_, rfl⟩
    obtain ⟨fin, hfin⟩ : ∃ fin, fin = finP (look ws ls) (look ws' ls') := ⟨_, rfl⟩
    rw [← hgo, ← hfin] at q
    have z0m := List.mem_of_getElem? ez
    have y0m := List.mem_of_getElem? ey
    have inn : ∀ r : List Str, (∀ d ∈ r, d ∈ ds) → (st go (z0, y0) r).1 ∈ ws ∧ (st go (z0, y0) r).2 ∈ ws' := by
      refine DkSet.rev_ind (fun _ => ⟨z0m, y0m⟩) fun r d ih h => ?_
      obtain ⟨i1, i2⟩ := ih fun x hx => h x (List.mem_append_left _ hx)
      have hd := h d (List.mem_append_right _ (List.mem_singleton.mpr rfl))
      rw [← st_next, hgo]
      obtain ⟨_, _, _, e1⟩ := T1 d hd _ (hgo ▸ i1)
      obtain ⟨_, _, _, e2⟩ := T2 d hd _ (hgo ▸ i2)
      exact ⟨e1, e2⟩
    have few : ∀ {M : List PS2}, M.Nodup → (∀ p ∈ M, ∃ r : List Str, (∀ d ∈ r, d ∈ ds) ∧ p = st go (z0, y0) r) → M.length ≤ 81 := fun {M} nd h => by
      have l := nodup_leG nd (m := ws.flatMap fun a => ws'.map fun b => (a, b)) fun p hp => by
        obtain ⟨r, hr, e⟩ := h p hp
        obtain ⟨i1, i2⟩ := inn r hr
        rw [← e] at i1 i2
        exact List.mem_flatMap.mpr ⟨p.1, i1, List.mem_map.mpr ⟨p.2, i2, rfl⟩⟩
      have f := flat_len (fun a => ws'.map fun b => (a, b)) 9 (l := ws) fun x _ => by
        rw [List.length_map]
        exact w9'
      omega
    have wrd : ∀ r : List Str, (∀ d ∈ r, d ∈ ds) → IsWord (st go (z0, y0) r).1 ∧ IsWord (st go (z0, y0) r).2 := fun r hr => ⟨is.word _ (inn r hr).1, is'.word _ (inn r hr).2⟩
    -- the first of them
    refine ⟨_, rfl, u, _, 0, .ref nm, rfl, rfl, .inl (.inl hu), atI_nat (j := 0) rfl, nm, _, 0, .str z0, rfl, rfl, .inl (.inl hnm), atI_nat (j := 0) (by rw [List.getElem?_map, ez]; rfl), _, rfl, u', _, 0, .ref nm', rfl, rfl, .inl (.inl hu'), atI_nat (j := 0) rfl, nm', _, 0, .str y0, rfl, rfl, .inl (.inl hnm'), atI_nat (j := 0) (by rw [List.getElem?_map, ey]; rfl), sz _ (by show 2 ≤ 1000; decide), fun t0 nt0 => ?_⟩
    refine ⟨_, rfl, sz _ (by show 1 ≤ 1000; decide), fun nw nnw => ⟨_, rfl, sz _ (by show 1 ≤ 1000; decide), fun me nme => ⟨_, _, _, rfl, ?_⟩⟩⟩
    have m0 := Sm.new (o := .tup [.str z0, .str y0]) nt0
    have m1 := Sm.new (o := .lst [.ref t0]) nnw
    have m2 := Sm.new (o := .lst [.ref t0]) nme
    have et0 := m2 _ _ (m1 _ _ (upd_same (H := H) (a := t0) (o := .tup [.str z0, .str y0])))
    have enw := m2 _ _ (upd_same (H := upd H t0 (.tup [.str z0, .str y0])) (a := nw) (o := .lst [.ref t0]))
    have eme := upd_same (H := upd (upd H t0 (.tup [.str z0, .str y0])) nw (.lst [.ref t0])) (a := me) (o := .lst [.ref t0])
    have nmeH : H me = none := none_of_sm (m0.trans m1) nme
    have nwme : nw ≠ me := ne_of_none (upd_same (H := upd H t0 (.tup [.str z0, .str y0])) (a := nw) (o := .lst [.ref t0])) nme
    have mA := m0.trans (m1.trans m2)
    generalize upd (upd (upd H t0 (.tup [.str z0, .str y0])) nw (.lst [.ref t0])) me (.lst [.ref t0]) = G1 at et0 enw eme mA ⊢
    refine ⟨fun mu σ G => ∃ (n : Nat) (nw : Addr) (ts ms : List Addr) (N M : List PS2) (v6 v7 v8 v9 v10 : Option V), σ = [some (.ref u), some (.ref u'), some (.ref t0), some (.ref nw), some (.ref me), some (.int (n : Nat)), v6, v7, v8, v9, v10] ∧ mu = 2 * (82 - M.length) + (if N = [] then 0 else 1) ∧
        Rnd go fin ds (z0, y0) n N M ∧ M.Nodup ∧ nw ≠ me ∧ G me = some (.lst (ms.map V.ref)) ∧ Paired (fun t p => G t = some (.tup (pV p))) ms M ∧ G nw = some (.lst (ts.map V.ref)) ∧ Paired (fun t p => G t = some (.tup (pV p))) ts N ∧ Sm H G,
      ⟨_, 0, nw, [t0], [t0], [(z0, y0)], [(z0, y0)], none, none, none, none, none, rfl, rfl, Rnd.start, by simp, nwme, eme, .cons et0 .nil, enw, .cons et0 .nil, mA⟩, ?_⟩
    clear mA m0 m1 m2 enw eme et0 nme nnw nt0 nwme nw
    rintro mu σ G ⟨n, nw, ts, ms, N, M, v6, v7, v8, v9, v10, rfl, rfl, R, Mnd, nwme, eme, pm, enw, pn, mG⟩
    have Mst : ∀ p ∈ M, ∃ r : List Str, (∀ d ∈ r, d ∈ ds) ∧ p = st go (z0, y0) r := fun L h => by
      obtain ⟨r, h1, _, h2⟩ := R.met L h
      exact ⟨r, h1, h2⟩
    have Nw : ∀ p ∈ N, IsWord p.1 ∧ IsWord p.2 := fun L h => by
      obtain ⟨r, h1, _, rfl⟩ := R.new L h
      exact wrd r h1
    have M81 := few Mnd Mst
    refine ⟨_, rfl, Nat.zero_le _, fun e1 ne1 => ?_⟩
    have me1 := Sm.new (o := .lst []) ne1
    obtain ⟨p2, p3⟩ := pD_lay Nw
    refine ⟨.list (N.map pD), .list [], .lst (.inl (.inl (me1 _ _ enw))) (pD_all (pair_mono pn fun t _ p e => me1 _ _ e)), .lst (.inl (.inl upd_same)) .nil, shaped2 p2 p3, shaped0, _, rfl, ?_⟩
    rw [eqv_nil]
    replace eme := me1 _ _ eme
    replace enw := me1 _ _ enw
    replace pn : Paired (fun t p => upd G e1 (.lst []) t = some (.tup (pV p))) ts N := pair_mono pn fun t _ p e => me1 _ _ e
    replace pm : Paired (fun t p => upd G e1 (.lst []) t = some (.tup (pV p))) ms M := pair_mono pm fun t _ p e => me1 _ _ e
    replace mG := mG.trans me1
    generalize upd G e1 (.lst []) = G2 at eme enw pn pm mG ⊢
    clear me1 ne1 p2 p3
    cases hN : N with
    | nil =>
      refine iteF (q .non G2 mG (.inl ⟨rfl, fun r hr => ?_⟩))
      rw [hN] at R
      exact R.never r.length r (Nat.le_refl _) hr
    | cons N0 Nr =>
      have hNne : N ≠ [] := fun e => by
        rw [e] at hN
        cases hN
      rw [← hN]
      have z : (N.map pD).isEmpty = false := by
        rw [hN]
        rfl
      rw [z, if_neg hNne]
      clear hN N0 Nr z
      refine iteT ⟨fun σ' G' => ∃ (fu : Addr) (fs ms : List Addr) (F M2 : List PS2) (v7 v8 v9 v10 : Option V), σ' = [some (.ref u), some (.ref u'), some (.ref t0), some (.ref fu), some (.ref me), some (.int ((n + 1 : Nat) : Nat)), some (.ref fu), v7, v8, v9, v10] ∧
          Rnd go fin ds (z0, y0) (n + 1) F M2 ∧ M2.Nodup ∧ M.length + F.length = M2.length ∧ fu ≠ me ∧ G' me = some (.lst (ms.map V.ref)) ∧ Paired (fun t p => G' t = some (.tup (pV p))) ms M2 ∧ G' fu = some (.lst (fs.map V.ref)) ∧ Paired (fun t p => G' t = some (.tup (pV p))) fs F ∧ Sm H G', ?_, ?_⟩
      · rintro σ' G' ⟨fu, fs, ms2, F, M2, w7, w8, w9', w10, rfl, R2, nd2, len2, h0, h1, h2, h3, h4, h5⟩
        have M281 := few nd2 fun L h => by
          obtain ⟨r, h1, _, h2⟩ := R2.met L h
          exact ⟨r, h1, h2⟩
        refine ⟨_, ?_, n + 1, fu, fs, ms2, F, M2, _, w7, w8, w9', w10, rfl, rfl, R2, nd2, h0, h1, h2, h3, h4, h5⟩
        by_cases c : F = []
        · rw [if_pos c]
          rw [c] at len2
          have : M2.length = M.length := by rw [← len2]; rfl
          omega
        · rw [if_neg c]
          have : 0 < F.length := List.length_pos_iff.mpr c
          omega
      · refine ⟨Nat.zero_le _, fun fu nfu => ?_⟩
        have mf := Sm.new (o := .lst []) nfu
        have nwf : nw ≠ fu := ne_of_none enw nfu
        have mef : me ≠ fu := ne_of_none eme nfu
        have nfuH : H fu = none := none_of_sm mG nfu
        have ma0 : MnAt (upd G2 fu (.lst [])) me nw fu ts N M [] := ⟨mf _ _ enw, pair_mono pn fun t _ p e => mf _ _ e, ⟨ms, mf _ _ eme, pair_mono pm fun t _ p e => mf _ _ e⟩, ⟨[], upd_same, .nil⟩, nwme, nwf, mef⟩
        have mG := mG.trans mf
        generalize upd G2 fu (.lst []) = G3 at ma0 mG ⊢
        clear eme enw pn pm mf nfu
        refine ⟨_, rfl, nw, rfl, ⟨_, .inl (.inl ma0.nw_)⟩, ?_⟩
        refine for_it (walk_list (xs := ts.map V.ref)) (fun i σ G => ∃ (F M2 : List PS2) (v7 v8 v9 v10 : Option V), σ = [some (.ref u), some (.ref u'), some (.ref t0), some (.ref nw), some (.ref me), some (.int (n : Nat)), some (.ref fu), v7, v8, v9, v10] ∧
            Amid go fin ds (z0, y0) n N M F M2 i ∧ M2.Nodup ∧ M.length + F.length = M2.length ∧ MnAt G me nw fu ts N M2 F ∧ Sm H G)
          ⟨[], M, v7, v8, v9, v10, rfl, Amid.start, Mnd, rfl, ma0, mG⟩ (fun i σ G _ ⟨_, _, _, _, _, _, _, _, _, _, h, _⟩ => .inl (.inl h.nw_)) (fun i v σ G G' hi p yy => ?_) (fun σ G p => ?_)
        · obtain ⟨F, M2, w7, w8, w9', w10, rfl, A, nd2, len2, ma, mm⟩ := p
          obtain ⟨rfl, ex⟩ := yy
          obtain ⟨t, et, rfl⟩ : ∃ a, ts[i]? = some a ∧ v = .ref a := by
            rw [List.getElem?_map] at ex
            cases e : ts[i]? with
            | none =>
              rw [e] at ex
              cases ex
            | some a =>
              rw [e] at ex
              exact ⟨a, rfl, (Option.some.inj ex).symm⟩
          obtain ⟨p, ep, ht⟩ := pair_at ma.new et
          obtain ⟨r, hr, rl, epr⟩ := R.new p (List.mem_of_getElem? ep)
          obtain ⟨i1, i2⟩ := inn r hr
          rw [← epr] at i1 i2
          refine ⟨t, _, rfl, .inl (.inl ht), rfl, _, _, rfl, _, _, rfl, rfl, ?_⟩
          have g1 := look_at is.looks i1
          have g2 := look_at is'.looks i2
          refine ⟨_, rfl, u, _, 2, .ref sg, rfl, rfl, .inl (.inl (mm _ _ hu)), atI_nat (j := 2) rfl, _, rfl, sg, _, rfl, .inl ⟨_, .inr p.1, .inl (mm _ _ hsg), rfl, g1.symm⟩, _, rfl, u', _, 2, .ref sg', rfl, rfl, .inl (.inl (mm _ _ hu')), atI_nat (j := 2) rfl, _, rfl, sg', _, rfl, .inl ⟨_, .inr p.2, .inl (mm _ _ hsg'), rfl, g2.symm⟩, rfl, _, rfl, ?_⟩
          by_cases c : look ws ls p.1 = look ws' ls' p.2
          · rw [c, show (!decide (V.str (look ws' ls' p.2) = V.str (look ws' ls' p.2))) = false by rw [decide_eq_true rfl]; rfl]
            have nfin : ¬ fin p := fun z => by
              rw [hfin] at z
              exact z c
            have hdd5 := mm _ _ hdd
            refine iteF ⟨dd, .dK (dkv ds (as.map V.ref)), hdd5, True.intro, fun od => ?_⟩
            refine ⟨_, rfl, u, _, 1, .ref dd, rfl, rfl, .inl (.inl (by rw [upd_ne udd]; exact mm _ _ hu)), atI_nat (j := 1) rfl, dd, od, rfl, .inl ⟨_, upd_same, ?_⟩⟩
            have ma6 : MnAt (upd G' dd (.frz od (.dK (dkv ds (as.map V.ref))))) me nw fu ts N M2 F := ma.dk hdd5 (fun _ z => nomatch z) (fun _ z => nomatch z)
            have sx6 : Sx dd H (upd G' dd (.frz od (.dK (dkv ds (as.map V.ref))))) := fun b o n e => by
              rw [upd_ne n]
              exact mm _ _ e
            have dl6 : upd G' dd (.frz od (.dK (dkv ds (as.map V.ref)))) dd = some (.frz od (.dK (dkv ds (as.map V.ref)))) := upd_same
            generalize upd G' dd (.frz od (.dK (dkv ds (as.map V.ref)))) = G6 at ma6 sx6 dl6 ⊢
            have dkl : (dkv ds (as.map V.ref)).length = ds.length := dkv_len (by rw [List.length_map, al])
            refine for_it walk_keys (fun j σ G => ∃ (F M2 : List PS2) (v9 v10 : Option V), σ = [some (.ref u), some (.ref u'), some (.ref t0), some (.ref nw), some (.ref me), some (.int (n : Nat)), some (.ref fu), some (.str p.1), some (.str p.2), v9, v10] ∧
                Amid go fin ds (z0, y0) n N M F M2 i ∧ (∀ d ∈ ds.take j, go d p ∈ M2) ∧ M2.Nodup ∧ M.length + F.length = M2.length ∧ MnAt G me nw fu ts N M2 F ∧ Sx dd H G ∧ G dd = some (.frz od (.dK (dkv ds (as.map V.ref)))))
              ⟨F, M2, w9', w10, rfl, A, (fun d h => nomatch h), nd2, len2, ma6, sx6, dl6⟩ (fun j σ G _ p0 => ?_) (fun j x σ G G4 hj p0 yy => ?_) (fun σ G p0 => ?_)
            · obtain ⟨_, _, _, _, _, _, _, _, _, _, _, h⟩ := p0
              exact h
            · obtain ⟨F, M2, x9, x10, rfl, A, gone, nd2, len2, ma7, sx7, dl7⟩ := p0
              obtain ⟨rfl, k, v, ekv, rfl⟩ := yy
              obtain ⟨d, ed, rfl, ev⟩ := dkv_at ekv
              have hd := List.mem_of_getElem? ed
              have tkd : ds.take (j + 1) = ds.take j ++ [d] := by
                rw [List.take_add_one, ed]
                rfl
              obtain ⟨a, b1, b2, _⟩ := T1 d hd p.1 i1
              obtain ⟨a', b3, b4, _⟩ := T2 d hd p.2 i2
              have lk : ∀ {c : Addr} {y : V} {o : Option V}, DGet H c y o → DGet G4 c y o := fun g => dget_lock hdd sx7 dl7 g
              refine ⟨_, rfl, u, _, 1, .ref dd, rfl, rfl, .inl (.inl (sx7 _ _ udd hu)), atI_nat (j := 1) rfl, _, rfl, dd, _, rfl, lk b1, _, rfl, a, _, rfl, lk b2, _, rfl, u', _, 1, .ref dd', rfl, rfl, .inl (.inl (sx7 _ _ udd' hu')), atI_nat (j := 1) rfl, _, rfl, dd', _, rfl, lk b3, _, rfl, a', _, rfl, lk b4, sz _ (by show 2 ≤ 1000; decide), fun t2 nt2 => ?_⟩
              have mt := Sm.new (o := .tup [.str (nxt ws ds tb p.1 d), .str (nxt ws' ds' tb' p.2 d)]) nt2
              have egp : go d p = (nxt ws ds tb p.1 d, nxt ws' ds' tb' p.2 d) := by rw [hgo]; rfl
              have et2 : upd G4 t2 (.tup [.str (nxt ws ds tb p.1 d), .str (nxt ws' ds' tb' p.2 d)]) t2 = some (.tup (pV (go d p))) := by
                rw [egp]
                exact upd_same
              replace ma7 := ma7.sm mt
              replace sx7 := sx7.trans (Sx.of mt)
              replace dl7 := mt _ _ dl7
              generalize upd G4 t2 (.tup [.str (nxt ws ds tb p.1 d), .str (nxt ws' ds' tb' p.2 d)]) = G5 at et2 ma7 sx7 dl7 ⊢
              clear lk mt nt2
              have hq : ∃ r : List Str, (∀ d ∈ r, d ∈ ds) ∧ r.length = n + 1 ∧ go d p = st go (z0, y0) r := ⟨r ++ [d], fun x hx => by
                rcases List.mem_append.mp hx with h | h
                · exact hr x h
                · rw [List.mem_singleton.mp h]
                  exact hd, by rw [List.length_append, rl]; rfl, by rw [← st_next, epr]⟩
              have M2w : ∀ x ∈ M2, ∃ r : List Str, (∀ d ∈ r, d ∈ ds) ∧ x = st go (z0, y0) r := fun x hx => by
                rcases (A.split x).mp hx with h | h
                · exact Mst x h
                · obtain ⟨r, h1, _, h2⟩ := A.far x h
                  exact ⟨r, h1, h2⟩
              have M2W : ∀ x ∈ M2, IsWord x.1 ∧ IsWord x.2 := fun x hx => by
                obtain ⟨r, h1, rfl⟩ := M2w x hx
                exact wrd r h1
              have qW : IsWord (go d p).1 ∧ IsWord (go d p).2 := by
                obtain ⟨r, h1, _, h2⟩ := hq
                rw [h2]
                exact wrd r h1
              have M281 := few nd2 M2w
              obtain ⟨ms, h3, h4⟩ := ma7.me_
              obtain ⟨fs, h5, h6⟩ := ma7.fu_
              have msl : ms.length = M2.length := paired_len h4
              have fsl : fs.length = F.length := paired_len h6
              obtain ⟨l1, l2⟩ := pD_lay M2W
              refine ⟨_, rfl, _, rfl, pD (go d p), M2.map pD, .tup (.inl (.inl et2)) (dp_strs [(go d p).1, (go d p).2]), .lst (.inl (.inl h3)) (pD_all h4), shapedP qW, shaped2 l1 l2, _, rfl, ?_⟩
              rw [pD_any]
              by_cases c2 : go d p ∈ M2
              · rw [decide_eq_true c2]
                refine iteF ⟨F, M2, _, _, rfl, A, fun x hx => ?_, nd2, len2, ma7, sx7, dl7⟩
                rw [tkd] at hx
                rcases List.mem_append.mp hx with h | h
                · exact gone x h
                · rw [List.mem_singleton.mp h]
                  exact c2
              · rw [decide_eq_false c2]
                refine iteT ⟨_, rfl, .inl ⟨rfl, _, .inl (.inl h3)⟩, _, rfl, me, _, .ref t2, rfl, rfl, h3, by rw [List.length_map, msl, sizeLine_eq]; omega, ?_⟩
                have h5b : upd G5 me (.lst (ms.map V.ref ++ [.ref t2])) fu = some (.lst (fs.map V.ref)) := by
                  rw [upd_ne (Ne.symm mef)]
                  exact h5
                refine ⟨_, rfl, .inl ⟨rfl, _, .inl (.inl h5b)⟩, _, rfl, fu, _, .ref t2, rfl, rfl, h5b, by rw [List.length_map, fsl, sizeLine_eq]; omega, ?_⟩
                have em1 : ms.map V.ref ++ [V.ref t2] = (ms ++ [t2]).map V.ref := by rw [List.map_append]; rfl
                have em2 : fs.map V.ref ++ [V.ref t2] = (fs ++ [t2]).map V.ref := by rw [List.map_append]; rfl
                rw [em1, em2]
                refine ⟨F ++ [go d p], M2 ++ [go d p], _, _, rfl, A.more hq, fun x hx => ?_, List.nodup_append.mpr ⟨nd2, List.nodup_cons.mpr ⟨(fun h => nomatch h), .nil⟩, fun a ha b hb e => c2 (by rw [← List.mem_singleton.mp hb, ← e]; exact ha)⟩, by rw [List.length_append, List.length_append, ← len2]; rfl, ma7.add h3 h4 h5 h6 et2, fun b o n e => ?_, ?_⟩
                · rw [tkd] at hx
                  rcases List.mem_append.mp hx with h | h
                  · exact List.mem_append_left _ (gone x h)
                  · rw [List.mem_singleton.mp h]
                    exact List.mem_append_right _ (List.mem_singleton.mpr rfl)
                · rw [upd_ne (ne_of_none e nfuH), upd_ne (ne_of_none e nmeH)]
                  exact sx7 _ _ n e
                · rw [upd_ne (ne_of_none hdd nfuH), upd_ne (ne_of_none hdd nmeH)]
                  exact dl7
            · obtain ⟨F, M2, x9, x10, rfl, A, gone, nd2, len2, ma7, sx7, dl7⟩ := p0
              rw [dkl, List.take_length] at gone
              refine ⟨dl7, F, M2, _, _, _, _, rfl, A.next ep gone nfin, nd2, len2, ma7.dk dl7 (fun _ z => nomatch z) (fun _ z => nomatch z), fun b o e => ?_⟩
              by_cases cb : b = dd
              · rw [cb, upd_same, ← hdd, ← cb]
                exact e
              · rw [upd_ne cb]
                exact sx7 _ _ cb e
          · rw [show (!decide (V.str (look ws ls p.1) = V.str (look ws' ls' p.2))) = true by rw [decide_eq_false (fun z => c (V.str.inj z))]; rfl]
            refine iteT ⟨_, rfl, q _ G' mm (.inr ⟨n, rfl, ⟨r, hr, rl, ?_⟩, fun r2 h2 s2 => ?_⟩)⟩
            · rw [← epr, hfin]
              exact c
            · by_cases c2 : r2.length < n
              · exact absurd s2 (R.un r2 h2 c2)
              · omega
        · obtain ⟨F, M2, w7, w8, w9', w10, rfl, A, nd2, len2, ma, mm⟩ := p
          have tl : ts.length = N.length := paired_len ma.new
          rw [List.length_map, tl] at A
          obtain ⟨ms2, h3, h4⟩ := ma.me_
          obtain ⟨fs, h5, h6⟩ := ma.fu_
          exact ⟨_, rfl, _, rfl, _, _, rfl, rfl, _, _, rfl, fu, fs, ms2, F, M2, _, _, _, _, rfl, A.end_ R, nd2, len2, Ne.symm mef, h3, h4, h5, h6, mm⟩
end
end Dk
set_option Elab.async false
set_option linter.all false
set_option maxRecDepth 100000
set_option maxHeartbeats 8000000
namespace Dk
open PySem PySem.Spec PyProof.Rows L2 Er LamX NdefX Lv2
/-! ### _law_right -/
section
variable {n0 n1 : Str → Str → Str} {l0 l1 : Str → Str} {ds : List Str} {z0 y0 : Str}
theorem st_led : ∀ r : List Str, st (goP n0 n1) (z0, y0) r = (Ap.led n0 z0 r, Ap.led n1 y0 r) := by
  refine DkSet.rev_ind rfl fun r d ih => ?_
  rw [← st_next, ih]
  unfold Ap.led goP
  rw [List.foldl_append, List.foldl_append]
  rfl
theorem led_0 : ∀ r : List Str, Ap.led (nxF n0 n1) (0, z0) r = (0, Ap.led n0 z0 r) := by
  refine DkSet.rev_ind rfl fun r d ih => ?_
  unfold Ap.led at ih ⊢
  rw [List.foldl_append, List.foldl_append, ih]
  rfl
theorem led_1 : ∀ r : List Str, Ap.led (nxF n0 n1) (1, y0) r = (1, Ap.led n1 y0 r) := by
  refine DkSet.rev_ind rfl fun r d ih => ?_
  unfold Ap.led at ih ⊢
  rw [List.foldl_append, List.foldl_append, ih]
  rfl
theorem sg_0 {r : List Str} : sgF l0 l1 (Ap.led (nxF n0 n1) (0, z0) r) = l0 (Ap.led n0 z0 r) := by
  rw [led_0]
  rfl
theorem sg_1 {r : List Str} : sgF l0 l1 (Ap.led (nxF n0 n1) (1, y0) r) = l1 (Ap.led n1 y0 r) := by
  rw [led_1]
  rfl
theorem sep_fin {k : Nat} : Ap.Sep (nxF n0 n1) (sgF l0 l1) ds (0, z0) (1, y0) k ↔ ∃ r : List Str, r.length = k ∧ (∀ d ∈ r, d ∈ ds) ∧ finP l0 l1 (st (goP n0 n1) (z0, y0) r) := by
  constructor
  · rintro ⟨r, h1, h2, h3⟩
    refine ⟨r, h1, h2, ?_⟩
    rw [sg_0, sg_1] at h3
    rw [st_led]
    exact h3
  · rintro ⟨r, h1, h2, h3⟩
    refine ⟨r, h1, h2, ?_⟩
    rw [st_led] at h3
    rw [sg_0, sg_1]
    exact h3
end
/-- what is told of two desks, as it stands -/
def RowP (nx : No → Str → No) (sg : No → Str) (ds : List Str) (a b : No) (G : Hp) (v : V) : Prop := (v = .non ∧ ∀ k, ¬ Ap.Sep nx sg ds a b k) ∨
  ∃ (rr : Addr) (row : List Str), v = .ref rr ∧ G rr = some (.lst (row.map V.str)) ∧ row.length ≤ 1000 ∧ (∀ d ∈ row, d ∈ ds) ∧ sg (Ap.led nx a row) ≠ sg (Ap.led nx b row) ∧ Ap.Min nx sg ds a b row.length
def spRt (K : PySem.W.Frag) : Sp := fun vs H Q _ => ∃ (u nm dd sg u' nm' dd' sg' : Addr) (ws ds : List Str) (as : List Addr) (tb : List (List Str)) (ls ws' ds' : List Str) (as' : List Addr) (tb' : List (List Str)) (ls' : List Str) (z0 y0 : Str) (b : Bool) (v : V), vs = [.ref u, .ref u', .bl b, v] ∧ DkAt H u nm dd sg ws ds as tb ls ∧ DkIs 9 ws ds tb ls ∧ DkAt H u' nm' dd' sg' ws' ds' as' tb' ls' ∧ DkIs 9 ws' ds' tb' ls' ∧
  (∀ d, d ∈ ds ↔ d ∈ ds') ∧ ws[0]? = some z0 ∧ ws'[0]? = some y0 ∧ (b = true ↔ ∀ k, ¬ Parts ws ds tb ls ws' ds' tb' ls' z0 y0 k) ∧ RowP (nxF (nxt ws ds tb) (nxt ws' ds' tb')) (sgF (look ws ls) (look ws' ls')) ds (0, z0) (1, y0) H v ∧ ∀ G, Sm H G → Q (.bl true) G
abbrev nRt : List Str := ["_law_one", "_law_two", "_law_told", "_law_row", "_law_due", "_law_deed"]
theorem scRt : FnScope nRt ["_law_one", "_law_two", "_law_told", "_law_row"] (defScope (top 50)) := ⟨rfl, rfl, rfl, by decide +kernel, rfl, by decide +kernel, by decide +kernel⟩
theorem DkAt.sm {G G' : Hp} {u nm dd sg : Addr} {ws ds : List Str} {as : List Addr} {tb : List (List Str)} {ls : List Str} (h : DkAt G u nm dd sg ws ds as tb ls) (m : Sm G G') : DkAt G' u nm dd sg ws ds as tb ls := by
  obtain ⟨h1, h2, h3, h4, h5⟩ := h
  exact ⟨m _ _ h1, m _ _ h2, m _ _ h3, m _ _ h4, pair_mono h5 fun a _ vs e => m _ _ e⟩
section
variable {P : Program} {w : World} {K : PySem.W.Frag} {mg : Str → Option Value} {base : Heap} {f fL fM : Addr} {fd dL dM : FuncData}
theorem bLL (F : FnP K "_law_lead" (top 43) f fd) : Binds K fd ["_law_desk_here", "_law_standing", "_law_row"] [] := F.bindsN fun _ _ _ _ _ _ us hl => match us, hl with
  | [_, _, _], _ => rfl
theorem bRt (F : FnP K "_law_right" (top 50) f fd) : Binds K fd ["_law_one", "_law_two", "_law_told", "_law_row"] [] := F.bindsN fun _ _ _ _ _ _ us hl => match us, hl with
  | [_, _, _, _], _ => rfl
theorem ok_rt (F : FnP K "_law_right" (top 50) f fd) (mi : mg "isinstance" = none) (ms : mg "str" = none) (mL : mg "list" = none) (ml : mg "len" = none)
    (GL : FnOk P w K mg base CX0 1 fL dL ["_law_desk_here", "_law_standing", "_law_row"] (spLeadL K)) (FL : FnP K "_law_lead" (top 43) fL dL) (gL : mg "_law_lead" = some (.ref fL))
    (GM : FnOk P w K mg base CX0 1 fM dM ["_law_one", "_law_two"] spMn) (FM : FnP K "_law_many" (top 49) fM dM) (gM : mg "_law_many" = some (.ref fM)) : FnOk P w K mg base CX0 2 f fd ["_law_one", "_law_two", "_law_told", "_law_row"] (spRt K) := by
  refine F.ok (CX := CX0) scRt (fun vs H Q E h => ?_) (fun cdv A outer s H vs Q E hr h => ?_)
  · obtain ⟨u, nm, dd, sg, u', nm', dd', sg', ws, ds, as, tb, ls, ws', ds', as', tb', ls', z0, y0, b, v, rfl, _⟩ := h
    rfl
  · refine ⟨_, PSs.nox (pss_cons (ps_set (i := 4) scRt.nd rfl (.inl rfl) (by exact (pe_call GM hr rfl gM FM.kp (bMn FM) .nil pass0 (pa_cons (pv 0) (pa_cons (pv 1) pa_nil)))))
      (pss_cons (ps_if (pt_cmpR op_isN (pv 4) pe_non (nomark _)) (pss_one (ps_ret (by exact (pe_and (by exact (pe_cmpR op_is_bl (pv 2) pe_bl (nomark _))) (pe_one (by exact (pe_cmpR op_isN (pv 3) pe_non (nomark _)))))))) pss_nil)
      (pss_cons (ps_if (PW.pt (pw_or (pt_cmpR op_isnot_bl (pv 2) pe_bl (nomark _)) (pw_or (pt_not (pt_val (by exact (pe_callB call_isi rfl mi PyProof.Rows.boot_isinstance (pa_cons (pv 3) (pa_cons (pe_bltn (v := .ty "list") rfl mL (by decide +kernel) rfl) pa_nil))))))
          (pw_or1 (pt_cmpR op_ne (pe_callB call_len rfl ml boot_len (pa_cons (pv 3) pa_nil)) (pv 4) (nomark _)))))) (pss_one (ps_ret pe_bl)) pss_nil)
      (pss_cons (ps_if (pt_cmpR (op_neD hr.units) (by exact (pe_lc (own := [("_law_deed", 5)]) (g := gName 5) (tt := tOr (tNot (tB (tCB (rIsi K) (tCons (tVar 5) (tCons (tC (.ty "str")) tNil))))) (tB (tDNotIn (tVar 5) (tOp (rIxT K) (tVar 0) (tC (.int 1)))))) (te := tVar 5) rfl scRt.nd (pi_list (pv 3))
          (blkOk_by (N := nRt) (sc := defScope (top 50)) (by decide +kernel)) (fun _ _ _ _ _ => pg_name (i := 5) scRt.nd rfl (Or.inl rfl))
          (fun _ _ _ _ _ => pts_one (PW.pt (pw_or (pt_not (pt_val (by exact (pe_callB call_isi rfl mi PyProof.Rows.boot_isinstance (pa_cons (by exact (pv 5)) (pa_cons (pe_bltn (v := .ty "str") rfl ms (by decide +kernel) rfl) pa_nil)))))) (pw_or1 (by exact (pt_cmp (pc_dnotin (hu_of hr) (by exact (pv 5)) (by exact (pe_ix ix_tup (by exact (pv 0)) pe_int (fun _ _ => rfl)))) (by rfl)))))))
          (fun _ _ _ _ _ => by exact (pv 5)))) (pe_lst pa_nil) (nomark _)) (pss_one (ps_ret pe_bl)) pss_nil)
      (pss_one (ps_ret (by exact (pe_cmpR op_ne (by exact (pe_dget (hu_of hr) (by exact (pe_ix ix_tup (pv 0) pe_int (fun _ _ => rfl))) (by exact (pe_call GL hr rfl gL FL.kp (bLL FL) .nil pass0 (pa_cons (pv 0) (pa_cons (by exact (pe_ix ix_list (by exact (pe_ix ix_tup (pv 0) pe_int (fun _ _ => rfl))) pe_int (fun _ _ => rfl))) (pa_cons (pv 3) pa_nil))))) (fun _ _ => rfl)))
        (by exact (pe_dget (hu_of hr) (by exact (pe_ix ix_tup (pv 1) pe_int (fun _ _ => rfl))) (by exact (pe_call GL hr rfl gL FL.kp (bLL FL) .nil pass0 (pa_cons (pv 1) (pa_cons (by exact (pe_ix ix_list (by exact (pe_ix ix_tup (pv 1) pe_int (fun _ _ => rfl))) pe_int (fun _ _ => rfl))) (pa_cons (pv 3) pa_nil))))) (fun _ _ => rfl))) (nomark _))))))))), ?_⟩
    obtain ⟨u, nm, dd, sg, u', nm', dd', sg', ws, ds, as, tb, ls, ws', ds', as', tb', ls', z0, y0, b, v, rfl, hk, is, hk', is', same, ez, ey, hb, hv, q⟩ := h
    have sz : ∀ n : Nat, n ≤ 1000 → n ≤ sizeLine := fun n z => by
      rw [sizeLine_eq]
      omega
    have z0m := List.mem_of_getElem? ez
    have y0m := List.mem_of_getElem? ey
    refine ⟨_, rfl, _, rfl, u, nm, dd, sg, u', nm', dd', sg', ws, ds, as, tb, ls, ws', ds', as', tb', ls', z0, y0, rfl, hk, is, hk', is', same, ez, ey, fun due G1 m1 out => ?_⟩
    rcases hv with ⟨rfl, no⟩ | ⟨rr, row, rfl, er, rl, rd, rs, rm⟩
    · have bt := hb.mpr no
      subst bt
      rcases out with ⟨rfl, _⟩ | ⟨n, rfl, ⟨r, h1, h2, h3⟩, _⟩
      · refine ⟨_, rfl, rfl, _, rfl, ?_⟩
        rw [show decide (V.non = V.non) = true from rfl]
        refine iteT ⟨_, rfl, _, _, rfl, rfl, _, rfl, ?_⟩
        exact iteT ⟨_, rfl, rfl, q G1 m1⟩
      · exact absurd (sep_fin.mpr ⟨r, rfl, h1, h3⟩) (no _)
    · have bf : b = false := by
        cases b with
        | false => rfl
        | true => exact absurd rm.1 (hb.mp rfl _)
      subst bf
      rcases out with ⟨_, no⟩ | ⟨n, rfl, ⟨r, h1, h2, h3⟩, least⟩
      · obtain ⟨r, _, h2, h3⟩ := sep_fin.mp rm.1
        exact absurd h3 (no r h2)
      have nl : n = row.length := by
        have a1 : ¬ n < row.length := fun c => rm.2 n c (sep_fin.mpr ⟨r, h2, h1, h3⟩)
        obtain ⟨r2, e2, h4, h5⟩ := sep_fin.mp rm.1
        have := least r2 h4 h5
        omega
      subst nl
      have er1 := m1 _ _ er
      refine ⟨_, rfl, rfl, _, rfl, ?_⟩
      rw [show decide (V.int ((row.length : Nat) : Int) = V.non) = false from rfl]
      refine iteF ⟨_, rfl, _, _, rfl, rfl, _, rfl, ?_⟩
      refine iteF ⟨_, rfl, .ref rr, .ty "list", _, _, true, rfl, .ty "list", .base (.lst er1), kit_ty (by decide +kernel), _, rfl, ?_⟩
      refine iteF ⟨_, rfl, .ref rr, row.length, rfl, .inl ⟨_, .inl (.inl er1), by rw [List.length_map]⟩, _, rfl, rfl, _, rfl, ?_⟩
      rw [decide_eq_true rfl]
      obtain ⟨hu, hnm, hdd, hsg, pr0⟩ := hk.sm m1
      have al : as.length = ds.length := by rw [paired_len pr0, is.rows]
      refine iteF ⟨_, rfl, rr, rfl, ⟨_, .inl (.inl er1)⟩, fun D nD => ?_⟩
      refine lc_list (xs := row.map V.str) (fun j G => G D = some (.lst []) ∧ Sm G1 G) ⟨upd_same, Sm.new nD⟩ (fun j G _ p => .inl (.inl (p.2 _ _ er1))) (fun j x G ex p => ?_) (fun G p => ?_)
      · obtain ⟨eD, mG⟩ := p
        obtain ⟨d, ed, rfl⟩ : ∃ d, row[j]? = some d ∧ x = .str d := by
          rw [List.getElem?_map] at ex
          cases e : row[j]? with
          | none =>
            rw [e] at ex
            cases ex
          | some d =>
            rw [e] at ex
            exact ⟨d, rfl, (Option.some.inj ex).symm⟩
        have hd := rd d (List.mem_of_getElem? ed)
        refine ⟨rfl, _, rfl, .str d, .ty "str", _, _, true, rfl, .ty "str", .base (.str d), kit_ty (by decide +kernel), _, rfl, ?_⟩
        refine iteF ⟨_, rfl, _, rfl, u, _, 1, .ref dd, rfl, rfl, .inl (.inl (mG _ _ hu)), rfl, dd, _, rfl, .inl ⟨_, .inr d, .inl (mG _ _ hdd), rfl, rfl⟩, _, rfl, ?_⟩
        rw [dkv_has (by rw [List.length_map, al]), decide_eq_true hd]
        exact iteF ⟨eD, mG⟩
      · obtain ⟨eD, mG⟩ := p
        refine ⟨Nat.zero_le _, fun e2 ne2 => ?_⟩
        have m3 := mG.trans (Sm.new (o := .lst []) ne2)
        have eD2 := Sm.new (o := .lst []) ne2 _ _ eD
        refine ⟨.list [], .list [], .lst (.inl (.inl eD2)) .nil, .lst (.inl (.inl upd_same)) .nil, shaped0, shaped0, _, rfl, ?_⟩
        rw [eqv_nil]
        generalize upd G e2 (.lst []) = G3 at m3 ⊢
        have mA := m1.trans m3
        have hk3 := hk.sm mA
        have hk3' := hk'.sm mA
        obtain ⟨hu3, hnm3, _, hsg3, _⟩ := id hk3
        obtain ⟨hu3', hnm3', _, hsg3', _⟩ := id hk3'
        refine iteF ⟨_, rfl, u, _, 2, .ref sg, rfl, rfl, .inl (.inl hu3), rfl, _, rfl, _, rfl, u, _, 0, .ref nm, rfl, rfl, .inl (.inl hu3), rfl, nm, _, 0, .str z0, rfl, rfl, .inl (.inl hnm3), atI_nat (j := 0) (by rw [List.getElem?_map, ez]; rfl), _, rfl, u, rr, nm, dd, sg, z0, row, ws, ds, as, tb, ls, 9, rfl, hk3, is, z0m, .inl (.inl (mA _ _ er)), rd, fun h1 => ?_⟩
        refine ⟨sg, .str (look ws ls (Ap.led (nxt ws ds tb) z0 row)), rfl, .inl ⟨_, .inr _, .inl hsg3, rfl, (look_at is.looks h1).symm⟩, _, rfl, u', _, 2, .ref sg', rfl, rfl, .inl (.inl hu3'), rfl, _, rfl, _, rfl, u', _, 0, .ref nm', rfl, rfl, .inl (.inl hu3'), rfl, nm', _, 0, .str y0, rfl, rfl, .inl (.inl hnm3'), atI_nat (j := 0) (by rw [List.getElem?_map, ey]; rfl), _, rfl, u', rr, nm', dd', sg', y0, row, ws', ds', as', tb', ls', 9, rfl, hk3', is', y0m, .inl (.inl (mA _ _ er)), fun d hd => (same d).mp (rd d hd), fun h2 => ?_⟩
        refine ⟨sg', .str (look ws' ls' (Ap.led (nxt ws' ds' tb') y0 row)), rfl, .inl ⟨_, .inr _, .inl hsg3', rfl, (look_at is'.looks h2).symm⟩, rfl, ?_⟩
        rw [sg_0, sg_1] at rs
        rw [decide_eq_false (fun e => rs (V.str.inj e))]
        exact q G3 mA
end
end Dk
set_option Elab.async false
set_option linter.all false
set_option maxRecDepth 100000
set_option maxHeartbeats 8000000
namespace Dk
open PySem PySem.Spec PyProof.Rows L2 Er LamX NdefX
/-! ### _law_other -/
def spOt : Sp := fun vs H Q _ => ∃ (p u nm dd sg : Addr) (ws ds : List Str) (as : List Addr) (tb : List (List Str)) (ls : List Str), vs = [.ref p, .ref u] ∧ Src H p ∧ DkAt H u nm dd sg ws ds as tb ls ∧ DkIs 9 ws ds tb ls ∧
  ∀ (u' nm' dd' sg' : Addr) (ws' : List Str) (as' : List Addr) (tb' : List (List Str)) (ls' : List Str) G, Sx p H G → Src G p → DkAt G u' nm' dd' sg' ws' ds as' tb' ls' → DkIs 9 ws' ds tb' ls' → Q (.ref u') G
abbrev nOt : List Str := ["_law_source_here", "_law_desk_here", "_law_other_here", "_law_deeds", "_law_deed", "_law_aims", "_law_at", "_law_one"]
theorem scOt : FnScope nOt ["_law_source_here", "_law_desk_here"] (defScope (top 48)) := ⟨rfl, rfl, rfl, by decide +kernel, rfl, by decide +kernel, by decide +kernel⟩
theorem rg_nats {n : Nat} : rgV 0 ((n : Nat) : Int) = nats (List.range n) := by
  unfold rgV nats
  rw [show (((n : Nat) : Int) - 0).toNat = n by omega]
  refine List.map_congr_left fun i _ => ?_
  rw [Int.zero_add]
section
variable {P : Program} {w : World} {K : PySem.W.Frag} {mg : Str → Option Value} {base : Heap} {f fK fL : Addr} {fd dK dL : FuncData}
theorem bOt (F : FnP K "_law_other" (top 48) f fd) : Binds K fd ["_law_source_here", "_law_desk_here"] [] := F.bindsN fun _ _ _ _ _ _ us hl => match us, hl with
  | [_, _], _ => rfl
theorem ok_ot (F : FnP K "_law_other" (top 48) f fd) (mt : mg "list" = none) (md : mg "dict" = none) (ml : mg "len" = none) (mr : mg "range" = none) (me : mg "enumerate" = none)
    (GK : FnOk P w K mg base CX0 6 fK dK ["_law_source_here", "_law_most"] spDesk) (FK : FnP K "_law_desk" (top 40) fK dK) (gK : mg "_law_desk" = some (.ref fK))
    (GL : FnOk P w K mg base CX0 3 fL dL ["_law_source_here", "_law_twins_here"] spLeads) (FL : FnP K "_law_leads" (top 38) fL dL) (gL : mg "_law_leads" = some (.ref fL)) : FnOk P w K mg base CX0 7 f fd ["_law_source_here", "_law_desk_here"] spOt := by
  refine F.ok (CX := CX0) scOt (fun vs H Q E h => ?_) (fun cdv A outer s H vs Q E hr h => ?_)
  · obtain ⟨p, u, nm, dd, sg, ws, ds, as, tb, ls, rfl, _⟩ := h
    rfl
  · have hr3 := hr.mono (show 3 ≤ 6 by decide)
    refine ⟨_, PSs.nox (pss_cons (ps_asg (pe_tup (pa_cons (by exact (pe_call GK hr rfl gK FK.kp (bDk FK) .nil pass0 (pa_cons (pv 0) (pa_cons pe_int pa_nil)))) (pa_cons pe_dnewK pa_nil))) (pg_tup rfl (pgs_cons (pg_name (i := 2) scOt.nd rfl (.inr rfl)) (pgs_cons (pg_name (i := 3) scOt.nd rfl (.inl rfl)) pgs_nil))))
      (pss_cons (ps_lock (ps_for PassesOwn.never rfl (pi_keys (by exact (pe_ix ix_tup (pv 1) pe_int (fun _ _ => rfl)))) (pg_name (i := 4) scOt.nd rfl (.inl rfl))
        (pss_cons (ps_set (i := 5) scOt.nd rfl (.inr rfl) (by exact (pe_call GL hr3 rfl gL FL.kp (bL FL) .nil pass0 (pa_cons (pv 0) (pa_cons (by exact (pe_listRg rfl rfl mt (prg_1 rfl mr (by exact (pe_callB call_len rfl ml boot_len (pa_cons (by exact (pe_ix ix_tup (pv 2) pe_int (fun _ _ => rfl))) pa_nil)))))) pa_nil)))))
        (pss_one (ps_dput (hu_of hr) (pv 3) (pv 4) (by exact (pe_callTy (call_dictP rfl) rfl md PyProof.Rows.boot_dict (pa_cons (by exact (pe_lc (own := [("_law_at", 6), ("_law_one", 7)]) (g := gTup K 2 (gCons (gName 6) (gCons (gName 7) gNil))) (tt := tYes) (te := tTup (tCons (tVar 7) (tCons (tOp (rIxL K) (tOp (rIxT K) (tVar 2) (tC (.int 0))) (tOp (rIxL K) (tVar 5) (tVar 6))) tNil))) rfl scOt.nd (pi_enum rfl me (pa_cons (by exact (pe_ix ix_tup (pv 2) pe_int (fun _ _ => rfl))) pa_nil))
          (blkOk_by (N := nOt) (sc := defScope (top 48)) (by decide +kernel)) (fun _ _ _ _ _ => by exact (pg_tup rfl (pgs_cons (pg_name (i := 6) scOt.nd rfl (Or.inl rfl)) (pgs_cons (pg_name (i := 7) scOt.nd rfl (Or.inl rfl)) pgs_nil)))) (fun _ _ _ _ _ => pts_nil)
          (fun _ _ _ _ _ => by exact (pe_tup (pa_cons (by exact (pv 7)) (pa_cons (by exact (pe_ix ix_list (by exact (pe_ix ix_tup (by exact (pv 2)) pe_int (fun _ _ => rfl))) (by exact (pe_ix ix_list (by exact (pv 5)) (by exact (pv 6)) (fun _ _ => rfl))) (fun _ _ => rfl))) pa_nil)))))) pa_nil))) (by rfl))))))
      (pss_one (ps_ret (pe_tup (pa_cons (by exact (pe_ix ix_tup (pv 2) pe_int (fun _ _ => rfl))) (pa_cons (pv 3) (pa_cons (by exact (pe_ix ix_tup (pv 2) pe_int (fun _ _ => rfl))) pa_nil)))))))), ?_⟩
    obtain ⟨p, u, nm, dd, sg, ws, ds, as, tb, ls, rfl, hs, hk, is, q⟩ := h
    obtain ⟨hu, hnm, hdd, hsg, pr⟩ := id hk
    have al : as.length = ds.length := by rw [paired_len pr, is.rows]
    have d4 := is.dmost
    have sz : ∀ n : Nat, n ≤ 1000 → n ≤ sizeLine := fun n z => by
      rw [sizeLine_eq]
      omega
    have up := src_ne hs hu fun _ _ z => nomatch z
    have ddp := src_ne hs hdd fun _ _ z => nomatch z
    refine ⟨_, rfl, p, 5, rfl, hs, by decide, by decide, fun u2 nm2 dd2 sg2 ws2 ds2 as2 tb2 ls2 H1 x1 s1 nu2 nm2p _ sg2p _ hk2 is2 => fun dn ndn => ⟨sz _ (by show 2 ≤ 1000; decide), fun T nT => ⟨T, _, rfl, .inl (.inl upd_same), rfl, _, _, rfl, _, _, rfl, rfl, ?_⟩⟩⟩
    obtain ⟨hu2, hnm2, _, hsg2, _⟩ := id hk2
    have y1 := Sm.new (o := .dK []) ndn
    have y2 := y1.trans (Sm.new (o := .tup [.ref u2, .ref dn]) nT)
    have edn : upd (upd H1 dn (.dK [])) T (.tup [.ref u2, .ref dn]) dn = some (.dK []) := Sm.new nT _ _ upd_same
    have x4 : Sx p H (upd (upd H1 dn (.dK [])) T (.tup [.ref u2, .ref dn])) := x1.trans (Sx.of y2)
    have r4 := s1.sm y2
    replace hu2 := y2 _ _ hu2
    replace hnm2 := y2 _ _ hnm2
    replace hsg2 := y2 _ _ hsg2
    have dnH : H dn = none := none_sx hs x1 s1 ndn
    have dnu : u2 ≠ dn := ne_of hu2 edn (fun z => nomatch z)
    have dnn : nm2 ≠ dn := ne_of hnm2 edn (fun z => nomatch z)
    have u2p : u2 ≠ p := src_ne s1 hk2.1 (fun _ _ z => nomatch z)
    have sgdn : sg2 ≠ dn := fun z => by
      have e := hk2.2.2.2.1
      rw [z, ndn] at e
      cases e
    generalize upd (upd H1 dn (.dK [])) T (.tup [.ref u2, .ref dn]) = H4 at x4 r4 edn hu2 hnm2 hsg2 ⊢
    clear y1 y2 nT ndn
    have w2a := is2.some
    have w2b := is2.most
    have dnp := src_ne r4 edn (fun _ _ z => nomatch z)
    have hdd4 := x4 _ _ ddp hdd
    have udd : u ≠ dd := ne_of hu hdd (fun z => nomatch z)
    have dndd : dn ≠ dd := fun z => by
      rw [z, hdd] at dnH
      cases dnH
    have u2d : u2 ≠ dd := ne_of hu2 hdd4 (fun z => nomatch z)
    have nm2d : nm2 ≠ dd := ne_of hnm2 hdd4 (fun z => nomatch z)
    have sg2d : sg2 ≠ dd := fun z => by
      rw [z, hdd4] at hsg2
      exact dkv_ne is2.some is2.looks (HO.dK.inj (Option.some.inj hsg2)).symm
    refine ⟨dd, _, hdd4, True.intro, fun od => ?_⟩
    have kL : ∀ {b : Addr} {o : HO}, b ≠ dd → H4 b = some o → upd H4 dd (.frz od (.dK (dkv ds (as.map V.ref)))) b = some o := fun {b o} n e => by
      rw [upd_ne n]
      exact e
    have uL := kL udd (x4 _ _ up hu)
    have dL : upd H4 dd (.frz od (.dK (dkv ds (as.map V.ref)))) dd = some (.frz od (.dK (dkv ds (as.map V.ref)))) := upd_same
    have dnL := kL dndd edn
    have u2L := kL u2d hu2
    have nm2L := kL nm2d hnm2
    have sg2L := kL sg2d hsg2
    have srL : Src (upd H4 dd (.frz od (.dK (dkv ds (as.map V.ref))))) p := src_upd r4 ddp
    have unl : ∀ G, S2 p dn (upd H4 dd (.frz od (.dK (dkv ds (as.map V.ref))))) G → Sx p H (upd G dd (.dK (dkv ds (as.map V.ref)))) := fun G m b o n e => by
      by_cases c : b = dd
      · rw [c, upd_same, ← hdd, ← c]
        exact e
      · rw [upd_ne c]
        exact m b o n (fun z => by rw [z, dnH] at e; cases e) (by rw [upd_ne c]; exact x4 b o n e)
    generalize upd H4 dd (.frz od (.dK (dkv ds (as.map V.ref)))) = L at uL dL dnL u2L nm2L sg2L srL unl ⊢
    clear kL
    have dun : u ≠ dn := fun z => by rw [z, dnH] at hu; cases hu
    have dkl : (dkv ds (as.map V.ref)).length = ds.length := dkv_len (by rw [List.length_map, al])
    refine ⟨_, rfl, u, _, 1, .ref dd, rfl, rfl, .inl (.inl uL), atI_nat (j := 1) rfl, dd, od, rfl, .inl ⟨_, dL, ?_⟩⟩
    refine for_it walk_keys (fun i σ G => ∃ (es : List Addr) (t2 : List (List Str)) (v4 v5 : Option V), σ = [some (.ref p), some (.ref u), some (.ref u2), some (.ref dn), v4, v5, none, none] ∧ es.length = i ∧ G dn = some (.dK (dkv (ds.take i) (es.map V.ref))) ∧
      Paired (fun e vs => e ≠ dn ∧ e ≠ dd ∧ e ≠ p ∧ G e = some (.dK (dkv ws2 (vs.map V.str)))) es t2 ∧ (∀ vs ∈ t2, vs.length = ws2.length ∧ ∀ z ∈ vs, z ∈ ws2) ∧ S2 p dn L G ∧ Src G p)
      ⟨[], [], _, _, rfl, rfl, dnL, .nil, (fun vs h => nomatch h), (fun b o _ _ e => e), srL⟩ (fun i σ G _ p0 => ?_) (fun i x σ G G' hi p0 yy => ?_) (fun σ G p0 => ?_)
    · obtain ⟨_, _, _, _, _, _, _, _, _, mm, _⟩ := p0
      exact mm _ _ ddp (Ne.symm dndd) dL
    · obtain ⟨es, t2, v4, v5, rfl, el, ed, pe, tok, mm, src⟩ := p0
      obtain ⟨rfl, k, v, ekv, rfl⟩ := yy
      obtain ⟨d, e1, rfl, ev⟩ := dkv_at ekv
      have ddn : dd ≠ dn := Ne.symm dndd
      have u2G := mm _ _ u2p dnu u2L
      have nm2G := mm _ _ nm2p dnn nm2L
      refine ⟨_, rfl, _, rfl, u2, _, 0, .ref nm2, rfl, rfl, .inl (.inl u2G), atI_nat (j := 0) rfl, .ref nm2, ws2.length, rfl, .inl ⟨_, .inl (.inl nm2G), by rw [List.length_map]⟩, _, rfl, RgOk.of_le (by decide) (by omega) (by decide) (by omega), fun rr nr => ?_⟩
      rw [rg_nats]
      have g1 := Sm.new (o := .lst (nats (List.range ws2.length))) nr
      refine ⟨p, rr, List.range ws2.length, rfl, src.sm g1, src.ne nr, upd_same, by rw [List.length_range]; omega, by rw [List.length_range]; omega, fun x hx => by rw [List.length_range]; exact List.mem_range.mp hx, fun aq am G2 sx2 s2 naq eaq aml amb => ?_⟩
      rw [List.length_range] at aml amb
      have x2 : Sx p G' G2 := (Sx.of g1).trans sx2
      have u2H := x2 _ _ u2p u2G
      have nm2H := x2 _ _ nm2p nm2G
      refine ⟨_, rfl, u2, _, 0, .ref nm2, rfl, rfl, .inl (.inl u2H), atI_nat (j := 0) rfl, nm2, ws2.map V.str, rfl, .inl (.inl nm2H), fun D nD => ?_⟩
      refine lc_it (walk_enum (xs := ws2.map V.str)) (vs := [6, 7]) (fun j G4 => ∃ ps : List Addr, G4 D = some (.lst (ps.map V.ref)) ∧ ps.length = j ∧ (∀ (k : Nat) (t : Addr), ps[k]? = some t → t ≠ D ∧ G4 t = some (.tup [.str (ws2.getD k ⟨#[]⟩), ((tgt ws2 am).map V.str).getD k .non])) ∧ Sm G2 G4)
        ⟨[], upd_same, rfl, (fun k t h => nomatch h), Sm.new nD⟩ (fun j G4 _ ⟨_, _, _, _, m4⟩ => .inl (.inl (m4 _ _ nm2H))) (fun j yv G4 G5 hj p1 yy => ?_) (fun G4 p1 => ?_)
      · obtain ⟨ps, eD, pl, pt, m4⟩ := p1
        obtain ⟨T2, z1, z2, rfl, nT2, rfl, f1, f2⟩ := yy
        have f1 := Option.some.inj f1
        subst f1
        obtain ⟨z, ez, rfl⟩ : ∃ z, ws2[j]? = some z ∧ z2 = .str z := by
          have f2 : (ws2.map V.str)[j]? = some z2 := f2
          rw [List.getElem?_map] at f2
          cases e : ws2[j]? with
          | none =>
            rw [e] at f2
            cases f2
          | some d =>
            rw [e] at f2
            exact ⟨d, rfl, (Option.some.inj f2).symm⟩
        have jl := (List.getElem?_eq_some_iff.mp ez).1
        have ea : am[j]? = some (am[j]'(by omega)) := List.getElem?_eq_getElem _
        have alt := amb _ (List.mem_of_getElem? ea)
        generalize am[j]'(by omega) = t at ea alt
        have et : ws2[t]? = some (ws2[t]'alt) := List.getElem?_eq_getElem _
        have mt := Sm.new (o := .tup [.int ((j : Nat) : Int), .str z]) nT2
        refine ⟨T2, _, rfl, .inl (.inl upd_same), rfl, _, _, rfl, _, _, rfl, rfl, rfl, ?_⟩
        replace m4 := m4.trans mt
        replace eD := mt _ _ eD
        replace pt : ∀ (k : Nat) (t : Addr), ps[k]? = some t → t ≠ D ∧ upd G4 T2 (.tup [.int ((j : Nat) : Int), .str z]) t = some (.tup [.str (ws2.getD k ⟨#[]⟩), ((tgt ws2 am).map V.str).getD k .non]) := fun k t h => ⟨(pt k t h).1, mt _ _ (pt k t h).2⟩
        generalize upd G4 T2 (.tup [.int ((j : Nat) : Int), .str z]) = G5 at m4 eD pt ⊢
        unfold tYes
        dsimp only
        rw [if_pos rfl]
        refine ⟨_, rfl, _, rfl, u2, _, 0, .ref nm2, rfl, rfl, .inl (.inl (m4 _ _ u2H)), atI_nat (j := 0) rfl, _, rfl, _, rfl, aq, _, j, .int (t : Nat), rfl, rfl, .inl (.inl (m4 _ _ eaq)), atI_nat (nats_at ea), nm2, _, t, .str (ws2[t]'alt), rfl, rfl, .inl (.inl (m4 _ _ nm2H)), atI_nat (by rw [List.getElem?_map, et]; rfl), sz _ (by show 2 ≤ 1000; decide), fun pp npp => ?_⟩
        have mp := Sm.new (o := .tup [.str z, .str (ws2[t]'alt)]) npp
        have ep : upd G5 pp (.tup [.str z, .str (ws2[t]'alt)]) pp = some (.tup [.str (ws2.getD j ⟨#[]⟩), ((tgt ws2 am).map V.str).getD j .non]) := by
          have a1 : ws2.getD j ⟨#[]⟩ = z := by
            rw [List.getD_eq_getElem?_getD, ez]
            rfl
          have a2 : ((tgt ws2 am).map V.str).getD j .non = .str (ws2[t]'alt) := by
            unfold tgt
            rw [List.getD_eq_getElem?_getD, List.getElem?_map, List.getElem?_map, ea]
            show V.str (ws2.getD t ⟨#[]⟩) = _
            rw [List.getD_eq_getElem?_getD, et]
            rfl
          rw [a1, a2]
          exact upd_same
        have ppD : pp ≠ D := Ne.symm (ne_of_none eD npp)
        generalize upd G5 pp (.tup [.str z, .str (ws2[t]'alt)]) = G6 at mp ep ⊢
        refine ⟨_, mp _ _ eD, by rw [List.length_map, pl, sizeLine_eq]; omega, ps ++ [pp], by rw [upd_same, List.map_append]; rfl, by rw [List.length_append, pl]; rfl, fun k t2 hk => ?_, fun b o e => ?_⟩
        · by_cases c : k < ps.length
          · rw [List.getElem?_append_left c] at hk
            obtain ⟨h1, h2⟩ := pt k t2 hk
            refine ⟨h1, ?_⟩
            rw [upd_ne h1]
            exact mp _ _ h2
          · have e : k = ps.length := by
              have h := (List.getElem?_eq_some_iff.mp hk).1
              rw [List.length_append] at h
              have h : k < ps.length + 1 := h
              omega
            subst e
            rw [List.getElem?_append_right (Nat.le_refl _), Nat.sub_self] at hk
            have e5 : pp = t2 := Option.some.inj hk
            subst e5
            refine ⟨ppD, ?_⟩
            rw [upd_ne ppD, pl]
            exact ep
        · rw [upd_ne (ne_of_none e nD)]
          exact mp _ _ (m4 _ _ e)
      · obtain ⟨ps, eD, pl, pt, m4⟩ := p1
        rw [List.length_map] at pl
        have tl : (tgt ws2 am).length = ws2.length := by rw [tgt_len, aml]
        refine ⟨D, ps, dkv ws2 ((tgt ws2 am).map V.str), rfl, .inl (.inl eD), pair_dkv pl (by rw [List.length_map, tl]) (fun k t h => (pt k t h).2), fun v1 nv => ?_⟩
        rw [dkv_merge (by rw [List.length_map, tl]) is2.nd]
        have x5 : Sx p G' (upd G4 v1 (.dK (dkv ws2 ((tgt ws2 am).map V.str)))) := x2.trans (Sx.of (m4.trans (Sm.new nv)))
        have s5 := (s2.sm m4).new (o := .dK (dkv ws2 ((tgt ws2 am).map V.str))) nv
        have v1p := (s2.sm m4).ne nv
        have v1G : G' v1 = none := none_sx src (x2.trans (Sx.of m4)) (s2.sm m4) nv
        have ev1 : upd G4 v1 (.dK (dkv ws2 ((tgt ws2 am).map V.str))) v1 = some (.dK (dkv ws2 ((tgt ws2 am).map V.str))) := upd_same
        generalize upd G4 v1 (.dK (dkv ws2 ((tgt ws2 am).map V.str))) = G7 at x5 s5 ev1 ⊢
        have v1n : v1 ≠ dn := Ne.symm (ne_of_none ed v1G)
        have v1d : v1 ≠ dd := Ne.symm (ne_of_none (mm _ _ ddp ddn dL) v1G)
        have ed3 := x5 _ _ dnp ed
        have il : i < ds.length := (List.getElem?_eq_some_iff.mp e1).1
        have l2 : es.length = (ds.take i).length := by
          rw [List.length_take]
          omega
        have tk : ds.take (i + 1) = ds.take i ++ [d] := by
          rw [List.take_add_one, e1]
          rfl
        refine ⟨_, rfl, _, rfl, dn, _, rfl, DPut.k (k := .inr d) ed3 (by rw [dkv_len (by rw [List.length_map]; omega), List.length_take, sizeLine_eq]; omega), ?_⟩
        rw [put_dkv l2 (by rw [← tk]; exact is.dnd.sublist (List.take_sublist _ _)), ← tk]
        refine ⟨es ++ [v1], t2 ++ [tgt ws2 am], _, _, rfl, by rw [List.length_append, el]; rfl, upd_same, ?_, fun vs hvs => ?_, fun b o n1 n2 e => ?_, src_upd s5 dnp⟩
        · refine pair_more (pair_mono pe fun e _ vs ⟨h1, h2, h3, h4⟩ => ⟨h1, h2, h3, ?_⟩) ⟨v1n, v1d, v1p, ?_⟩
          · rw [upd_ne h1]
            exact x5 _ _ h3 h4
          · rw [upd_ne v1n]
            exact ev1
        · rcases List.mem_append.mp hvs with h | h
          · exact tok vs h
          · rw [List.mem_singleton.mp h]
            refine ⟨tl, fun z hz => ?_⟩
            unfold tgt at hz
            obtain ⟨x, hx, rfl⟩ := List.mem_map.mp hz
            have xl := amb x hx
            rw [List.getD_eq_getElem?_getD, List.getElem?_eq_getElem xl]
            exact List.getElem_mem _
        · rw [upd_ne n2]
          exact x5 b o n1 (mm b o n1 n2 e)
    · obtain ⟨es, t2, v4, v5, rfl, el, ed, pe, tok, mm, src⟩ := p0
      rw [dkl, List.take_length] at ed
      have x5 := unl G mm
      have s5 : Src (upd G dd (.dK (dkv ds (as.map V.ref)))) p := src_upd src ddp
      refine ⟨mm _ _ ddp (Ne.symm dndd) dL, ?_⟩
      have kd : ∀ {b : Addr} {o : HO}, b ≠ dd → G b = some o → upd G dd (.dK (dkv ds (as.map V.ref))) b = some o := fun {b o} n e => by
        rw [upd_ne n]
        exact e
      have dn5 := kd dndd ed
      have u5 := kd u2d (mm _ _ u2p dnu u2L)
      have nm5 := kd nm2d (mm _ _ nm2p dnn nm2L)
      have sg5 := kd sg2d (mm _ _ sg2p sgdn sg2L)
      have pe5 : Paired (fun e vs => upd G dd (.dK (dkv ds (as.map V.ref))) e = some (.dK (dkv ws2 (vs.map V.str)))) es t2 := pair_mono pe fun e _ vs h => kd h.2.1 h.2.2.2
      generalize upd G dd (.dK (dkv ds (as.map V.ref))) = G5 at x5 s5 dn5 u5 nm5 sg5 pe5 ⊢
      refine ⟨_, rfl, u2, _, 0, .ref nm2, rfl, rfl, .inl (.inl u5), atI_nat (j := 0) rfl, _, rfl, _, rfl, u2, _, 2, .ref sg2, rfl, rfl, .inl (.inl u5), atI_nat (j := 2) rfl, sz _ (by show 3 ≤ 1000; decide), fun u3 nu3 => ?_⟩
      have g := Sm.new (o := .tup [.ref nm2, .ref dn, .ref sg2]) nu3
      refine q u3 nm2 dn sg2 ws2 es t2 ls2 _ (x5.trans (Sx.of g)) (s5.sm g) ⟨upd_same, g _ _ nm5, g _ _ dn5, g _ _ sg5, pair_mono pe5 fun e _ vs h => g _ _ h⟩ ⟨is2.some, by omega, is2.nd, is2.word, is.dsome, is.dmost, is.dnd, is.dword, ?_, tok, is2.looks, is2.look⟩
      rw [← paired_len pe, el, dkl]
end
end Dk
set_option Elab.async false
set_option linter.all false
set_option maxRecDepth 100000
set_option maxHeartbeats 4000000
/-! ### list(zip(xs, ys)): the pairs are kept, so each is a new tuple -/
namespace Zl
open PySem PySem.Spec PyProof.Rows L2
open PySem.Sem (wp)
/-- a zip whose pair T was handed out and still lives -/
abbrev ZOut (h : Heap) (z TI TO T : Addr) (f : Bool) : Prop :=
  h.get? z = some { cls := .type "zip", dict := none, data := .fields #[rawInt T, .bool f, .bool false, .ref TI, .ref TO], slots := #[] }
section
variable {prog : Program} {w : World} {A : Around} {E : Value → Shared → Prop} {s : Shared}
theorem zo_free {z TI TO T : Addr} {f : Bool} {oT : Obj} {Q : Bool → Shared → Prop} (hz : ZOut s.heap z TI TO T f) (hT : s.heap.get? T = some oT)
    (hQ : ∀ h', ZOut h' z TI TO T true → Heap.SameBut z s.heap h' → Q false { s with heap := h' }) : wpAny (model prog w) A (Builtin.SmallTypes.ownedTupleIsFree (.ref z)) Q E s := by
  unfold Builtin.SmallTypes.ownedTupleIsFree
  refine wpAny_bind (wpAny_field hz rfl (x := rawInt T) rfl ?_)
  show wpAny _ _ (loadIfAlive ((T : Int).toNat) >>= _) _ _ _
  rw [Int.toNat_natCast]
  refine wpAny_bind (PySem.W.kdx_alive hT ?_)
  simp only [Option.isNone_some, Bool.false_eq_true, if_false]
  refine wpAny_bind (wpAny_field hz rfl (x := .bool f) rfl ?_)
  cases f with
  | true =>
    rw [if_neg (show ¬ ((Value.bool true != Value.bool true) = true) from Bool.false_ne_true)]
    exact wpAny_pure (hQ _ hz (Heap.SameBut.refl _ _))
  | false =>
    rw [if_pos (show (Value.bool false != Value.bool true) = true from rfl)]
    exact wpAny_bind (wpAny_setField_rec hz (by simp) fun h₁ hz₁ hs₁ => wpAny_pure (hQ h₁ hz₁ hs₁))
theorem zo_item {z TI TO i1 i2 l1 l2 T : Addr} {f : Bool} {oT : Obj} {k1 k2 : Nat} {xs ys : Array Value} {x y : Value} {Q : Value → Shared → Prop} (D : ZipApart z TI TO i1 i2 l1 l2)
    (hz : ZOut s.heap z TI TO T f) (hT : s.heap.get? T = some oT) (hTI : IsPair s.heap TI (.ref i1) (.ref i2))
    (h1 : s.heap.IsListIter i1 l1 k1) (h2 : s.heap.IsListIter i2 l2 k2) (hl1 : s.heap.IsList l1 xs) (hl2 : s.heap.IsList l2 ys) (hx : xs[k1]? = some x) (hy : ys[k2]? = some y)
    (hQ : ∀ h', ZOut h' z TI TO T true → h'.IsListIter i1 l1 (k1 + 1) → h'.IsListIter i2 l2 (k2 + 1) → IsPair h' s.heap.objs.size x y → h'.objs.size = s.heap.objs.size + 1 →
      (∀ c o, c ≠ z → c ≠ i1 → c ≠ i2 → s.heap.get? c = some o → h'.get? c = some o) → Q (.ref s.heap.objs.size) { s with heap := h' }) :
    wpAny (model prog w) A (Builtin.«zip.__next__» ⟨[.ref z], []⟩) (fun fin s' => ∃ v, fin = .done (.ret v) ∧ Q v s') E s := by
  show wpAny _ _ (field (.ref z) 2 >>= _) _ _ _
  refine wpAny_bind (wpAny_field hz rfl (x := .bool false) rfl ?_)
  show wpAny _ _ (field (.ref z) 3 >>= _) _ _ _
  refine wpAny_bind (wpAny_field hz rfl (x := .ref TI) rfl ?_)
  refine wpAny_bind (wpAny_seqItems hTI rfl ?_)
  show wpAny _ _ (Builtin.SmallTypes.ownedTupleIsFree (.ref z) >>= _) _ _ _
  refine wpAny_bind (zo_free hz hT fun h₁ hz₁ hs₁ => ?_)
  simp only [Bool.false_eq_true, if_false]
  refine wpAny_bind ?_
  simp only [List.forIn_toArray, List.forIn_cons, List.forIn_nil]
  refine wpAny_bind (wpAny_bind (wpAny_holding ?_))
  show wpAny _ _ (Builtin.SmallTypes.nextOf (.ref i1) >>= _) _ _ _
  refine wpAny_bind (wpAny_nextOf_list_item (h1.extBut hs₁.extBut D.i1z) (hl1.extBut hs₁.extBut D.l1z) hx fun h₂ h1₂ hs₂ => wpAny_pure ?_)
  refine wpAny_pure ?_
  refine wpAny_bind (wpAny_bind (wpAny_holding ?_))
  show wpAny _ _ (Builtin.SmallTypes.nextOf (.ref i2) >>= _) _ _ _
  refine wpAny_bind (wpAny_nextOf_list_item ((h2.extBut hs₁.extBut D.i2z).extBut hs₂.extBut D.i12.symm) ((hl2.extBut hs₁.extBut D.l2z).extBut hs₂.extBut D.l2i1) hy fun h₄ h2₄ hs₄ => wpAny_pure ?_)
  refine wpAny_pure (wpAny_pure ?_)
  refine wpAny_bind (wpAny_newTuple ?_ (by show 2 ≤ sizeLine; decide))
  have hsz : h₄.objs.size = s.heap.objs.size := by rw [hs₄.1, hs₂.1, hs₁.1]
  have up : ∀ c o, c ≠ z → c ≠ i1 → c ≠ i2 → s.heap.get? c = some o → h₄.get? c = some o := fun c o c1 c2 c3 e => hs₄.extBut _ _ c3 (hs₂.extBut _ _ c2 (hs₁.extBut _ _ c1 e))
  have hz₄ : ZOut h₄ z TI TO T true := hs₄.extBut _ _ D.i2z.symm (hs₂.extBut _ _ D.i1z.symm hz₁)
  refine wpAny_pure ⟨_, rfl, ?_⟩
  show Q (.ref h₄.objs.size) { s with heap := h₄.push { cls := .type "tuple", data := .seq #[x, y] } }
  rw [hsz]
  refine hQ _ (Heap.get?_push_of_some _ hz₄) ((h1₂.extBut hs₄.extBut D.i12).at fun o e => Heap.get?_push_of_some _ e) (h2₄.at fun o e => Heap.get?_push_of_some _ e) ?_ ?_ fun c o c1 c2 c3 e => Heap.get?_push_of_some _ (up c o c1 c2 c3 e)
  · rw [← hsz]
    exact Heap.get?_push_size _ rfl
  · rw [Heap.size_push, hsz]
theorem zo_end {z TI TO i1 i2 l1 l2 T : Addr} {f : Bool} {oT : Obj} {k1 k2 : Nat} {xs ys : Array Value} {Q : Fin → Shared → Prop} (hh : A.handled = none) (D : ZipApart z TI TO i1 i2 l1 l2)
    (hz : ZOut s.heap z TI TO T f) (hT : s.heap.get? T = some oT) (hTI : IsPair s.heap TI (.ref i1) (.ref i2))
    (h1 : s.heap.IsListIter i1 l1 k1) (hl1 : s.heap.IsList l1 xs) (hend : xs[k1]? = none)
    (hE : ∀ h' e, (∀ c o, c ≠ z → c ≠ i1 → s.heap.get? c = some o → h'.get? c = some o) → (∃ o, h'.get? e = some o ∧ o.cls = .type "StopIteration") → E (.ref e) { s with heap := h' }) :
    wpAny (model prog w) A (Builtin.«zip.__next__» ⟨[.ref z], []⟩) Q E s := by
  show wpAny _ _ (field (.ref z) 2 >>= _) _ _ _
  refine wpAny_bind (wpAny_field hz rfl (x := .bool false) rfl ?_)
  show wpAny _ _ (field (.ref z) 3 >>= _) _ _ _
  refine wpAny_bind (wpAny_field hz rfl (x := .ref TI) rfl ?_)
  refine wpAny_bind (wpAny_seqItems hTI rfl ?_)
  show wpAny _ _ (Builtin.SmallTypes.ownedTupleIsFree (.ref z) >>= _) _ _ _
  refine wpAny_bind (zo_free hz hT fun h₁ hz₁ hs₁ => ?_)
  simp only [Bool.false_eq_true, if_false]
  refine wpAny_bind ?_
  simp only [List.forIn_toArray, List.forIn_cons, List.forIn_nil]
  refine wpAny_bind (wpAny_bind (wpAny_holding ?_))
  show wpAny _ _ (Builtin.SmallTypes.nextOf (.ref i1) >>= _) _ _ _
  exact wpAny_bind (wpAny_nextOf_list_end hh (h1.extBut hs₁.extBut D.i1z) (hl1.extBut hs₁.extBut D.l1z) hend fun h₂ e hs₂ he => hE h₂ e (fun c o c1 c2 q => hs₂ _ _ c2 (hs₁.extBut _ _ c1 q)) he)
theorem zn_item {z TI TO i1 i2 l1 l2 T : Addr} {f : Bool} {oT : Obj} {k1 k2 : Nat} {xs ys : Array Value} {x y : Value} {Q : Option Value → Shared → Prop} (D : ZipApart z TI TO i1 i2 l1 l2)
    (hz : ZOut s.heap z TI TO T f) (hT : s.heap.get? T = some oT) (hTI : IsPair s.heap TI (.ref i1) (.ref i2))
    (h1 : s.heap.IsListIter i1 l1 k1) (h2 : s.heap.IsListIter i2 l2 k2) (hl1 : s.heap.IsList l1 xs) (hl2 : s.heap.IsList l2 ys) (hx : xs[k1]? = some x) (hy : ys[k2]? = some y)
    (hQ : ∀ h', ZOut h' z TI TO T true → h'.IsListIter i1 l1 (k1 + 1) → h'.IsListIter i2 l2 (k2 + 1) → IsPair h' s.heap.objs.size x y → h'.objs.size = s.heap.objs.size + 1 →
      (∀ c o, c ≠ z → c ≠ i1 → c ≠ i2 → s.heap.get? c = some o → h'.get? c = some o) → Q (some (.ref s.heap.objs.size)) { s with heap := h' }) :
    wpAny (model prog w) A (pyNext (.ref z)) Q E s := by
  have hT' : s.TypeIs (.ref z) "zip" := ⟨_, hz, rfl⟩
  unfold pyNext
  exact wpAny_bind (wpAny_attempt (wpAny_callSpecial?_slot (name := Str.ofString "__next__") hT' F.slot_zip_next
    (wpAny_call_entry F.slot_zip_next hT' F.entry_zip_next
      (zo_item D hz hT hTI h1 h2 hl1 hl2 hx hy fun h' a1 a2 a3 a4 a5 a6 => wpAny_pure (hQ h' a1 a2 a3 a4 a5 a6)) (F.args_zip_next_1 _))))
theorem zn_end {z TI TO i1 i2 l1 l2 T : Addr} {f : Bool} {oT : Obj} {k1 k2 : Nat} {xs ys : Array Value} {Q : Option Value → Shared → Prop} (hh : A.handled = none) (D : ZipApart z TI TO i1 i2 l1 l2)
    (hz : ZOut s.heap z TI TO T f) (hT : s.heap.get? T = some oT) (hTI : IsPair s.heap TI (.ref i1) (.ref i2))
    (h1 : s.heap.IsListIter i1 l1 k1) (hl1 : s.heap.IsList l1 xs) (hend : xs[k1]? = none)
    (hQ : ∀ h', (∀ c o, c ≠ z → c ≠ i1 → s.heap.get? c = some o → h'.get? c = some o) → Q none { s with heap := h' }) : wpAny (model prog w) A (pyNext (.ref z)) Q E s := by
  have hT' : s.TypeIs (.ref z) "zip" := ⟨_, hz, rfl⟩
  unfold pyNext
  refine wpAny_bind (wpAny_attempt (wpAny_callSpecial?_slot (name := Str.ofString "__next__") hT' F.slot_zip_next
    (wpAny_call_entry F.slot_zip_next hT' F.entry_zip_next (zo_end (k2 := k2) (ys := ys) hh D hz hT hTI h1 hl1 hend fun h' e hk he => ?_) (F.args_zip_next_1 _))))
  obtain ⟨o, ho, hc⟩ := he
  refine wpAny_bind (wpAny_isInstance (T := "StopIteration") (b := true) ⟨o, ho, hc⟩ isSubtype_stop ?_)
  exact wpAny_pure (hQ _ hk)
end
/-! the state of a zip between two items -/
def ZSt (h : Heap) (z TI TO i1 i2 l1 l2 S : Addr) (k : Nat) : Prop :=
  IsPair h TI (.ref i1) (.ref i2) ∧ h.IsListIter i1 l1 k ∧ h.IsListIter i2 l2 k ∧
  ((k = 0 ∧ IsZip h z TI TO .none ∧ IsPair h TO .none .none) ∨ ∃ (T : Addr) (f : Bool) (oT : Obj), ZOut h z TI TO T f ∧ h.get? T = some oT ∧ T ≠ S ∧ T ≠ z ∧ T ≠ i1 ∧ T ≠ i2)
theorem ZSt.keep {h h' : Heap} {z TI TO i1 i2 l1 l2 S : Addr} {k : Nat} (st : ZSt h z TI TO i1 i2 l1 l2 S k) (up : ∀ b o, b ≠ S → h.get? b = some o → h'.get? b = some o) (n0 : TI ≠ S) (n1 : i1 ≠ S) (n2 : i2 ≠ S) (n3 : z ≠ S) (n4 : TO ≠ S) : ZSt h' z TI TO i1 i2 l1 l2 S k := by
  obtain ⟨hTI, h1, h2, hz⟩ := st
  refine ⟨up _ _ n0 hTI, h1.at fun o e => up _ o n1 e, h2.at fun o e => up _ o n2 e, ?_⟩
  rcases hz with ⟨rfl, hz, hTO⟩ | ⟨T, f, oT, hz, hT, nT, r⟩
  · exact .inl ⟨rfl, up _ _ n3 hz, up _ _ n4 hTO⟩
  · exact .inr ⟨T, f, oT, up _ _ n3 hz, up _ _ nT hT, nT, r⟩
section
variable {prog : Program} {w : World} {A : Around} {E : Value → Shared → Prop} {s : Shared}
theorem zs_item {z TI TO i1 i2 l1 l2 S : Addr} {k : Nat} {xs ys : Array Value} {x y : Value} {Q : Option Value → Shared → Prop} (D : ZipApart z TI TO i1 i2 l1 l2) (st : ZSt s.heap z TI TO i1 i2 l1 l2 S k) (hS : S < s.heap.objs.size)
    (hl1 : s.heap.IsList l1 xs) (hl2 : s.heap.IsList l2 ys) (hx : xs[k]? = some x) (hy : ys[k]? = some y)
    (hQ : ∀ h', ZSt h' z TI TO i1 i2 l1 l2 S (k + 1) → IsPair h' s.heap.objs.size x y → h'.objs.size = s.heap.objs.size + 1 →
      (∀ c o, c ≠ z → c ≠ TO → c ≠ i1 → c ≠ i2 → s.heap.get? c = some o → h'.get? c = some o) → Q (some (.ref s.heap.objs.size)) { s with heap := h' }) :
    wpAny (model prog w) A (pyNext (.ref z)) Q E s := by
  obtain ⟨hTI, h1, h2, hz⟩ := st
  have l1' : i1 < s.heap.objs.size := by obtain ⟨_, e, _⟩ := h1; exact Heap.lt_size e
  have l2' : i2 < s.heap.objs.size := by obtain ⟨_, e, _⟩ := h2; exact Heap.lt_size e
  rcases hz with ⟨rfl, hz, hTO⟩ | ⟨T, f, oT, hz, hT, nT, nz, n1, n2⟩
  · exact wpAny_pyNext_zip_item D hz hTI hTO h1 h2 hl1 hl2 hx hy fun h' a1 a2 a3 a4 a5 a6 a7 =>
      hQ h' ⟨a7 _ _ D.TIz D.TITO D.TIi1 D.TIi2 hTI, a3, a4, .inr ⟨_, false, _, a1, a5, Nat.ne_of_gt hS, Nat.ne_of_gt (Heap.lt_size hz), Nat.ne_of_gt l1', Nat.ne_of_gt l2'⟩⟩ a5 a6 a7
  · exact zn_item D hz hT hTI h1 h2 hl1 hl2 hx hy fun h' a1 a3 a4 a5 a6 a7 =>
      hQ h' ⟨a7 _ _ D.TIz D.TIi1 D.TIi2 hTI, a3, a4, .inr ⟨T, true, oT, a1, a7 _ _ nz n1 n2 hT, nT, nz, n1, n2⟩⟩ a5 a6 fun c o c1 _ c3 c4 e => a7 c o c1 c3 c4 e
theorem zs_end {z TI TO i1 i2 l1 l2 S : Addr} {k : Nat} {xs ys : Array Value} {Q : Option Value → Shared → Prop} (hh : A.handled = none) (D : ZipApart z TI TO i1 i2 l1 l2) (st : ZSt s.heap z TI TO i1 i2 l1 l2 S k)
    (hl1 : s.heap.IsList l1 xs) (hl2 : s.heap.IsList l2 ys) (hend : xs[k]? = none)
    (hQ : ∀ h', (∀ c o, c ≠ z → c ≠ TO → c ≠ i1 → c ≠ i2 → s.heap.get? c = some o → h'.get? c = some o) → Q none { s with heap := h' }) : wpAny (model prog w) A (pyNext (.ref z)) Q E s := by
  obtain ⟨hTI, h1, h2, hz⟩ := st
  rcases hz with ⟨rfl, hz, hTO⟩ | ⟨T, f, oT, hz, hT, nT, nz, n1, n2⟩
  · exact wpAny_pyNext_zip_end hh D hz hTI hTO h1 h2 hl1 hl2 (.inl hend) hQ
  · exact zn_end (k2 := k) (ys := ys) hh D hz hT hTI h1 hl1 hend fun h' a => hQ h' fun c o c1 _ c3 _ e => a c o c1 c3 e
end
end Zl
set_option Elab.async false
set_option linter.all false
set_option maxRecDepth 100000
set_option maxHeartbeats 4000000
namespace Zl
open PySem PySem.Spec PyProof.Rows L2
open PySem.Sem (wp)
namespace F
theorem zip_no_len : typeLookup (.type "zip") "__len__" = pure none := by rw [typeLookup_type, builtinLookup_eq_fast]; kernel_rfl
theorem zip_no_hint : typeLookup (.type "zip") "__length_hint__" = pure none := by rw [typeLookup_type, builtinLookup_eq_fast]; kernel_rfl
end F
/-- as: the addresses of the pairs, one for each place, rising from lo on -/
structure ZlG (xs ys : Array Value) (lo : Addr) (h : Heap) (as : List Addr) : Prop where
  rise : as.Pairwise (· < ·)
  above : ∀ a ∈ as, lo ≤ a
  pairs : ∀ (j : Nat) (a : Addr), as[j]? = some a → ∃ x y, xs[j]? = some x ∧ ys[j]? = some y ∧ IsPair h a x y
theorem ZlG.there {xs ys : Array Value} {lo : Addr} {h : Heap} {as : List Addr} (g : ZlG xs ys lo h as) {a : Addr} (ha : a ∈ as) : a < h.objs.size := by
  obtain ⟨j, hj⟩ := List.mem_iff_getElem?.mp ha
  obtain ⟨_, _, _, _, e⟩ := g.pairs j a hj
  exact Heap.lt_size e
structure Far (z TI TO i1 i2 l1 l2 S lo : Addr) : Prop where
  D : ZipApart z TI TO i1 i2 l1 l2
  sTI : TI ≠ S
  sTO : TO ≠ S
  s1 : i1 ≠ S
  s2 : i2 ≠ S
  sz : z ≠ S
  sl1 : l1 ≠ S
  sl2 : l2 ≠ S
  S : S < lo
  z : z < lo
  TO : TO < lo
  i1 : i1 < lo
  i2 : i2 < lo
theorem far_of (I l1 l2 : Nat) (n1 : l1 < I) (n2 : l2 < I) : Far (I + 4) (I + 2) (I + 3) I (I + 1) l1 l2 (I + 5) (I + 6) :=
  ⟨PySem.W.ktu_apart I l1 l2 n1 n2, PySem.W.neN (by omega), PySem.W.neN (by omega), PySem.W.neN (by omega), PySem.W.neN (by omega), PySem.W.neN (by omega), PySem.W.neN (by omega), PySem.W.neN (by omega),
    show I + 5 < I + 6 by omega, show I + 4 < I + 6 by omega, show I + 3 < I + 6 by omega, show I < I + 6 by omega, show I + 1 < I + 6 by omega⟩
theorem low_of (I b : Nat) (h : b < I) : ∀ k : Nat, b ≠ I + k := fun k => by omega
section
variable {prog : Program} {w : World} {A : Around} {s : Shared} {R : Result → Shared → Prop} {xs ys : Array Value}
theorem zl_loop {z TI TO i1 i2 l1 l2 S lo : Addr} (hh : A.handled = none) (F : Far z TI TO i1 i2 l1 l2 S lo) (hxy : xs.size = ys.size) (hn : xs.size ≤ sizeLine) (res : Value) {h₁ : Heap}
    (hR : ∀ h' tk acc c as, (∀ b o, b ≠ S → b ≠ z → b ≠ TO → b ≠ i1 → b ≠ i2 → h₁.get? b = some o → h'.get? b = some o) → h'.get? S = some { cls := .type "list", dict := none, data := .seq acc c, slots := #[] } → as.length = xs.size → ZlG xs ys lo h' as →
      acc.toList = as.map Value.ref → R (.ok (.ret res)) { s with heap := h', toks := tk }) :
    ∀ (k i : Nat) (h : Heap) (tk c : Nat) (acc : Array Value) (as : List Addr), xs.size - i = k → i ≤ xs.size → ZSt h z TI TO i1 i2 l1 l2 S i → h.IsList l1 xs → h.IsList l2 ys → (∀ b o, b ≠ S → b ≠ z → b ≠ TO → b ≠ i1 → b ≠ i2 → h₁.get? b = some o → h.get? b = some o) →
      h.get? S = some { cls := .type "list", dict := none, data := .seq acc c, slots := #[] } → acc.toList = as.map Value.ref → as.length = i → ZlG xs ys lo h as → lo ≤ h.objs.size →
      codeAny (model prog w) A (.builtin "list.extend.loop" ⟨[.ref S, .ref z, res], []⟩) R { s with heap := h, toks := tk } := by
  intro k
  induction k with
  | zero =>
    intro i h tk c acc as hk hi hst hl1 hl2 hkeep hS hacc hal hG hIs
    have hin : i = xs.size := by omega
    refine codeAny_builtin PySem.F.entry_extend_loop ?_
    rw [Around.under_plainId PySem.F.plain_extend_loop _]
    show wpAny _ A.in1 (pyNext (.ref z) >>= _) _ _ _
    refine wpAny_bind (zs_end (s := { s with heap := h, toks := tk }) (A := A.in1) hh F.D hst hl1 hl2 (Array.getElem?_eq_none (by omega)) fun h' he => ?_)
    refine wpAny_pure (hR h' tk acc c as (fun b o n1 n2 n3 n4 n5 e => he b o n2 n3 n4 n5 (hkeep b o n1 n2 n3 n4 n5 e)) (he S _ F.sz.symm F.sTO.symm F.s1.symm F.s2.symm hS) (by omega) ⟨hG.rise, hG.above, fun j a hj => ?_⟩ hacc)
    obtain ⟨x, y, ex, ey, e3⟩ := hG.pairs j a hj
    have ha := hG.above a (List.mem_of_getElem? hj)
    exact ⟨x, y, ex, ey, he a _ (Nat.ne_of_gt (Nat.lt_of_lt_of_le F.z ha)) (Nat.ne_of_gt (Nat.lt_of_lt_of_le F.TO ha)) (Nat.ne_of_gt (Nat.lt_of_lt_of_le F.i1 ha)) (Nat.ne_of_gt (Nat.lt_of_lt_of_le F.i2 ha)) e3⟩
  | succ k ih =>
    intro i h tk c acc as hk hi hst hl1 hl2 hkeep hS hacc hal hG hIs
    have hlt : i < xs.size := by omega
    have hlt2 : i < ys.size := by omega
    have hsz : acc.size = i := by rw [← Array.length_toList, hacc, List.length_map, hal]
    refine codeAny_builtin PySem.F.entry_extend_loop ?_
    rw [Around.under_plainId PySem.F.plain_extend_loop _]
    show wpAny _ A.in1 (pyNext (.ref z) >>= _) _ _ _
    refine wpAny_bind (zs_item (s := { s with heap := h, toks := tk }) (S := S) F.D hst (Heap.lt_size hS) hl1 hl2 (Array.getElem?_eq_getElem hlt) (Array.getElem?_eq_getElem hlt2) fun h' hst' ht hz hkp => ?_)
    dsimp only at ht hz hkp ⊢
    have hS' := hkp S _ F.sz.symm F.sTO.symm F.s1.symm F.s2.symm hS
    have up : ∀ b o, b ≠ S → h'.get? b = some o → (h'.update S (Obj.mapSeq (·.push (Value.ref h.objs.size)))).get? b = some o := fun b o hb e => (Heap.get?_update_other _ _ (Ne.symm hb)).trans e
    have hSl : S < h.objs.size := Heap.lt_size hS
    show wpAny _ A.in1 (updateSeq S (·.push (Value.ref h.objs.size)) >>= _) _ _ _
    refine wpAny_bind ?_
    refine wpAny_updateSeq hS' rfl (wpAny_pure ⟨plainId_quiet PySem.F.plain_extend_loop _, ih (i + 1) _ tk _ (acc.push (Value.ref h.objs.size)) (as ++ [h.objs.size]) (by omega) hlt (hst'.keep up F.sTI F.s1 F.s2 F.sz F.sTO)
      (hl1.at fun o e => up _ o F.sl1 (hkp _ o F.D.l1z F.D.l1TO F.D.l1i1 F.D.l1i2 e)) (hl2.at fun o e => up _ o F.sl2 (hkp _ o F.D.l2z F.D.l2TO F.D.l2i1 F.D.l2i2 e))
      (fun b o n1 n2 n3 n4 n5 e => up b o n1 (hkp b o n2 n3 n4 n5 (hkeep b o n1 n2 n3 n4 n5 e))) (Heap.get?_update_self _ hS' rfl) (by rw [Array.toList_push, hacc, List.map_append]; rfl) (by rw [List.length_append, hal]; rfl) ⟨?_, ?_, ?_⟩ ?_⟩) (by rw [hsz]; omega) (by show (acc.push (Value.ref h.objs.size)).size ≤ sizeLine + 1; rw [Array.size_push, hsz]; omega)
    · refine List.pairwise_append.mpr ⟨hG.rise, List.pairwise_singleton _ _, fun a ha b hb => ?_⟩
      rw [List.mem_singleton.mp hb]
      exact hG.there ha
    · intro a ha
      rcases List.mem_append.mp ha with ha | ha
      · exact hG.above a ha
      · rw [List.mem_singleton.mp ha]; exact hIs
    · intro j b hj
      rcases Nat.lt_trichotomy j as.length with h1 | h1 | h1
      · rw [List.getElem?_append_left h1] at hj
        obtain ⟨x, y, ex, ey, e3⟩ := hG.pairs j b hj
        have hb := hG.above b (List.mem_of_getElem? hj)
        exact ⟨x, y, ex, ey, up b _ (Nat.ne_of_gt (Nat.lt_of_lt_of_le F.S hb)) (hkp b _ (Nat.ne_of_gt (Nat.lt_of_lt_of_le F.z hb)) (Nat.ne_of_gt (Nat.lt_of_lt_of_le F.TO hb)) (Nat.ne_of_gt (Nat.lt_of_lt_of_le F.i1 hb)) (Nat.ne_of_gt (Nat.lt_of_lt_of_le F.i2 hb)) e3)⟩
      · subst h1
        have hb : h.objs.size = b := by simpa using hj
        subst hb
        subst hal
        exact ⟨_, _, Array.getElem?_eq_getElem hlt, Array.getElem?_eq_getElem hlt2, up _ _ (Nat.ne_of_gt hSl) ht⟩
      · have hnone : (as ++ [h.objs.size])[j]? = none := List.getElem?_eq_none (by rw [List.length_append, List.length_singleton]; omega)
        rw [hnone] at hj; cases hj
    · have e : (h'.update S (Obj.mapSeq (·.push (Value.ref h.objs.size)))).get? h.objs.size = _ := up _ _ (Nat.ne_of_gt hSl) ht
      exact Nat.le_of_lt (Nat.lt_of_le_of_lt hIs (Heap.lt_size e))
end
section
variable {prog : Program} {w : World} {A : Around} {E : Value → Shared → Prop} {s : Shared} {xs ys : Array Value}
theorem zl_hint {r : Addr} (hT : s.TypeIs (.ref r) "zip") {Q : Bool → Shared → Prop} (h : Q true s) : wpAny (model prog w) A (Builtin.List.listLengthHint (.ref r)) Q E s := by
  unfold Builtin.List.listLengthHint
  refine wpAny_bind (wpAny_specialOf hT F.zip_no_len ?_)
  show wpAny _ _ (specialOf (Value.ref r) (Str.ofString "__length_hint__") >>= _) _ _ _
  refine wpAny_bind (wpAny_specialOf hT F.zip_no_hint ?_)
  exact wpAny_pure h
theorem zl_extend {R : Result → Shared → Prop} {z TI TO i1 i2 l1 l2 S lo : Addr} (hh : A.handled = none) (F : Far z TI TO i1 i2 l1 l2 S lo) (hst : ZSt s.heap z TI TO i1 i2 l1 l2 S 0) (hz : IsZip s.heap z TI TO .none) (hl1 : s.heap.IsList l1 xs) (hl2 : s.heap.IsList l2 ys) (hxy : xs.size = ys.size) (hlo : lo ≤ s.heap.objs.size) (res : Value) (c₀ : Nat) (hS : s.heap.get? S = some { cls := .type "list", data := .seq #[] c₀ })
    (hR : ∀ h' tk acc c as, (∀ b o, b ≠ S → b ≠ z → b ≠ TO → b ≠ i1 → b ≠ i2 → s.heap.get? b = some o → h'.get? b = some o) → h'.get? S = some { cls := .type "list", dict := none, data := .seq acc c, slots := #[] } → as.length = xs.size → ZlG xs ys lo h' as →
      acc.toList = as.map Value.ref → R (.ok (.ret res)) { s with heap := h', toks := tk }) (hn : xs.size ≤ sizeLine) :
    wpAny (model prog w) A.in1 (Builtin.List.listExtendWith (.ref S) (.ref z) res)
      (fun fin s' => match fin with | .done f => R (.ok f) s' | .again c' => c'.quiet = true ∧ codeAny (model prog w) A c' R s') (fun e s' => R (.error e) s') s := by
  have hT : s.TypeIs (.ref z) "zip" := ⟨_, hz, rfl⟩
  unfold Builtin.List.listExtendWith
  refine wpAny_bind (wpAny_typeOf (T := "zip") hT ?_)
  have h1 : Builtin.List.listSameRef (.ref S) (.ref z) = false := by simp [Builtin.List.listSameRef, F.sz.symm]
  have h2 : (Value.type "zip" == Value.type "list") = false := by decide
  have h3 : (Value.type "zip" == Value.type "tuple") = false := by decide
  simp only [h1, h2, h3, Bool.or_false, Bool.false_eq_true, if_false]
  refine wpAny_bind (wpAny_pyIter_zip hz ?_)
  refine wpAny_bind (wpAny_holding (zl_hint hT ?_))
  show wpAny _ A.in1 (rule "list.extend.makes-room" >>= fun _ => Builtin.List.listTouch (.ref S) >>= fun _ =>
    again (.builtin "list.extend.loop" ⟨[.ref S, .ref z, res], []⟩)) _ _ _
  refine wpAny_bind (wpAny_rule ?_)
  refine wpAny_bind ?_
  show wpAny _ _ (updateSeq S (·.push .none) >>= fun _ => updateSeq S (·.pop)) _ _ _
  refine wpAny_bind (wpAny_updateSeq hS rfl ?_)
  have hS₂ := Heap.get?_update_self (Obj.mapSeq (·.push Value.none)) hS rfl
  refine wpAny_updateSeq (hz := by seq_fits) hS₂ rfl ?_
  have hS₃ := Heap.get?_update_self (Obj.mapSeq (·.pop)) hS₂ rfl
  have oth : ∀ b o, b ≠ S → s.heap.get? b = some o → ((s.heap.update S (Obj.mapSeq (·.push Value.none))).update S (Obj.mapSeq (·.pop))).get? b = some o :=
    fun b o hb e => (Heap.get?_update_other _ _ (Ne.symm hb)).trans ((Heap.get?_update_other _ _ (Ne.symm hb)).trans e)
  refine wpAny_pure ⟨plainId_quiet PySem.F.plain_extend_loop _, ?_⟩
  refine zl_loop (xs := xs) (ys := ys) (s := s) (h₁ := s.heap) hh F hxy hn res hR xs.size 0 _ _ _ #[] [] (Nat.sub_zero _) (Nat.zero_le _) (hst.keep oth F.sTI F.s1 F.s2 F.sz F.sTO) (hl1.at fun o e => oth _ o F.sl1 e) (hl2.at fun o e => oth _ o F.sl2 e)
    (fun b o n1 _ _ _ _ e => oth b o n1 e) hS₃ rfl rfl ⟨List.Pairwise.nil, (fun _ ha => nomatch ha), (fun j a hj => by simp at hj)⟩ ?_
  simpa [Heap.size_update] using hlo
theorem zl_init {R : Result → Shared → Prop} {z TI TO i1 i2 l1 l2 S lo : Addr} (hh : A.handled = none) (F : Far z TI TO i1 i2 l1 l2 S lo) (hst : ZSt s.heap z TI TO i1 i2 l1 l2 S 0) (hz : IsZip s.heap z TI TO .none) (hl1 : s.heap.IsList l1 xs) (hl2 : s.heap.IsList l2 ys) (hxy : xs.size = ys.size) (hlo : lo ≤ s.heap.objs.size) (hS : s.heap.get? S = some { cls := .type "list", data := .seq #[] })
    (hR : ∀ h' tk acc c as, (∀ b o, b ≠ S → b ≠ z → b ≠ TO → b ≠ i1 → b ≠ i2 → s.heap.get? b = some o → h'.get? b = some o) → h'.get? S = some { cls := .type "list", dict := none, data := .seq acc c, slots := #[] } → as.length = xs.size → ZlG xs ys lo h' as →
      acc.toList = as.map Value.ref → R (.ok (.ret .none)) { s with heap := h', toks := tk }) (hn : xs.size ≤ sizeLine) :
    wpAny (model prog w) A.in1 (Builtin.«list.__init__» ⟨[.ref S, .ref z], []⟩)
      (fun fin s' => match fin with | .done f => R (.ok f) s' | .again c' => c'.quiet = true ∧ codeAny (model prog w) A c' R s') (fun e s' => R (.error e) s') s := by
  show wpAny _ _ (do let old ← Builtin.List.listItems (.ref S); Builtin.List.listUpdate (.ref S) (fun _ => #[]); letGo old.toList.reverse; Builtin.List.listExtendWith (.ref S) (.ref z) .none) _ _ s
  refine wpAny_bind ?_
  unfold Builtin.List.listItems
  refine wpAny_bind (wpAny_seqItems hS rfl (wpAny_pure ?_))
  show wpAny _ _ (updateSeq S (fun _ => #[]) >>= fun _ => letGo (#[] : Array Value).toList.reverse >>= fun _ => Builtin.List.listExtendWith (.ref S) (.ref z) .none) _ _ s
  refine wpAny_bind (wpAny_updateSeq hS rfl ?_)
  have hS₂ := Heap.get?_update_self (Obj.mapSeq (fun _ => (#[] : Array Value))) hS rfl
  have oth : ∀ b o, b ≠ S → s.heap.get? b = some o → (s.heap.update S (Obj.mapSeq (fun _ => (#[] : Array Value)))).get? b = some o :=
    fun b o hb e => (Heap.get?_update_other _ _ (Ne.symm hb)).trans e
  refine wpAny_bind (wpAny_letGo ?_)
  refine zl_extend (xs := xs) (ys := ys) (lo := lo) hh F (hst.keep oth F.sTI F.s1 F.s2 F.sz F.sTO) (oth _ _ F.sz hz) (hl1.at fun o e => oth _ o F.sl1 e) (hl2.at fun o e => oth _ o F.sl2 e) hxy (by simpa [Heap.size_update] using hlo) .none _ hS₂ (fun h' tk acc c as hk hS' hl hG hacc => ?_) hn
  exact hR h' tk acc c as (fun b o n1 n2 n3 n4 n5 e => hk b o n1 n2 n3 n4 n5 (oth b o n1 e)) hS' hl hG hacc
/-- list(z), z the zip just laid over l1 and l2 -/
theorem zl_call {Q : Value → Shared → Prop} {I l1 l2 : Addr} (hh : A.handled = none) (hz : IsZip s.heap (I + 4) (I + 2) (I + 3) .none) (hTI : IsPair s.heap (I + 2) (.ref I) (.ref (I + 1))) (hTO : IsPair s.heap (I + 3) .none .none) (h1 : s.heap.IsListIter I l1 0) (h2 : s.heap.IsListIter (I + 1) l2 0)
    (hs : s.heap.objs.size = I + 5) (n1 : l1 < I) (n2 : l2 < I) (hl1 : s.heap.IsList l1 xs) (hl2 : s.heap.IsList l2 ys) (hxy : xs.size = ys.size) (hn : xs.size ≤ sizeLine)
    (hQ : ∀ h' tk acc c as, (∀ b o, b < I → s.heap.get? b = some o → h'.get? b = some o) → h'.get? (I + 5) = some { cls := .type "list", dict := none, data := .seq acc c, slots := #[] } → as.length = xs.size → ZlG xs ys (I + 6) h' as →
      acc.toList = as.map Value.ref → Q (.ref (I + 5)) { s with heap := h', toks := tk }) :
    wpAny (model prog w) A (call (.type "list") [.ref (I + 4)]) Q E s := by
  refine callType_codes (Q₁ := fun obj s₁ => obj = .ref s.heap.objs.size ∧ s₁ = { s with heap := s.heap.push { cls := .type "list", data := .seq #[] } }) PySem.F.called_list (PySem.F.typeCall_list_1 _) PySem.F.entry_list_init
    (code_list_new _ ⟨rfl, rfl⟩) fun obj s₁ h₁ => ?_
  obtain ⟨rfl, rfl⟩ := h₁
  have hS : (s.heap.push { cls := .type "list", data := .seq #[] }).get? s.heap.objs.size = some { cls := .type "list", data := .seq #[] } := Heap.get?_push_size _ rfl
  rw [hs] at hS ⊢
  have up : ∀ b o, s.heap.get? b = some o → (s.heap.push { cls := .type "list", data := .seq #[] }).get? b = some o := fun b o e => Heap.get?_push_of_some _ e
  have Fr : Far (I + 4) (I + 2) (I + 3) I (I + 1) l1 l2 (I + 5) (I + 6) := far_of I l1 l2 n1 n2
  refine ⟨⟨_, hS, rfl⟩, PySem.F.args_list_init_2 _ _, zl_init (xs := xs) (ys := ys) (A := A.in1) hh Fr ⟨up _ _ hTI, h1.at fun o e => up _ o e, h2.at fun o e => up _ o e, .inl ⟨rfl, up _ _ hz, up _ _ hTO⟩⟩ (up _ _ hz) (hl1.at fun o e => up _ o e) (hl2.at fun o e => up _ o e) hxy (by rw [Heap.size_push, hs]; exact Nat.le_refl _) hS (fun h' tk acc c as hk hS' hl hG hacc => ?_) hn⟩
  exact ⟨rfl, hQ h' tk acc c as (fun b o hb e => hk b o (low_of I b hb 5) (low_of I b hb 4) (low_of I b hb 3) (low_of I b hb 0) (low_of I b hb 1) (up b o e)) hS' hl hG hacc⟩
end
end Zl
set_option Elab.async false
set_option linter.all false
set_option maxRecDepth 100000
set_option maxHeartbeats 4000000
namespace Zl
open PySem PySem.Spec PyProof.Rows L2
/-- the pairs tracked at their addresses -/
def putP : Hp → List Addr → List (V × V) → Hp
  | H, a :: as, q :: qs => putP (upd H a (.tup [q.1, q.2])) as qs
  | H, _, _ => H
theorem putP_off {b : Addr} : ∀ (as : List Addr) (qs : List (V × V)) (H : Hp), b ∉ as → putP H as qs b = H b
  | [], _, _, _ => rfl
  | _ :: _, [], _, _ => rfl
  | a :: as, q :: qs, H, h => by
    show putP (upd H a (.tup [q.1, q.2])) as qs b = H b
    rw [putP_off as qs _ (fun z => h (List.mem_cons_of_mem _ z)), upd_ne (fun z => h (by rw [z]; exact List.mem_cons_self))]
theorem putP_at : ∀ (as : List Addr) (qs : List (V × V)) (H : Hp), as.length = qs.length → as.Nodup → Paired (fun (t : Addr) (q : V × V) => putP H as qs t = some (.tup [q.1, q.2])) as qs
  | [], [], _, _, _ => .nil
  | [], _ :: _, _, h, _ => by cases h
  | _ :: _, [], _, h, _ => by cases h
  | a :: as, q :: qs, H, h, hn => by
    have hn' := List.nodup_cons.mp hn
    have ih := putP_at as qs (upd H a (.tup [q.1, q.2])) (Nat.succ.inj h) hn'.2
    refine .cons ?_ ih
    show putP (upd H a (.tup [q.1, q.2])) as qs a = some (.tup [q.1, q.2])
    rw [putP_off as qs _ hn'.1, upd_same]
def rZipL (xs ys : List V) (H : Hp) (Q : VK) : Prop :=
  ∀ (H' : Hp) (p : Addr) (ts : List Addr), (∀ b o, H b = some o → H' b = some o) → H p = none → (∀ t ∈ ts, H t = none) → p ∉ ts → H' p = some (.lst (ts.map V.ref)) → Paired (fun (t : Addr) (q : V × V) => H' t = some (.tup [q.1, q.2])) ts (xs.zip ys) → Q (.ref p) H'
def tListZip (K : PySem.W.Frag) (ta : TA) : TE := fun σ H Q => ta σ H fun vs H1 => ∃ (a b : Addr) (xs ys : List V), vs = [.ref a, .ref b] ∧ SqL K H1 a xs ∧ SqL K H1 b ys ∧ xs.length = ys.length ∧ rZipL xs ys H1 Q
section
variable {X : Cx} {e e2 : Expr} {ta : TA} {p p2 cpos pos : Pos}
theorem pairs_laid {pins : List (Addr × Obj)} {σ : L2.St} {H : Hp} {s : Shared} {h' : Heap} {tk : Nat} {xs ys : List V} {us us2 : List Value} {acc : Array Value} {c : Nat} {as : List Addr} {S lo : Addr} (I : Inv X pins σ H s) (hz : xs.length ≤ sizeLine) (hxy : xs.length = ys.length) (vx : Vals xs us) (vy : Vals ys us2)
    (hSl : s.heap.objs.size ≤ S) (hlo : S < lo) (hk : ∀ b o, s.heap.get? b = some o → h'.get? b = some o) (hS : h'.get? S = some { cls := .type "list", dict := none, data := .seq acc c, slots := #[] }) (hl : as.length = us.toArray.size) (hG : ZlG us.toArray us2.toArray lo h' as) (hacc : acc.toList = as.map Value.ref) :
    ∃ H' : Hp, (∀ b o, H b = some o → H' b = some o) ∧ H S = none ∧ (∀ t ∈ as, H t = none) ∧ S ∉ as ∧ H' S = some (.lst (as.map V.ref)) ∧ Paired (fun (t : Addr) (q : V × V) => H' t = some (.tup [q.1, q.2])) as (xs.zip ys) ∧ Inv X pins σ H' { s with heap := h', toks := tk } := by
  have lk : xs.length = us.length := vx.length
  have hl2 : as.length = xs.length := by
    rw [hl, lk]
    simp
  have hSn : S ∉ as := fun z => Nat.lt_irrefl _ (Nat.lt_of_lt_of_le hlo (hG.above _ z))
  have ge : ∀ b ∈ as, s.heap.objs.size ≤ b := fun b z => Nat.le_trans hSl (Nat.le_of_lt (Nat.lt_of_lt_of_le hlo (hG.above b z)))
  have nd : as.Nodup := List.Pairwise.imp (fun {a b} (h : a < b) => Nat.ne_of_lt h) hG.rise
  have new : ∀ t ∈ as, H t = none := fun t ht => I.hok.fresh (ge t ht)
  have newS : H S = none := I.hok.fresh hSl
  have atP := putP_at as (xs.zip ys) (upd H S (.lst (as.map V.ref))) (by rw [List.length_zip]; omega) nd
  have off : ∀ b, b ∉ as → b ≠ S → putP (upd H S (.lst (as.map V.ref))) as (xs.zip ys) b = H b := fun b h1 h2 => by rw [putP_off as _ _ h1, upd_ne h2]
  have low : ∀ b o, s.heap.get? b = some o → b ∉ as ∧ b ≠ S := fun b o e => ⟨fun z => absurd (Heap.lt_size e) (Nat.not_lt.mpr (ge b z)), Nat.ne_of_lt (Nat.lt_of_lt_of_le (Heap.lt_size e) hSl)⟩
  have kp : ∀ b u, H b = some u → (putP (upd H S (.lst (as.map V.ref))) as (xs.zip ys)) b = some u := fun b u e => by
    rw [off b (fun z => by rw [new b z] at e; cases e) (fun z => by rw [z, newS] at e; cases e)]
    exact e
  have eS : putP (upd H S (.lst (as.map V.ref))) as (xs.zip ys) S = some (.lst (as.map V.ref)) := by rw [putP_off as _ _ hSn, upd_same]
  refine ⟨putP (upd H S (.lst (as.map V.ref))) as (xs.zip ys), kp, newS, new, hSn, eS, atP, ?_⟩
  refine I.call' (ch := []) rfl ⟨fun b o q _ _ _ => hk b o q, fun b o q _ _ _ => ⟨o.slots, hk b o q⟩, fun b o q n _ => ?_, fun b o q _ => ⟨o, hk b o q⟩, fun b xs q => kp b _ q, fun b o u q => kp b _ q, fun b ps q => ⟨#[], by rw [kp b _ q]; simp⟩⟩ (fun b u q => ?_) I.bare fun b z => by simp at z
  · obtain ⟨z1, z2⟩ := low b o q
    rw [off b z1 z2]
    exact n
  · by_cases hb : b ∈ as
    · obtain ⟨j, pk, e1, e2, e3⟩ := LiI.paired_ix atP hb
      rw [e3] at q
      cases q
      obtain ⟨x, y, f1, f2, f3⟩ := hG.pairs j b e1
      obtain ⟨g1, g2⟩ := List.getElem?_zip_eq_some.mp e2
      obtain ⟨u, k1, k2⟩ := vx.get g1
      obtain ⟨v, m1, m2⟩ := vy.get g2
      have f1 : us[j]? = some x := by simpa using f1
      have f2 : us2[j]? = some y := by simpa using f2
      obtain rfl : x = u := Option.some.inj (f1.symm.trans k1)
      obtain rfl : y = v := Option.some.inj (f2.symm.trans m1)
      exact ⟨by show 2 ≤ sizeLine; decide, [x, y], .cons k2 (.cons m2 .nil), ⟨_, f3, rfl, _, rfl⟩⟩
    · by_cases hb2 : b = S
      · rw [hb2] at q ⊢
        rw [eS] at q
        cases q
        refine ⟨by rw [List.length_map]; omega, acc.toList, c, by rw [hacc]; exact LiI.vals_refs as, ?_⟩
        rw [Array.toArray_toList]
        exact hS
      · rw [off b hb hb2] at q
        exact (I.hok b u q).stay (fun d v _ y => hk d v y) (fun d y => kp d _ y) fun d xs y => kp d _ y
/-- list(zip(e, e2)), two lists of one length -/
theorem pe_listZip (hc : X.calm = true) (hg : Gl X "list") (hm : X.mg "list" = none) (hv : bootBuiltins "list" = some (.type "list")) (hgz : Gl X "zip") (hmz : X.mg "zip" = none) (ha : PA X [e, e2] ta)
    (hs : starEach [.Call (.Name "zip" p2) [e, e2] [] cpos] X.env = (false, eval (.Call (.Name "zip" p2) [e, e2] [] cpos) X.env) :: starEach [] X.env := by rfl)
    (hs2 : starEach [e, e2] X.env = (false, eval e X.env) :: starEach [e2] X.env := by rfl) (hpl : (backTo cpos (starEach [e2] X.env)).any (·.1) = false := by rfl) :
    PE X (.Call (.Name "list" p) [.Call (.Name "zip" p2) [e, e2] [] cpos] [] pos) (tListZip X.K ta) := by
  refine ⟨fun pins s σ H Q I hq => ?_⟩
  refine wpAny_Call_Name_kw (ld_blt I hg hm hv ?_)
  refine PyProof.Rows.callWith_type1 ?_ hs rfl
  rw [hs]
  show wpAny _ _ (spliced ((false, eval (.Call (.Name "zip" p2) [e, e2] [] cpos) X.env) :: backTo pos (starEach [] X.env))) _ _ s
  refine Calls.spliced_cons ?_
  refine wpAny_Call_Name_kw (ld_blt I hgz hmz PyProof.Rows.boot_zip ?_)
  refine PyProof.Rows.callWith_type1 (thn (ha.run cpos pins s σ H _ I hq) fun vs s1 ⟨ws, H1, I1, r1, q1⟩ => ?_) hs2 hpl
  obtain ⟨a, b, xs, ys, rfl, hqx, hqy, hxy, q1⟩ := q1
  cases r1 with
  | cons r rr =>
    cases rr with
    | cons r' rr =>
      cases rr
      cases r
      cases r'
      obtain ⟨us, vx, px, zx⟩ := I1.list hqx
      obtain ⟨us2, vy, py, _⟩ := I1.list hqy
      refine call_zip_2 px.isList py.isList fun h1 z1 z2 z3 z4 z5 z6 z7 => ?_
      refine Calls.spliced_nil ?_
      have lx : xs.length = us.length := vx.length
      have ly : ys.length = us2.length := vy.length
      refine zl_call (s := { s1 with heap := h1 }) (I := s1.heap.objs.size) (xs := us.toArray) (ys := us2.toArray) (I1.ok.hd hc) z1 z2 z3 z4 z5 z6 px.lt py.lt (px.isList.at fun o q => z7 _ o q) (py.isList.at fun o q => z7 _ o q) (by simp; omega) (by simp; omega) fun h' tk acc c as hk hS hl hG hacc => ?_
      obtain ⟨H', k1, k2, k3, k4, k5, k6, J⟩ := pairs_laid (S := s1.heap.objs.size + 5) (lo := s1.heap.objs.size + 6) (tk := tk) I1 zx hxy vx vy (Nat.le_add_right _ _) (Nat.lt_succ_self _) (fun b o q => hk b o (Heap.lt_size q) (z7 b o q)) hS hl hG hacc
      exact ⟨.ref _, H', J, rfl, q1 H' _ as k1 k2 k3 k4 k5 k6⟩
end
end Zl
set_option Elab.async false
set_option linter.all false
set_option maxRecDepth 100000
set_option maxHeartbeats 8000000
namespace Dk
open PySem PySem.Spec PyProof.Rows L2 Er LamX NdefX
/-! ### _law_renamed -/
/-- [(.., ..) for one in a list] -/
theorem lc_pairsL {K : PySem.W.Frag} {a : Addr} {xs : List V} {fk fv : Nat → V} {t1 t2 : TE} {σ : L2.St} {i : Nat} {H1 : Hp} {Q : Addr → Hp → Prop} (hn : xs.length ≤ 1000) (g1 : H1 a = some (.lst xs)) (w1 : ∀ v, wipe ((wipe σ [i]).set i (some v)) [i] = wipe σ [i])
    (ev : ∀ (j : Nat) (x : V) (G : Hp) (Q : List V → Hp → Prop), xs[j]? = some x → Sm H1 G → Q [fk j, fv j] G → (tCons t1 (tCons t2 tNil)) ((wipe σ [i]).set i (some x)) G Q)
    (q : ∀ (D : Addr) (ps : List Addr) (H' : Hp), Sm H1 H' → H1 D = none → H' D = some (.lst (ps.map V.ref)) → ps.length = xs.length → (∀ (k : Nat) (p : Addr), ps[k]? = some p → H' p = some (.tup [fk k, fv k])) → Q D H') :
    ∀ D, H1 D = none → ∃ W : Nat → Nat → Hp → Prop, (∃ m, W 0 m (upd H1 D (.lst []))) ∧ ∀ i₁ m H, W i₁ m H →
      ((Itl K a).stop i₁ H ∧ Q D H) ∨ ((Itl K a).go i₁ H ∧ ∃ Nx : Hp → Prop, (∀ H', Nx H' → ∃ m', m' < m ∧ W (i₁ + 1) m' H') ∧ ∀ x H', (Itl K a).yld i₁ H x H' → gName i x (wipe σ [i]) H' fun σ2 H2 => wipe σ2 [i] = wipe σ [i] ∧ tYes σ2 H2 fun b H3 =>
        if b = true then (tTup (tCons t1 (tCons t2 tNil))) σ2 H3 fun y H4 => ∃ acc, H4 D = some (.lst acc) ∧ acc.length < sizeLine ∧ Nx (upd H4 D (.lst (acc ++ [y]))) else Nx H3) := by
  intro D hD
  refine lc_it (walk_list (K := K) (a := a) (xs := xs)) (vs := [i]) (Qd := fun H => Q D H)
    (fun j H2 => ∃ ps : List Addr, H2 D = some (.lst (ps.map V.ref)) ∧ ps.length = j ∧ (∀ (k : Nat) (p : Addr), ps[k]? = some p → H2 p = some (.tup [fk k, fv k])) ∧ Sm H1 H2) ⟨[], upd_same, rfl, fun k p e => by simp at e, Sm.new hD⟩ ?_ ?_ ?_
  · rintro j G _ ⟨_, _, _, _, sg⟩
    exact .inl (.inl (sg _ _ g1))
  · rintro j x G G' hj ⟨ps, ed, pl, pt, sg⟩ ⟨rfl, ex⟩
    refine ⟨w1 _, ?_⟩
    unfold tYes
    dsimp only
    rw [if_pos rfl]
    refine ev j x G' _ ex sg ⟨by show 2 ≤ sizeLine; rw [sizeLine_eq]; decide, fun p np => ?_⟩
    have dp : D ≠ p := ne_of_none ed np
    refine ⟨ps.map V.ref, by rw [upd_ne dp]; exact ed, by rw [List.length_map, sizeLine_eq]; omega, ps ++ [p], ?_, by rw [List.length_append, pl]; rfl, ?_, ?_⟩
    · rw [upd_same, List.map_append]
      rfl
    · intro k r er
      by_cases c : k < ps.length
      · rw [List.getElem?_append_left c] at er
        have z := pt k r er
        have rD : r ≠ D := fun w => by
          rw [w, ed] at z
          cases z
        rw [upd_ne rD, upd_ne (ne_of_none z np)]
        exact z
      · have e : k = ps.length := by
          have h := (List.getElem?_eq_some_iff.mp er).1
          rw [List.length_append] at h
          have h : k < ps.length + 1 := h
          omega
        subst e
        rw [List.getElem?_append_right (Nat.le_refl _), Nat.sub_self] at er
        have e5 : p = r := Option.some.inj er
        subst e5
        rw [upd_ne (Ne.symm dp), pl]
        exact upd_same
    · intro b o e
      have bD : b ≠ D := fun w => by
        rw [w, hD] at e
        cases e
      rw [upd_ne bD]
      exact Sm.new np _ _ (sg _ _ e)
  · rintro G ⟨ps, ed, pl, pt, sg⟩
    exact q D ps G sg hD ed pl pt
theorem look_ix {so nn : List Str} {z : Str} {j : Nat} (nd : so.Nodup) (e : so[j]? = some z) : look so nn z = nn.getD j ⟨#[]⟩ := by
  obtain ⟨h, e⟩ := List.getElem?_eq_some_iff.mp e
  have hz : z ∈ so := by
    rw [← e]
    exact List.getElem_mem _
  have il := idx_lt hz
  have e2 : so[so.idxOf z]'il = so[j]'h := by rw [List.getElem_idxOf il, e]
  have e3 : so.idxOf z = j := (List.getElem_inj nd).mp e2
  unfold look
  rw [e3]
theorem look_in {so nn : List Str} {z : Str} (e : nn.length = so.length) (hz : z ∈ so) : look so nn z ∈ nn := by
  have il := idx_lt hz
  unfold look
  rw [List.getD_eq_getElem?_getD, List.getElem?_eq_getElem (show so.idxOf z < nn.length by omega)]
  exact List.getElem_mem _
theorem range_map {nn : List Str} : (List.range nn.length).map (fun j => V.str (nn.getD j ⟨#[]⟩)) = nn.map V.str := by
  refine List.ext_getElem? fun j => ?_
  rw [List.getElem?_map, List.getElem?_map]
  by_cases c : j < nn.length
  · rw [List.getElem?_range c, List.getElem?_eq_getElem c, Option.map_some, Option.map_some, List.getD_eq_getElem?_getD, List.getElem?_eq_getElem c]
    rfl
  · rw [List.getElem?_eq_none (by rw [List.length_range]; omega), List.getElem?_eq_none (by omega)]
    rfl
def spRn : Sp := fun vs H Q _ => ∃ (p u nm dd sg : Addr) (ws ds : List Str) (as : List Addr) (tb : List (List Str)) (ls : List Str), vs = [.ref p, .ref u] ∧ Src H p ∧ DkAt H u nm dd sg ws ds as tb ls ∧ DkIs 9 ws ds tb ls ∧
  ∀ (u' nm' dd' sg' : Addr) (ws' ds' : List Str) (as' : List Addr) (tb' : List (List Str)) (ls' : List Str) G, Sx p H G → Src G p → DkAt G u' nm' dd' sg' ws' ds' as' tb' ls' → DkIs 9 ws' ds' tb' ls' → ds'.Perm ds → Q (.ref u') G
abbrev nRn : List Str := ["_law_source_here", "_law_desk_here", "_law_spots", "_law_some", "_law_deeds", "_law_deed", "_law_one"]
theorem scRn : FnScope nRn ["_law_source_here", "_law_desk_here"] (defScope (top 45)) := ⟨rfl, rfl, rfl, by decide +kernel, rfl, by decide +kernel, by decide +kernel⟩
section
variable {P : Program} {w : World} {K : PySem.W.Frag} {mg : Str → Option Value} {base : Heap} {f fM fN : Addr} {fd dM dN : FuncData}
theorem bRn (F : FnP K "_law_renamed" (top 45) f fd) : Binds K fd ["_law_source_here", "_law_desk_here"] [] := F.bindsN fun _ _ _ _ _ _ us hl => match us, hl with
  | [_, _], _ => rfl
theorem bMx (F : FnP K "_law_mixed" (top 34) fM dM) : Binds K dM ["_law_source_here", "_law_things"] [] := F.bindsN fun _ _ _ _ _ _ us hl => match us, hl with
  | [_, _], _ => rfl
theorem ok_rn (F : FnP K "_law_renamed" (top 45) f fd) (mt : mg "list" = none) (md : mg "dict" = none) (ml : mg "len" = none) (mz : mg "zip" = none)
    (GM : FnOk P w K mg base CX0 2 fM dM ["_law_source_here", "_law_things"] (spMixed K)) (FM : FnP K "_law_mixed" (top 34) fM dM) (gM : mg "_law_mixed" = some (.ref fM))
    (GN : FnOk P w K mg base CX0 4 fN dN ["_law_source_here", "_law_many_here"] spNames) (FN : FnP K "_law_names" (top 36) fN dN) (gN : mg "_law_names" = some (.ref fN)) : FnOk P w K mg base CX0 5 f fd ["_law_source_here", "_law_desk_here"] spRn := by
  refine F.ok (CX := CX0) scRn (fun vs H Q E h => ?_) (fun cdv A outer s H vs Q E hr h => ?_)
  · obtain ⟨p, u, nm, dd, sg, ws, ds, as, tb, ls, rfl, _⟩ := h
    rfl
  · have hr2 := hr.mono (show 2 ≤ 4 by decide)
    refine ⟨_, PSs.nox (pss_cons (ps_set (i := 2) scRn.nd rfl (.inl rfl) (by exact (pe_op op_cat (by exact (pe_lst (pa_cons (by exact (pe_ix ix_list (by exact (pe_ix ix_tup (pv 1) pe_int (fun _ _ => rfl))) pe_int (fun _ _ => rfl))) pa_nil))) (by exact (pe_call GM hr2 rfl gM FM.kp (bMx FM) .nil pass0 (pa_cons (pv 0) (pa_cons (by exact (pe_slice sl_list (by exact (pe_ix ix_tup (pv 1) pe_int (fun _ _ => rfl))) (po_some pe_int) po_none)) pa_nil)))))))
      (pss_cons (ps_set (i := 3) scRn.nd rfl (.inr rfl) (by exact (pe_callTy (call_dictP rfl) rfl md PyProof.Rows.boot_dict (pa_cons (by exact (Zl.pe_listZip rfl rfl mt PyProof.Rows.boot_list rfl mz (pa_cons (pv 2) (pa_cons (by exact (pe_call GN hr rfl gN FN.kp (bN FN) .nil pass0 (pa_cons (pv 0) (pa_cons (by exact (pe_callB call_len rfl ml boot_len (pa_cons (pv 2) pa_nil))) pa_nil)))) pa_nil)))) pa_nil))))
      (pss_cons (ps_set (i := 4) scRn.nd rfl (.inl rfl) pe_dnewK)
      (pss_cons (ps_for PassesOwn.never rfl (pi_list (by exact (pe_call GM hr2 rfl gM FM.kp (bMx FM) .nil pass0 (pa_cons (pv 0) (pa_cons (by exact (pe_callTy (call_listD rfl) rfl mt PyProof.Rows.boot_list (pa_cons (by exact (pe_ix ix_tup (pv 1) pe_int (fun _ _ => rfl))) pa_nil))) pa_nil))))) (pg_name (i := 5) scRn.nd rfl (.inr rfl))
        (pss_one (ps_dput (hu_of hr) (pv 4) (pv 5) (by exact (pe_callTy (call_dictP rfl) rfl md PyProof.Rows.boot_dict (pa_cons (by exact (pe_lc (own := [("_law_one", 6)]) (g := gName 6) (tt := tYes) (te := tTup (tCons (tDGet (tVar 3) (tVar 6)) (tCons (tDGet (tVar 3) (tDGet (tDGet (tOp (rIxT K) (tVar 1) (tC (.int 1))) (tVar 5)) (tVar 6))) tNil))) rfl scRn.nd (pi_list (pv 2))
          (blkOk_by (N := nRn) (sc := defScope (top 45)) (by decide +kernel)) (fun _ _ _ _ _ => pg_name (i := 6) scRn.nd rfl (Or.inl rfl)) (fun _ _ _ _ _ => pts_nil)
          (fun _ _ _ _ _ => by exact (pe_tup (pa_cons (by exact (pe_dget (hu_of hr) (by exact (pv 3)) (by exact (pv 6)) (fun _ _ => rfl))) (pa_cons (by exact (pe_dget (hu_of hr) (by exact (pv 3)) (by exact (pe_dget (hu_of hr) (by exact (pe_dget (hu_of hr) (by exact (pe_ix ix_tup (by exact (pv 1)) pe_int (fun _ _ => rfl))) (by exact (pv 5)) (fun _ _ => rfl))) (by exact (pv 6)) (fun _ _ => rfl))) (fun _ _ => rfl))) pa_nil)))))) pa_nil))) (by rfl))))
      (pss_one (ps_ret (pe_tup (pa_cons (by exact (pe_lc (own := [("_law_one", 6)]) (g := gName 6) (tt := tYes) (te := tDGet (tVar 3) (tVar 6)) rfl scRn.nd (pi_list (pv 2))
          (blkOk_by (N := nRn) (sc := defScope (top 45)) (by decide +kernel)) (fun _ _ _ _ _ => pg_name (i := 6) scRn.nd rfl (Or.inl rfl)) (fun _ _ _ _ _ => pts_nil)
          (fun _ _ _ _ _ => by exact (pe_dget (hu_of hr) (by exact (pv 3)) (by exact (pv 6)) (fun _ _ => rfl)))))
        (pa_cons (pv 4) (pa_cons (by exact (pe_callTy (call_dictP rfl) rfl md PyProof.Rows.boot_dict (pa_cons (by exact (pe_lc (own := [("_law_one", 6)]) (g := gName 6) (tt := tYes) (te := tTup (tCons (tDGet (tVar 3) (tVar 6)) (tCons (tDGet (tOp (rIxT K) (tVar 1) (tC (.int 2))) (tVar 6)) tNil))) rfl scRn.nd (pi_list (pv 2))
          (blkOk_by (N := nRn) (sc := defScope (top 45)) (by decide +kernel)) (fun _ _ _ _ _ => pg_name (i := 6) scRn.nd rfl (Or.inl rfl)) (fun _ _ _ _ _ => pts_nil)
          (fun _ _ _ _ _ => by exact (pe_tup (pa_cons (by exact (pe_dget (hu_of hr) (by exact (pv 3)) (by exact (pv 6)) (fun _ _ => rfl))) (pa_cons (by exact (pe_dget (hu_of hr) (by exact (pe_ix ix_tup (by exact (pv 1)) pe_int (fun _ _ => rfl))) (by exact (pv 6)) (fun _ _ => rfl))) pa_nil)))))) pa_nil))) pa_nil)))))))))), ?_⟩
    obtain ⟨p, u, nm, dd, sg, ws, ds, as, tb, ls, rfl, hs, hk, is, q⟩ := h
    obtain ⟨hu, hnm, hdd, hsg, pr⟩ := id hk
    have al : as.length = ds.length := by rw [paired_len pr, is.rows]
    have w1 := is.some
    have w9 := is.most
    have d4 := is.dmost
    have sz : ∀ n : Nat, n ≤ 1000 → n ≤ sizeLine := fun n z => by
      rw [sizeLine_eq]
      omega
    have nmp := src_ne_strs hs hnm w1
    have up := src_ne hs hu fun _ _ z => nomatch z
    have sgp := src_ne hs hsg fun _ _ z => nomatch z
    have ddp := src_ne hs hdd fun _ _ z => nomatch z
    have asp : ∀ {a : Addr} {vs : List Str}, H a = some (.dK (dkv ws (vs.map V.str))) → a ≠ p := fun e => src_ne hs e fun _ _ z => nomatch z
    obtain ⟨w0, wr, ew⟩ : ∃ w0 wr, ws = w0 :: wr := by
      cases ws with
      | nil => exact absurd w1 (by decide)
      | cons w0 wr => exact ⟨w0, wr, rfl⟩
    refine ⟨_, rfl, u, _, 0, .ref nm, rfl, rfl, .inl (.inl hu), atI_nat (j := 0) rfl, nm, ws.map V.str, 0, .str w0, rfl, rfl, .inl (.inl hnm), atI_nat (j := 0) (by rw [ew]; rfl), sz _ (by show 1 ≤ 1000; decide), fun a1 n1 => ?_⟩
    have y1 := Sm.new (o := .lst [.str w0]) n1
    have ea1 : upd H a1 (.lst [.str w0]) a1 = some (.lst [.str w0]) := upd_same
    have s1 := hs.sm y1
    have a1p := hs.ne n1
    generalize upd H a1 (.lst [.str w0]) = H1 at y1 ea1 s1 ⊢
    have cutw : cutV (ws.map V.str) (some 1) none = wr.map V.str := by
      rw [ew]
      unfold cutV
      rw [show (1 : Int) = ((1 : Nat) : Int) from rfl, HT.sIx_nat, HT.sIx_none]
      have e : min 1 ((w0 :: wr).map V.str).length = 1 := by
        rw [List.length_map, List.length_cons]
        omega
      rw [e]
      show (wr.map V.str).take _ = _
      exact List.take_of_length_le (by rw [List.length_map, List.length_map, List.length_cons]; omega)
    have wrl : wr.length ≤ 8 := by
      rw [ew, List.length_cons] at w9
      omega
    refine ⟨_, rfl, _, rfl, u, _, 0, .ref nm, rfl, rfl, .inl (.inl (y1 _ _ hu)), atI_nat (j := 0) rfl, 1, rfl, nm, _, rfl, .inl (.inl (y1 _ _ hnm)), fun c1 nc1 => ?_⟩
    rw [cutw]
    have y2 := Sm.new (o := .lst (wr.map V.str)) nc1
    have r2 := s1.sm y2
    refine ⟨p, c1, wr.map V.str, rfl, r2, .inl (.inl upd_same), by rw [List.length_map]; omega, (fun x hx => by obtain ⟨z, hz, rfl⟩ := List.mem_map.mp hx; exact ⟨_, .str _ (is.word z (by rw [ew]; exact List.mem_cons_of_mem _ hz)).ok⟩), fun m1 ys H2 x2 s2 nm1 em1 pm => ?_⟩
    obtain ⟨wq, rfl⟩ := strs_of (ys := ys) fun y hy => by
      obtain ⟨z, _, rfl⟩ := List.mem_map.mp (pm.mem_iff.mp hy)
      exact ⟨z, rfl⟩
    have pw : (w0 :: wq).Perm ws := by
      rw [ew]
      exact (map_perm pm).cons w0
    have ea2 := x2 _ _ a1p (y2 _ _ ea1)
    have x3 : Sx p H H2 := (Sx.of (y1.trans y2)).trans x2
    have spl : (w0 :: wq).length = ws.length := pw.length_eq
    have wql : wq.length ≤ 8 := by
      rw [List.length_cons] at spl
      omega
    refine ⟨a1, m1, [.str w0], wq.map V.str, rfl, rfl, ea2, em1, sz _ (by rw [List.length_map]; show 1 + wq.length ≤ 1000; omega), fun sp nsp => ?_⟩
    have esp : upd H2 sp (.lst ([.str w0] ++ wq.map V.str)) sp = some (.lst ((w0 :: wq).map V.str)) := upd_same
    have x4 : Sx p H (upd H2 sp (.lst ([.str w0] ++ wq.map V.str))) := x3.trans (Sx.of (Sm.new nsp))
    have s4 := s2.new (o := .lst ([.str w0] ++ wq.map V.str)) nsp
    have spp := s2.ne nsp
    generalize upd H2 sp (.lst ([.str w0] ++ wq.map V.str)) = H4 at esp x4 s4 ⊢
    clear x3 x2 s2 y2 r2 ea2 em1 nm1 pm nsp nc1 n1
    have spn : (w0 :: wq).Nodup := pw.nodup_iff.mpr is.nd
    have spw : ∀ z ∈ w0 :: wq, z ∈ ws := fun z h => pw.mem_iff.mp h
    have wsp : ∀ z ∈ ws, z ∈ w0 :: wq := fun z h => pw.mem_iff.mpr h
    generalize w0 :: wq = so at esp spn spw wsp spl pw
    refine ⟨_, rfl, _, rfl, _, rfl, .ref sp, so.length, rfl, .inl ⟨_, .inl (.inl esp), by rw [List.length_map]⟩, p, so.length, rfl, s4, by omega, by omega, fun nq nn H5 x5 s5 nnq enq nl nnd nw => ?_⟩
    have esp5 := x5 _ _ spp esp
    refine ⟨sp, nq, so.map V.str, nn.map V.str, rfl, .inl (.inl esp5), .inl (.inl enq), by rw [List.length_map, List.length_map, nl], fun H6 zl ts k1 k2 k3 k4 k5 k6 => ?_⟩
    have tl : ts.length = so.length := by
      rw [paired_len k6, List.length_zip, List.length_map, List.length_map, nl]
      omega
    refine ⟨zl, ts, dkv so (nn.map V.str), rfl, .inl (.inl k5), paired_of (by rw [tl, dkv_len (by rw [List.length_map, nl])]) fun j t kv et ekv => ?_, fun sm nsm => ?_⟩
    · obtain ⟨qq, eq, ht⟩ := LiI.paired_get k6 et
      obtain ⟨b1, b2⟩ := List.getElem?_zip_eq_some.mp ekv
      obtain ⟨c1, c2⟩ := List.getElem?_zip_eq_some.mp eq
      rw [List.getElem?_map] at b1 c1
      cases ez : so[j]? with
      | none =>
        rw [ez] at b1
        cases b1
      | some z =>
        rw [ez] at b1 c1
        have b3 : Sum.inr z = kv.1 := Option.some.inj b1
        have c3 : V.str z = qq.1 := Option.some.inj c1
        have c4 : qq.2 = kv.2 := Option.some.inj (c2.symm.trans b2)
        rw [← c3, c4] at ht
        rw [← b3]
        exact .inl (.inl ht)
    rw [dkv_merge (by rw [List.length_map, nl]) spn]
    have esp6 := k1 _ _ esp5
    have esm : upd H6 sm (.dK (dkv so (nn.map V.str))) sm = some (.dK (dkv so (nn.map V.str))) := upd_same
    have y6 : Sm H6 (upd H6 sm (.dK (dkv so (nn.map V.str)))) := Sm.new nsm
    have esp7 := y6 _ _ esp6
    have k1 : Sm H5 H6 := k1
    have x7 : Sx p H (upd H6 sm (.dK (dkv so (nn.map V.str)))) := x4.trans (x5.trans (Sx.of (k1.trans y6)))
    have s7 := s5.sm (k1.trans y6)
    have smp := (s5.sm k1).ne nsm
    generalize upd H6 sm (.dK (dkv so (nn.map V.str))) = H7 at esm esp7 x7 s7 ⊢
    clear k1 k2 k3 k4 k5 k6 y6 esp6 esp5 x5 s5 nnq enq x4 s4 esp nsm
    intro dn ndn
    have dnp := s7.ne ndn
    have dnH : H dn = none := none_sx hs x7 s7 ndn
    have edn : upd H7 dn (.dK []) dn = some (.dK []) := upd_same
    have y7 := Sm.new (o := .dK []) ndn
    have esp8 := y7 _ _ esp7
    have esm8 := y7 _ _ esm
    have x8 : Sx p H (upd H7 dn (.dK [])) := x7.trans (Sx.of y7)
    have s8 := s7.sm y7
    have spd : sp ≠ dn := ne_of_none esp7 ndn
    have smd : sm ≠ dn := ne_of_none esm ndn
    generalize upd H7 dn (.dK []) = H8 at edn esp8 esm8 x8 s8 ⊢
    clear y7 ndn x7 s7 esp7 esm
    refine ⟨_, rfl, _, rfl, u, _, 1, .ref dd, rfl, rfl, .inl (.inl (x8 _ _ up hu)), atI_nat (j := 1) rfl, dd, _, rfl, .inl (x8 _ _ ddp hdd), fun kl nkl => ?_⟩
    have eks : (dkv ds (as.map V.ref)).map (fun kv => kV kv.1) = ds.map V.str := by
      have e := dkv_keys (ws := ds) (vs := as.map V.ref) (by rw [List.length_map, al])
      have e2 := congrArg (List.map (fun k : Key => kV k)) e
      rw [List.map_map, List.map_map] at e2
      exact e2
    rw [eks]
    have y8 := Sm.new (o := .lst (ds.map V.str)) nkl
    have r8 := s8.sm y8
    refine ⟨p, kl, ds.map V.str, rfl, r8, .inl (.inl upd_same), by rw [List.length_map]; omega, (fun x hx => by obtain ⟨z, hz, rfl⟩ := List.mem_map.mp hx; exact ⟨_, .str _ (is.dword z hz).ok⟩), fun mq ys L x9 s9 nmq emq pm => ?_⟩
    obtain ⟨dz, rfl⟩ := strs_of (ys := ys) fun y hy => by
      obtain ⟨z, _, rfl⟩ := List.mem_map.mp (pm.mem_iff.mp hy)
      exact ⟨z, rfl⟩
    have pd : dz.Perm ds := map_perm pm
    have dzl : dz.length = ds.length := pd.length_eq
    have dzn : dz.Nodup := pd.nodup_iff.mpr is.dnd
    have dzd : ∀ z ∈ dz, z ∈ ds := fun z h => pd.mem_iff.mp h
    have mqp : mq ≠ p := r8.ne nmq
    have mqd : mq ≠ dn := fun z => by
      rw [z, y8 _ _ edn] at nmq
      cases nmq
    have xL : Sx p H L := x8.trans ((Sx.of y8).trans x9)
    have espL := x9 _ _ spp (y8 _ _ esp8)
    have esmL := x9 _ _ smp (y8 _ _ esm8)
    have ednL := x9 _ _ dnp (y8 _ _ edn)
    clear x9 y8 r8 nmq nkl x8 s8 edn esp8 esm8 pm eks
    have hn : ∀ {b : Addr} {o : HO}, H b = some o → b ≠ dn := fun e z => by
      rw [z, dnH] at e
      cases e
    refine ⟨mq, rfl, ⟨_, .inl (.inl emq)⟩, ?_⟩
    refine for_list (K := K) (a := mq) (xs := dz.map V.str) (fun i σ G => ∃ (es : List Addr) (t2 : List (List Str)) (v5 : Option V), σ = [some (.ref p), some (.ref u), some (.ref sp), some (.ref sm), some (.ref dn), v5, none] ∧ es.length = i ∧ G dn = some (.dK (dkv (dz.take i) (es.map V.ref))) ∧
      Paired (fun e vs => e ≠ dn ∧ e ≠ p ∧ G e = some (.dK (dkv nn (vs.map V.str)))) es t2 ∧ (∀ vs ∈ t2, vs.length = nn.length ∧ ∀ z ∈ vs, z ∈ nn) ∧ S2 p dn L G ∧ Src G p) ?_ ?_ ?_ ?_
    · exact ⟨[], [], none, rfl, rfl, ednL, .nil, (fun vs h => nomatch h), (fun b o _ _ e => e), s9⟩
    · rintro i σ G _ ⟨es, t2, v5, rfl, el, ed, pe, tok, mm, src⟩
      exact .inl (.inl (mm _ _ mqp mqd emq))
    · rintro i y σ G hi ⟨es, t2, v5, rfl, el, ed, pe, tok, mm, src⟩
      have il : i < dz.length := by
        have := (List.getElem?_eq_some_iff.mp hi).1
        rwa [List.length_map] at this
      obtain ⟨d, e1, rfl⟩ : ∃ d, dz[i]? = some d ∧ y = .str d := by
        rw [List.getElem?_map, List.getElem?_eq_getElem il] at hi
        exact ⟨_, List.getElem?_eq_getElem il, (Option.some.inj hi).symm⟩
      have hd := dzd d (List.mem_of_getElem? e1)
      have prL : Paired (fun a vs => G a = some (.dK (dkv ws (vs.map V.str)))) as tb := pair_mono pr fun a _ vs e => mm _ _ (asp e) (hn e) (xL _ _ (asp e) e)
      obtain ⟨a, vs, ea, has, hvs, ha⟩ := tab_at prL al hd
      have vsok := is.row vs hvs
      have uG := mm _ _ up (hn hu) (xL _ _ up hu)
      have ddG := mm _ _ ddp (hn hdd) (xL _ _ ddp hdd)
      have spG := mm _ _ spp spd espL
      have smG := mm _ _ smp smd esmL
      have vin : ∀ z ∈ so, look ws vs z ∈ ws := fun z hz => by
        have h := idx_lt (spw z hz)
        unfold look
        rw [List.getD_eq_getElem?_getD, List.getElem?_eq_getElem (show ws.idxOf z < vs.length by omega)]
        exact vsok.2 _ (List.getElem_mem _)
      refine ⟨_, rfl, sp, rfl, ⟨_, .inl (.inl spG)⟩, ?_⟩
      refine lc_pairsL (K := K) (a := sp) (xs := so.map V.str) (fk := fun j => .str (nn.getD j ⟨#[]⟩)) (fv := fun j => (((so.map fun z => look so nn (look ws vs z)).map V.str).getD j .non)) (i := 6) (by rw [List.length_map]; omega) spG (fun v => rfl) (fun j x G2 Q2 ex m2 q2 => ?_) (fun D ps G3 m3 nD eD pl pt => ?_)
      · obtain ⟨z, ez, rfl⟩ : ∃ z, so[j]? = some z ∧ x = .str z := by
          rw [List.getElem?_map] at ex
          cases e : so[j]? with
          | none =>
            rw [e] at ex
            cases ex
          | some z =>
            rw [e] at ex
            exact ⟨z, rfl, (Option.some.inj ex).symm⟩
        have hz := List.mem_of_getElem? ez
        have q3 : Q2 [.str (look so nn z), .str (look so nn (look ws vs z))] G2 := by
          have b1 : look so nn z = nn.getD j ⟨#[]⟩ := look_ix spn ez
          have b2 : ((so.map fun z => look so nn (look ws vs z)).map V.str).getD j .non = .str (look so nn (look ws vs z)) := by
            rw [List.getD_eq_getElem?_getD, List.getElem?_map, List.getElem?_map, ez]
            rfl
          rw [b2] at q2
          rw [b1]
          exact q2
        exact ⟨_, rfl, _, rfl, sm, _, rfl, .inl ⟨_, .inr z, .inl (m2 _ _ smG), rfl, (look_at nl hz).symm⟩, _, rfl, _, rfl, u, _, 1, .ref dd, rfl, rfl, .inl (.inl (m2 _ _ uG)), atI_nat (j := 1) rfl, _, rfl, dd, .ref a, rfl, .inl ⟨_, .inr d, .inl (m2 _ _ ddG), rfl, ea.symm⟩, _, rfl, a, _, rfl, .inl ⟨_, .inr z, .inl (m2 _ _ ha), rfl, (look_at vsok.1 (spw z hz)).symm⟩, sm, _, rfl, .inl ⟨_, .inr (look ws vs z), .inl (m2 _ _ smG), rfl, (look_at nl (wsp _ (vin z hz))).symm⟩, q3⟩
      · rw [List.length_map] at pl
        refine ⟨D, ps, dkv nn ((so.map fun z => look so nn (look ws vs z)).map V.str), rfl, .inl (.inl eD), pair_dkv (by rw [pl, nl]) (by rw [List.length_map, List.length_map, nl]) (fun k t h => pt k t h), fun v1 nv => ?_⟩
        rw [dkv_merge (by rw [List.length_map, List.length_map, nl]) nnd]
        have v1p := (src.sm m3).ne nv
        have edG := m3 _ _ ed
        have v1d : v1 ≠ dn := Ne.symm (ne_of_none edG nv)
        have g3 := m3.trans (Sm.new (o := .dK (dkv nn ((so.map fun z => look so nn (look ws vs z)).map V.str))) nv)
        have s3 := src.sm g3
        have ev1 : upd G3 v1 (.dK (dkv nn ((so.map fun z => look so nn (look ws vs z)).map V.str))) v1 = some (.dK (dkv nn ((so.map fun z => look so nn (look ws vs z)).map V.str))) := upd_same
        have ed3 := g3 _ _ ed
        generalize upd G3 v1 (.dK (dkv nn ((so.map fun z => look so nn (look ws vs z)).map V.str))) = G7 at g3 s3 ev1 ed3 ⊢
        have l2 : es.length = (dz.take i).length := by
          rw [List.length_take]
          omega
        have tk : dz.take (i + 1) = dz.take i ++ [d] := by
          rw [List.take_add_one, e1]
          rfl
        refine ⟨_, rfl, _, rfl, dn, _, rfl, DPut.k (k := .inr d) ed3 (by rw [dkv_len (by rw [List.length_map]; omega), List.length_take, sizeLine_eq]; omega), ?_⟩
        rw [put_dkv l2 (by rw [← tk]; exact dzn.sublist (List.take_sublist _ _)), ← tk]
        refine ⟨es ++ [v1], t2 ++ [so.map fun z => look so nn (look ws vs z)], _, rfl, by rw [List.length_append, el]; rfl, upd_same, ?_, fun us hus => ?_, fun b o n1 n2 e => ?_, src_upd s3 dnp⟩
        · refine pair_more (pair_mono pe fun e _ vs ⟨h1, h2, h3⟩ => ⟨h1, h2, ?_⟩) ⟨v1d, v1p, ?_⟩
          · rw [upd_ne h1]
            exact g3 _ _ h3
          · rw [upd_ne v1d]
            exact ev1
        · rcases List.mem_append.mp hus with h | h
          · exact tok us h
          · rw [List.mem_singleton.mp h]
            refine ⟨by rw [List.length_map, nl], fun z hz => ?_⟩
            obtain ⟨x, hx, rfl⟩ := List.mem_map.mp hz
            exact look_in nl (wsp _ (vin x hx))
        · rw [upd_ne n2]
          exact g3 _ _ (mm b o n1 n2 e)
    · rintro σ G ⟨es, t2, v5, rfl, el, ed, pe, tok, mm, src⟩
      rw [List.length_map] at el
      rw [show dz.take (dz.map V.str).length = dz by rw [List.length_map, List.take_length]] at ed
      have xG : Sx p H G := fun b o n e => mm b o n (hn e) (xL b o n e)
      have spG := mm _ _ spp spd espL
      have smG := mm _ _ smp smd esmL
      have uG := xG _ _ up hu
      have sgG := xG _ _ sgp hsg
      clear mm
      refine ⟨_, rfl, sp, rfl, ⟨_, .inl (.inl spG)⟩, ?_⟩
      refine lc_map (walk_list (K := K) (a := sp) (xs := so.map V.str)) (fv := fun j => .str (nn.getD j ⟨#[]⟩)) (i := 6) (by rw [List.length_map]; omega) (fun H2 m2 => .inl (.inl (m2 _ _ spG))) (fun v => rfl) (fun j H2 x H3 _ yy => by rw [yy.1]; exact fun b o e => e) (fun j x G2 G3 Q2 hj m2 yy m3 q2 => ?_) (fun D G2 m2 nD eD => ?_)
      · obtain ⟨z, ez, rfl⟩ : ∃ z, so[j]? = some z ∧ x = .str z := by
          have ex := yy.2
          rw [List.getElem?_map] at ex
          cases e : so[j]? with
          | none =>
            rw [e] at ex
            cases ex
          | some z =>
            rw [e] at ex
            exact ⟨z, rfl, (Option.some.inj ex).symm⟩
        have hz := List.mem_of_getElem? ez
        have q3 : Q2 (.str (look so nn z)) G3 := by
          rw [look_ix spn ez]
          exact q2 G3 (fun b o e => e)
        exact ⟨_, rfl, _, rfl, sm, _, rfl, .inl ⟨_, .inr z, .inl (m3 _ _ smG), rfl, (look_at nl hz).symm⟩, q3⟩
      rw [List.length_map, ← nl, range_map] at eD
      have Dp := src.ne nD
      have x2 := xG.trans (Sx.of m2)
      have r2 := src.sm m2
      have sp2 := m2 _ _ spG
      have sm2 := m2 _ _ smG
      have u2 := m2 _ _ uG
      have sg2 := m2 _ _ sgG
      have ed2 := m2 _ _ ed
      have pe2 : Paired (fun e vs => G2 e = some (.dK (dkv nn (vs.map V.str)))) es t2 := pair_mono pe fun e _ vs h => m2 _ _ h.2.2
      clear m2 nD spG smG uG sgG ed pe src xG
      refine ⟨_, rfl, _, rfl, sp, rfl, ⟨_, .inl (.inl sp2)⟩, ?_⟩
      refine lc_pairsL (K := K) (a := sp) (xs := so.map V.str) (fk := fun j => .str (nn.getD j ⟨#[]⟩)) (fv := fun j => (((so.map fun z => look ws ls z).map V.str).getD j .non)) (i := 6) (by rw [List.length_map]; omega) sp2 (fun v => rfl) (fun j x G3 Q2 ex m2 q2 => ?_) (fun D2 ps G3 m3 nD2 eD2 pl pt => ?_)
      · obtain ⟨z, ez, rfl⟩ : ∃ z, so[j]? = some z ∧ x = .str z := by
          rw [List.getElem?_map] at ex
          cases e : so[j]? with
          | none =>
            rw [e] at ex
            cases ex
          | some z =>
            rw [e] at ex
            exact ⟨z, rfl, (Option.some.inj ex).symm⟩
        have hz := List.mem_of_getElem? ez
        have q3 : Q2 [.str (look so nn z), .str (look ws ls z)] G3 := by
          have b2 : ((so.map fun z => look ws ls z).map V.str).getD j .non = .str (look ws ls z) := by
            rw [List.getD_eq_getElem?_getD, List.getElem?_map, List.getElem?_map, ez]
            rfl
          rw [b2] at q2
          rw [look_ix spn ez]
          exact q2
        exact ⟨_, rfl, _, rfl, sm, _, rfl, .inl ⟨_, .inr z, .inl (m2 _ _ sm2), rfl, (look_at nl hz).symm⟩, _, rfl, u, _, 2, .ref sg, rfl, rfl, .inl (.inl (m2 _ _ u2)), atI_nat (j := 2) rfl, _, rfl, sg, _, rfl, .inl ⟨_, .inr z, .inl (m2 _ _ sg2), rfl, (look_at is.looks (spw z hz)).symm⟩, q3⟩
      rw [List.length_map] at pl
      refine ⟨D2, ps, dkv nn ((so.map fun z => look ws ls z).map V.str), rfl, .inl (.inl eD2), pair_dkv (by rw [pl, nl]) (by rw [List.length_map, List.length_map, nl]) (fun k t h => pt k t h), fun v1 nv => ?_⟩
      rw [dkv_merge (by rw [List.length_map, List.length_map, nl]) nnd]
      have g3 := m3.trans (Sm.new (o := .dK (dkv nn ((so.map fun z => look ws ls z).map V.str))) nv)
      have ev1 : upd G3 v1 (.dK (dkv nn ((so.map fun z => look ws ls z).map V.str))) v1 = some (.dK (dkv nn ((so.map fun z => look ws ls z).map V.str))) := upd_same
      generalize upd G3 v1 (.dK (dkv nn ((so.map fun z => look ws ls z).map V.str))) = G7 at g3 ev1 ⊢
      refine ⟨sz _ (by show 3 ≤ 1000; decide), fun u3 nu3 => ?_⟩
      have g := Sm.new (o := .tup [.ref D, .ref dn, .ref v1]) nu3
      have gg := g3.trans g
      refine q u3 D dn v1 nn dz es t2 (so.map fun z => look ws ls z) _ (x2.trans (Sx.of gg)) (r2.sm gg) ⟨upd_same, gg _ _ eD, gg _ _ ed2, g _ _ ev1, pair_mono pe2 fun e _ vs h => gg _ _ h⟩ ⟨by omega, by omega, nnd, nw, by rw [dzl]; exact is.dsome, by omega, dzn, fun z h => is.dword z (dzd z h), by rw [← paired_len pe2, el], tok, by rw [List.length_map, nl], fun z hz => ?_⟩ pd
      obtain ⟨x, hx, rfl⟩ := List.mem_map.mp hz
      exact is.look _ (look_in is.looks (spw x hx))
end
end Dk
set_option Elab.async false
set_option linter.all false
set_option maxRecDepth 100000
set_option maxHeartbeats 8000000
namespace Dk
open PySem PySem.Spec PyProof.Rows L2 Er LamX NdefX
/-! ### all that the law's body asks of the program's and its own functions -/
def Has (K : PySem.W.Frag) (mg : Str → Option Value) (x : Str) (st : Stmt) : Prop := ∃ f d, FnP K x st f d ∧ mg x = some (.ref f)
structure Lk (K : PySem.W.Frag) (mg : Str → Option Value) (base : Heap) (C CB Pt : Addr) : Prop where
  h9 : Has K mg "is_name" (top 9)
  h10 : Has K mg "is_one_of" (top 10)
  h11 : Has K mg "are_different" (top 11)
  h12 : Has K mg "is_table" (top 12)
  h13 : Has K mg "spread" (top 13)
  h14 : Has K mg "shortest_row" (top 14)
  h18 : Has K mg "are_standings" (top 18)
  h19 : Has K mg "are_deeds" (top 19)
  h20 : Has K mg "is_lead" (top 20)
  h21 : Has K mg "are_sights" (top 21)
  h22 : Has K mg "desk_leads" (top 22)
  h23 : Has K mg "desk_moves" (top 23)
  h24 : Has K mg "desk_sights" (top 24)
  h26 : Has K mg "have_same_deeds" (top 26)
  h27 : Has K mg "parted_by" (top 27)
  h28 : Has K mg "desks_alike" (top 28)
  h29 : Has K mg "desks_parted" (top 29)
  h31 : Has K mg "_law_source" (top 31)
  h32 : Has K mg "_law_draw" (top 32)
  h33 : Has K mg "_law_pick" (top 33)
  h34 : Has K mg "_law_mixed" (top 34)
  h35 : Has K mg "_law_word" (top 35)
  h36 : Has K mg "_law_names" (top 36)
  h37 : Has K mg "_law_twins" (top 37)
  h38 : Has K mg "_law_leads" (top 38)
  h39 : Has K mg "_law_sights" (top 39)
  h40 : Has K mg "_law_desk" (top 40)
  h41 : Has K mg "_law_turned" (top 41)
  h42 : Has K mg "_law_made" (top 42)
  h43 : Has K mg "_law_lead" (top 43)
  h44 : Has K mg "_law_stranger" (top 44)
  h45 : Has K mg "_law_renamed" (top 45)
  h46 : Has K mg "_law_grown" (top 46)
  h47 : Has K mg "_law_bent" (top 47)
  h48 : Has K mg "_law_other" (top 48)
  h49 : Has K mg "_law_many" (top 49)
  h50 : Has K mg "_law_right" (top 50)
  h51 : Has K mg "_law_refused" (top 51)
  mi : mg "isinstance" = none
  mn : mg "int" = none
  ms : mg "str" = none
  mL : mg "list" = none
  mT : mg "tuple" = none
  md : mg "dict" = none
  mS : mg "set" = none
  mso : mg "sorted" = none
  ml : mg "len" = none
  ma : mg "all" = none
  mR : mg "range" = none
  mx : mg "max" = none
  mm : mg "min" = none
  me : mg "enumerate" = none
  mz : mg "zip" = none
  T : DkC K mg C
  N : ∀ t ∈ eqTypes, PySem.W.notFirst K C (.type t) = true
  hne : PySem.W.findIn K (.ref C) "__ne__" = some (some (.builtin "object.__ne__"))
  eq : ∃ f d, FunD K "__eq__" "Desk.__eq__" (defArgs (meth 7)) (defBody (meth 7)) (defScope (meth 7)) [] [] f d ∧ PySem.W.findIn K (.ref C) "__eq__" = some (some (.ref f)) ∧ PySem.W.isFn K (.ref f) = true
  ini_ : ∃ f d, FunD K "__init__" "Desk.__init__" (defArgs (meth 0)) (defBody (meth 0)) (defScope (meth 0)) [] [] f d ∧ Mk K C f
  sight_ : ∃ f d, FunD K "sight" "Desk.sight" (defArgs (meth 5)) (defBody (meth 5)) (defScope (meth 5)) [] [] f d ∧ Meth K C "sight" f
  part_ : ∃ (f c : Addr) (dV kV doc pm ct oc : Value) (an od : Option Addr) (osl : Array (Option Value)), K.lookup f = some ⟨oc, od, .func (PySem.W.fnOf "parting" "parting" (defArgs (top 15)) (defBody (top 15)) (defScope (top 15)) dV kV doc pm an (.ref c) ct), osl⟩ ∧ PySem.W.codeIn K (.ref c) "parting" = true ∧ TabB base mg c Pt ∧
    FnP K "parting" (top 15) f (PySem.W.fnOf "parting" "parting" (defArgs (top 15)) (defBody (top 15)) (defScope (top 15)) dV kV doc pm an (.ref c) ct) ∧ mg "parting" = some (.ref f)
  std : ∃ p g d, FunD K "standings" "Desk.standings" (defArgs (meth 1)) (defBody (meth 1)) (defScope (meth 1)) [] [] g d ∧ PropOf K C "standings" p g
  dds : ∃ p g d, FunD K "deeds" "Desk.deeds" (defArgs (meth 2)) (defBody (meth 2)) (defScope (meth 2)) [] [] g d ∧ PropOf K C "deeds" p g
  sta : ∃ p g d, FunD K "start" "Desk.start" (defArgs (meth 3)) (defBody (meth 3)) (defScope (meth 3)) [] [] g d ∧ PropOf K C "start" p g
  B : ∃ f d, Bad K mg "BadDeeds" "value" (ini (top 4)) CB f d
  te : PySem.W.exmOne K (.ref CB) (.ref CB) = some true
/-- a function that is there and does what is said -/
def Use (P : Program) (w : World) (K : PySem.W.Frag) (mg : Str → Option Value) (base : Heap) (X : CXT) (n : Nat) (x : Str) (st : Stmt) (ps : List Str) (sp : Sp) : Prop := ∃ f d, FnP K x st f d ∧ mg x = some (.ref f) ∧ FnOk P w K mg base X n f d ps sp
structure Gs (P : Program) (w : World) (K : PySem.W.Frag) (mg : Str → Option Value) (base : Heap) (C CB Pt : Addr) : Prop where
  src : Use P w K mg base CX0 1 "_law_source" (top 31) ["_law_script", "_law_start"] (spSrc K)
  draw : Use P w K mg base CX0 1 "_law_draw" (top 32) ["_law_source_here", "_law_span"] spD
  pick : Use P w K mg base CX0 2 "_law_pick" (top 33) nPick (spPick K)
  desk : Use P w K mg base CX0 6 "_law_desk" (top 40) ["_law_source_here", "_law_most"] spDesk
  made : Use P w K mg base CX0 6 "_law_made" (top 42) ["_law_desk_here"] (spMade K C)
  stranger : Use P w K mg base CX0 1 "_law_stranger" (top 44) ["_law_names_here"] (spStranger K)
  renamed : Use P w K mg base CX0 5 "_law_renamed" (top 45) ["_law_source_here", "_law_desk_here"] spRn
  grown : Use P w K mg base CX0 3 "_law_grown" (top 46) ["_law_source_here", "_law_desk_here"] (spGw K)
  bent : Use P w K mg base CX0 3 "_law_bent" (top 47) ["_law_source_here", "_law_desk_here"] spBe
  other : Use P w K mg base CX0 7 "_law_other" (top 48) ["_law_source_here", "_law_desk_here"] spOt
  right : Use P w K mg base CX0 2 "_law_right" (top 50) ["_law_one", "_law_two", "_law_told", "_law_row"] (spRt K)
  refused : Use P w K mg base CX0 7 "_law_refused" (top 51) ["_law_first", "_law_second"] (spRe K C Pt)
  alike : Use P w K mg base CX0 6 "desks_alike" (top 28) nDa (spDa K C Pt)
  parted : Use P w K mg base (L2.CX P w) 6 "desks_parted" (top 29) nDa (spDp K C CB Pt)
  eq : ∃ f d, FunD K "__eq__" "Desk.__eq__" (defArgs (meth 7)) (defBody (meth 7)) (defScope (meth 7)) [] [] f d ∧ PySem.W.findIn K (.ref C) "__eq__" = some (some (.ref f)) ∧ PySem.W.isFn K (.ref f) = true ∧ FnOk P w K mg base CX0 1 f d nEq (spEqK K C)
theorem gs_of {P : Program} {w : World} {K : PySem.W.Frag} {mg : Str → Option Value} {base : Heap} {C CB Pt : Addr} (L : Lk K mg base C CB Pt) : Gs P w K mg base C CB Pt := by
  obtain ⟨f9, d9, F9, g9⟩ := L.h9
  obtain ⟨f10, d10, F10, g10⟩ := L.h10
  obtain ⟨f11, d11, F11, g11⟩ := L.h11
  obtain ⟨f12, d12, F12, g12⟩ := L.h12
  obtain ⟨f13, d13, F13, g13⟩ := L.h13
  obtain ⟨f14, d14, F14, g14⟩ := L.h14
  obtain ⟨f18, d18, F18, g18⟩ := L.h18
  obtain ⟨f19, d19, F19, g19⟩ := L.h19
  obtain ⟨f20, d20, F20, g20⟩ := L.h20
  obtain ⟨f21, d21, F21, g21⟩ := L.h21
  obtain ⟨f22, d22, F22, g22⟩ := L.h22
  obtain ⟨f23, d23, F23, g23⟩ := L.h23
  obtain ⟨f24, d24, F24, g24⟩ := L.h24
  obtain ⟨f26, d26, F26, g26⟩ := L.h26
  obtain ⟨f27, d27, F27, g27⟩ := L.h27
  obtain ⟨f28, d28, F28, g28⟩ := L.h28
  obtain ⟨f29, d29, F29, g29⟩ := L.h29
  obtain ⟨f31, d31, F31, g31⟩ := L.h31
  obtain ⟨f32, d32, F32, g32⟩ := L.h32
  obtain ⟨f33, d33, F33, g33⟩ := L.h33
  obtain ⟨f34, d34, F34, g34⟩ := L.h34
  obtain ⟨f35, d35, F35, g35⟩ := L.h35
  obtain ⟨f36, d36, F36, g36⟩ := L.h36
  obtain ⟨f37, d37, F37, g37⟩ := L.h37
  obtain ⟨f38, d38, F38, g38⟩ := L.h38
  obtain ⟨f39, d39, F39, g39⟩ := L.h39
  obtain ⟨f40, d40, F40, g40⟩ := L.h40
  obtain ⟨f41, d41, F41, g41⟩ := L.h41
  obtain ⟨f42, d42, F42, g42⟩ := L.h42
  obtain ⟨f43, d43, F43, g43⟩ := L.h43
  obtain ⟨f44, d44, F44, g44⟩ := L.h44
  obtain ⟨f45, d45, F45, g45⟩ := L.h45
  obtain ⟨f46, d46, F46, g46⟩ := L.h46
  obtain ⟨f47, d47, F47, g47⟩ := L.h47
  obtain ⟨f48, d48, F48, g48⟩ := L.h48
  obtain ⟨f49, d49, F49, g49⟩ := L.h49
  obtain ⟨f50, d50, F50, g50⟩ := L.h50
  obtain ⟨f51, d51, F51, g51⟩ := L.h51
  obtain ⟨fE, dE, FE, eE, iE⟩ := L.eq
  obtain ⟨fI, dI, FI, Mk1⟩ := L.ini_
  obtain ⟨fS, dS, FS, MS⟩ := L.sight_
  obtain ⟨f15, c15, dV, kV, doc, pm, ct, oc, an, od, osl, lk15, cd15, TB, F15, g15⟩ := L.part_
  obtain ⟨pS, gS, dG, FG, PS_⟩ := L.std
  obtain ⟨pD, gD, dD, FD_, PD⟩ := L.dds
  obtain ⟨pT, gT, dT, FT_, PT_⟩ := L.sta
  obtain ⟨fB, dB, B⟩ := L.B
  have T := L.T
  have G9 : FnOk P w K mg base CX0 1 f9 d9 ["value"] (spIsName K) := ok_isname F9 L.mi L.ms L.ml L.ma
  have G10 : FnOk P w K mg base CX0 1 f10 d10 nOneOf (spOneOf K) := ok_oneof F10 L.mi L.ms
  have G11 : FnOk P w K mg base CX0 1 f11 d11 nDiff (spDiff K) := ok_diff F11 L.mS L.ml
  have G12 : FnOk P w K mg base CX0 1 f12 d12 ["value", "keys"] (spTable K) := ok_table F12 L.mi L.md L.ml L.ma
  have G18 : FnOk P w K mg base CX0 2 f18 d18 ["value"] (spStand K) := ok_stand F18 L.mi L.mL L.mT L.ml L.ma G9 F9 g9 G11 F11 g11
  have G20 : FnOk P w K mg base CX0 2 f20 d20 ["value", "standings"] (spTab K leadB) := ok_lead F20 L.ma G12 F12 g12 G10 F10 g10
  have G19 : FnOk P w K mg base CX0 3 f19 d19 ["value", "standings"] (spDeeds K) := ok_deeds F19 L.mi L.md L.ml L.ma G9 F9 g9 G20 F20 g20
  have G21 : FnOk P w K mg base CX0 2 f21 d21 ["value", "standings"] (spTab K sightB) := ok_areS F21 L.ma G12 F12 g12 G9 F9 g9
  have GI : FnOk P w K mg base CX0 4 fI dI ["self", "standings", "deeds", "sights"] (spInit K C) := ok_init FI L.mT T.cl T.n1 T.n2 T.n3 G18 F18 g18 G19 F19 g19 G21 F21 g21
  have bIn : Binds K dI ["self", "standings", "deeds", "sights"] [] := FI.bindsN fun _ _ _ _ _ _ us hl => match us, hl with
    | [_, _, _, _], _ => rfl
  have G31 : FnOk P w K mg base CX0 1 f31 d31 ["_law_script", "_law_start"] (spSrc K) := ok_src F31 L.mn L.ml
  have G32 : FnOk P w K mg base CX0 1 f32 d32 ["_law_source_here", "_law_span"] spD := ok_d F32 L.mn
  have G33 : FnOk P w K mg base CX0 2 f33 d33 nPick (spPick K) := ok_pick F33 L.ml L.mn F32 g32
  have G34 : FnOk P w K mg base CX0 2 f34 d34 ["_law_source_here", "_law_things"] (spMixed K) := ok_mixed F34 L.ml L.mn L.mL F32 g32
  have G36 : FnOk P w K mg base CX0 4 f36 d36 ["_law_source_here", "_law_many_here"] spNames := ok_names F36 L.ml L.mn L.mR L.mL F32 g32 F33 g33 F34 g34 F35 g35
  have G37 : FnOk P w K mg base CX0 2 f37 d37 ["_law_source_here", "_law_many_here"] spTwins := ok_twins F37 L.mn L.mR F32 g32
  have G38 : FnOk P w K mg base CX0 3 f38 d38 ["_law_source_here", "_law_twins_here"] spLeads := ok_leads F38 L.ml L.mn L.mR L.mL L.mx F32 g32 F33 g33 F34 g34
  have G39 : FnOk P w K mg base CX0 5 f39 d39 ["_law_source_here", "_law_many_here"] spSights := ok_sights F39 L.ml L.mn L.mR G32 F32 g32 G33 F33 g33 G36 F36 g36
  have G40 : FnOk P w K mg base CX0 6 f40 d40 ["_law_source_here", "_law_most"] spDesk := ok_desk F40 L.mR L.md G32 F32 g32 G36 F36 g36 G37 F37 g37 G38 F38 g38 G39 F39 g39
  have G41 : FnOk P w K mg base CX0 1 f41 d41 ["_law_some"] spTurned := ok_turned F41 L.mL L.md
  have G42 : FnOk P w K mg base CX0 6 f42 d42 ["_law_desk_here"] (spMade K C) := ok_made F42 L.mL T.g Mk1 GI bIn G41 F41 g41
  have G43 : FnOk P w K mg base CX0 1 f43 d43 ["_law_desk_here", "_law_standing", "_law_row"] (spLeadL K) := ok_leadL F43
  have G44 : FnOk P w K mg base CX0 1 f44 d44 ["_law_names_here"] (spStranger K) := ok_stranger F44
  have GG : FnOk P w K mg base CX0 1 gS dG nSelf (spStd C) := ok_std FG T.cl T.n1
  have bG : Binds K dG nSelf [] := bStd FG
  have GDd : FnOk P w K mg base CX0 1 gD dD nSelf (spDds K C) := ok_dds FD_ T.cl T.n2 L.mT
  have bDd : Binds K dD nSelf [] := bDds FD_
  have GT0 : FnOk P w K mg base CX0 1 gT dT nSelf (spSt0 K C) := ok_st0 FT_ T.cl T.n1
  have bT0 : Binds K dT nSelf [] := bSt0 FT_
  have GS0 : FnOk P w K mg base CX0 2 fS dS nSight (spSight0 K C) := ok_sight0 FS T.cl T.n1 T.n3 G10 F10 g10
  have G22 : FnOk P w K mg base CX0 1 f22 d22 ["desk"] (spDl K C) := ok_dl F22 T.cl T.n2 L.md
  have G23 : FnOk P w K mg base CX0 3 f23 d23 ["desk"] (spMv K C) := ok_mv F23 T.cl PS_ GG bG G22 F22 g22
  have G24 : FnOk P w K mg base CX0 3 f24 d24 ["desk"] (spSi K C) := ok_si F24 T.cl PS_ GG bG MS GS0 FS
  have G15 : FnOk P w K mg base CX0 4 f15 _ ["one", "other", "signs", "moves"] (spPart Pt) := ok_parting lk15 cd15 TB L.ml F14 g14 F13 g13
  have b15 : Binds K (PySem.W.fnOf "parting" "parting" (defArgs (top 15)) (defBody (top 15)) (defScope (top 15)) dV kV doc pm an (.ref c15) ct) ["one", "other", "signs", "moves"] [] := F15.bindsN fun _ _ _ _ _ _ us hl => match us, hl with
    | [_, _, _, _], _ => rfl
  have G26 : FnOk P w K mg base CX0 3 f26 d26 nHs (spHs K C) := ok_hs F26 L.mso T.cl PD GDd bDd
  have G27 : FnOk P w K mg base CX0 5 f27 d27 ["first", "second"] (spPb K C Pt) := ok_pb F27 L.me T.cl PS_ GG bG PD GDd bDd PT_ GT0 bT0 G23 F23 g23 G24 F24 g24 G15 F15.kp b15 g15
  have G28 : FnOk P w K mg base CX0 6 f28 d28 nDa (spDa K C Pt) := ok_da F28 G26 F26 g26 G27 F27 g27
  have G29 : FnOk P w K mg base (L2.CX P w) 6 f29 d29 nDa (spDp K C CB Pt) := ok_dp F29 B T.cl PD GDd bDd G26 F26 g26 G27 F27 g27
  have G45 : FnOk P w K mg base CX0 5 f45 d45 ["_law_source_here", "_law_desk_here"] spRn := ok_rn F45 L.mL L.md L.ml L.mz G34 F34 g34 G36 F36 g36
  have G46 : FnOk P w K mg base CX0 3 f46 d46 ["_law_source_here", "_law_desk_here"] (spGw K) := ok_gw F46 L.ml L.md G33 F33 g33 G32 F32 g32 G44 F44 g44
  have G47 : FnOk P w K mg base CX0 3 f47 d47 ["_law_source_here", "_law_desk_here"] spBe := ok_be F47 L.mL L.md G33 F33 g33 G32 F32 g32
  have G48 : FnOk P w K mg base CX0 7 f48 d48 ["_law_source_here", "_law_desk_here"] spOt := ok_ot F48 L.mL L.md L.ml L.mR L.me G40 F40 g40 G38 F38 g38
  have G49 : FnOk P w K mg base CX0 1 f49 d49 ["_law_one", "_law_two"] spMn := ok_mn F49
  have G50 : FnOk P w K mg base CX0 2 f50 d50 ["_law_one", "_law_two", "_law_told", "_law_row"] (spRt K) := ok_rt F50 L.mi L.ms L.mL L.ml G43 F43 g43 G49 F49 g49
  have G51 : FnOk P w K mg base CX0 7 f51 d51 ["_law_first", "_law_second"] (spRe K C Pt) := ok_re F51 B L.te G29 F29 g29
  have GE : FnOk P w K mg base CX0 1 fE dE nEq (spEqK K C) := ok_eqK FE L.mi L.mT T
  exact ⟨⟨_, _, F31, g31, G31⟩, ⟨_, _, F32, g32, G32⟩, ⟨_, _, F33, g33, G33⟩, ⟨_, _, F40, g40, G40⟩, ⟨_, _, F42, g42, G42⟩, ⟨_, _, F44, g44, G44⟩, ⟨_, _, F45, g45, G45⟩, ⟨_, _, F46, g46, G46⟩, ⟨_, _, F47, g47, G47⟩, ⟨_, _, F48, g48, G48⟩, ⟨_, _, F50, g50, G50⟩, ⟨_, _, F51, g51, G51⟩, ⟨_, _, F28, g28, G28⟩, ⟨_, _, F29, g29, G29⟩, ⟨_, _, FE, eE, iE, GE⟩⟩
/-! ### what stays, but for a source and a table -/
structure Kp (B G : Hp) (Pt p : Addr) : Prop where
  sm : Sm B G
  tabs : TabsN (partT Pt) G
  src : Src G p
  bp : B p = none
  nt : ∀ b ps, B b ≠ some (.tbl ps)
theorem tabs_at {Pt : Addr} {H : Hp} (t : TabsN (partT Pt) H) : ∃ ps, H Pt = some (.tbl ps) := by
  obtain ⟨ps, h, _⟩ := t (Pt, _) (List.mem_singleton.mpr rfl)
  exact ⟨ps, h⟩
theorem tabs_of {Pt : Addr} {H H' : Hp} (t : TabsN (partT Pt) H) (e : H' Pt = H Pt) (n : ∀ c q, H c = some (CodeO c q) → H' c = some (CodeO c q)) : TabsN (partT Pt) H' := by
  intro q hq
  have hq2 : q = (Pt, _) := List.mem_singleton.mp hq
  subst hq2
  obtain ⟨ps, h, r1, r2⟩ := t (Pt, _) (List.mem_singleton.mpr rfl)
  refine ⟨ps, e.trans h, r1, fun pos cv hc => ?_⟩
  obtain ⟨c, e1, e2⟩ := r2 pos cv hc
  exact ⟨c, e1, n _ _ e2⟩
section
variable {B G G' : Hp} {Pt p : Addr}
theorem Kp.grow (k : Kp B G Pt p) (m : Sm G G') : Kp B G' Pt p := ⟨Sm.trans k.sm m, k.tabs.ext m, k.src.sm m, k.bp, k.nt⟩
theorem Kp.drawn (k : Kp B G Pt p) (m : Sx p G G') (s : Src G' p) : Kp B G' Pt p := by
  obtain ⟨ps, h⟩ := tabs_at k.tabs
  exact ⟨sm_sx k.sm k.bp m, tabs_of k.tabs (by rw [h]; exact m _ _ (src_ne k.src h fun _ _ z => nomatch z) h) (fun c q e => m _ _ (src_ne k.src e fun _ _ z => nomatch z) e), s, k.bp, k.nt⟩
theorem Kp.come (k : Kp B G Pt p) (m : ExtN G G') (t : TabsN (partT Pt) G') : Kp B G' Pt p := by
  obtain ⟨own, mix, e, r⟩ := k.src
  exact ⟨fun b o e => m b o (k.sm b o e) fun ps z => k.nt b ps (z ▸ e), t, ⟨own, mix, m _ _ e (fun _ z => nomatch z), r⟩, k.bp, k.nt⟩
theorem Kp.set (k : Kp B G Pt p) {a : Addr} {o : HO} {xs : List V} (e : G a = some (.lst xs)) (h : B a = none) (n2 : a ≠ p) : Kp B (upd G a o) Pt p := by
  obtain ⟨ps, hp⟩ := tabs_at k.tabs
  refine ⟨sm_upd k.sm h, tabs_of k.tabs (upd_ne fun z => ?_) (fun c q ec => ?_), src_upd k.src n2, k.bp, k.nt⟩
  · rw [z, e] at hp
    cases hp
  · rw [upd_ne fun z => by
      rw [z, e] at ec
      cases ec]
    exact ec
/-- a heap without the source and without tables -/
def cl (p : Addr) (G : Hp) : Hp := fun b => if b = p then none else match G b with
  | some (.tbl _) => none
  | o => o
theorem cl_at {b : Addr} {o : HO} (e : G b = some o) (n : b ≠ p) (h : ∀ ps, o ≠ .tbl ps) : cl p G b = some o := by
  unfold cl
  rw [if_neg n, e]
  cases o with
  | tbl ps => exact absurd rfl (h ps)
  | _ => rfl
theorem cl_le : Sm (cl p G) G := fun b o e => by
  unfold cl at e
  by_cases c : b = p
  · rw [if_pos c] at e
    cases e
  · rw [if_neg c] at e
    cases z : G b with
    | none =>
      rw [z] at e
      cases e
    | some u =>
      rw [z] at e
      cases u with
      | tbl ps => cases e
      | _ => exact e
theorem Kp.cl (k : Kp B G Pt p) : Kp (cl p G) G Pt p := by
  refine ⟨cl_le, k.tabs, k.src, if_pos rfl, fun b ps e => ?_⟩
  have z := cl_le b _ e
  unfold Dk.cl at e
  by_cases c : b = p
  · rw [if_pos c] at e
    cases e
  · rw [if_neg c, z] at e
    cases e
theorem Kp.le (k : Kp B G Pt p) : Sm B (Dk.cl p G) := fun b o e => cl_at (k.sm b o e) (fun z => by rw [z, k.bp] at e; cases e) fun ps z => k.nt b ps (z ▸ e)
theorem cl_src {b : Addr} {o : HO} (s : Src G p) (e : G b = some o) (h : ∀ i j : Int, o ≠ .lst [.int i, .int j]) (n : ∀ ps, o ≠ .tbl ps) : Dk.cl p G b = some o := cl_at e (src_ne s e h) n
end
theorem DkAt.cl {G : Hp} {u nm dd sg p : Addr} {ws ds : List Str} {as : List Addr} {tb : List (List Str)} {ls : List Str} (h : DkAt G u nm dd sg ws ds as tb ls) (s : Src G p) : DkAt (Dk.cl p G) u nm dd sg ws ds as tb ls := by
  obtain ⟨h1, h2, h3, h4, h5⟩ := h
  exact ⟨cl_src s h1 (fun _ _ z => nomatch z) (fun _ z => nomatch z), cl_at h2 (src_ne_strs0 s h2) (fun _ z => nomatch z), cl_src s h3 (fun _ _ z => nomatch z) (fun _ z => nomatch z), cl_src s h4 (fun _ _ z => nomatch z) (fun _ z => nomatch z),
    pair_mono h5 fun a _ vs e => cl_src s e (fun _ _ z => nomatch z) (fun _ z => nomatch z)⟩
theorem SqT.cl {K : PySem.W.Frag} {G : Hp} {a p : Addr} {xs : List V} (h : SqT K G a xs) (s : Src G p) : SqT K (Dk.cl p G) a xs := by
  rcases h with (h | ⟨o, h⟩) | h
  · exact .inl (.inl (cl_src s h (fun _ _ z => nomatch z) (fun _ z => nomatch z)))
  · exact .inl (.inr ⟨o, cl_src s h (fun _ _ z => nomatch z) (fun _ z => nomatch z)⟩)
  · exact .inr h
theorem DeskOb.cl {K : PySem.W.Frag} {C : Addr} {G : Hp} {x p : Addr} {ws ds : List Str} {tb : List (List Str)} {ls : List Str} (h : DeskOb K C G x ws ds tb ls) (s : Src G p) : DeskOb K C (Dk.cl p G) x ws ds tb ls := by
  obtain ⟨dx, st, ld, si, as, h1, h2, h3, h4, pr⟩ := h
  exact ⟨dx, st, ld, si, as, cl_src s h1 (fun _ _ z => nomatch z) (fun _ z => nomatch z), SqT.cl h2 s, cl_src s h3 (fun _ _ z => nomatch z) (fun _ z => nomatch z), cl_src s h4 (fun _ _ z => nomatch z) (fun _ z => nomatch z),
    pair_mono pr fun a _ vs e => cl_src s e (fun _ _ z => nomatch z) (fun _ z => nomatch z)⟩
end Dk
set_option Elab.async false
set_option linter.all false
set_option maxRecDepth 100000
set_option maxHeartbeats 8000000
namespace Dk
open PySem PySem.Spec PyProof.Rows L2 Er LamX NdefX
/-! ### a deed taken out of a dict of deeds, another put in -/
theorem Kp.setD {B G : Hp} {Pt p a : Addr} {o : HO} {kvs : List (Key × V)} (k : Kp B G Pt p) (e : G a = some (.dK kvs)) (h : B a = none) : Kp B (upd G a o) Pt p := by
  obtain ⟨ps, hp⟩ := tabs_at k.tabs
  refine ⟨sm_upd k.sm h, tabs_of k.tabs (upd_ne fun z => ?_) (fun c q ec => ?_), src_upd k.src (src_ne k.src e fun _ _ z => nomatch z), k.bp, k.nt⟩
  · rw [z, e] at hp
    cases hp
  · rw [upd_ne fun z => by
      rw [z, e] at ec
      cases ec]
    exact ec
theorem dkv_app {l1 l2 : List Str} {m1 m2 : List V} (h : m1.length = l1.length) : dkv (l1 ++ l2) (m1 ++ m2) = dkv l1 m1 ++ dkv l2 m2 := by
  unfold dkv
  rw [List.map_append, List.zip_append (by rw [List.length_map, h])]
theorem dropK_app {a b : List (Key × V)} {k : Key} : dropK (a ++ b) k = dropK a k ++ dropK b k := List.filter_append ..
theorem dropK_dkv {l : List Str} {m : List V} {d : Str} (h : m.length = l.length) (n : d ∉ l) : dropK (dkv l m) (.inr d) = dkv l m := by
  refine dropK_no fun z => ?_
  rw [dkv_keys h.symm] at z
  obtain ⟨x, hx, e⟩ := List.mem_map.mp z
  exact n (Sum.inr.inj e ▸ hx)
theorem dropK_mid {l1 l2 : List Str} {m1 m2 : List V} {d : Str} {v : V} (h1 : m1.length = l1.length) (h2 : m2.length = l2.length) (nd : (l1 ++ d :: l2).Nodup) : dropK (dkv (l1 ++ d :: l2) (m1 ++ v :: m2)) (.inr d) = dkv (l1 ++ l2) (m1 ++ m2) := by
  obtain ⟨_, n2, n3⟩ := List.nodup_append.mp nd
  rw [dkv_app h1, dkv_app h1, dropK_app, dropK_dkv h1 fun z => n3 d z d List.mem_cons_self rfl]
  show dkv l1 m1 ++ dropK ((Sum.inr d, v) :: dkv l2 m2) _ = _
  rw [dropK_pos rfl, dropK_dkv h2 (List.nodup_cons.mp n2).1]
theorem valV_mid {l1 l2 : List Str} {m1 m2 : List V} {d : Str} {v : V} (h1 : m1.length = l1.length) (n : d ∉ l1) : valV (dkv (l1 ++ d :: l2) (m1 ++ v :: m2)) (.inr d) = some v := by
  induction l1 generalizing m1 with
  | nil =>
    have : m1 = [] := List.eq_nil_of_length_eq_zero h1
    subst this
    unfold valV
    show ((((Sum.inr d, v) : Key × V) :: dkv l2 m2).find? _).map _ = _
    rw [List.find?_cons_of_pos (by simp)]
    rfl
  | cons x l1 ih =>
    cases m1 with
    | nil => simp at h1
    | cons y m1 =>
      have := ih (m1 := m1) (by simpa using h1) fun z => n (List.mem_cons_of_mem _ z)
      unfold valV at this ⊢
      show ((((Sum.inr x, y) : Key × V) :: dkv (l1 ++ d :: l2) (m1 ++ v :: m2)).find? _).map _ = _
      rw [List.find?_cons_of_neg]
      · exact this
      · intro z
        have e : (Sum.inr x : Key) = .inr d := of_decide_eq_true z
        exact n (Sum.inr.inj e ▸ List.mem_cons_self)
theorem put_last {l : List Str} {m : List V} {d : Str} {v : V} (h : m.length = l.length) (n : d ∉ l) : putK (dkv l m) (.inr d) v = dkv (l ++ [d]) (m ++ [v]) := by
  rw [put_new fun z => ?_, dkv_app h]
  · rfl
  · rw [dkv_keys h.symm] at z
    obtain ⟨x, hx, e⟩ := List.mem_map.mp z
    exact n (Sum.inr.inj e ▸ hx)
theorem pair_split {β γ : Type} {F : Addr → β → Prop} {d : γ} : ∀ {ds : List γ} {as : List Addr} {tb : List β}, Paired F as tb → as.length = ds.length → d ∈ ds →
    ∃ d1 d2 a1 a a2 t1 t t2, ds = d1 ++ d :: d2 ∧ as = a1 ++ a :: a2 ∧ tb = t1 ++ t :: t2 ∧ a1.length = d1.length ∧ a2.length = d2.length ∧ Paired F a1 t1 ∧ F a t ∧ Paired F a2 t2
  | [], _, _, _, _, h => nomatch h
  | x :: ds, a :: as, t :: tb, .cons h p, e, hd => by
    by_cases c : d = x
    · subst c
      exact ⟨[], ds, [], a, as, [], t, tb, rfl, rfl, rfl, rfl, by simpa using e, .nil, h, p⟩
    · rcases List.mem_cons.mp hd with q | q
      · exact absurd q c
      · obtain ⟨d1, d2, a1, b, a2, t1, u, t2, e1, e2, e3, l1, l2, p1, f, p2⟩ := pair_split p (by simpa using e) q
        exact ⟨x :: d1, d2, a :: a1, b, a2, t :: t1, u, t2, by rw [e1]; rfl, by rw [e2]; rfl, by rw [e3]; rfl, by simp [l1], l2, .cons h p1, f, p2⟩
  | _ :: _, [], _, _, e, _ => by simp at e
theorem pair_app {α β : Type} {F : α → β → Prop} : ∀ {a1 a2 : List α} {t1 t2 : List β}, Paired F a1 t1 → Paired F a2 t2 → Paired F (a1 ++ a2) (t1 ++ t2)
  | _, _, _, _, .nil, h => h
  | _, _, _, _, .cons f p, h => .cons f (pair_app p h)
/-- the deeds of a desk, one exchanged for a stranger's, or gone -/
theorem DkIs.swap {m : Nat} {ws d1 d2 : List Str} {d z : Str} {t1 t2 : List (List Str)} {t : List Str} {ls : List Str} (is : DkIs m ws (d1 ++ d :: d2) (t1 ++ t :: t2) ls) (hz : IsWord z) (n : z ∉ d1 ++ d :: d2) (e : t1.length = d1.length) :
    DkIs m ws ((d1 ++ d2) ++ [z]) ((t1 ++ t2) ++ [t]) ls := by
  have nd := is.dnd
  have dm := is.dmost
  have rw_ := is.rows
  simp only [List.length_append, List.length_cons] at dm rw_
  refine { is with dsome := by simp; omega, dmost := by simp; omega, dnd := snoc_nd ?_ ?_, dword := fun x hx => ?_, rows := by simp; omega, row := fun vs hvs => is.row vs ?_ }
  · obtain ⟨a, b, c⟩ := List.nodup_append.mp nd
    exact List.nodup_append.mpr ⟨a, (List.nodup_cons.mp b).2, fun x hx y hy => c x hx y (List.mem_cons_of_mem _ hy)⟩
  · intro h
    apply n
    simp only [List.mem_append, List.mem_cons] at h ⊢
    rcases h with h | h
    · exact .inl h
    · exact .inr (.inr h)
  · simp only [List.mem_append, List.mem_singleton] at hx
    rcases hx with (h | h) | h
    · exact is.dword x (by simp [h])
    · exact is.dword x (by simp [h])
    · exact h ▸ hz
  · simp only [List.mem_append, List.mem_cons, List.mem_singleton] at hvs ⊢
    rcases hvs with (h | h) | h
    · exact .inl h
    · exact .inr (.inr h)
    · exact .inr (.inl (by simpa using h))
theorem DkIs.gone {m : Nat} {ws d1 d2 : List Str} {d : Str} {t1 t2 : List (List Str)} {t : List Str} {ls : List Str} (is : DkIs m ws (d1 ++ d :: d2) (t1 ++ t :: t2) ls) (e : t1.length = d1.length) (n : 1 ≤ (d1 ++ d2).length) :
    DkIs m ws (d1 ++ d2) (t1 ++ t2) ls := by
  have nd := is.dnd
  have dm := is.dmost
  have rw_ := is.rows
  simp only [List.length_append, List.length_cons] at dm rw_ n
  refine { is with dsome := by simp; omega, dmost := by simp; omega, dnd := ?_, dword := fun x hx => is.dword x ?_, rows := by simp; omega, row := fun vs hvs => is.row vs ?_ }
  · obtain ⟨a, b, c⟩ := List.nodup_append.mp nd
    exact List.nodup_append.mpr ⟨a, (List.nodup_cons.mp b).2, fun x hx y hy => c x hx y (List.mem_cons_of_mem _ hy)⟩
  · simp only [List.mem_append, List.mem_cons] at hx ⊢
    rcases hx with h | h
    · exact .inl h
    · exact .inr (.inr h)
  · simp only [List.mem_append, List.mem_cons] at hvs ⊢
    rcases hvs with h | h
    · exact .inl h
    · exact .inr (.inr h)
theorem shaped_ret {ws : List Str} (h : ∀ z ∈ ws, IsWord z) : SeqAt.shaped (.tuple [.str "deeds", .tuple (ws.map PyData.str)]) = true := by
  have z := lay_strs h
  have dw : IsWord "deeds" := by decide +kernel
  unfold SeqAt.shaped
  have c : (PyData.tuple [.str "deeds", .tuple (ws.map PyData.str)]).canLay0 = true := by simp [PyData.canLay0, PyData.canLayAll0, z.1, dw.ok]
  rw [c, Bool.true_and, decide_eq_true_iff]
  have d : (PyData.tuple [.str "deeds", .tuple (ws.map PyData.str)]).depth ≤ 4 := by
    simp only [PyData.depth, PyData.depthAll]
    omega
  omega
theorem eqv_ret {ws : List Str} : PyData.eqv (.tuple [.str "deeds", .tuple (ws.map PyData.str)]) (.tuple [.str "deeds", .tuple (ws.map PyData.str)]) = true := by
  have z := eqv_tupS (ws := ws) (vs := ws)
  rw [decide_eq_true rfl] at z
  simp only [PyData.eqv, PyData.eqvAll] at z ⊢
  rw [z]
  simp
/-- an if with two tests, whose else is empty -/
theorem and_both {c : Bool} {tB : TT} {A T : L2.St → Hp → Prop} {σ : L2.St} {H : Hp} (R : L2.St → Hp → Prop) (hT : ∀ σ' H', R σ' H' → T σ' H') (hA : c = true → (∀ σ' H', R σ' H' → T σ' H') → tB σ H fun b H' => if b = true then A σ H' else T σ H') (hB : c = false → R σ H) :
    if c = true then tB σ H (fun b H' => if b = true then A σ H' else T σ H') else if false = true then A σ H else T σ H := by
  cases c with
  | true => exact hA rfl hT
  | false => exact hT _ _ (hB rfl)
/-- an if whose else is empty: what comes behind is read once -/
theorem ite_both {c : Bool} {A : Prop} {T : L2.St → Hp → Prop} {σ : L2.St} {H : Hp} (R : L2.St → Hp → Prop) (hT : ∀ σ' H', R σ' H' → T σ' H') (hA : c = true → (∀ σ' H', R σ' H' → T σ' H') → A) (hB : c = false → R σ H) : if c = true then A else T σ H := by
  cases c with
  | true => exact hA rfl hT
  | false => exact hT _ _ (hB rfl)
/-- a late desk's data, somewhere -/
def LateR (B : Hp) (Pt p : Addr) (ds : List Str) (v : V) (G : Hp) : Prop := ∃ (u nm dd sg : Addr) (ws ds' : List Str) (as : List Addr) (tb : List (List Str)) (ls : List Str), v = .ref u ∧ Kp B G Pt p ∧ DkAt G u nm dd sg ws ds' as tb ls ∧ DkIs 9 ws ds' tb ls ∧ ds'.Perm ds
/-- two desks of other deeds, and the second one's -/
def PairR (K : PySem.W.Frag) (C : Addr) (B : Hp) (t : Addr) : Prop := ∃ (x y q : Addr) (ws ds : List Str) (tb : List (List Str)) (ls ws' ds' : List Str) (tb' : List (List Str)) (ls' : List Str) (z0 y0 : Str), B t = some (.tup [.ref x, .ref y, .ref q]) ∧ TwoD K C B x y ws ds tb ls ws' ds' tb' ls' z0 y0 ∧ ¬ (∀ d, d ∈ ds ↔ d ∈ ds') ∧ B q = some (.tup (ds'.map V.str))
section
variable {K : PySem.W.Frag} {C : Addr} {H : Hp} {x y : Addr} {ws ds : List Str} {tb : List (List Str)} {ls ws' ds' : List Str} {tb' : List (List Str)} {ls' : List Str} {z0 y0 : Str}
theorem TwoD.symm (h : TwoD K C H x y ws ds tb ls ws' ds' tb' ls' z0 y0) : TwoD K C H y x ws' ds' tb' ls' ws ds tb ls y0 z0 := ⟨h.ob', h.is', h.ob, h.is, h.y, h.z⟩
theorem TwoD.left (h : TwoD K C H x y ws ds tb ls ws' ds' tb' ls' z0 y0) : TwoD K C H x x ws ds tb ls ws ds tb ls z0 z0 := ⟨h.ob, h.is, h.ob, h.is, h.z, h.z⟩
theorem own_parts {k : Nat} : ¬ Parts ws ds tb ls ws ds tb ls z0 z0 k := by
  rintro ⟨r, _, _, h⟩
  rw [sg_0, sg_1] at h
  exact h rfl
theorem rowP_of {nx : No → Str → No} {sg : No → Str} {a b : No} {G0 G1 G : Hp} {v : V} (h : PtOut nx sg ds a b G0 G1 v) (m : ∀ rr o, v = .ref rr → G1 rr = some (.lst o) → G rr = some (.lst o)) : RowP nx sg ds a b G v := by
  rcases h with o | ⟨rr, row, rfl, _, e, h⟩
  · exact .inl o
  · exact .inr ⟨rr, row, rfl, m rr _ rfl e, h⟩
end
end Dk
set_option Elab.async false
set_option linter.all false
set_option maxRecDepth 100000
set_option maxHeartbeats 16000000
namespace Dk
open PySem PySem.Spec PyProof.Rows L2 Er LamX NdefX
open PySem.ErK (EC)
/-! ### the law's body -/
def spLaw (K : PySem.W.Frag) (Pt : Addr) : Sp := fun vs H Q _ => ∃ (a : Addr) (ns : List Int), vs = [.ref a] ∧ SqL K H a (ns.map V.int) ∧ ns.length ≤ 63 ∧ (∀ z ∈ ns, Builtin.Int.intBits z ≤ 1048576) ∧ TabsN (partT Pt) H ∧ ∀ H', Q (.bl true) H'
abbrev nW : List Str := ["_law_script", "_law_start", "_law_source_here", "_law_turn", "_law_base", "_law_kind", "_law_late", "_law_one", "_law_two", "_law_lap", "_law_told", "_law_fresh", "_law_deeds", "_law_less", "_law_first", "_law_second", "_law_names_here"]
theorem scW : FnScope nW ["_law_script"] (defScope (top 52)) := ⟨rfl, rfl, rfl, by decide +kernel, rfl, by decide +kernel, by decide +kernel⟩
theorem tif_two {c : Bool} {σ : L2.St} {H : Hp} {Q : V → Hp → Prop} (h : ∀ m : Nat, 1 ≤ m → m ≤ 9 → Q (.int ((m : Nat) : Int)) H) : if c = true then tC (.int 9) σ H Q else tC (.int 5) σ H Q := by
  cases c with
  | true => exact iteT (h 9 (by decide) (by decide))
  | false => exact iteF (h 5 (by decide) (by decide))
/-- either way it is such a value -/
theorem tif_use {c : Bool} {t1 t2 : TE} {σ : L2.St} {H : Hp} {Q : V → Hp → Prop} (R : V → Hp → Prop) (h : ∀ v G, R v G → Q v G) (h1 : (∀ v G, R v G → Q v G) → t1 σ H Q) (h2 : (∀ v G, R v G → Q v G) → t2 σ H Q) : if c = true then t1 σ H Q else t2 σ H Q := by
  cases c with
  | true => exact iteT (h1 h)
  | false => exact iteF (h2 h)
theorem passE0 {X : Cx} : Passes (L2.CX X.prog X.w) X E0 := fun _ _ _ _ _ _ _ h => by
  obtain ⟨_, _, _, _, _, _, _, _, _, _, _, _, f⟩ := h
  exact f.elim
section
variable {P : Program} {w : World} {K : PySem.W.Frag} {mg : Str → Option Value} {base : Heap} {C CB Pt f : Addr} {fd : FuncData}
theorem bSrc {fS : Addr} {dS : FuncData} (F : FnP K "_law_source" (top 31) fS dS) : Binds K dS ["_law_script", "_law_start"] [] := F.bindsN fun _ _ _ _ _ _ us hl => match us, hl with
  | [_, _], _ => rfl
theorem bMd {fS : Addr} {dS : FuncData} (F : FnP K "_law_made" (top 42) fS dS) : Binds K dS ["_law_desk_here"] [] := F.bindsN fun _ _ _ _ _ _ us hl => match us, hl with
  | [_], _ => rfl
theorem ok_law (F : FnP K "law" (top 52) f fd) (L : Lk K mg base C CB Pt) : FnOk P w K mg base CX0 8 f fd ["_law_script"] (spLaw K Pt) := by
  have G := gs_of (P := P) (w := w) L
  obtain ⟨f28, d28, F28, g28, G28⟩ := G.alike
  obtain ⟨f29, d29, F29, g29, G29⟩ := G.parted
  obtain ⟨f31, d31, F31, g31, G31⟩ := G.src
  obtain ⟨f32, d32, F32, g32, G32⟩ := G.draw
  obtain ⟨f33, d33, F33, g33, G33⟩ := G.pick
  obtain ⟨f40, d40, F40, g40, G40⟩ := G.desk
  obtain ⟨f42, d42, F42, g42, G42⟩ := G.made
  obtain ⟨f44, d44, F44, g44, G44⟩ := G.stranger
  obtain ⟨f45, d45, F45, g45, G45⟩ := G.renamed
  obtain ⟨f46, d46, F46, g46, G46⟩ := G.grown
  obtain ⟨f47, d47, F47, g47, G47⟩ := G.bent
  obtain ⟨f48, d48, F48, g48, G48⟩ := G.other
  obtain ⟨f50, d50, F50, g50, G50⟩ := G.right
  obtain ⟨f51, d51, F51, g51, G51⟩ := G.refused
  obtain ⟨fE, dE, FE, eE, iE, GE⟩ := G.eq
  have bE : Binds K dE nEq [] := FE.bindsN fun _ _ _ _ _ _ us hl => match us, hl with
    | [_, _], _ => rfl
  have T := L.T
  refine F.ok (CX := CX0) scW (fun vs H Q E h => ?_) (fun cdv A outer s H vs Q E hr7 h => ?_)
  · obtain ⟨a, ns, rfl, _⟩ := h
    rfl
  have hr1 := hr7.mono (show 1 ≤ 7 by decide)
  have hr2 := hr7.mono (show 2 ≤ 7 by decide)
  have hr3 := hr7.mono (show 3 ≤ 7 by decide)
  have hr5 := hr7.mono (show 5 ≤ 7 by decide)
  have hr6 := hr7.mono (show 6 ≤ 7 by decide)
  have neY : OpR (cxOf CX0 P w K mg base nW "law" (defScope (top 52)) f cdv A outer s H E).nox (compareOp .NotEq) (rNeY C (spEqK K C) E0) := op_neY GE T.hm L.hne eE iE bE hr2 pass0 L.N
  refine ⟨_, PSs.nox (pss_cons (ps_for PassesOwn.never rfl (pi_range1 rfl L.mR (pa_cons (pe_callB (call_max2 rfl) rfl L.mx PyProof.Rows.boot_max (pa_cons pe_int (pa_cons (pe_callB (call_min2 rfl) rfl L.mm PyProof.Rows.boot_min (pa_cons pe_int (pa_cons (pe_callB call_len rfl L.ml boot_len (pa_cons (pv 0) pa_nil)) pa_nil))) pa_nil))) pa_nil)) (pg_name (i := 1) scW.nd rfl (.inl rfl)) (pss_cons (ps_set (i := 2) scW.nd rfl (.inl rfl) (by exact (pe_call G31 hr1 rfl g31 F31.kp (bSrc F31) .nil pass0 (pa_cons (pv 0) (pa_cons (pv 1) pa_nil)))))
      (pss_one (ps_for PassesOwn.never rfl (pi_range1 rfl L.mR (pa_cons pe_int pa_nil)) (pg_name (i := 3) scW.nd rfl (.inl rfl)) (pss_cons (ps_par (i := 4) (j := 5) rfl scW.nd rfl rfl (by decide) rfl rfl (pa_cons (by exact (pe_call G40 hr6 rfl g40 F40.kp (bDk F40) .nil pass0 (pa_cons (pv 2) (pa_cons (by exact (pe_ifExp (pt_cmpR op_eq (pv 3) pe_int (nomark _)) pe_int pe_int)) pa_nil)))) (pa_cons (by exact (pe_call G32 hr1 rfl g32 F32.kp (bD F32) .nil pass0 (pa_cons (pv 2) (pa_cons pe_int pa_nil)))) pa_nil)) (by rfl))
      (pss_cons (ps_set (i := 6) scW.nd rfl (.inl rfl) (by exact (pe_ifExp (pt_cmpR op_lt (pv 5) pe_int (nomark _)) (pv 4) (by exact (pe_call G47 hr3 rfl g47 F47.kp (bBe F47) .nil pass0 (pa_cons (pv 2) (pa_cons (pv 4) pa_nil)))))))
      (pss_cons (ps_set (i := 6) scW.nd rfl (.inl rfl) (by exact (pe_ifExp (pt_cmpR op_gt (pv 5) pe_int (nomark _)) (by exact (pe_call G46 hr3 rfl g46 F46.kp (bGw F46) .nil pass0 (pa_cons (pv 2) (pa_cons (pv 6) pa_nil)))) (pv 6))))
      (pss_cons (ps_set (i := 6) scW.nd rfl (.inl rfl) (by exact (pe_call G45 hr5 rfl g45 F45.kp (bRn F45) .nil pass0 (pa_cons (pv 2) (pa_cons (by exact (pe_ifExp (pt_cmpR op_lt (pv 5) pe_int (nomark _)) (pv 6) (by exact (pe_call G48 hr7 rfl g48 F48.kp (bOt F48) .nil pass0 (pa_cons (pv 2) (pa_cons (pv 4) pa_nil)))))) pa_nil)))))
      (pss_cons (ps_par (i := 7) (j := 8) rfl scW.nd rfl rfl (by decide) rfl rfl (pa_cons (by exact (pe_call G42 hr6 rfl g42 F42.kp (bMd F42) .nil pass0 (pa_cons (pv 4) pa_nil))) (pa_cons (by exact (pe_call G42 hr6 rfl g42 F42.kp (bMd F42) .nil pass0 (pa_cons (pv 6) pa_nil))) pa_nil)) (by rfl))
      (pss_cons (ps_for PassesOwn.never rfl (pi_range1 rfl L.mR (pa_cons pe_int pa_nil)) (pg_name (i := 9) scW.nd rfl (.inl rfl)) (pss_cons (ps_set (i := 10) scW.nd rfl (.inl rfl) (by exact (pe_lst (pa_cons (by exact (pe_call G28 hr6 rfl g28 F28.kp (bDa F28) .nil pass0 (pa_cons (pv 7) (pa_cons (pv 8) pa_nil)))) (pa_cons (by exact (pe_call G29 hr6 rfl g29 F29.kp (bDp F29) .nil passE0 (pa_cons (pv 7) (pa_cons (pv 8) pa_nil)))) (pa_cons (by exact (pe_call G28 hr6 rfl g28 F28.kp (bDa F28) .nil pass0 (pa_cons (pv 8) (pa_cons (pv 7) pa_nil)))) (pa_cons (by exact (pe_call G29 hr6 rfl g29 F29.kp (bDp F29) .nil passE0 (pa_cons (pv 8) (pa_cons (pv 7) pa_nil)))) pa_nil)))))))
      (pss_cons (ps_if (PW.pt (pw_or (pt_not (pt_val (by exact (pe_call G50 hr2 rfl g50 F50.kp (bRt F50) .nil pass0 (pa_cons (pv 4) (pa_cons (pv 6) (pa_cons (by exact (pe_ix ix_list (pv 10) pe_int (fun _ _ => rfl))) (pa_cons (by exact (pe_ix ix_list (pv 10) pe_int (fun _ _ => rfl))) pa_nil)))))))) (pw_or1 (pt_not (pt_val (by exact (pe_call G50 hr2 rfl g50 F50.kp (bRt F50) .nil pass0 (pa_cons (pv 6) (pa_cons (pv 4) (pa_cons (by exact (pe_ix ix_list (pv 10) pe_int (fun _ _ => rfl))) (pa_cons (by exact (pe_ix ix_list (pv 10) pe_int (fun _ _ => rfl))) pa_nil))))))))))) (pss_one (ps_ret pe_bl)) pss_nil)
      (pss_one (ps_if (pt_cmpR op_notN (by exact (pe_ix ix_list (pv 10) pe_int (fun _ _ => rfl))) pe_non (nomark _)) (pss_one (ps_expr (pe_bm PySem.F.plainAttrs_list PySem.F.slot_list_append PySem.F.type_list_append mt_append (by exact (pe_ix ix_list (pv 10) pe_int (fun _ _ => rfl))) (pa_cons pe_str pa_nil)))) pss_nil)))))
      (pss_cons (ps_if (PW.pt (pw_or (pt_cmpR op_notN (by exact (pe_call G29 hr6 rfl g29 F29.kp (bDp F29) .nil passE0 (pa_cons (pv 7) (pa_cons (pv 7) pa_nil)))) pe_non (nomark _)) (pw_or1 (pt_cmpR op_isnot_bl (by exact (pe_call G28 hr6 rfl g28 F28.kp (bDa F28) .nil pass0 (pa_cons (pv 8) (pa_cons (pv 8) pa_nil)))) pe_bl (nomark _))))) (pss_one (ps_ret pe_bl)) pss_nil)
      (pss_cons (ps_par (i := 11) (j := 12) rfl scW.nd rfl rfl (by decide) rfl rfl (pa_cons (by exact (pe_call G44 hr1 rfl g44 F44.kp (bStr F44) .nil pass0 (pa_cons (by exact (pe_callTy (call_listD rfl) rfl L.mL PyProof.Rows.boot_list (pa_cons (by exact (pe_ix ix_tup (pv 4) pe_int (fun _ _ => rfl))) pa_nil))) pa_nil))) (pa_cons (by exact (pe_callTy call_dictD rfl L.md PyProof.Rows.boot_dict (pa_cons (by exact (pe_ix ix_tup (pv 6) pe_int (fun _ _ => rfl))) pa_nil))) pa_nil)) (by rfl))
      (pss_cons (ps_dput (hu_of hr7) (pv 12) (pv 11) (by exact (pe_dpop1 (pv 12) (by exact (pe_call G33 hr2 rfl g33 F33.kp (bP F33) .nil pass0 (pa_cons (pv 2) (pa_cons (by exact (pe_callTy (call_listD rfl) rfl L.mL PyProof.Rows.boot_list (pa_cons (pv 12) pa_nil))) pa_nil)))) ⟨rfl, rfl, rfl, rfl⟩)) (by rfl))
      (pss_cons (ps_if (PW.pt (pw_and (pt_cmpR op_gt (by exact (pe_callB call_lenD rfl L.ml boot_len (pa_cons (pv 12) pa_nil))) pe_int (nomark _)) (pw_and1 (pt_cmpR op_eq (by exact (pe_call G32 hr1 rfl g32 F32.kp (bD F32) .nil pass0 (pa_cons (pv 2) (pa_cons pe_int pa_nil)))) pe_int (nomark _))))) (pss_one (ps_expr (by exact (pe_dpop1 (pv 12) (pv 11) ⟨rfl, rfl, rfl, rfl⟩)))) pss_nil)
      (pss_cons (ps_set (i := 13) scW.nd rfl (.inl rfl) (by exact (pe_call G42 hr6 rfl g42 F42.kp (bMd F42) .nil pass0 (pa_cons (by exact (pe_tup (pa_cons (by exact (pe_ix ix_tup (pv 6) pe_int (fun _ _ => rfl))) (pa_cons (pv 12) (pa_cons (by exact (pe_ix ix_tup (pv 6) pe_int (fun _ _ => rfl))) pa_nil))))) pa_nil))))
      (pss_cons (ps_for PassesOwn.never rfl (pi_list (by exact (pe_lst (pa_cons (by exact (pe_tup (pa_cons (pv 7) (pa_cons (pv 13) (pa_cons (by exact (pe_callTy (call_tup_dK rfl) rfl L.mT PyProof.Rows.boot_tuple (pa_cons (pv 12) pa_nil))) pa_nil))))) (pa_cons (by exact (pe_tup (pa_cons (pv 13) (pa_cons (pv 7) (pa_cons (by exact (pe_callTy (call_tup_dK rfl) rfl L.mT PyProof.Rows.boot_tuple (pa_cons (by exact (pe_ix ix_tup (pv 4) pe_int (fun _ _ => rfl))) pa_nil))) pa_nil))))) pa_nil))))) (pg_tup rfl (pgs_cons (pg_name (i := 14) scW.nd rfl (.inl rfl)) (pgs_cons (pg_name (i := 15) scW.nd rfl (.inl rfl)) (pgs_cons (pg_name (i := 16) scW.nd rfl (.inl rfl)) pgs_nil)))) (pss_one (ps_if (PW.pt (pw_or (pt_cmpR (op_neD hr7.units) (by exact (pe_call G51 hr7 rfl g51 F51.kp (bRe F51) .nil pass0 (pa_cons (pv 14) (pa_cons (pv 15) pa_nil)))) (by exact (pe_tup (pa_cons pe_str (pa_cons (pv 16) pa_nil)))) (nomark _)) (pw_or1 (pt_cmpR op_isnot_bl (by exact (pe_call G28 hr6 rfl g28 F28.kp (bDa F28) .nil pass0 (pa_cons (pv 14) (pa_cons (pv 15) pa_nil)))) pe_bl (nomark _))))) (pss_one (ps_ret pe_bl)) pss_nil)))
      (pss_one (ps_if (PW.pt (pw_or (pt_cmpR neY (pv 7) (by exact (pe_call G42 hr6 rfl g42 F42.kp (bMd F42) .nil pass0 (pa_cons (pv 4) pa_nil))) (nomark _)) (pw_or1 (pt_cmpR neY (pv 8) (by exact (pe_call G42 hr6 rfl g42 F42.kp (bMd F42) .nil pass0 (pa_cons (pv 6) pa_nil))) (nomark _))))) (pss_one (ps_ret pe_bl)) pss_nil))))))))))))))))))
      (pss_one (ps_ret pe_bl))), ?_⟩
  obtain ⟨a, ns, rfl, hS, hl, hb, hT, q⟩ := h
  have sz : ∀ n : Nat, n ≤ 1000 → n ≤ sizeLine := fun n z => by
    rw [sizeLine_eq]
    omega
  refine ⟨_, rfl, _, _, rfl, .inl ⟨_, hS, rfl⟩, _, _, rfl, _, _, rfl, _, rfl, ?_, ?_, for_range (lo := 0) (fun i σ H' => ∃ v1 v2 v3 v4 v5 v6 v7 v8 v9 v10 v11 v12 v13 v14 v15 v16 : Option V, σ = [some (.ref a), v1, v2, v3, v4, v5, v6, v7, v8, v9, v10, v11, v12, v13, v14, v15, v16] ∧ SqL K H' a (ns.map V.int) ∧ TabsN (partT Pt) H') ⟨none, none, none, none, none, none, none, none, none, none, none, none, none, none, none, none, rfl, hS, hT⟩ ?_ ?_⟩
  · split <;> (try split) <;> omega
  · split <;> (try split) <;> omega
  · rintro i σ H' hi ⟨v1, v2, v3, v4, v5, v6, v7, v8, v9, v10, v11, v12, v13, v14, v15, v16, rfl, hS1, hT1⟩
    have i3 : i ≤ 3 := by
      revert hi
      split <;> (try split) <;> intro hi <;> omega
    clear hi
    refine ⟨_, rfl, _, rfl, a, ns, i, by simp, hS1, hl, i3, hb, fun p own mix np w0 w1 w2 => ?_⟩
    have s0 := Sm.new (o := .lst [.int own, .int mix]) np
    have src0 : Src (upd H' p (.lst [.int own, .int mix])) p := ⟨own, mix, upd_same, w0, w1, w2⟩
    have k0 : Kp (cl p (upd H' p (.lst [.int own, .int mix]))) (upd H' p (.lst [.int own, .int mix])) Pt p := ⟨cl_le, hT1.ext s0, src0, if_pos rfl, fun b ps e => by
      have z := cl_le b _ e
      unfold cl at e
      by_cases c : b = p
      · rw [if_pos c] at e
        cases e
      · rw [if_neg c, z] at e
        cases e⟩
    have aS : SqL K (cl p (upd H' p (.lst [.int own, .int mix]))) a (ns.map V.int) := by
      rcases hS1 with (e | ⟨o, e⟩) | e
      · exact .inl (.inl (cl_at (s0 _ _ e) (fun c => by rw [c, np] at e; cases e) fun _ z => nomatch z))
      · exact .inl (.inr ⟨o, cl_at (s0 _ _ e) (fun c => by rw [c, np] at e; cases e) fun _ z => nomatch z⟩)
      · exact .inr e
    generalize cl p (upd H' p (.lst [.int own, .int mix])) = B0 at k0 aS
    generalize upd H' p (.lst [.int own, .int mix]) = G0 at k0 ⊢
    clear s0 src0 np w0 w1 w2 hS1 hT1
    refine ⟨3, rfl, by decide, by decide, for_range (lo := 0) (n := 3) (fun j σ G => ∃ v3 v4 v5 v6 v7 v8 v9 v10 v11 v12 v13 v14 v15 v16 : Option V, σ = [some (.ref a), some (.int (0 + ((i : Nat) : Int))), some (.ref p), v3, v4, v5, v6, v7, v8, v9, v10, v11, v12, v13, v14, v15, v16] ∧ Kp B0 G Pt p) ⟨v3, v4, v5, v6, v7, v8, v9, v10, v11, v12, v13, v14, v15, v16, rfl, k0⟩ ?_ ?_⟩
    · rintro j σ G hj ⟨v3, v4, v5, v6, v7, v8, v9, v10, v11, v12, v13, v14, v15, v16, rfl, k0⟩
      clear hj
      -- the desk
      refine ⟨_, rfl, _, rfl, rfl, _, rfl, tif_two fun m m1 m9 => ⟨p, m, rfl, k0.src, m1, m9, fun u nm dd sg ws ds as tb ls G1 sx1 src1 nu _ _ _ _ hk is0 => ?_⟩⟩
      have is := is0.more m9
      have k1 := k0.drawn sx1 src1
      have hk1 := hk.cl src1
      have b1 := k1.le
      have k1 := k1.cl
      generalize cl p G1 = B1 at k1 hk1 b1
      clear sx1 src1 nu hk k0 is0
      have w1 := is.some
      have w9 := is.most
      refine ⟨_, rfl, p, 5, rfl, k1.src, by decide, by decide, fun kd G2 hkd sx2 src2 _ => ⟨_, _, rfl, ?_⟩⟩
      have k2 := k1.drawn sx2 src2
      clear k1 sx2 src2
      -- the late one
      refine ⟨_, rfl, _, _, rfl, rfl, _, rfl, tif_use (LateR B1 Pt p ds) ?rest1 (fun use => ⟨_, rfl, use _ _ ⟨u, nm, dd, sg, ws, ds, as, tb, ls, rfl, k2, hk1.sm k2.sm, is, .refl _⟩⟩) (fun use => ⟨_, rfl, _, rfl, p, u, nm, dd, sg, ws, ds, as, tb, ls, rfl, k2.src, hk1.sm k2.sm, is, fun u' nm' dd' sg' as' tb' ls' G sx src nu hk' is' => use _ _ ⟨u', nm', dd', sg', ws, ds, as', tb', ls', rfl, k2.drawn sx src, hk', is', .refl _⟩⟩)⟩
      case rest1 =>
      rintro v6 G3 ⟨u3, nm3, dd3, sg3, ws3, ds3, as3, tb3, ls3, rfl, k3, hk3, is3, pm3⟩
      clear k2
      refine ⟨_, rfl, _, _, rfl, rfl, _, rfl, tif_use (LateR B1 Pt p ds) ?rest2 (fun use => ⟨_, rfl, _, rfl, p, u3, nm3, dd3, sg3, ws3, ds3, as3, tb3, ls3, rfl, k3.src, hk3, is3, fun u' nm' dd' sg' ws' as' tb' ls' G sx src hk' is' => use _ _ ⟨u', nm', dd', sg', ws', ds3, as', tb', ls', rfl, k3.drawn sx src, hk', is', pm3⟩⟩) (fun use => ⟨_, rfl, use _ _ ⟨u3, nm3, dd3, sg3, ws3, ds3, as3, tb3, ls3, rfl, k3, hk3, is3, pm3⟩⟩)⟩
      case rest2 =>
      rintro v6 G4 ⟨u4, nm4, dd4, sg4, ws4, ds4, as4, tb4, ls4, rfl, k4, hk4, is4, pm4⟩
      clear k3 hk3 is3 pm3
      refine ⟨_, rfl, _, rfl, _, _, rfl, rfl, _, rfl, tif_use (LateR B1 Pt p ds) ?rest3 (fun use => ⟨_, rfl, use _ _ ⟨u4, nm4, dd4, sg4, ws4, ds4, as4, tb4, ls4, rfl, k4, hk4, is4, pm4⟩⟩) (fun use => ⟨_, rfl, _, rfl, p, u, nm, dd, sg, ws, ds, as, tb, ls, rfl, k4.src, hk1.sm k4.sm, is, fun u' nm' dd' sg' ws' as' tb' ls' G sx src hk' is' => use _ _ ⟨u', nm', dd', sg', ws', ds, as', tb', ls', rfl, k4.drawn sx src, hk', is', .refl _⟩⟩)⟩
      case rest3 =>
      rintro v6 G5 ⟨u5, nm5, dd5, sg5, ws5, ds5, as5, tb5, ls5, rfl, k5, hk5, is5, pm5⟩
      clear k4 hk4 is4 pm4
      refine ⟨p, u5, nm5, dd5, sg5, ws5, ds5, as5, tb5, ls5, rfl, k5.src, hk5, is5, fun u' nm' dd' sg' ws' ds' as' tb' ls' G6 sx6 src6 hk6 is' pm6 => ?_⟩
      have k6 := k5.drawn sx6 src6
      have pm := pm6.trans pm5
      clear k5 hk5 is5 pm5 sx6 src6 pm6
      -- the two desks
      refine ⟨_, rfl, u, nm, dd, sg, ws, ds, as, tb, ls, 9, rfl, hk1.sm k6.sm, is, by decide, fun x G7 sm7 nx7 ob7 => ⟨_, rfl, u', nm', dd', sg', ws', ds', as', tb', ls', 9, rfl, hk6.sm sm7, is', by decide, fun y G8 sm8 ny8 ob8 => ⟨_, _, rfl, ?_⟩⟩⟩
      have k8 := (k6.grow sm7).grow sm8
      have hk8 := ((hk1.sm k6.sm).sm (sm7.trans sm8)).cl k8.src
      have hk8' := (hk6.sm (sm7.trans sm8)).cl k8.src
      have ox := (ob7.sm sm8).cl k8.src
      have oy := ob8.cl k8.src
      have b2 := k8.le
      have k8 := k8.cl
      generalize cl p G8 = B2 at k8 hk8 hk8' ox oy b2
      clear sm7 sm8 nx7 ny8 ob7 ob8 hk6 k6 hk1
      have b02 : Sm B0 B2 := Sm.trans b1 b2
      have same : ∀ d, d ∈ ds ↔ d ∈ ds' := fun d => ⟨fun h => pm.symm.subset h, fun h => pm.subset h⟩
      have two : TwoD K C B2 x y ws ds tb ls ws' ds' tb' ls' (ws[0]'(by omega)) (ws'[0]'is'.some) := ⟨ox, is, oy, is', List.getElem?_eq_getElem _, List.getElem?_eq_getElem _⟩
      generalize ws[0]'(by omega) = z0 at two
      generalize ws'[0]'is'.some = y0 at two
      refine ⟨2, rfl, by decide, by decide, for_range (lo := 0) (n := 2) (fun l σ G => ∃ v9 v10 v11 v12 v13 v14 v15 v16 : Option V, σ = [some (.ref a), some (.int (0 + ((i : Nat) : Int))), some (.ref p), some (.int (0 + ((j : Nat) : Int))), some (.ref u), some (.int ((kd : Nat) : Int)), some (.ref u'), some (.ref x), some (.ref y), v9, v10, v11, v12, v13, v14, v15, v16] ∧ Kp B2 G Pt p) ⟨v9, v10, v11, v12, v13, v14, v15, v16, rfl, k8⟩ ?_ ?_⟩
      · rintro l σ G hll ⟨v9, v10, v11, v12, v13, v14, v15, v16, rfl, kk⟩
        clear hll k8
        refine ⟨_, rfl, _, rfl, x, y, ws, ds, tb, ls, ws', ds', tb', ls', z0, y0, rfl, two.sm kk.sm, kk.tabs, fun c1 G1 e1 t1 h1 => ⟨_, rfl, _, rfl, x, y, ws, ds, tb, ls, ws', ds', tb', ls', z0, y0, rfl, two.sm (kk.come e1 t1).sm, t1, fun _ r1 G2 e2 t2 o1 => ?_, fun no => absurd same no⟩⟩
        have kA := kk.come e1 t1
        have kB := kA.come e2 t2
        refine ⟨_, rfl, _, rfl, y, x, ws', ds', tb', ls', ws, ds, tb, ls, y0, z0, rfl, (two.sm kB.sm).symm, t2, fun c2 G3 e3 t3 h2 => ⟨_, rfl, _, rfl, y, x, ws', ds', tb', ls', ws, ds, tb, ls, y0, z0, rfl, (two.sm (kB.come e3 t3).sm).symm, t3, fun _ r2 G4 e4 t4 o2 => ?_, fun no => absurd (fun d => (same d).symm) no⟩⟩
        have kC := kB.come e3 t3
        have kD := kC.come e4 t4
        refine ⟨sz _ (by show 4 ≤ 1000; decide), fun M nM => ?_⟩
        have nM := nM
        have mM := Sm.new (o := .lst [.bl c1, r1, .bl c2, r2]) nM
        have kE := kD.grow mM
        have w1r : ∀ rr o, G2 rr = some (.lst o) → upd G4 M (.lst [.bl c1, r1, .bl c2, r2]) rr = some (.lst o) := fun rr o e => mM _ _ (e4 _ _ (e3 _ _ e fun _ z => nomatch z) fun _ z => nomatch z)
        have q1 : RowP (nxF (nxt ws ds tb) (nxt ws' ds' tb')) (sgF (look ws ls) (look ws' ls')) ds (0, z0) (1, y0) (upd G4 M (.lst [.bl c1, r1, .bl c2, r2])) r1 := rowP_of o1 fun rr o _ e => w1r rr o e
        have q2 : RowP (nxF (nxt ws' ds' tb') (nxt ws ds tb)) (sgF (look ws' ls') (look ws ls)) ds' (0, y0) (1, z0) (upd G4 M (.lst [.bl c1, r1, .bl c2, r2])) r2 := rowP_of o2 fun rr o _ e => mM _ _ e
        have eM : upd G4 M (.lst [.bl c1, r1, .bl c2, r2]) M = some (.lst [.bl c1, r1, .bl c2, r2]) := upd_same
        show _
        generalize upd G4 M (.lst [.bl c1, r1, .bl c2, r2]) = G5 at kE q1 q2 eM w1r ⊢
        clear kD kC kB mM nM t2 t3 t4 e2 e3 e4 o2
        refine ⟨_, rfl, _, rfl, _, rfl, M, _, 0, .bl c1, rfl, rfl, .inl (.inl eM), atI_nat (j := 0) rfl, _, rfl, M, _, 1, r1, rfl, rfl, .inl (.inl eM), atI_nat (j := 1) rfl, u, nm, dd, sg, u', nm', dd', sg', ws, ds, as, tb, ls, ws', ds', as', tb', ls', z0, y0, c1, r1, rfl, hk8.sm kE.sm, is, hk8'.sm kE.sm, is', same, two.z, two.y, ⟨fun b => (h1.mp b).2, fun n => h1.mpr ⟨same, n⟩⟩, q1, fun G6 m6 => ⟨_, rfl, iteF ?_⟩⟩
        have kF := kE.grow m6
        have eM6 := m6 _ _ eM
        refine ⟨_, rfl, _, rfl, _, rfl, M, _, 2, .bl c2, rfl, rfl, .inl (.inl eM6), atI_nat (j := 2) rfl, _, rfl, M, _, 3, r2, rfl, rfl, .inl (.inl eM6), atI_nat (j := 3) rfl, u', nm', dd', sg', u, nm, dd, sg, ws', ds', as', tb', ls', ws, ds, as, tb, ls, y0, z0, c2, r2, rfl, hk8'.sm kF.sm, is', hk8.sm kF.sm, is, fun d => (same d).symm, two.y, two.z, ⟨fun b => (h2.mp b).2, fun n => h2.mpr ⟨fun d => (same d).symm, n⟩⟩, ?_, fun G7 m7 => ⟨_, rfl, iteF ?_⟩⟩
        · rcases q2 with o | ⟨rr, row, o1, o2, o3⟩
          · exact .inl o
          · exact .inr ⟨rr, row, o1, m6 _ _ o2, o3⟩
        have kG := kF.grow m7
        have eM7 := m7 _ _ eM6
        refine ⟨_, rfl, M, _, 1, r1, rfl, rfl, .inl (.inl eM7), atI_nat (j := 1) rfl, rfl, _, rfl, ?_⟩
        rcases o1 with ⟨rfl, _⟩ | ⟨rr, row, rfl, new, er, rl, _⟩
        · rw [decide_eq_true rfl]
          exact iteF ⟨_, _, _, _, _, _, _, _, rfl, kG⟩
        · have er7 := m7 _ _ (m6 _ _ (w1r _ _ er))
          have Brr : B2 rr = none := by
            cases e : B2 rr with
            | none => rfl
            | some o =>
              obtain ⟨ps, eo⟩ := new o (kA.sm _ _ e)
              exact absurd (eo ▸ e) (kA.nt _ _)
          have rrp : rr ≠ p := fun z => by
            obtain ⟨own, mix, h, _⟩ := kA.src
            obtain ⟨ps, eo⟩ := new _ (z ▸ h)
            cases eo
          rw [show decide (V.ref rr = V.non) = false from rfl]
          refine iteT ⟨_, rfl, M, _, 1, .ref rr, rfl, rfl, .inl (.inl eM7), atI_nat (j := 1) rfl, .inl ⟨rfl, _, .inl (.inl er7)⟩, rr, _, .str "late", rfl, rfl, er7, by rw [List.length_map, sizeLine_eq]; omega, ?_⟩
          exact ⟨_, _, _, _, _, _, _, _, rfl, kG.set er7 Brr rrp⟩
      · rintro σ G ⟨v9, v10, v11, v12, v13, v14, v15, v16, rfl, kk⟩
        clear k8
        refine ⟨_, rfl, _, rfl, x, x, ws, ds, tb, ls, ws, ds, tb, ls, z0, z0, rfl, (two.sm kk.sm).left, kk.tabs, fun _ r G1 e1 t1 o => ?_, fun no => absurd (fun d => Iff.rfl) no⟩
        obtain rfl : r = .non := by
          rcases o with ⟨e, _⟩ | ⟨rr, row, _, _, _, _, _, h, _⟩
          · exact e
          · rw [sg_0, sg_1] at h
            exact absurd rfl h
        have k1 := kk.come e1 t1
        refine ⟨rfl, _, rfl, ?_⟩
        rw [decide_eq_true rfl]
        refine iteF ⟨_, rfl, _, rfl, y, y, ws', ds', tb', ls', ws', ds', tb', ls', y0, y0, rfl, (two.sm k1.sm).symm.left, t1, fun b G2 e2 t2 hb => ?_⟩
        have k2 := k1.come e2 t2
        obtain rfl : b = true := hb.mpr ⟨fun d => Iff.rfl, fun k => own_parts⟩
        refine ⟨_, _, rfl, rfl, _, rfl, iteF ?_⟩
        clear kk k1 e1 t1 e2 t2 hb o
        -- a stranger's deed
        obtain ⟨hu, hnm, hdd, hsg, pr⟩ := id hk8
        obtain ⟨hu', hnm', hdd', hsg', pr'⟩ := id hk8'
        have al : as.length = ds.length := by rw [paired_len pr, is.rows]
        have al' : as'.length = ds'.length := by rw [paired_len pr', is'.rows]
        have dm := is.dmost
        have dm' := is'.dmost
        have ds1' := is'.dsome
        refine ⟨_, rfl, u, _, 1, .ref dd, rfl, rfl, .inl (.inl (k2.sm _ _ hu)), atI_nat (j := 1) rfl, dd, _, rfl, .inl (k2.sm _ _ hdd), fun L nL => ?_⟩
        rw [keys_dkv (by rw [List.length_map, al])]
        refine ⟨L, ds, rfl, .inl (.inl upd_same), by omega, fun fz G3 m3 mz nz => ?_⟩
        have k3 := (k2.grow (Sm.new nL)).grow m3
        refine ⟨_, rfl, u', _, 1, .ref dd', rfl, rfl, .inl (.inl (k3.sm _ _ hu')), atI_nat (j := 1) rfl, dd', _, rfl, .inl (k3.sm _ _ hdd'), fun dq nq => ⟨_, _, rfl, ?_⟩⟩
        have k4 := k3.grow (Sm.new (o := .dK (dkv ds' (as'.map V.ref))) nq)
        have eq4 : upd G3 dq (.dK (dkv ds' (as'.map V.ref))) dq = some (.dK (dkv ds' (as'.map V.ref))) := upd_same
        have Bdq := none_of_sm k3.sm nq
        generalize upd G3 dq (.dK (dkv ds' (as'.map V.ref))) = G4 at k4 eq4 ⊢
        clear k3 k2 m3 nL nq
        have dqp : dq ≠ p := src_ne k4.src eq4 fun _ _ z => nomatch z
        -- one deed goes
        refine ⟨_, rfl, dq, rfl, .inl ⟨_, .inl eq4⟩, _, rfl, _, rfl, dq, _, rfl, .inl eq4, fun T nT => ?_⟩
        rw [keys_dkv (by rw [List.length_map, al'])]
        refine ⟨p, _, rfl, k4.src.new nT, .inl ⟨T, _, rfl, k4.src.ne nT, .inl (.inl upd_same), by rw [List.length_map]; omega, by rw [List.length_map]; omega, fun ki v G5 ev sx5 src5 fr5 => ?_⟩⟩
        obtain ⟨d, hd, rfl⟩ := str_at ev
        have k5 := (k4.grow (Sm.new nT)).drawn sx5 src5
        have eq5 := sx5 _ _ dqp (Sm.new nT _ _ eq4)
        clear k4 eq4 ev fr5 sx5 src5 nT
        have two3 := two
        obtain ⟨d1, d2, a1, ad, a2, b1t, td, b2t, rfl, rfl, rfl, la1, la2, p1, pd, p2⟩ := pair_split pr' al' hd
        have nd' := is'.dnd
        have dn1 : d ∉ d1 := fun z => (List.nodup_append.mp nd').2.2 d z d List.mem_cons_self rfl
        have dn2 : d ∉ d2 := (List.nodup_cons.mp (List.nodup_append.mp nd').2.1).1
        have nz' : fz ∉ d1 ++ d :: d2 := fun z => nz ((same fz).mpr z)
        have nz2 : fz ∉ d1 ++ d2 := fun z => nz' (by
          rcases List.mem_append.mp z with z | z
          · exact List.mem_append.mpr (.inl z)
          · exact List.mem_append.mpr (.inr (List.mem_cons_of_mem _ z)))
        have lb1 : b1t.length = d1.length := by rw [← paired_len p1, la1]
        rw [List.map_append, List.map_cons] at eq5
        refine ⟨_, .inr d, .ref ad, eq5, rfl, valV_mid (by rw [List.length_map, la1]) dn1, ?_⟩
        rw [dropK_mid (by rw [List.length_map, la1]) (by rw [List.length_map, la2]) nd', ← List.map_append]
        have l12 : ((a1 ++ a2).map V.ref).length = (d1 ++ d2).length := by rw [List.length_map, List.length_append, List.length_append, la1, la2]
        have k6 := k5.setD (o := .dK (dkv (d1 ++ d2) ((a1 ++ a2).map V.ref))) eq5 Bdq
        have eq6 : upd G5 dq (.dK (dkv (d1 ++ d2) ((a1 ++ a2).map V.ref))) dq = some (.dK (dkv (d1 ++ d2) ((a1 ++ a2).map V.ref))) := upd_same
        generalize upd G5 dq (.dK (dkv (d1 ++ d2) ((a1 ++ a2).map V.ref))) = G6 at k6 eq6 ⊢
        clear k5 eq5
        have d12 : (d1 ++ d2).length ≤ 3 := by
          simp only [List.length_append, List.length_cons] at dm' ⊢
          omega
        refine ⟨_, rfl, _, rfl, dq, _, rfl, DPut.k (k := .inr fz) eq6 (by rw [dkv_len l12, sizeLine_eq]; omega), ?_⟩
        rw [put_last l12 nz2, show (a1 ++ a2).map V.ref ++ [V.ref ad] = ((a1 ++ a2) ++ [ad]).map V.ref by rw [List.map_append (l₁ := a1 ++ a2)]; rfl]
        have k7 := k6.setD (o := .dK (dkv ((d1 ++ d2) ++ [fz]) (((a1 ++ a2) ++ [ad]).map V.ref))) eq6 Bdq
        have eq7 : upd G6 dq (.dK (dkv ((d1 ++ d2) ++ [fz]) (((a1 ++ a2) ++ [ad]).map V.ref))) dq = some (.dK (dkv ((d1 ++ d2) ++ [fz]) (((a1 ++ a2) ++ [ad]).map V.ref))) := upd_same
        generalize upd G6 dq (.dK (dkv ((d1 ++ d2) ++ [fz]) (((a1 ++ a2) ++ [ad]).map V.ref))) = G7 at k7 eq7 ⊢
        clear k6 eq6
        have l3 : (((a1 ++ a2) ++ [ad]).map V.ref).length = ((d1 ++ d2) ++ [fz]).length := by
          simp only [List.length_map, List.length_append, List.length_singleton] at l12 ⊢
          omega
        refine ⟨_, rfl, dq, _, rfl, eq7, _, _, rfl, rfl, _, rfl, ?_⟩
        rw [dkv_len l3]
        refine and_both (fun σ' G' => ∃ (ds2 : List Str) (as2 : List Addr) (tb2 : List (List Str)), σ' = [some (.ref a), some (.int (0 + ((i : Nat) : Int))), some (.ref p), some (.int (0 + ((j : Nat) : Int))), some (.ref u), some (.int ((kd : Nat) : Int)), some (.ref u'), some (.ref x), some (.ref y), v9, v10, some (.str fz), some (.ref dq), v13, v14, v15, v16] ∧ Kp B2 G' Pt p ∧ G' dq = some (.dK (dkv ds2 (as2.map V.ref))) ∧
          Paired (fun a vs => B2 a = some (.dK (dkv ws' (vs.map V.str)))) as2 tb2 ∧ DkIs 9 ws' ds2 tb2 ls' ∧ ¬ ∀ d, d ∈ ds ↔ d ∈ ds2) ?rest4 (fun c use => ?more) (fun _ => ⟨_, _, _, rfl, k7, eq7, pair_app (pair_app p1 p2) (.cons pd .nil), is'.swap (menu_word fz mz) nz' lb1, fun z => nz ((z fz).mpr (by simp))⟩)
        case more =>
          have c1 : 1 ≤ (d1 ++ d2).length := by
            have := of_decide_eq_true c
            simp only [List.length_append, List.length_singleton] at this ⊢
            omega
          refine ⟨_, rfl, p, 2, rfl, k7.src, by decide, by decide, fun kb G8 hkb sx8 src8 fr8 => ⟨rfl, _, rfl, ?_⟩⟩
          have k8 := k7.drawn sx8 src8
          have eq8 := sx8 _ _ dqp eq7
          cases decide (V.int ((kb : Nat) : Int) = V.int 0) with
          | true =>
            rw [List.map_append (l₁ := a1 ++ a2)] at eq8
            have eq8 : G8 dq = some (.dK (dkv ((d1 ++ d2) ++ fz :: []) ((a1 ++ a2).map V.ref ++ V.ref ad :: []))) := eq8
            refine iteT ⟨_, rfl, dq, rfl, .inl ⟨_, .inl eq8⟩, _, rfl, _, .inr fz, .ref ad, eq8, rfl, valV_mid l12 nz2, ?_⟩
            rw [dropK_mid l12 rfl (is'.swap (t := td) (menu_word fz mz) nz' lb1).dnd, List.append_nil, List.append_nil]
            refine use _ _ ⟨d1 ++ d2, a1 ++ a2, b1t ++ b2t, rfl, k8.setD eq8 Bdq, upd_same, pair_app p1 p2, is'.gone lb1 c1, fun z => ?_⟩
            rcases List.mem_append.mp ((z d).mp ((same d).mpr hd)) with z | z
            · exact dn1 z
            · exact dn2 z
          | false =>
            exact iteF (use _ _ ⟨_, _, _, rfl, k8, eq8, pair_app (pair_app p1 p2) (.cons pd .nil), is'.swap (menu_word fz mz) nz' lb1, fun z => nz ((z fz).mpr (by simp))⟩)
        case rest4 =>
        rintro σ' G8 ⟨ds2, as2, tb2, rfl, k8, eq8, pr2, is2, ns2⟩
        clear k7 eq7
        -- the desk that is made of them
        refine ⟨_, rfl, u', _, 0, .ref nm', rfl, rfl, .inl (.inl (k8.sm _ _ hu')), atI_nat (j := 0) rfl, _, rfl, _, rfl, u', _, 2, .ref sg', rfl, rfl, .inl (.inl (k8.sm _ _ hu')), atI_nat (j := 2) rfl, sz _ (by show 3 ≤ 1000; decide), fun tu ntu => ?_⟩
        have m9 := Sm.new (o := .tup [.ref nm', .ref dq, .ref sg']) ntu
        have k9 := k8.grow m9
        refine ⟨tu, nm', dq, sg', ws', ds2, as2, tb2, ls', 9, rfl, ⟨upd_same, k9.sm _ _ hnm', m9 _ _ eq8, k9.sm _ _ hsg', pair_mono pr2 fun a _ vs e => k9.sm _ _ e⟩, is2, by decide, fun zl G10 sm10 nzl obz => ?_⟩
        have k10 := k9.grow sm10
        have eq10 := sm10 _ _ (m9 _ _ eq8)
        have al2 : as2.length = ds2.length := by rw [paired_len pr2, is2.rows]
        clear k8 k9 eq8 m9 sm10 nzl ntu
        -- the two pairs
        refine ⟨_, rfl, _, rfl, _, rfl, dq, _, rfl, eq10, fun T1 nT1 => ?_⟩
        rw [keys_dkv (by rw [List.length_map, al2])]
        have eT1 : upd G10 T1 (.tup (ds2.map V.str)) T1 = some (.tup (ds2.map V.str)) := upd_same
        have m11 := Sm.new (o := .tup (ds2.map V.str)) nT1
        have k11 := k10.grow m11
        have obz := obz.sm m11
        generalize upd G10 T1 (.tup (ds2.map V.str)) = G11 at eT1 k11 obz ⊢
        clear m11 nT1 k10 eq10
        refine ⟨sz _ (by show 3 ≤ 1000; decide), fun P1 nP1 => ?_⟩
        have eP1 : upd G11 P1 (.tup [.ref x, .ref zl, .ref T1]) P1 = some (.tup [.ref x, .ref zl, .ref T1]) := upd_same
        have m12 := Sm.new (o := .tup [.ref x, .ref zl, .ref T1]) nP1
        have k12 := k11.grow m12
        have obz := obz.sm m12
        have eT1 := m12 _ _ eT1
        refine ⟨_, rfl, _, rfl, _, rfl, u, _, 1, .ref dd, rfl, rfl, .inl (.inl (k12.sm _ _ hu)), atI_nat (j := 1) rfl, dd, _, rfl, k12.sm _ _ hdd, fun T2 nT2 => ?_⟩
        rw [keys_dkv (by rw [List.length_map, al])]
        generalize upd G11 P1 (.tup [.ref x, .ref zl, .ref T1]) = G12 at eT1 eP1 k12 obz nT2 ⊢
        clear m12 nP1 k11
        have eT2 : upd G12 T2 (.tup (ds.map V.str)) T2 = some (.tup (ds.map V.str)) := upd_same
        have m13 := Sm.new (o := .tup (ds.map V.str)) nT2
        have k13 := k12.grow m13
        have obz := obz.sm m13
        have eT1 := m13 _ _ eT1
        have eP1 := m13 _ _ eP1
        generalize upd G12 T2 (.tup (ds.map V.str)) = G13 at eT1 eP1 eT2 k13 obz ⊢
        clear m13 nT2 k12
        refine ⟨sz _ (by show 3 ≤ 1000; decide), fun P2 nP2 => ⟨sz _ (by show 2 ≤ 1000; decide), fun M nM => ?_⟩⟩
        have eP2 : upd G13 P2 (.tup [.ref zl, .ref x, .ref T2]) P2 = some (.tup [.ref zl, .ref x, .ref T2]) := upd_same
        have m14 := Sm.new (o := .tup [.ref zl, .ref x, .ref T2]) nP2
        generalize upd G13 P2 (.tup [.ref zl, .ref x, .ref T2]) = G14 at eP2 m14 nM ⊢
        have m15 := Sm.new (o := .lst [.ref P1, .ref P2]) nM
        have eM : upd G14 M (.lst [.ref P1, .ref P2]) M = some (.lst [.ref P1, .ref P2]) := upd_same
        have m16 := m14.trans m15
        have k16 := k13.grow m16
        have obz := obz.sm m16
        have eT1 := m16 _ _ eT1
        have eP1 := m16 _ _ eP1
        have eT2 := m16 _ _ eT2
        have eP2 := m15 _ _ eP2
        generalize upd G14 M (.lst [.ref P1, .ref P2]) = G16 at eT1 eP1 eT2 eP2 eM k16 obz ⊢
        clear m14 m15 m16 nM nP2 k13
        have obz := obz.cl k16.src
        have eT1 := cl_src k16.src eT1 (fun _ _ z => nomatch z) fun _ z => nomatch z
        have eT2 := cl_src k16.src eT2 (fun _ _ z => nomatch z) fun _ z => nomatch z
        have eP1 := cl_src k16.src eP1 (fun _ _ z => nomatch z) fun _ z => nomatch z
        have eP2 := cl_src k16.src eP2 (fun _ _ z => nomatch z) fun _ z => nomatch z
        have eM := cl_src k16.src eM (fun _ _ z => nomatch z) fun _ z => nomatch z
        have b3 := k16.le
        have k17 := k16.cl
        generalize cl p G16 = B3 at obz eT1 eT2 eP1 eP2 eM b3 k17
        clear k16
        have ox3 := two.ob.sm b3
        have g1 : PairR K C B3 P1 := ⟨x, zl, T1, ws, ds, tb, ls, ws', ds2, tb2, ls', z0, y0, eP1, ⟨ox3, is, obz, is2, two.z, two.y⟩, ns2, eT1⟩
        have g2 : PairR K C B3 P2 := ⟨zl, x, T2, ws', ds2, tb2, ls', ws, ds, tb, ls, y0, z0, eP2, ⟨obz, is2, ox3, is, two.y, two.z⟩, fun h => ns2 fun d => (h d).symm, eT2⟩
        refine ⟨M, rfl, ⟨_, .inl (.inl (k17.sm _ _ eM))⟩, ?_⟩
        refine for_it (walk_list (xs := [V.ref P1, V.ref P2])) (fun l σ G => ∃ v14 v15 v16 : Option V, σ = [some (.ref a), some (.int (0 + ((i : Nat) : Int))), some (.ref p), some (.int (0 + ((j : Nat) : Int))), some (.ref u), some (.int ((kd : Nat) : Int)), some (.ref u'), some (.ref x), some (.ref y), v9, v10, some (.str fz), some (.ref dq), some (.ref zl), v14, v15, v16] ∧ Kp B3 G Pt p)
          ⟨v14, v15, v16, rfl, k17⟩ (fun l σ G _ ⟨_, _, _, _, h⟩ => .inl (.inl (h.sm _ _ eM))) (fun l v σ G G' hl p yy => ?_) (fun σ G p => ?_)
        · obtain ⟨v14, v15, v16, rfl, kk⟩ := p
          obtain ⟨rfl, ex⟩ := yy
          obtain ⟨t, ht, rfl⟩ : ∃ t, PairR K C B3 t ∧ v = .ref t := match l, ex with
            | 0, ex => ⟨P1, g1, (Option.some.inj ex).symm⟩
            | 1, ex => ⟨P2, g2, (Option.some.inj ex).symm⟩
            | n + 2, ex => nomatch ex
          obtain ⟨X, Y, T, wa, da, ta, la, wb, db, tq, lb, za, yb, et, tw, no, eT⟩ := ht
          refine ⟨t, _, rfl, .inl (.inl (kk.sm _ _ et)), rfl, _, _, rfl, _, _, rfl, _, _, rfl, rfl, ?_⟩
          refine ⟨_, rfl, _, rfl, X, Y, wa, da, ta, la, wb, db, tq, lb, za, yb, rfl, tw.sm kk.sm, kk.tabs, no, fun r t2 G2 m2 nr er et2 => ⟨_, rfl, sz _ (by show 2 ≤ 1000; decide), fun q nq => ?_⟩⟩
          have mq := Sm.new (o := .tup [.str "deeds", .ref T]) nq
          have k2 := (kk.grow m2).grow mq
          refine ⟨.tuple [.str "deeds", .tuple (db.map PyData.str)], .tuple [.str "deeds", .tuple (db.map PyData.str)], .tup (.inl (.inl (mq _ _ er))) (.cons (.str _) (.cons (.tup (.inl (.inl (mq _ _ et2))) (dp_strs db)) .nil)), .tup (.inl (.inl upd_same)) (.cons (.str _) (.cons (.tup (.inl (.inl (k2.sm _ _ eT))) (dp_strs db)) .nil)), shaped_ret tw.is'.dword, shaped_ret tw.is'.dword, _, rfl, ?_⟩
          rw [eqv_ret]
          refine iteF ⟨_, rfl, _, rfl, X, Y, wa, da, ta, la, wb, db, tq, lb, za, yb, rfl, tw.sm k2.sm, k2.tabs, fun b G4 e4 t4 hb => ?_⟩
          obtain rfl : b = false := by
            cases b with
            | false => rfl
            | true => exact absurd (hb.mp rfl).1 no
          exact ⟨_, _, rfl, rfl, _, rfl, iteF ⟨_, _, _, rfl, k2.come e4 t4⟩⟩
        · obtain ⟨v14, v15, v16, rfl, kk⟩ := p
          -- the desks as they were
          obtain ⟨dx, _, _, _, _, hx, _⟩ := id ox3
          have oy3 := two.ob'.sm b3
          obtain ⟨dy, _, _, _, _, hy, _⟩ := id oy3
          refine ⟨_, rfl, _, rfl, u, nm, dd, sg, ws, ds, as, tb, ls, 9, rfl, (hk8.sm b3).sm kk.sm, is, by decide, fun x3 G10 sm10 nx3 ob3 => ?_⟩
          obtain ⟨dx3, _, _, _, _, hx3, _⟩ := id ob3
          have k10 := kk.grow sm10
          refine ⟨x, dx, _, rfl, k10.sm _ _ hx, .own hx3, x, .ref x3, ws, ds, tb, ls, 9, rfl, ox3.sm k10.sm, is, .inl ⟨x3, ws, ds, tb, ls, 9, rfl, ob3, is, fun G11 sm11 => ⟨_, rfl, _, rfl, ?_⟩⟩⟩
          rw [decide_eq_true ⟨rfl, rfl, rfl, rfl⟩]
          have k11 := k10.grow sm11
          refine iteF ⟨_, rfl, _, rfl, u', nm', dd', sg', ws', _, _, _, ls', 9, rfl, (hk8'.sm b3).sm k11.sm, is', by decide, fun x4 G12 sm12 nx4 ob4 => ?_⟩
          obtain ⟨dx4, _, _, _, _, hx4, _⟩ := id ob4
          have k12 := k11.grow sm12
          refine ⟨y, dy, _, rfl, k12.sm _ _ hy, .own hx4, y, .ref x4, ws', _, _, ls', 9, rfl, oy3.sm k12.sm, is', .inl ⟨x4, ws', _, _, ls', 9, rfl, ob4, is', fun G13 sm13 => ⟨_, rfl, _, rfl, ?_⟩⟩⟩
          rw [decide_eq_true ⟨rfl, rfl, rfl, rfl⟩]
          have k13 := k12.grow sm13
          exact iteF ⟨_, _, _, _, _, _, _, _, _, _, _, _, _, _, rfl, ⟨Sm.trans b02 (Sm.trans b3 k13.sm), k13.tabs, k13.src, k0.bp, k0.nt⟩⟩
    · rintro σ G ⟨v3, v4, v5, v6, v7, v8, v9, v10, v11, v12, v13, v14, v15, v16, rfl, k0⟩
      exact ⟨_, _, _, _, _, _, _, _, _, _, _, _, _, _, _, _, rfl, SqL.sm aS k0.sm, k0.tabs⟩
  · rintro σ G ⟨v1, v2, v3, v4, v5, v6, v7, v8, v9, v10, v11, v12, v13, v14, v15, v16, rfl, _⟩
    exact q G
end
end Dk
set_option Elab.async false
set_option linter.all false
set_option maxRecDepth 100000
set_option maxHeartbeats 8000000
namespace Dk
open PySem PySem.Spec PyProof.Rows L2 Er LamX NdefX
/-! ### the law, called by the claim: the script may be kept, the table of come's code object is written -/
theorem okG_of {P : Program} {w : World} {K : PySem.W.Frag} {mg : Str → Option Value} {base : Heap} {CX : CXT} {k : Nat} {f : Addr} {fd : FuncData} {ps : List Str} {sp : Sp} (F : FnOk P w K mg base CX k f fd ps sp) : FnOkG P w K mg base CX k f fd ps sp :=
  ⟨F.len, fun A outer s H args us vs Q E _ => F.run A outer s H args us vs Q E⟩
section
variable {P : Program} {w : World} {K : PySem.W.Frag} {mg mb : Str → Option Value} {f cC Pt a : Addr} {fd : FuncData} {s₁ : Shared} {vs : List Value} {ns : List Int}
theorem top_callT (F : ∀ base : Heap, K.In base → base.Ns mainGlobals mg → TabB base mg cC Pt → FnOkG P w K mg base CX0 8 f fd ["_law_script"] (spLaw K Pt)) (bind : ∀ (s : Shared) (u : Value), BindsTo s fd ⟨[u], []⟩ [("_law_script", u)])
    (inK : K.In s₁.heap) (glob : s₁.heap.Ns mainGlobals mg) (blt : s₁.heap.Ns builtinsNs mb) (blt2 : ∀ x : Str, x ≠ "__name__" → mb x = bootBuiltins x) (lim : s₁.heap.NoLimit) (gens : s₁.gens = #[])
    (mod : ∃ (bm : Addr) (om : Obj), mg "__builtins__" = some (.ref bm) ∧ bm ≠ builtinsNs ∧ s₁.heap.get? bm = some om ∧ om.cls = .type "module" ∧ om.dict = some builtinsNs ∧ om.data = .plain)
    (tab : s₁.heap.get? Pt = some (PySem.W.tabObj #[])) (tabK : K.lookup Pt = none) (chd : PySem.W.CodeHd s₁.heap cC Pt)
    (at_ : s₁.heap.get? a = some { cls := .type "list", data := .seq vs.toArray }) (ar : IntsAre vs ns) (few : ns.length ≤ 63) (bits : ∀ z ∈ ns, Builtin.Int.intBits z ≤ 1048576) :
    codeAny (model P w) callerA (.call (.ref f) ⟨[.ref a], []⟩) (fun r s' => r = .ok (.ret (.bool true)) ∧ OldK s₁.heap s'.heap ∧ s'.os = s₁.os ∧ AllBare s'.gens) s₁ := by
  have rel := vals_ints ar
  have lenV := ar.length
  have small : ns.length ≤ sizeLine := by
    rw [sizeLine_eq]
    omega
  have aPt : a ≠ Pt := fun z => by
    rw [z, tab] at at_
    cases at_
  have main : ∀ H : Hp, H Pt = some (.tbl #[]) → (∀ b, b ≠ Pt → H b = none ∨ (b = a ∧ ∃ ob xs, H b = some (.frz ob (.lst xs)))) → SqL K H a (ns.map V.int) → HOk P w H s₁.heap → (H a ≠ none → K.lookup a = none) →
      codeAny (model P w) callerA (.call (.ref f) ⟨[.ref a], []⟩) (fun r s' => r = .ok (.ret (.bool true)) ∧ OldK s₁.heap s'.heap ∧ s'.os = s₁.os ∧ AllBare s'.gens) s₁ := by
    intro H hT only sq hok notK
    -- what is neither the script nor the table stands below, too
    have away : ∀ {b : Addr}, b ≠ a → b ≠ Pt → H b = none := fun {b} n1 n2 => by
      rcases only b n2 with z | ⟨z, _⟩
      · exact z
      · exact absurd z n1
    have apart : ∀ {b : Addr} {o : Obj}, s₁.heap.get? b = some o → (∀ us n, o.data ≠ .seq us n) → (∀ us, o.data ≠ .fields us) → H b = none := fun {b o} e n1 n2 => away
      (fun z => by
        rw [z, at_] at e
        cases e
        exact n1 _ _ rfl)
      (fun z => by
        rw [z, tab] at e
        cases e
        exact n2 _ rfl)
    have nsOf : ∀ {b : Addr} {m : Str → Option Value}, s₁.heap.Ns b m → (hidT s₁.heap H).Ns b m := fun {b m} z => by
      obtain ⟨o, es, ep, e, d, r⟩ := z
      exact ⟨o, es, ep, hidT_get e (apart e (fun us n y => by rw [d] at y; cases y) (fun us y => by rw [d] at y; cases y)), d, r⟩
    have inB : K.In (hidT s₁.heap H) := fun b o e => by
      refine hidT_get (inK b o e) ?_
      by_cases c : b = Pt
      · rw [c, tabK] at e
        cases e
      · rcases only b c with z | ⟨z, ob, xs, y⟩
        · exact z
        · rw [z] at e y
          rw [notK (by rw [y]; simp)] at e
          cases e
    have modOk : Mod K mg (hidT s₁.heap H) := ⟨inB, nsOf glob, ⟨mb, nsOf blt, blt2⟩, by
      obtain ⟨mc, z1, z2⟩ := lim
      exact ⟨mc, nsOf z1, z2⟩⟩
    have tabB : TabB (hidT s₁.heap H) mg cC Pt := by
      refine ⟨?_, ?_, fun z => ?_⟩
      · obtain ⟨o, us, q1, q2, q3, q4, q5, q6, q7, e1, e2, e3, rest⟩ := chd
        have cPt : cC ≠ Pt := rest.2.2.2.2.2.2
        refine ⟨o, us, q1, q2, q3, q4, q5, q6, q7, hidT_get e1 (away (fun z => ?_) cPt), e2, e3, rest⟩
        rw [z, at_] at e1
        cases e1
        cases e3
      · obtain ⟨bm, om, m1, m2, m3, m4, m5, m6⟩ := mod
        have free : H bm = none := apart m3 (fun us n y => by rw [m6] at y; cases y) (fun us y => by rw [m6] at y; cases y)
        refine ⟨bm, om, m1, m2, fun z => ?_, fun z => ?_, hidT_get m3 free, m4, m5, m6⟩
        · obtain ⟨o, es, ep, e, d, _⟩ := glob
          rw [z, e] at m3
          cases m3
          rw [d] at m6
          cases m6
        · rw [z, tab] at m3
          cases m3
          cases m6
      · obtain ⟨o, es, ep, e, d, _⟩ := glob
        rw [z, tab] at e
        cases e
        cases d
    have e0 : Env0 P w K mg (hidT s₁.heap H) callerA [] s₁ H :=
      ⟨rfl, modOk, fun b o e => of_hidT e, Nat.le_of_eq (hidT_size _ _), trivial, fun b z => absurd (show b ∈ ([] : List Addr) from z) (by simp), hok, .of_eq gens⟩
    have tabs : TabsN (partT Pt) H := fun p hp => by
      rw [List.mem_singleton.mp hp]
      exact TabN.nil hT
    refine codeAny_mono ((F _ inB (nsOf glob) tabB).run callerA [] s₁ H ⟨[.ref a], []⟩ [.ref a] [.ref a] (fun v _ => v = .bl true) (fun _ _ _ => False) rfl ⟨rfl, by decide, by decide⟩ e0 (bind s₁ (.ref a)) (.cons rfl .nil) ⟨a, ns, rfl, sq, few, bits, tabs, fun _ => rfl⟩) fun r s' z => ?_
    cases r with
    | error e => exact z.elim
    | ok fl =>
      cases fl with
      | next => exact z.elim
      | brk => exact z.elim
      | cont => exact z.elim
      | ret u =>
        obtain ⟨v, H', eos, bare, un, hok', rv, ev⟩ := z
        have ev2 : v = .bl true := ev
        subst ev2
        obtain rfl : u = Value.bool true := rv
        obtain ⟨more, hm⟩ := un.tbls Pt #[] hT
        have now : s'.heap.get? Pt = some (PySem.W.tabObj (#[] ++ more)) := hok' Pt _ hm
        have stay : ∀ b o, b ≠ Pt → s₁.heap.get? b = some o → s'.heap.get? b = some o := fun b o n e => by
          rcases only b n with c | ⟨_, ob, xs, c⟩
          · exact un.keep b o e c (fun z2 => absurd (show b ∈ ([] : List Addr) from z2) (by simp)) (by simp)
          · obtain ⟨x1, _⟩ := hok b _ c
            obtain ⟨x2, _⟩ := hok' b _ (un.frzs b ob _ c)
            rw [e] at x1
            cases x1
            exact x2
        refine ⟨rfl, ⟨fun b o e => ?_, fun b o e => ?_⟩, eos, bare⟩
        · by_cases c : b = Pt
          · subst c
            rw [tab] at e
            cases e
            exact .inr (.inl ⟨(chd.tab tab).isCodeTable, rfl, #[], more, rfl, now⟩)
          · exact .inl (stay b o c e)
        · by_cases c : b = Pt
          · subst c
            exact ⟨_, now⟩
          · exact ⟨o, stay b o c e⟩
  cases known : K.lookup a with
  | some o =>
    have e := inK a o known
    rw [at_] at e
    cases e
    refine main (fun b => if b = Pt then some (.tbl #[]) else none) (if_pos rfl) (fun b n => .inl (if_neg n)) (.inr ⟨_, vs.toArray, _, known, rfl, rfl, rfl, ?_, by simpa using rel⟩) (fun b u z => ?_) fun z => absurd (if_neg aPt) z
    · rw [List.size_toArray, lenV]
      exact small
    · by_cases c : b = Pt
      · have z2 := (if_pos c).symm.trans z
        cases z2
        subst c
        exact tab
      · have z2 := (if_neg c).symm.trans z
        cases z2
  | none =>
    refine main (fun b => if b = Pt then some (.tbl #[]) else if b = a then some (.frz { cls := .type "list", data := .seq vs.toArray } (.lst (ns.map V.int))) else none) (if_pos rfl) (fun b n => ?_)
      (.inl (.inr ⟨{ cls := .type "list", data := .seq vs.toArray }, (if_neg aPt).trans (if_pos rfl)⟩)) (fun b u z => ?_) fun _ => known
    · by_cases c : b = a
      · exact .inr ⟨c, _, _, (if_neg n).trans (if_pos c)⟩
      · exact .inl ((if_neg n).trans (if_neg c))
    · by_cases c : b = Pt
      · have z2 := (if_pos c).symm.trans z
        cases z2
        subst c
        exact tab
      · have z1 := (if_neg c).symm.trans z
        by_cases c2 : b = a
        · have z2 := (if_pos c2).symm.trans z1
          cases z2
          subst c2
          exact ⟨at_, by rw [List.length_map]; exact small, vs, _, rel, at_⟩
        · have z2 := (if_neg c2).symm.trans z1
          cases z2
end
end Dk
set_option Elab.async false
set_option linter.all false
set_option maxRecDepth 100000
set_option maxHeartbeats 0
namespace Hn
open PySem PySem.Spec PyProof.Rows L2 Er Dk
open PySem.ErK (EC tA tB tS)
/-! ### what is looked at behind the top of k06 -/
def oxB (K : PySem.W.Frag) (C : Addr) : Bool := match K.lookup C with
  | some ⟨.type "type", _, .cls cd, sl⟩ => (match cd.mro, sl.toList with
    | .ref C' :: bm, [_, _, _, _, some (.builtin n), _] => C' == C && n == "ValueError.__new__" && !cd.hasDel && cd.hasDict && PySem.HandSPX.refsVE bm
    | _, _ => false)
  | _ => false
def eqB (a b : Option (Option Value)) : Bool := decide (a = b)
def xcB (K : PySem.W.Frag) (C : Addr) : Bool :=
  eqB (PySem.W.findIn K (.ref C) "__class__") (some (some (.builtin "object.__class__"))) && decide (PySem.W.mroIn K C (.type "object") = some true)
def ecB (K : PySem.W.Frag) (x f : Str) : Bool :=
  oxB K (He.ga K x) && (eqB (PySem.W.findIn K (.ref (He.ga K x)) "__setattr__") (some (some (.builtin "object.__setattr__"))) && (decide (PySem.W.typeIn K (.ref (He.ga K x)) = some (.type "type")) && (PySem.W.keepIn K (.ref (He.ga K x)) &&
    (eqB (PySem.W.findIn K (.ref (He.ga K x)) f) (some none) && (eqB (PySem.W.findIn K (.ref (He.ga K x)) "__init__") (some (some (.ref (He.ma K (He.ga K x) "__init__")))) &&
      (decide (PySem.W.typeIn K (.ref (He.ma K (He.ga K x) "__init__")) = some (.type "function")) && (xfB K (He.ga K x) && xcB K (He.ga K x))))))))
/-- a property's getter -/
def gAt (K : PySem.W.Frag) (x : Str) : Addr := match PySem.W.recIn K (He.ma K (He.ga K "Desk") x) "property" with
  | some (.ref g :: _) => g
  | _ => 0
def fnA (K : PySem.W.Frag) (a : Addr) : He.FnW := match K.lookup a with
  | some ⟨_, _, .func fd, _⟩ => some (fd.name, fd.qualname, fd.params, fd.body, fd.scope, fd.globals, fd.closure, fd.builtins)
  | _ => none
def okA (K : PySem.W.Frag) (a : Addr) (qual : Str) : Bool := PySem.W.keepIn K (.ref a) && (match K.lookup a with
  | some ⟨_, _, .func fd, _⟩ => PySem.W.codeIn K fd.code qual && He.dflB K fd.defaults []
  | _ => false)
def prB (K : PySem.W.Frag) (x : Str) : Bool :=
  eqB (PySem.W.findIn K (.ref (He.ga K "Desk")) x) (some (some (.ref (He.ma K (He.ga K "Desk") x)))) && (eqB (PySem.W.specialIn K (.ref (He.ma K (He.ga K "Desk") x)) "__get__") (some (some (.builtin "property.__get__"))) &&
    (decide (PySem.W.takesIn K (.ref (He.ma K (He.ga K "Desk") x)) = some true) && ((match PySem.W.recIn K (He.ma K (He.ga K "Desk") x) "property" with
      | some (.ref _ :: _) => true
      | _ => false) && okA K (gAt K x) ("Desk." ++ x))))
def dkB (K : PySem.W.Frag) : Bool :=
  eqB (PySem.W.findIn K (.ref (He.ga K "Desk")) "__class__") (some (some (.builtin "object.__class__"))) && (decide (PySem.W.mroIn K (He.ga K "Desk") (.type "object") = some true) &&
    (decide (PySem.W.kitOne K (.ref (He.ga K "Desk")) (.ref (He.ga K "Desk")) = some true) && (["NoneType", "int", "str", "list", "tuple", "dict", "bool"].all (fun t => decide (PySem.W.kitOne K (.type t) (.ref (He.ga K "Desk")) = some false) && PySem.W.notFirst K (He.ga K "Desk") (.type t)) &&
      (eqB (PySem.W.findIn K (.ref (He.ga K "Desk")) "__eq__") (some (some (.ref (He.ma K (He.ga K "Desk") "__eq__")))) && (PySem.W.isFn K (.ref (He.ma K (He.ga K "Desk") "__eq__")) && eqB (PySem.W.findIn K (.ref (He.ga K "Desk")) "__ne__") (some (some (.builtin "object.__ne__"))))))))
def isD : Option Obj → Bool
  | some ⟨_, _, .dict _ _, _⟩ => true
  | _ => false
def myB (K : PySem.W.Frag) : Bool := ecB K "BadDeeds" "value" && (dkB K && ((prB K "standings" && (prB K "deeds" && prB K "start")) && isD (K.lookup sysModules)))
abbrev Fn3 : Type := He.FnW × (He.FnW × He.FnW)
def getS (K : PySem.W.Frag) : Fn3 := (fnA K (gAt K "standings"), fnA K (gAt K "deeds"), fnA K (gAt K "start"))
def getSV : Fn3 := (some ("standings", "Desk.standings", defArgs (meth 1), .stmts (defBody (meth 1)), defScope (meth 1), mainGlobals, [], builtinsNs), some ("deeds", "Desk.deeds", defArgs (meth 2), .stmts (defBody (meth 2)), defScope (meth 2), mainGlobals, [], builtinsNs), some ("start", "Desk.start", defArgs (meth 3), .stmts (defBody (meth 3)), defScope (meth 3), mainGlobals, [], builtinsNs))
/-- parting's code object, the table of it -/
def cO (K : PySem.W.Frag) : Addr := He.codeOf K ("parting", none)
def tO (K : PySem.W.Frag) : Addr := He.tabOf K (cO K)
def tabH (g : Addr → Option Obj) (K : PySem.W.Frag) : Bool := PySem.W.codeHdIn K (cO K) (tO K) && (match g (tO K) with
  | some o => He.emptyTab o
  | none => false)
/-- the part of the heap that is looked at: no empty table stands in it -/
def frS (n : Nat) (g : Addr → Option Obj) : PySem.W.Frag := He.frT g (sysModules :: He.asD g n)
abbrev AlN : Type := He.AlD × (Bool × Fn3)
def dfn (x : Str) (st : Stmt) : He.DefD := ⟨(x, none), x, x, defArgs st, defBody st, defScope st, [], []⟩
def fn : List He.DefD := [
  dfn "is_name" (top 9), dfn "is_one_of" (top 10), dfn "are_different" (top 11), dfn "is_table" (top 12), dfn "spread" (top 13), dfn "shortest_row" (top 14), dfn "are_standings" (top 18), dfn "are_deeds" (top 19), dfn "is_lead" (top 20), dfn "are_sights" (top 21), dfn "desk_leads" (top 22), dfn "desk_moves" (top 23), dfn "desk_sights" (top 24), dfn "have_same_deeds" (top 26), dfn "parted_by" (top 27), dfn "desks_alike" (top 28), dfn "desks_parted" (top 29), dfn "_law_source" (top 31), dfn "_law_draw" (top 32), dfn "_law_pick" (top 33), dfn "_law_mixed" (top 34), dfn "_law_word" (top 35), dfn "_law_names" (top 36), dfn "_law_twins" (top 37), dfn "_law_leads" (top 38), dfn "_law_sights" (top 39), dfn "_law_desk" (top 40), dfn "_law_turned" (top 41), dfn "_law_made" (top 42), dfn "_law_lead" (top 43), dfn "_law_stranger" (top 44), dfn "_law_renamed" (top 45), dfn "_law_grown" (top 46), dfn "_law_bent" (top 47), dfn "_law_other" (top 48), dfn "_law_many" (top 49), dfn "_law_right" (top 50), dfn "_law_refused" (top 51), dfn "law" (top 52), dfn "parting" (top 15),
  ⟨("BadDeeds", some "__init__"), "__init__", "BadDeeds.__init__", defArgs (ini (top 4)), defBody (ini (top 4)), defScope (ini (top 4)), [], []⟩,
  ⟨("Desk", some "__init__"), "__init__", "Desk.__init__", defArgs (meth 0), defBody (meth 0), defScope (meth 0), [], []⟩,
  ⟨("Desk", some "sight"), "sight", "Desk.sight", defArgs (meth 5), defBody (meth 5), defScope (meth 5), [], []⟩,
  ⟨("Desk", some "__eq__"), "__eq__", "Desk.__eq__", defArgs (meth 7), defBody (meth 7), defScope (meth 7), [], []⟩]
def fa : List He.Fa := [
  .glo "is_name", .glo "is_one_of", .glo "are_different", .glo "is_table", .glo "spread", .glo "shortest_row", .glo "are_standings", .glo "are_deeds", .glo "is_lead", .glo "are_sights", .glo "desk_leads", .glo "desk_moves", .glo "desk_sights", .glo "have_same_deeds", .glo "parted_by", .glo "desks_alike", .glo "desks_parted", .glo "_law_source", .glo "_law_draw", .glo "_law_pick", .glo "_law_mixed", .glo "_law_word", .glo "_law_names", .glo "_law_twins", .glo "_law_leads", .glo "_law_sights", .glo "_law_desk", .glo "_law_turned", .glo "_law_made", .glo "_law_lead", .glo "_law_stranger", .glo "_law_renamed", .glo "_law_grown", .glo "_law_bent", .glo "_law_other", .glo "_law_many", .glo "_law_right", .glo "_law_refused", .glo "law", .glo "parting", .glo "DeskError", .glo "BadDeeds", .glo "Desk",
  .free "isinstance", .free "int", .free "str", .free "list", .free "tuple", .free "dict", .free "set", .free "sorted", .free "len", .free "all", .free "range", .free "max", .free "min", .free "enumerate", .free "zip",
  .cls "Desk", .noat "Desk" "_standings", .noat "Desk" "_leads", .noat "Desk" "_sights", .mkr "Desk", .meth "Desk" "sight",
  .exm "BadDeeds" "BadDeeds" true]
def names : List PySem.Str := (["_wall", "DeskError", "BadStandings", "BadDeeds", "BadSights", "BadStanding", "BadRow", "is_name", "is_one_of", "are_different", "is_table", "spread"] : List PySem.Str) ++ (["shortest_row", "parting", "Desk", "are_standings", "are_deeds", "is_lead", "are_sights", "desk_leads", "desk_moves", "desk_sights", "have_same_deeds", "parted_by"] : List PySem.Str) ++ (["desks_alike", "desks_parted", "_law_source", "_law_draw", "_law_pick", "_law_mixed", "_law_word", "_law_names", "_law_twins", "_law_leads", "_law_sights", "_law_desk"] : List PySem.Str) ++ (["_law_turned", "_law_made", "_law_lead", "_law_stranger", "_law_renamed", "_law_grown", "_law_bent", "_law_other", "_law_many", "_law_right", "_law_refused"] : List PySem.Str)
def obN (n : Nat) (g : Addr → Option Obj) : AlN := (He.obsD fa fn (frS n g), myB (frS n g) && tabH g (frS n g), getS (frS n g))
abbrev R : PySem.W.OpenRow := PySem.W.OpenLaw.row PySem.Challenge.rw_lateeditions_k06_desks_held_against_each
structure Told (h : Heap) (K : PySem.W.Frag) : Prop where
  d : He.SaysD fa fn K
  b : myB K = true
  g : getS K = getSV
  hd : PySem.W.codeHdIn K (cO K) (tO K) = true
  out : K.lookup (tO K) = none
  tab : h.get? (tO K) = some (PySem.W.tabObj #[])
theorem told_of {n : Nat} {h : Heap} (e : obN n h.get? = (He.valD fn, true, getSV)) : Told h (frS n h.get?) := by
  have e1 := congrArg (fun z : AlN => z.1) e
  have e2 := congrArg (fun z : AlN => z.2.1) e
  have e3 := congrArg (fun z : AlN => z.2.2) e
  obtain ⟨b1, b2⟩ := Bool.and_eq_true_iff.mp (show (myB (frS n h.get?) && tabH h.get? (frS n h.get?)) = true from e2)
  unfold tabH at b2
  obtain ⟨b3, b4⟩ := Bool.and_eq_true_iff.mp b2
  cases q : h.get? (tO (frS n h.get?)) with
  | none =>
    rw [q] at b4
    cases b4
  | some o =>
    rw [q] at b4
    exact ⟨e1, b1, e3, b3, He.frT_none q b4, by rw [q, He.emptyTab_eq b4]⟩
def hk : PySem.W.Hook where
  α := AlN
  obs := fun s => obN 5 s.heap.get?
  val := fun _ => (He.valD fn, true, getSV)
  says := fun _ h => ∃ K : PySem.W.Frag, K.In h ∧ Told h K
  of := fun _ _ e => ⟨_, He.frT_in, told_of e⟩
  keeps := fun _ _ _ ⟨K, hK, c⟩ k => ⟨K, PySem.W.Frag.In.keeps hK k, ⟨c.d, c.b, c.g, c.hd, c.out, k _ _ c.tab⟩⟩
def ob (s : PySem.W.SharedT) : AlN := obN 5 (HandSHeadRun.getT s)
theorem ob_eq (s : PySem.W.SharedT) : ob s = hk.obs s.abs := by
  have e : HandSHeadRun.getT s = s.abs.heap.get? := funext (HandSHeadRun.getT_eq s)
  show obN 5 (HandSHeadRun.getT s) = obN 5 s.abs.heap.get?
  rw [e]
end Hn
set_option Elab.async false
set_option linter.all false
set_option maxRecDepth 100000
set_option maxHeartbeats 8000000
namespace Hn
open PySem PySem.Spec PyProof.Rows L2 Er Dk LamX NdefX
open PySem.ErK (EC tA tB tS)
/-! ### from what was looked at to what is asked -/
theorem cls_hn (K : PySem.W.Frag) : PySem.W.specialIn K (.builtin "object.__class__") "__get__" = some (some (.builtin "getset_descriptor.__get__")) := by
  kernel_rfl
theorem cls_ht (K : PySem.W.Frag) : PySem.W.takesIn K (.builtin "object.__class__") = some true := by
  kernel_rfl
def FnAt (K : PySem.W.Frag) (x f : Str) : Prop := ∃ (oc : Value) (od : Option Addr) (kV doc pm : Value) (an : Option Addr) (cdv ct : Value) (osl : Array (Option Value)) (ql : Str) (p1 p2 q1 q2 q3 q4 : Pos),
  K.lookup (He.ma K (He.ga K x) "__init__") = some ⟨oc, od, .func (PySem.W.fnOf "__init__" ql (tA f p1 p2) (tB f q1 q2 q3 q4) (tS f) .none kV doc pm an cdv ct), osl⟩ ∧ PySem.W.codeIn K cdv ql = true
theorem fnAt_of {K : PySem.W.Frag} {st : Stmt} {x f ql : Str} (F : ∃ fd, FunD K "__init__" ql (defArgs st) (defBody st) (defScope st) [] [] (He.ma K (He.ga K x) "__init__") fd)
    (ha : ∃ p1 p2, defArgs st = tA f p1 p2) (hb : ∃ q1 q2 q3 q4, defBody st = tB f q1 q2 q3 q4) (hs : defScope st = tS f) : FnAt K x f := by
  obtain ⟨fd, F⟩ := F
  obtain ⟨oc, od, dV, kV, doc, pm, an, cdv, ct, osl, rfl, lk, hcd, hD, _⟩ := F.ex
  obtain ⟨p1, p2, ea⟩ := ha
  obtain ⟨q1, q2, q3, q4, eb⟩ := hb
  rcases hD with ⟨_, rfl⟩ | ⟨e, _⟩
  · rw [ea, eb, hs] at lk
    exact ⟨oc, od, kV, doc, pm, an, cdv, ct, osl, ql, p1, p2, q1, q2, q3, q4, lk, hcd⟩
  · exact absurd rfl e
theorem ox_of {K : PySem.W.Frag} {C : Addr} (h : oxB K C = true) : ∃ nm q N bs bm sn sub ab col dd k0 k1 k2 k3 k5, K.lookup C = some (excClassObj nm q C N bs bm true sn sub ab col dd k0 k1 k2 k3 k5 "ValueError.__new__") ∧ PySem.HandSPX.refsVE bm = true := by
  unfold oxB at h
  split at h
  · rename_i dd cd sl ho
    split at h
    · rename_i C' bm k0 k1 k2 k3 n k5 hm hs
      simp only [Bool.and_eq_true, beq_iff_eq, Bool.not_eq_true'] at h
      obtain ⟨⟨⟨⟨rfl, rfl⟩, hdel⟩, hdct⟩, hr⟩ := h
      obtain ⟨nm, bs, mro, ns, qn, hd, sn, sub, ab, col, del⟩ := cd
      dsimp only at hm hdel hdct
      subst hm hdel hdct
      have esl : sl = #[k0, k1, k2, k3, some (.builtin "ValueError.__new__"), k5] := by
        obtain ⟨l⟩ := sl
        simp only at hs
        rw [hs]
      subst esl
      exact ⟨nm, qn, ns, bs, bm, sn, sub, ab, col, dd, k0, k1, k2, k3, k5, ho, hr⟩
    · cases h
  · cases h
theorem ec_of {K : PySem.W.Frag} {x f : Str} (b : ecB K x f = true) (fa : FnAt K x f) (fl : f ∈ PySem.ErK.fields) : EC K x f (He.ga K x) (He.ma K (He.ga K x) "__init__") := by
  unfold ecB eqB at b
  simp only [Bool.and_eq_true, decide_eq_true_eq] at b
  obtain ⟨b1, b2, b3, b4, b5, b6, b7, b8, b9⟩ := b
  have xf := xfB_ok b8
  unfold xcB eqB at b9
  simp only [Bool.and_eq_true, decide_eq_true_eq] at b9
  exact ⟨⟨ox_of b1, b2, xf.exC, b3, b4⟩, b5, b6, b7, xf, ⟨xf.ga, xf.gg, xf.exC, xf.hdC, b9.1, cls_hn K, cls_ht K, b9.2⟩, fl, fa⟩
theorem fun_of {K : PySem.W.Frag} {a : Addr} {x qual : Str} {params : Arguments} {body : List Stmt} {scope : Scope} (e : fnA K a = some (x, qual, params, .stmts body, scope, mainGlobals, [], builtinsNs)) (c : okA K a qual = true) : ∃ fd, FunD K x qual params body scope [] [] a fd := by
  obtain ⟨kp, c2⟩ := Bool.and_eq_true_iff.mp c
  unfold fnA at e
  cases q : K.lookup a with
  | none =>
    rw [q] at c2
    cases c2
  | some o =>
    obtain ⟨oc, od, dt, osl⟩ := o
    rw [q] at c2 e
    cases dt with
    | func fd =>
      obtain ⟨n1, n2, n3, n4, n5, n6, n7, n8, n9, n10, n11, n12, n13, n14, n15⟩ := fd
      have e2 := Option.some.inj e
      simp only [Prod.mk.injEq] at e2
      obtain ⟨h1, h2, h3, h4, h5, h6, h7, h8⟩ := e2
      subst h1 h2 h3 h4 h5 h6 h7 h8
      obtain ⟨k1, k2⟩ := Bool.and_eq_true_iff.mp (show (PySem.W.codeIn K n13 n2 && He.dflB K n8 []) = true from c2)
      exact ⟨_, ⟨oc, od, n8, n9, n10, n11, n12, n13, n14, osl, rfl, q, k1, He.dflB_ok k2, .inl rfl⟩, kp⟩
    | _ => cases c2
theorem prop_of {K : PySem.W.Frag} {x : Str} (h : prB K x = true) : PropOf K (He.ga K "Desk") x (He.ma K (He.ga K "Desk") x) (gAt K x) ∧ okA K (gAt K x) ("Desk." ++ x) = true := by
  unfold prB eqB at h
  obtain ⟨h1, h⟩ := Bool.and_eq_true_iff.mp h
  obtain ⟨h2, h⟩ := Bool.and_eq_true_iff.mp h
  obtain ⟨h3, h⟩ := Bool.and_eq_true_iff.mp h
  obtain ⟨h4, h5⟩ := Bool.and_eq_true_iff.mp h
  refine ⟨⟨of_decide_eq_true h1, of_decide_eq_true h2, of_decide_eq_true h3, ?_⟩, h5⟩
  cases q : PySem.W.recIn K (He.ma K (He.ga K "Desk") x) "property" with
  | none =>
    rw [q] at h4
    cases h4
  | some l =>
    rw [q] at h4
    cases l with
    | nil => cases h4
    | cons v r =>
      cases v with
      | ref g =>
        refine ⟨r, ?_⟩
        unfold gAt
        rw [q]
      | _ => cases h4
theorem sys_of {K : PySem.W.Frag} (h : isD (K.lookup sysModules) = true) : IsSys K := by
  cases e : K.lookup sysModules with
  | none =>
    rw [e] at h
    cases h
  | some o =>
    rw [e] at h
    obtain ⟨oc, od, dt, sl⟩ := o
    unfold isD at h
    split at h
    · rename_i heq
      cases heq
      exact ⟨_, _, _, e, rfl⟩
    · cases h
theorem lk_of {K : PySem.W.Frag} {h : Heap} {mg : Str → Option Value} (inK : K.In h) (G : h.Ns mainGlobals mg) (Y : Told h K) : ∀ base : Heap, TabB base mg (cO K) (tO K) → Lk K mg base (He.ga K "Desk") (He.ga K "BadDeeds") (tO K) := by
  intro base tb
  have c := Y.d
  have has : ∀ (i : Nat) (x : Str) (st : Stmt), fn[i]? = some (dfn x st) → fa[i]? = some (.glo x) → Has K mg x st := fun i x st e1 e2 => by
    obtain ⟨d, F⟩ := c.def_ i (d := dfn x st) e1
    exact ⟨_, d, F, He.glo_ok inK G (c.fact i e2)⟩
  have g : ∀ (i : Nat) (x : Str), fa[i]? = some (.glo x) → mg x = some (.ref (He.ga K x)) := fun i x e => He.glo_ok inK G (c.fact i e)
  have n : ∀ (i : Nat) (x : Str), fa[i]? = some (.free x) → mg x = none := fun i x e => He.free_ok inK G (c.fact i e)
  obtain ⟨dB, FB⟩ := c.def_ 40 (d := ⟨("BadDeeds", some "__init__"), "__init__", "BadDeeds.__init__", defArgs (ini (top 4)), defBody (ini (top 4)), defScope (ini (top 4)), [], []⟩) rfl
  obtain ⟨dI, FI⟩ := c.def_ 41 (d := ⟨("Desk", some "__init__"), "__init__", "Desk.__init__", defArgs (meth 0), defBody (meth 0), defScope (meth 0), [], []⟩) rfl
  obtain ⟨dS, FS⟩ := c.def_ 42 (d := ⟨("Desk", some "sight"), "sight", "Desk.sight", defArgs (meth 5), defBody (meth 5), defScope (meth 5), [], []⟩) rfl
  obtain ⟨dE, FE⟩ := c.def_ 43 (d := ⟨("Desk", some "__eq__"), "__eq__", "Desk.__eq__", defArgs (meth 7), defBody (meth 7), defScope (meth 7), [], []⟩) rfl
  obtain ⟨dP, FP⟩ := c.def_ 39 (d := dfn "parting" (top 15)) rfl
  have b := Y.b
  unfold myB at b
  obtain ⟨b1, b⟩ := Bool.and_eq_true_iff.mp b
  obtain ⟨b3, b⟩ := Bool.and_eq_true_iff.mp b
  obtain ⟨b4, b5⟩ := Bool.and_eq_true_iff.mp b
  unfold dkB eqB at b3
  obtain ⟨p1, b3⟩ := Bool.and_eq_true_iff.mp b3
  obtain ⟨p2, b3⟩ := Bool.and_eq_true_iff.mp b3
  obtain ⟨p3, b3⟩ := Bool.and_eq_true_iff.mp b3
  obtain ⟨p4, b3⟩ := Bool.and_eq_true_iff.mp b3
  obtain ⟨p5, b3⟩ := Bool.and_eq_true_iff.mp b3
  obtain ⟨p6, p7⟩ := Bool.and_eq_true_iff.mp b3
  have ty : ∀ t ∈ eqTypes, PySem.W.kitOne K (.type t) (.ref (He.ga K "Desk")) = some false ∧ PySem.W.notFirst K (He.ga K "Desk") (.type t) = true := fun t ht => by
    obtain ⟨z1, z2⟩ := Bool.and_eq_true_iff.mp (List.all_eq_true.mp p4 t ((by decide : ∀ t ∈ eqTypes, t ∈ ["NoneType", "int", "str", "list", "tuple", "dict", "bool"]) t ht))
    exact ⟨of_decide_eq_true z1, z2⟩
  obtain ⟨b4, b6⟩ := Bool.and_eq_true_iff.mp b4
  obtain ⟨b6, b7⟩ := Bool.and_eq_true_iff.mp b6
  obtain ⟨PS, o1⟩ := prop_of b4
  obtain ⟨PD, o2⟩ := prop_of b6
  obtain ⟨PT, o3⟩ := prop_of b7
  have gg := Y.g
  have gg1 := congrArg (fun z : Fn3 => z.1) gg
  have gg2 := congrArg (fun z : Fn3 => z.2.1) gg
  have gg3 := congrArg (fun z : Fn3 => z.2.2) gg
  obtain ⟨dG, FG⟩ := fun_of gg1 o1
  obtain ⟨dD, FD⟩ := fun_of gg2 o2
  obtain ⟨dT, FT⟩ := fun_of gg3 o3
  have fB : FnAt K "BadDeeds" "value" := fnAt_of (st := ini (top 4)) ⟨dB, FB⟩ ⟨_, _, rfl⟩ ⟨_, _, _, _, rfl⟩ rfl
  have eB : EC K "BadDeeds" "value" (He.ga K "BadDeeds") (He.ma K (He.ga K "BadDeeds") "__init__") := ec_of b1 fB (by decide)
  have part : ∃ (f c : Addr) (dV kV doc pm ct oc : Value) (an od : Option Addr) (osl : Array (Option Value)), K.lookup f = some ⟨oc, od, .func (PySem.W.fnOf "parting" "parting" (defArgs (top 15)) (defBody (top 15)) (defScope (top 15)) dV kV doc pm an (.ref c) ct), osl⟩ ∧ PySem.W.codeIn K (.ref c) "parting" = true ∧ TabB base mg c (tO K) ∧
      FnP K "parting" (top 15) f (PySem.W.fnOf "parting" "parting" (defArgs (top 15)) (defBody (top 15)) (defScope (top 15)) dV kV doc pm an (.ref c) ct) ∧ mg "parting" = some (.ref f) := by
    obtain ⟨oc, od, dV, kV, doc, pm, an, cdv, ct, osl, e, lk, hcd, _, _⟩ := FP.ex
    obtain ⟨cc, ec⟩ := He.codeIn_ref hcd
    subst ec
    subst e
    have z : cO K = cc := He.codeOf_eq (p := ("parting", none)) lk rfl
    rw [z] at tb
    exact ⟨_, cc, dV, kV, doc, pm, ct, oc, an, od, osl, lk, hcd, tb, FP, g 39 _ rfl⟩
  exact {
    h9 := has 0 _ _ rfl rfl, h10 := has 1 _ _ rfl rfl, h11 := has 2 _ _ rfl rfl, h12 := has 3 _ _ rfl rfl, h13 := has 4 _ _ rfl rfl, h14 := has 5 _ _ rfl rfl, h18 := has 6 _ _ rfl rfl, h19 := has 7 _ _ rfl rfl, h20 := has 8 _ _ rfl rfl, h21 := has 9 _ _ rfl rfl, h22 := has 10 _ _ rfl rfl, h23 := has 11 _ _ rfl rfl, h24 := has 12 _ _ rfl rfl, h26 := has 13 _ _ rfl rfl, h27 := has 14 _ _ rfl rfl, h28 := has 15 _ _ rfl rfl, h29 := has 16 _ _ rfl rfl, h31 := has 17 _ _ rfl rfl, h32 := has 18 _ _ rfl rfl, h33 := has 19 _ _ rfl rfl, h34 := has 20 _ _ rfl rfl, h35 := has 21 _ _ rfl rfl, h36 := has 22 _ _ rfl rfl, h37 := has 23 _ _ rfl rfl, h38 := has 24 _ _ rfl rfl, h39 := has 25 _ _ rfl rfl, h40 := has 26 _ _ rfl rfl, h41 := has 27 _ _ rfl rfl, h42 := has 28 _ _ rfl rfl, h43 := has 29 _ _ rfl rfl, h44 := has 30 _ _ rfl rfl, h45 := has 31 _ _ rfl rfl, h46 := has 32 _ _ rfl rfl, h47 := has 33 _ _ rfl rfl, h48 := has 34 _ _ rfl rfl, h49 := has 35 _ _ rfl rfl, h50 := has 36 _ _ rfl rfl, h51 := has 37 _ _ rfl rfl
    mi := n 43 _ rfl, mn := n 44 _ rfl, ms := n 45 _ rfl, mL := n 46 _ rfl, mT := n 47 _ rfl, md := n 48 _ rfl, mS := n 49 _ rfl, mso := n 50 _ rfl, ml := n 51 _ rfl, ma := n 52 _ rfl, mR := n 53 _ rfl, mx := n 54 _ rfl, mm := n 55 _ rfl, me := n 56 _ rfl, mz := n 57 _ rfl
    T := ⟨He.cls_ok (c.fact 58 (f := .cls "Desk") rfl), of_decide_eq_true p1, cls_hn K, cls_ht K, of_decide_eq_true p2, of_decide_eq_true p3, He.noat_ok (c.fact 59 (f := .noat "Desk" "_standings") rfl), He.noat_ok (c.fact 60 (f := .noat "Desk" "_leads") rfl), He.noat_ok (c.fact 61 (f := .noat "Desk" "_sights") rfl), g 42 _ rfl⟩
    N := fun t ht => (ty t ht).2, hne := of_decide_eq_true p7
    eq := ⟨_, dE, FE, of_decide_eq_true p5, p6⟩
    ini_ := ⟨_, dI, FI, He.mkr_ok (c.fact 62 (f := .mkr "Desk") rfl)⟩
    sight_ := ⟨_, dS, FS, He.meth_ok (c.fact 63 (f := .meth "Desk" "sight") rfl)⟩
    part_ := part
    std := ⟨_, _, dG, FG, PS⟩
    dds := ⟨_, _, dD, FD, PD⟩
    sta := ⟨_, _, dT, FT, PT⟩
    B := ⟨_, dB, eB, FB, g 41 _ rfl⟩
    te := He.exm_ok (c.fact 64 (f := .exm "BadDeeds" "BadDeeds" true) rfl) }
end Hn
set_option Elab.async false
set_option linter.all false
set_option maxRecDepth 100000
set_option maxHeartbeats 0
namespace Hn
open PySem PySem.W PySem.Calls PyProof.Rows HandSHeadRun
noncomputable section
abbrev GG (s : SharedT) : Addr → Option Obj := HandSHeadRun.getT s
abbrev KK (s : SharedT) : Frag := frS 5 (GG s)
theorem tH1 (w : World) (os : OsState) : (endF (stepQ (denQ tabQ) R.prog w) 60000 R.prog w os).map (fun s => (looksF R.prog (boot_heap w.params) s.abs, seenQ (PySem.W.view R.prog [52]) names (importedModules R.prog.main.body) (fun s => xlAt (PySem.W.view R.prog [52]) [] s && recOk R.toRowW.records s) s.abs)) = some (true, PySem.W.openGood (PySem.W.view R.prog [52]) names) := by
  kernel_rfl
theorem tH2 (w : World) (os : OsState) : (endF (stepQ (denQ tabQ) R.prog w) 60000 R.prog w os).map (fun s => ((fa.all fun f => f.ok (KK s)) && fn.all fun d => d.ok (KK s))) = some true := by
  kernel_rfl
theorem tH3 (w : World) (os : OsState) : (endF (stepQ (denQ tabQ) R.prog w) 60000 R.prog w os).map (fun s => (fn.map fun d => He.fnW (KK s) d.at_)) = some (fn.map He.DefD.val) := by
  kernel_rfl
theorem tH4 (w : World) (os : OsState) : (endF (stepQ (denQ tabQ) R.prog w) 60000 R.prog w os).map (fun s => (myB (KK s) && tabH (GG s) (KK s))) = some true := by
  kernel_rfl
theorem tH5 (w : World) (os : OsState) : (endF (stepQ (denQ tabQ) R.prog w) 60000 R.prog w os).map (fun s => getS (KK s)) = some getSV := by
  kernel_rfl
end
end Hn
set_option Elab.async false
set_option linter.all false
set_option maxRecDepth 100000
set_option maxHeartbeats 0
namespace Hn
open PySem PySem.W PySem.Calls PyProof.Rows HandSHeadRun
theorem run (w : World) : RunEq R (PySem.W.view R.prog [52]) hk ob 60000 names w := by
  intro os
  have t1 := tH1 w os
  have t2 := tH2 w os
  have t3 := tH3 w os
  have t4 := tH4 w os
  have t5 := tH5 w os
  cases e : endF (stepQ (denQ tabQ) R.prog w) 60000 R.prog w os with
  | none =>
    rw [e] at t1
    cases t1
  | some s =>
    rw [e] at t1 t2 t3 t4 t5
    have u1 := Option.some.inj t1
    have u2 := Option.some.inj t2
    have u3 := Option.some.inj t3
    have u4 := Option.some.inj t4
    have u5 := Option.some.inj t5
    have v1 := congrArg (fun z => z.1) u1
    have v2 := congrArg (fun z => z.2) u1
    have o : ob s = ((true, fn.map He.DefD.val), true, getSV) := Prod.ext (Prod.ext u2 u3) (Prod.ext u4 u5)
    exact congrArg some (Prod.ext v1 (Prod.ext v2 o))
end Hn
open PySem PySem.W PySem.Calls PyProof.Rows
theorem PySem.Challenge.cw_lateeditions_k06_desks_held_against_each_holds : PySem.Challenge.rw_lateeditions_k06_desks_held_against_each.Holds := by
  w_on; o_law
  refine HandSHeadRun.head_any (r := OpenLaw.row PySem.Challenge.rw_lateeditions_k06_desks_held_against_each) (q := view (OpenLaw.row PySem.Challenge.rw_lateeditions_k06_desks_held_against_each).prog [52]) (H := Hn.hk) (ob := Hn.ob) (M := 60000) (loose := Hn.names) (d := HandSHeadRun.topDef (OpenLaw.row PySem.Challenge.rw_lateeditions_k06_desks_held_against_each).prog 52) (kwd := []) Hn.ob_eq
    (by kernel_rfl) (fun s => by kernel_rfl) Hn.run (by kernel_rfl) (by kernel_rfl) (by kernel_rfl) (by rfl) (by first | assumption | decide +kernel) (by decide +kernel) ⟨rfl, rfl, rfl, rfl, rfl, by decide +kernel⟩ ?hw ?hc
  case hw => w_witness2
  case hc =>
    refine Att.attach_callB (l := PySem.Challenge.rw_lateeditions_k06_desks_held_against_each) (n := 63) rfl (by kernel_rfl) fun w s₀ s₁ mg mb fa o pm cd doc a vs ns G Y ho hd hcd hmg hobj hints hlen hbits hg => ?_
    obtain ⟨K, inK, Y⟩ := Y
    have L := Hn.lk_of inK G.T.g Y
    obtain ⟨fd, F⟩ := Y.d.def_ 38 (d := Hn.dfn "law" (Dk.top 52)) rfl
    have hmg2 : mg ("law" : PySem.Str) = some (.ref fa) := by
      have e : (HandSHeadRun.topDef (OpenLaw.row PySem.Challenge.rw_lateeditions_k06_desks_held_against_each).prog 52).name = ("law" : PySem.Str) := by kernel_rfl
      rw [← e]
      exact hmg
    have at_ := hmg2.symm.trans (He.glo_ok inK G.T.g (Y.d.fact 38 (f := .glo "law") rfl))
    cases at_
    have bind := L2.FunD.bindsA (ps := ["_law_script"]) F fun _ _ _ _ _ _ us hl => match us, hl with
      | [_], _ => rfl
    exact Dk.top_callT (fun base _ _ tb => Dk.okG_of (Dk.ok_law F (L base tb))) (fun s u => bind s [u] rfl) inK G.T.g G.T.b G.T.builtins G.T.nolimit hg G.T.bmain Y.tab Y.out (PySem.W.codeHd_of_K inK Y.hd) hobj hints hlen hbits
