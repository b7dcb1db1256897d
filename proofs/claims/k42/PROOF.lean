import PyProof.Rows.All
import Wide.All
import OpenK.AllK
import Wide.FinOn
import PyProof.EqAt
import PyProof.EqKinds
import PyProof.TupleCall
import HandS.Base
import HandS.Call
import HandS.List
import HandS.Ends
import HandS.Exc
import HandS.ExcInit
import HandS.Defaults
import HandS.ExcField
import HandS.ExcIs
import HandS.IsInst
import HandS.Words
import HandS.Wide
import HandS.Dict
import KE.KDictLaw
import PyProof.ReprRoads
import PyProof.ReprLen
import HandS.WordsList
import HandS.More
import HandS.Comp
import HandS.Iter
import HandS.Text
import HandS.Flow
import HandS.Walk
import KE.DataCmp
import HandS.Zip
import HandS.TupAny
import HandS.TryOnly
import HandS.ExcOwn
import HandS.Conv
import HandS.MakeKwOnly
import HandS.Property
import HandS.SlotsOwn
import HandS.Style
import HandS.EndBits
import KE.KStateDown
import HandS.Head0
import HandS.Head1
import HandS.Head2
import HandS.HeadEnd
import HandS.HeadHook1
import HandS.HeadHook2
import PySem.Challenge.RW_lateeditions_k42_what_are_plans
set_option Elab.async false
set_option linter.all false
set_option maxRecDepth 100000
set_option maxHeartbeats 4000000
namespace PySem
namespace ErK
open PySem.W PySem.Calls PyProof.Rows PySem.HandSPX
section
variable {prog : Program} {w : World} {M : Model} {A : Around} {E : Value → Shared → Prop} {R : Result → Shared → Prop} {h : Heap} {g : Array GenState} {d : Drawn} {t : Nat} {os : OsState}
variable {nm q : Str} {C N : Addr} {bs bm bmB : List Value} {hdct : Bool} {sn : List Str} {sub : List Value} {ab : Bool} {col : Option Bool} {dd : Option Addr} {k0 k1 k2 k3 k5 : Option Value} {B nw ini : String}
/-- the check ahead of the class's __new__, with keywords -/
theorem new_seen (F : ExcBaseFacts B nw ini bmB) (hT : ∀ X : String, bm.contains (.type X) = bmB.contains (.type X)) {us : List Value} {kws : List (Str × Value)} {Q : Unit → Shared → Prop}
    (cls : h.get? C = some (excClassObj nm q C N bs bm hdct sn sub ab col dd k0 k1 k2 k3 k5 nw)) (fin : Q () ⟨h, g, d, t, os⟩) :
    wpAny M A (checkBuiltinCall nw ⟨.ref C :: us, kws⟩) Q E ⟨h, g, d, t, os⟩ := by
  have has : (Value.ref C :: bm).contains (.type B) = true := by
    rw [List.contains_cons, hT, F.hasB, Bool.or_true]
  have star := F.noStar
  simp only [checkBuiltinCall, F.newKind, F.newSplit, F.newRow]
  repeat (first
    | refine wpAny_loadPart_at cls ?_
    | (refine wpAny_isSubtype_exc cls ?_
       rw [has])
    | refine wpAny_staticBase_exc cls ?_
    | refine wpAny_madeBy_exc cls ?_
    | simp only [bne_self_eq_false, Bool.false_eq_true, if_false]
    | wp_step)
  exact fin
/-- BaseException.__new__ of such a class, with keywords: they are not looked at -/
theorem new_runs (F : ExcBaseFacts B nw ini bmB) (hT : ∀ X : String, bm.contains (.type X) = bmB.contains (.type X)) {us : List Value} {kws : List (Str × Value)}
    (cls : h.get? C = some (excClassObj nm q C N bs bm hdct sn sub ab col dd k0 k1 k2 k3 k5 nw)) (short : us.length ≤ sizeLine)
    (fin : R (.ok (.ret (.ref (h.objs.size + 1)))) ⟨(h.push (W.kdv_tup us)).push (excO C h.objs.size), g, d, t, os⟩) :
    codeAny (model prog w) A (.builtin nw ⟨.ref C :: us, kws⟩) R ⟨h, g, d, t, os⟩ := by
  have ends := F.ends
  have isB : (Value.ref C :: bm).contains (.type B) = true := by
    rw [List.contains_cons, hT, F.hasB, Bool.or_true]
  have notA : (Value.ref C :: bm).contains (.type "AttributeError") = false := by
    rw [List.contains_cons, hT, F.noAttr]
    rfl
  have notN : (Value.ref C :: bm).contains (.type "NameError") = false := by
    rw [List.contains_cons, hT, F.noName]
    rfl
  refine codeAny_builtinAt F.entry ?_
  unfold Builtin.«BaseException.__new__»
  refine wpAt_bind ?_
  show wpAt _ _ _ (stack >>= _) _ _ _
  refine wpAt_bind (wpAt_stack fun p below => wpAt_of_wpAny ?_)
  wp_walk
  refine wpAt_of_wpAny ?_
  rw [F.owner]
  repeat (first
    | with_reducible refine wpAny_madeHere_exc F.canon cls ?_
    | with_reducible refine wpAny_loadPart_at cls ?_
    | (with_reducible refine wpAny_isSubtype_exc cls ?_
       first
         | rw [isB]
         | rw [notA]
         | rw [notN])
    | wp_step)
  show R _ _
  rw [Heap.size_push]
  exact fin
/-- type.__call__ of such a class, with keywords -/
theorem type_runs (F : ExcBaseFacts B nw ini bmB) (hT : ∀ X : String, bm.contains (.type X) = bmB.contains (.type X)) {us : List Value} {kws : List (Str × Value)} {fI : Addr} {Q : Fin → Shared → Prop}
    (cls : h.get? C = some (excClassObj nm q C N bs bm hdct sn sub ab col dd k0 k1 k2 k3 k5 nw)) (short : us.length ≤ sizeLine)
    (look : W.Looks (model prog w) h (typeLookup (.ref C) "__init__") (some (.ref fI))) (bind : ∀ self, W.Looks (model prog w) h (bindSpecial (.ref fI) self) (.ref fI, [self]))
    (run : codeAny (model prog w) A (.call (.ref fI) ⟨.ref (h.objs.size + 1) :: us, kws⟩)
      (fun r s' => match r with
        | .ok (.ret v) => v = .none ∧ Q (.done (.ret (.ref (h.objs.size + 1)))) s'
        | .ok _ => False
        | .error e => E e s')
      ⟨(h.push (W.kdv_tup us)).push (excO C h.objs.size), g, d, t, os⟩) :
    wpAny (model prog w) A (Builtin.«type.__call__» ⟨.ref C :: us, kws⟩) Q E ⟨h, g, d, t, os⟩ := by
  repeat (first
    | with_reducible refine wpAny_loadPart_at cls ?_
    | with_reducible refine wpAny_madeBy_exc cls ?_
    | wp_step)
  refine codeAny_call_builtin_code (Code.quiet_builtin _ F.quiet) (new_seen F hT cls ?_)
  refine new_runs F hT cls short ?_
  show wpAny _ _ _ _ _ _
  have old : ∀ b o, h.get? b = some o → ((h.push (W.kdv_tup us)).push (excO C h.objs.size)).get? b = some o :=
    fun b o e => Heap.get?_push_of_some _ (Heap.get?_push_of_some _ e)
  have cls1 := old _ _ cls
  have made : ((h.push (W.kdv_tup us)).push (excO C h.objs.size)).get? (h.objs.size + 1) = some (excO C h.objs.size) := by
    heap_get
  have self : (Value.ref C :: bm).contains (.ref C) = true := by simp
  have l1 := look.keeps old
  have l2 := (bind (.ref (h.objs.size + 1))).keeps old
  unfold isInstance
  repeat (first
    | with_reducible refine wpAny_loadPart_at made ?_
    | (with_reducible refine wpAny_isSubtype_exc cls1 ?_
       rw [self])
    | wp_step)
  show wpAny _ _ (typeLookup (.ref C) _) _ _ _
  refine l1.at ?_
  refine wpAny_holding (wpAny_bind (l2.at ?_))
  refine wpAny_bind (wpAny_call (codeAny_mono run fun r s' z => ?_))
  rcases r with e | (v | _ | _ | _) <;> first | exact z | exact z.elim | skip
  obtain ⟨rfl, z⟩ := z
  first
    | exact wpAny_pure (wpAny_pure z)
    | (wp_walk
       exact z)
/-- C(.., k = v): an exception of an own class over ValueError with its own __init__ -/
theorem call_kws (F : ExcBaseFacts B nw ini bmB) (hT : ∀ X : String, bm.contains (.type X) = bmB.contains (.type X)) {us : List Value} {kws : List (Str × Value)} {fI : Addr}
    (cls : h.get? C = some (excClassObj nm q C N bs bm hdct sn sub ab col dd k0 k1 k2 k3 k5 nw)) (short : us.length ≤ sizeLine)
    (look : W.Looks (model prog w) h (typeLookup (.ref C) "__init__") (some (.ref fI))) (bind : ∀ self, W.Looks (model prog w) h (bindSpecial (.ref fI) self) (.ref fI, [self]))
    (run : codeAny (model prog w) (A.under (.builtin "type.__call__" ⟨.ref C :: us, kws⟩)) (.call (.ref fI) ⟨.ref (h.objs.size + 1) :: us, kws⟩) (W.InitBack (h.objs.size + 1) R)
      ⟨(h.push (W.kdv_tup us)).push (excO C h.objs.size), g, d, t, os⟩) :
    codeAny (model prog w) A (.call (.ref C) ⟨us, kws⟩) R ⟨h, g, d, t, os⟩ := by
  have f1 := tc_lookup
  have f2 := tc_bind (.ref C)
  have ty : (⟨h, g, d, t, os⟩ : Shared).TypeIs (.ref C) "type" := ⟨_, cls, rfl⟩
  refine codeAny_of_tree ?_
  show wpAny _ _ (callAny (.ref C) _) _ _ _
  repeat (any_goals (first
    | assumption
    | with_reducible refine wpAny_loadPart_at cls ?_
    | wp_step))
  refine ⟨rfl, ?_⟩
  refine codeAny_call_builtin_at (Code.quiet_builtin _ (by decide +kernel)) entry_typeCall ?_
  refine wpAny_check_type_call_sub cls (type_runs F hT cls short look bind ?_)
  refine codeAny_mono run fun r s' z => ?_
  rcases r with e | (v | _ | _ | _) <;> exact z
end
end ErK
end PySem
set_option Elab.async false
set_option linter.all false
set_option maxRecDepth 100000
set_option maxHeartbeats 4000000
namespace PySem
namespace ErK
open PySem.W PySem.Calls PyProof.Rows PySem.HandSPX
/-! ### the text of an error's __init__: self.f = f -/
def tA (f : Str) (p1 p2 : Pos) : Arguments :=
  { posonlyargs := [], args := [{ arg := "self", annotation := none, pos := p1 }, { arg := f, annotation := none, pos := p2 }], vararg := none, kwonlyargs := [], kw_defaults := [], kwarg := none, defaults := [] }
def tB (f : Str) (q1 q2 q3 q4 : Pos) : List Stmt := [.Assign [.Attribute (.Name "self" q1) f q2] (.Name f q3) q4]
def tS (f : Str) : Scope :=
  { kind := .function, names := [(PySem.Str.ofString "self", .local), (f, .local)], isGenerator := false, isCoroutine := false, more := [] }
/-- the fields' names -/
def fields : List Str := ["value", "position", "spot", "limit", "deed", "count", "words"]
/-- what the written part says of an error's class, at C, and of its __init__, at fI -/
structure EC (K : Frag) (x f : Str) (C fI : Addr) : Prop where
  ox : L2.OexC K C
  noN : findIn K (.ref C) f = some none
  iC : findIn K (.ref C) "__init__" = some (some (.ref fI))
  tI : typeIn K (.ref fI) = some (.type "function")
  xf : L2.XfC K C
  xc : L2.ExcC K C
  fl : f ∈ fields
  fn : ∃ (oc : Value) (od : Option Addr) (kV doc pm : Value) (an : Option Addr) (cdv ct : Value) (osl : Array (Option Value)) (ql : Str) (p1 p2 q1 q2 q3 q4 : Pos),
    K.lookup fI = some ⟨oc, od, .func (fnOf "__init__" ql (tA f p1 p2) (tB f q1 q2 q3 q4) (tS f) .none kV doc pm an cdv ct), osl⟩ ∧ codeIn K cdv ql = true
/-- what __init__ leaves of a new exception at x -/
structure Left (h h' : Heap) (x C dx t1 : Addr) (f : Str) (v : Value) : Prop where
  keep : ∀ b o, b ≠ x → h.get? b = some o → h'.get? b = some o
  obj : h'.get? x = some { cls := .ref C, dict := some dx, data := .fields #[.ref t1, .none, .none, .none, .bool false, .none] }
  big : h.objs.size ≤ dx
  ne : dx ≠ x
  ns : h'.Ns1 dx (fun y => if y = f then some v else none)
theorem ld {M : Model} {s : Shared} {name : Str} {scope : Scope} {L a : Addr} {cd : Value} {m : Str → Option Value} {x : Str} {pos : Pos} {v : Value} {Q : Value → Shared → Prop} {A : Around} {E : Value → Shared → Prop}
    (ns : s.heap.Ns L m) (at_ : m x = some v) (fin : Q v s) (kd : scope.kind = .function := by rfl) (lo : (envOfC name scope L a cd).kindOf x = some .local := by rfl) (db : (x == ("__debug__" : Str)) = false := by decide) :
    wpAny M A (eval (.Name x pos) (envOfC name scope L a cd)) Q E s :=
  wpAny_Name (wpAny_loadName_local kd lo ns at_ fin) db
section
variable {prog : Program} {w : World} {A : Around} {R : Result → Shared → Prop} {s : Shared} {K : Frag} {x f : Str} {C fI : Addr}
theorem init_any (T : EC K x f C fI) {e t0 : Addr} {v : Value} {args : Args} (ha : args = ⟨[.ref e, v], []⟩ ∨ args = ⟨[.ref e], [(f, v)]⟩) (X : K.In s.heap) (lim : s.heap.NoLimit) (he : s.heap.get? e = some (excO C t0)) (room : A.depth < recursionLimit)
    (fin : ∀ h' tk dx, Left s.heap h' e C dx t0 f v → R (.ok (.ret .none)) { s with heap := h', toks := tk }) :
    codeAny (model prog w) A (.call (.ref fI) args) R s := by
  obtain ⟨oc, od, kV, doc, pm, an, cdv, ct, osl, ql, p1, p2, q1, q2, q3, q4, ho, hcd⟩ := T.fn
  obtain ⟨nm, q, N, bs, bm, sn, sub, ab, col, dd, k0, k1, k2, k3, k5, hC, hbm⟩ := T.ox.cls
  have hcl : clsIn K C = some { name := nm, bases := bs, mro := .ref C :: bm, ns := N, qualname := q, hasDict := true, slotNames := sn, subclasses := sub, abstract := ab, collection := col, hasDel := false } := by
    unfold clsIn
    rw [hC] <;> rfl
  have noN := T.noN
  have fl := T.fl
  have sa := T.ox.sa
  have step : ∀ {s₁ : Shared} {m : Str → Option Value} {sc : Scope} {cdv : Value} {A' : Around} {E' : Value → Shared → Prop} {Q' : Flow → Shared → Prop} {L : Addr} {ql : Str}, (∀ b o, s.heap.get? b = some o → s₁.heap.get? b = some o) → s₁.heap.Ns L m → s.heap.objs.size ≤ L → sc.kind = .function →
      (envOfC ql sc L fI cdv).kindOf "self" = some .local → (envOfC ql sc L fI cdv).kindOf f = some .local → (f == ("__debug__" : Str)) = false → m "self" = some (.ref e) → m f = some v → (swapsWith (.Name f q3) (some (.Attribute (.Name "self" q1) f q2)) q4.line (envOfC ql sc L fI cdv) = pure false) →
      (∀ (h₂ : Heap) (tk : Nat × Addr), Left s.heap h₂ e C tk.2 t0 f v → Q' .next { s₁ with heap := h₂, toks := tk.1 }) → wpAny (model prog w) A' (execs (tB f q1 q2 q3 q4) (envOfC ql sc L fI cdv)) Q' E' s₁ := by
    intro s₁ m sc cdv A' E' Q' L ql k hn hL kd l1 l2 db m1 m2 sw fin'
    have X₁ : K.In s₁.heap := X.keeps k
    have he₁ := k _ _ he
    refine wpAny_execs_cons (plainObj_wpAny_Assign_Attribute ?_ sw)
    refine ld (v := v) hn m2 (ld (v := .ref e) hn m1 ?_ kd l1) kd l2 db
    refine set_plain X₁ (ox := excO C t0) (od := none) ⟨he₁, rfl, rfl, trivial⟩ sa ?_
    obtain ⟨h₁, g₁, d₁, t₁, o₁⟩ := s₁
    refine exc_osa X₁ he₁ hcl (show refsVE (.ref C :: bm) = true from hbm) rfl noN (fun h₃ tk₃ dx k₃ dn dne hx₃ hn₃ => ?_)
    show wpAny _ _ (execs _ _) _ _ _
    have z : L < h₁.objs.size := hn.lt
    exact wpAny_execs_nil (fin' h₃ (tk₃, dx) ⟨fun b o hb q => k₃ b o hb (k b o q), hx₃, Nat.le_of_lt (Nat.lt_of_le_of_lt hL (Nat.lt_of_lt_of_le z dn)), dne, hn₃⟩)
  simp only [fields, List.mem_cons, List.not_mem_nil, or_false] at fl
  rcases ha with rfl | rfl <;> rcases fl with rfl | rfl | rfl | rfl | rfl | rfl | rfl
  all_goals
    refine Att.call_fn (binds := [("self", .ref e), (_, v)]) X lim ho hcd room (BindsTo.of_eq (by first | rfl | with_unfolding_all rfl)) (by first | rfl | decide | with_unfolding_all rfl) (fun s₁ IC => ?_) rfl rfl rfl
    obtain ⟨h₁, tk₁, rfl⟩ := IC.toInCall.same
    refine step (m := _) IC.toInCall.keep IC.toInCall.ns (Nat.le_refl _) rfl rfl rfl (by decide) (by first | rfl | with_unfolding_all rfl | kernel_rfl) (by first | rfl | with_unfolding_all rfl | kernel_rfl) (by rfl) fun h₂ tk z => fin h₂ tk.1 tk.2 z
end
end ErK
end PySem
set_option Elab.async false
set_option linter.all false
set_option maxRecDepth 100000
set_option maxHeartbeats 4000000
namespace Er
open PySem PySem.Spec PyProof.Rows L2
open PySem.ErK (EC)
/-- what stood stands -/
def Sm (H H' : Hp) : Prop := ∀ b o, H b = some o → H' b = some o
theorem Sm.refl (H : Hp) : Sm H H := fun _ _ e => e
theorem Sm.trans {H H1 H2 : Hp} (a : Sm H H1) (b : Sm H1 H2) : Sm H H2 := fun c o e => b c o (a c o e)
theorem Sm.new {H : Hp} {a : Addr} {o : HO} (n : H a = none) : Sm H (upd H a o) := fun b u e => by
  rw [upd_ne (ne_of_none e n)]
  exact e
section
variable {X : Cx} {pins : List (Addr × Obj)} {σ : L2.St} {H : Hp} {s : Shared}
/-- two new objects at once -/
theorem laid2 {h' : Heap} {a d : Addr} {o u : HO} {t' : Nat} (I : Inv X pins σ H s) (k : ∀ b v, s.heap.get? b = some v → h'.get? b = some v) (la : s.heap.objs.size ≤ a) (ld : s.heap.objs.size ≤ d) (ne : d ≠ a)
    (oa : ObjOk X.prog X.w (upd (upd H d u) a o) h' a o) (od : ObjOk X.prog X.w (upd (upd H d u) a o) h' d u) :
    Inv X pins σ (upd (upd H d u) a o) { s with heap := h', toks := t' } := by
  have na := I.hok.fresh la
  have nd := I.hok.fresh ld
  have lt : ∀ {b : Addr} {v : Obj} {c : Addr}, s.heap.get? b = some v → s.heap.objs.size ≤ c → b ≠ c := fun q z => Nat.ne_of_lt (Nat.lt_of_lt_of_le (Heap.lt_size q) z)
  have st : ∀ {b : Addr} {v : HO}, H b = some v → upd (upd H d u) a o b = some v := fun {b v} q => by
    rw [upd_ne (ne_of_none q na), upd_ne (ne_of_none q nd)]
    exact q
  have U : Un X.fs [] H (upd (upd H d u) a o) s.heap h' := {
    keep := fun b v q _ _ _ => k b v q
    slot := fun b v q _ _ _ => ⟨v.slots, k b v q⟩
    free := fun b v q n _ => by
      rw [upd_ne (lt q la), upd_ne (lt q ld)]
      exact n
    there := fun b v q _ => ⟨v, k b v q⟩
    tups := fun b xs q => st q
    frzs := fun b v xs q => st q
    tbls := fun b ps q => ⟨#[], by
      rw [st q]
      simp⟩ }
  refine I.un (t' := t') U fun b v q => ?_
  by_cases hb : b = a
  · subst hb
    rw [upd_same] at q
    cases q
    exact oa
  · rw [upd_ne hb] at q
    by_cases hd : b = d
    · subst hd
      rw [upd_same] at q
      cases q
      exact od
    · rw [upd_ne hd] at q
      exact (I.hok b v q).stay (fun c z _ y => k c z y) (fun c y => st y) fun c xs y => st y
end
/-! ### errors as values -/
/-- v is an error of the class at C, whose only field f holds y -/
def IsE (H : Hp) (v : V) (C : Addr) (f : Str) (y : V) : Prop :=
  ∃ a d : Addr, v = .ref a ∧ H a = some (exo a C (some d)) ∧ H d = some (exd d [(f, y)])
theorem IsE.mono {H H' : Hp} {v : V} {C : Addr} {f : Str} {y : V} (e : IsE H v C f y) (k : Sm H H') : IsE H' v C f y := by
  obtain ⟨a, d, e1, e2, e3⟩ := e
  exact ⟨a, d, e1, k _ _ e2, k _ _ e3⟩
/-- the reading of X(e), X(f = e) -/
def tNew (C : Addr) (f : Str) (te : TE) : TE := fun σ H Q => te σ H fun y H1 => ∀ v H2, Sm H1 H2 → IsE H2 v C f y → Q v H2
theorem rel_one {y : V} {u : Value} (f : Str) (r : RelV y u) (g : Str) : RelO (List.lookup g [(f, y)]) (if g = f then some u else none) := by
  by_cases hw : g = f
  · subst hw
    rw [if_pos rfl]
    have q : List.lookup g [(g, y)] = some y := by simp [List.lookup]
    rw [q]
    exact r
  · rw [if_neg hw]
    have qw : (g == f) = false := by simpa using hw
    have q2 : List.lookup g [(f, y)] = none := by simp [List.lookup, qw]
    rw [q2]
    trivial
section
variable {X : Cx} {x f : Str} {C fI : Addr}
/-- the call itself, whichever way the value is handed in -/
theorem run_new {pins : List (Addr × Obj)} {σ : L2.St} {H : Hp} {s : Shared} {Q : VK} {y : V} {u : Value} {us : List Value} {kw : List (Str × Value)} (T : EC X.K x f C fI) (hr : Room 1 X.A) (I : Inv X pins σ H s) (r : RelV y u)
    (ha : (us = [u] ∧ kw = []) ∨ (us = [] ∧ kw = [(f, u)])) (h : ∀ v H2, Sm H H2 → IsE H2 v C f y → Q v H2) :
    wpAny (model X.prog X.w) X.A (call (.ref C) us kw) (EP X pins σ Q) X.xe s := by
  obtain ⟨nm, q, N, bs, bm, sn, sub, ab, col, dd, k0, k1, k2, k3, k5, hC, hbm⟩ := T.ox.cls
  have hlim := I.nolimit
  have kIn := I.kIn
  obtain ⟨hp, g, dr, tk, os⟩ := s
  have short : us.length ≤ sizeLine := by
    rw [sizeLine_eq]
    rcases ha with ⟨rfl, _⟩ | ⟨rfl, _⟩
    · exact (by decide : 1 ≤ 16777216)
    · exact (by decide : 0 ≤ 16777216)
  have k : ∀ b o, hp.get? b = some o → ((hp.push (PySem.W.kdv_tup us)).push (PySem.HandSPX.excO C hp.objs.size)).get? b = some o :=
    fun b o e => Heap.get?_push_of_some _ (Heap.get?_push_of_some _ e)
  have new : ((hp.push (PySem.W.kdv_tup us)).push (PySem.HandSPX.excO C hp.objs.size)).get? (hp.objs.size + 1) = some (PySem.HandSPX.excO C hp.objs.size) := by
    heap_get
  refine wpAny_call (PySem.ErK.call_kws F.excBase_ValueError (fun Y => PySem.HandSPX.refsVE_contains Y bm hbm) (kIn _ _ hC) short (PySem.W.looks_findIn kIn T.iC) (fun self => PySem.W.bind_fn kIn self T.tI) ?_)
  refine PySem.ErK.init_any (s := ⟨(hp.push (PySem.W.kdv_tup us)).push (PySem.HandSPX.excO C hp.objs.size), g, dr, tk, os⟩) (e := hp.objs.size + 1) (v := u) T ?_ (PySem.W.Frag.In.keeps kIn k) (hlim.keeps k) new ?_ fun h' tk' dx ⟨k', hx, dn, dne, hns⟩ => ?_
  · rcases ha with ⟨rfl, rfl⟩ | ⟨rfl, rfl⟩
    · exact .inl rfl
    · exact .inr rfl
  · have z := hr.dp
    show (X.A.under _).depth < recursionLimit
    rw [make_depth]
    omega
  · have old : ∀ b o, hp.get? b = some o → h'.get? b = some o :=
      fun b o e => k' b o (Nat.ne_of_lt (Nat.lt_succ_of_lt (Heap.lt_size e))) (k b o e)
    have big : hp.objs.size ≤ dx := by
      have z : hp.objs.size + 1 + 1 ≤ dx := by
        first
          | exact dn
          | (have q := dn
             rw [Heap.size_push, Heap.size_push] at q
             exact q)
          | (simpa only [Heap.size_push] using dn)
      exact Nat.le_trans (Nat.le_trans (Nat.le_succ _) (Nat.le_succ _)) z
    have J : Inv X pins σ (upd (upd H dx (exd dx [(f, y)])) (hp.objs.size + 1) (exo (hp.objs.size + 1) C (some dx))) ⟨h', g, dr, tk', os⟩ :=
      laid2 (t' := tk') I old (Nat.le_succ _) big dne (exo_ok hx) (exd_ok hns (rel_one f r))
    have n1 : H (hp.objs.size + 1) = none := I.hok.fresh (Nat.le_succ _)
    have n2 : H dx = none := I.hok.fresh big
    refine ⟨rfl, .ref (hp.objs.size + 1), _, J, rfl, h _ _ (fun b o e => ?_) ⟨_, dx, rfl, upd_same, ?_⟩⟩
    · rw [upd_ne (ne_of_none e n1), upd_ne (ne_of_none e n2)]
      exact e
    · rw [upd_ne dne]
      exact upd_same
/-- X(e) -/
theorem pe_new {e : Expr} {te : TE} {p pos : Pos} (T : EC X.K x f C fI) (hr : Room 1 X.A) (gl : Gl X x) (gC : X.mg x = some (.ref C)) (he : PE X e te) (db : (x == ("__debug__" : Str)) = false := by decide)
    (hs : starEach [e] X.env = (false, eval e X.env) :: starEach [] X.env := by rfl) (hp : (backTo pos (starEach [] X.env)).any (·.1) = false := by rfl) :
    PE X (.Call (.Name x p) [e] [] pos) (tNew C f te) := by
  refine ⟨fun pins s σ H Q I h => ?_⟩
  refine wpAny_Call_Name_kw (ld_glob I gl gC ?_ db)
  refine PySem.W.callWith_K (h₀ := X.base) I.ok.mod.kin T.ox.kC ?_ hs hp
  rw [hs]
  show wpAny _ _ (spliced ((false, eval e X.env) :: backTo pos (starEach [] X.env))) _ _ s
  refine Calls.spliced_cons (thn (he.run pins s σ H _ I h) fun u s1 ⟨y, H1, I1, r1, q1⟩ => ?_)
  refine Calls.spliced_nil ⟨I1.kIn, ?_⟩
  exact run_new T hr I1 r1 (.inl ⟨rfl, rfl⟩) q1
/-- X(f = e) -/
theorem pe_newK {e : Expr} {te : TE} {p pos kp : Pos} (T : EC X.K x f C fI) (hr : Room 1 X.A) (gl : Gl X x) (gC : X.mg x = some (.ref C)) (he : PE X e te) (db : (x == ("__debug__" : Str)) = false := by decide) :
    PE X (.Call (.Name x p) [] [⟨some f, e, kp⟩] pos) (tNew C f te) := by
  refine ⟨fun pins s σ H Q I h => ?_⟩
  refine wpAny_Call_Name_kw (ld_glob I gl gC ?_ db)
  refine PySem.W.callWith_KW0 (h₀ := X.base) I.ok.mod.kin T.ox.kC (by rfl) ?_
  show wpAny _ _ (evalAll [(do
    let v ← eval e X.env
    standAt pos
    pure v)]) _ _ s
  refine wpAny_evalAll_cons (wpAny_bind (thn (he.run pins s σ H _ I h) fun u s1 ⟨y, H1, I1, r1, q1⟩ => wpAny_bind (wpAny_standAt (wpAny_pure ?_))))
  refine wpAny_evalAll_nil ⟨I1.kIn, ?_⟩
  exact run_new T hr I1 r1 (.inr ⟨rfl, rfl⟩) q1
/-- e.f, e an error -/
def tGet (K : PySem.W.Frag) (f : Str) (te : TE) : TE := fun σ H Q => te σ H fun v H1 => ∃ (x : Str) (C fI : Addr) (y : V), EC K x f C fI ∧ IsE H1 v C f y ∧ Q y H1
theorem pe_get {e : Expr} {te : TE} {pos : Pos} (he : PE X e te) (hb : attributeBase e f X.env (eval e X.env) = eval e X.env := by rfl) : PE X (.Attribute e f pos) (tGet X.K f te) := by
  refine ⟨fun pins s σ H Q I h => ?_⟩
  refine attr_of hb (thn (he.run pins s σ H _ I h) fun u s1 hh => ?_)
  obtain ⟨v, H1, I1, rv, x, C, fI, y, T, ⟨a, d, rfl, ea, ed⟩, q⟩ := hh
  obtain rfl : u = Value.ref a := rv
  obtain ⟨t1, ho⟩ := exo_at I1.hok ea
  obtain ⟨mA, hns, hrel⟩ := exd_at I1.hok ed
  obtain ⟨od, hd, hl⟩ := lookIn_ns hns
  have l : List.lookup f [(f, y)] = some y := by simp [List.lookup]
  obtain ⟨u', hu, ru⟩ := RelO.some_of (v := y) (o := mA f) (by
    rw [← l]
    exact hrel f)
  have J : PySem.W.InstAt s1.heap a { cls := .ref C, dict := some d, data := .fields #[.ref t1, .none, .none, .none, .bool false, .none] } C (some od) := ⟨ho, rfl, rfl, hd⟩
  exact HandSPX.exc_get I1.kIn J T.xf.ga T.xf.gg T.xf.exC (PySem.W.findObj_own T.xf.hdC T.noN rfl (by rw [hl, hu])) (handed_of ru) ⟨y, H1, I1.tok _, ru, q⟩
end
end Er
set_option Elab.async false
set_option linter.all false
set_option maxRecDepth 100000
set_option maxHeartbeats 4000000
namespace PySem
namespace ErK
open PySem.W PySem.Calls PyProof.Rows PySem.HandSPX PySem.Spec
section
variable {prog : Program} {w : World} {A : Around} {E : Value → Shared → Prop} {s : Shared} {K : Frag} {x D : Addr} {ox : Obj} {od : Option Obj}
theorem found_data {C : Addr} {name : Str} {b g : Value} (c : (clsIn K C).isSome = true) (f : findIn K (.ref C) name = some (some b)) (g1 : specialIn K b "__get__" = some (some g)) (t1 : takesIn K b = some true) :
    findObj K C od name = some (.bind g b) := by
  obtain ⟨cd, c⟩ := Option.isSome_iff_exists.mp c
  unfold findObj
  rw [c, Option.bind_some, f, Option.bind_some]
  simp [g1, t1]
/-- x.__class__, x an error with its dict -/
theorem cls_asked {Q : Option Value → Shared → Prop} (T : L2.ExcC K D) (X : K.In s.heap) (I : InstAt s.heap x ox D od) (fin : Q (some (.ref D)) { s with toks := s.toks + 1 }) :
    wpAny (model prog w) A (getAttr? (.ref x) "__class__") Q E s := by
  have hf : findObj K D od "__class__" = some (.bind (.builtin "getset_descriptor.__get__") (.builtin "object.__class__")) := found_data (by
    obtain ⟨cd, hc, _⟩ := any_some T.hd
    rw [hc]
    rfl) T.ha T.hn T.ht
  obtain ⟨hp, g, d, t, os⟩ := s
  have l0 := I.type (M := model prog w)
  have l1 := looks_findIn (M := model prog w) X T.hg
  have l2 := looks_findIn (M := model prog w) X T.hk
  have l3 := looks_find (M := model prog w) X I hf
  have isB : Looks (model prog w) hp (isInstance (.ref x) (.type "BaseException")) true := l0.andThen (looks_subIn X T.hs)
  have z0 : (false && onTheHeap (Value.builtin "BaseException.__getattribute__")) = false := rfl
  have z2 : (Value.builtin "BaseException.__getattribute__" == Value.builtin "object.__getattribute__") = false := by
    decide +kernel
  have z1 : (onTheHeap (Value.ref D) && Value.builtin "BaseException.__getattribute__" == Value.builtin "object.__getattribute__") = false := by
    rw [z2]
    rfl
  unfold getAttr? getAttrBy? getAttrBy
  refine wpAny_bind (wpAny_mkText (wpAny_bind (wpAny_attempt (wpAny_holding (wpAny_bind (l0.at (wpAny_bind (l1.at ?_))))))))
  show wpAny _ _ (if (onTheHeap (Value.ref D) && Value.builtin "BaseException.__getattribute__" == Value.builtin "object.__getattribute__") = true then _ else _) _ _ _
  rw [z1, if_neg Bool.false_ne_true]
  unfold getAttrByItsOwn hookBefore
  refine wpAny_bind ?_
  rw [if_pos (show onTheHeap (Value.ref D) = true from rfl)]
  refine l2.at ?_
  refine wpAny_bind (wpAny_attempt (wpAny_holding ?_))
  unfold callGetattribute
  rw [z0, if_neg Bool.false_ne_true]
  unfold boundAndCalled
  rw [PySem.F.excAttr_ValueError.ga.bind (.ref x)]
  refine wpAny_bind (wpAny_pure ?_)
  show wpAny _ _ (call (.builtin "BaseException.__getattribute__") [.ref x, .str "__class__" t]) _ _ _
  refine wpAny_call (codeAny_call_builtin PySem.F.excAttr_ValueError.ga.plain PySem.F.entry_bexc_ga ?_)
  refine @check_slot (model prog w) _ _ ⟨hp, g, d, t + 1, os⟩ "BaseException.__getattribute__" "BaseException" "__getattribute__" (.ref x) [.str "__class__" t] [] _ (by decide +kernel) (by decide +kernel) isB (PySem.F.args_bexc_ga (.ref x) (.str "__class__" t)) ?_
  unfold Builtin.«object.__getattribute__»
  refine wpAny_bind (wpAny_of_eq (a := ((Value.ref x : Value), [Value.str "__class__" t])) (by
    first
      | rfl
      | (simp only [slotArgs]
         rfl)) ?_)
  refine wpAny_bind (wpAny_pure (wpAny_bind (l0.at (wpAny_bind (l3.at ?_)))))
  show wpAny _ _ (holding [Value.builtin "object.__class__"] (call (.builtin "getset_descriptor.__get__") [.builtin "object.__class__", .ref x, .ref D]) >>= ret) _ _ _
  refine wpAny_bind (wpAny_holding (wpAny_call (class_get (s := ⟨hp, g, d, t + 1, os⟩) (ox := ox) (od := od) X I T.hm ?_)))
  refine wpAny_pure ?_
  show wpAny _ _ (handedOut (.ref D)) _ _ _
  rw [handedOut_of (v := .ref D) rfl]
  first
    | exact wpAny_pure (wpAny_bind (wpAny_pure (wpAny_pure fin)))
    | exact wpAny_pure (wpAny_pure fin)
    | exact wpAny_pure fin
/-- what isinstance's rules ask of such an error -/
theorem kit_err (T : L2.ExcC K D) : KitX K (.ref x) (.ref D) (fun h => InstAt h x ox D od) where
  ty := fun _ _ _ I => I.type
  it := fun _ _ X _ => by
    obtain ⟨cdD, hcD, _⟩ := any_some T.hd
    unfold clsIn at hcD
    split at hcD
    · rename_i c' d' cd' sl' ho
      intro A' Q' E' s' k q
      unfold isType loadHead
      exact wpAny_bind (wpAny_loadPart (k _ _ (X _ _ ho)) (wpAny_pure q))
    · cases hcD
  ne := fun h tp dd its n sl X at_ => by
    obtain ⟨cdD, hcD, _⟩ := any_some T.hd
    refine Bool.eq_false_iff.mpr fun q => ?_
    have e : D = tp := Value.ref.inj (beq_iff_eq.mp q)
    subst e
    unfold clsIn at hcD
    split at hcD
    · rename_i c' d' cd' sl' ho
      have z := (X _ _ ho).symm.trans at_
      cases z
    · cases hcD
  ca := fun X I fin => cls_asked T X I fin
end
end ErK
end PySem
namespace Er
open PySem PySem.Spec PyProof.Rows L2
open PySem.ErK (EC)
section
variable {X : Cx}
/-- isinstance(e, c), e an error -/
def rIsA (K : PySem.W.Frag) : List V → Hp → VK → Prop := fun xs H Q => ∃ (v c : V) (cu : Value) (x f : Str) (C fI : Addr) (y : V) (b : Bool), xs = [v, c] ∧ ClsV c cu ∧ EC K x f C fI ∧ IsE H v C f y ∧ PySem.W.kitOne K (.ref C) cu = some b ∧ Q (.bl b) H
theorem call_isA : CallR X (.builtin "isinstance") (rIsA X.K) := by
  intro pins s σ H xs us Q I r h
  obtain ⟨v, c, cu, x, f, C, fI, y, b, rfl, k, T, ⟨a, d, rfl, ea, ed⟩, e, q⟩ := h
  obtain ⟨u1, u2, rfl, r1, r2⟩ := vals2 r
  have e2 := k.eq r2
  subst e2
  obtain rfl : u1 = Value.ref a := r1
  obtain ⟨t1, ho⟩ := exo_at I.hok ea
  obtain ⟨mA, hns, hrel⟩ := exd_at I.hok ed
  obtain ⟨od, hd, hl⟩ := lookIn_ns hns
  have J : PySem.W.InstAt s.heap a { cls := .ref C, dict := some d, data := .fields #[.ref t1, .none, .none, .none, .bool false, .none] } C (some od) := ⟨ho, rfl, rfl, hd⟩
  exact PySem.W.kia_one (PySem.ErK.kit_err T.xc) I.kIn J e (fun z => nomatch z) fun tk => ⟨.bl b, H, I.tok tk, rfl, q⟩
end
end Er
set_option Elab.async false
set_option linter.all false
set_option maxRecDepth 100000
set_option maxHeartbeats 4000000
namespace Er
open PySem PySem.Spec PyProof.Rows L2
/-! ### ** of a great number -/
def CPw (i j : Int) : Prop := 0 ≤ j ∧ (Builtin.Int.intBits i : Int) * j ≤ 2 ^ 27
theorem op_powB {X : Cx} : OpR X (binaryOp .Pow) (rI CPw fun i j => .int (i ^ j.toNat)) := opI fun _ _ _ _ _ _ _ hc q => pow_int hc.1 hc.2 q
/-! ### repr of a list that holds one thing again and again -/
/-- None, a bool, a number, a text -/
inductive Flat : V → PyData → Prop where
  | non : Flat .non .none
  | bl (b : Bool) : Flat (.bl b) (.bool b)
  | int (i : Int) (h : i.natAbs.log2 < 1920) : Flat (.int i) (.int i)
  | str (x : Str) : Flat (.str x) (.str x)
inductive Flats : List V → List PyData → Prop where
  | nil : Flats [] []
  | cons {v : V} {d : PyData} {vs : List V} {ds : List PyData} (h : Flat v d) (r : Flats vs ds) : Flats (v :: vs) (d :: ds)
/-- a thing: flat, or a list, a tuple, a dict with text keys of flat ones -/
inductive Thing (H : Hp) : V → PyData → Prop where
  | flat {v : V} {d : PyData} (h : Flat v d) : Thing H v d
  | lst {a : Addr} {xs : List V} {ds : List PyData} (e : H a = some (.lst xs)) (h : Flats xs ds) : Thing H (.ref a) (.list ds)
  | tup {a : Addr} {xs : List V} {ds : List PyData} (e : H a = some (.tup xs)) (h : Flats xs ds) : Thing H (.ref a) (.tuple ds)
  | dct {a : Addr} {ks : List Str} {xs : List V} {ds : List PyData} (e : H a = some (.dK ((ks.map Sum.inr).zip xs))) (l : ks.length = xs.length) (h : Flats xs ds) : Thing H (.ref a) (.dict ((ks.map PyData.str).zip ds))
theorem Flats.len {vs : List V} {ds : List PyData} (h : Flats vs ds) : vs.length = ds.length := by
  induction h with
  | nil => rfl
  | cons _ _ ih => simp [ih]
theorem Flat.reads {h : Heap} {v : V} {u : Value} {d : PyData} (f : Flat v d) (r : RelV v u) : Reads h u d [] := by
  cases f with
  | non =>
    cases (show u = Value.none from r)
    exact .none
  | bl b =>
    cases (show u = Value.bool b from r)
    exact .bool b
  | int i _ =>
    obtain ⟨t, q⟩ := (show ∃ t, u = Value.int i t from r)
    cases q
    exact .int i t
  | str x =>
    obtain ⟨t, q⟩ := (show ∃ t, u = Value.str x t from r)
    cases q
    exact .str x t
theorem Flats.reads {h : Heap} {vs : List V} {ds : List PyData} (f : Flats vs ds) : ∀ {us : List Value}, Vals vs us → ReadsAll h us ds [] := by
  induction f with
  | nil =>
    intro us r
    cases r
    exact .nil
  | cons f1 _ ih =>
    intro us r
    cases r with
    | cons r1 r2 => exact ReadsAll.cons (as := []) (bs := []) (f1.reads r1) (ih r2)
theorem Flat.show {v : V} {d : PyData} (f : Flat v d) : d.showable = true ∧ d.depth ≤ 1 := by
  cases f with
  | non => exact ⟨rfl, by decide⟩
  | bl b => exact ⟨rfl, by simp [PyData.depth]⟩
  | int i h => exact ⟨by simpa [PyData.showable] using h, by simp [PyData.depth]⟩
  | str x => exact ⟨rfl, by simp [PyData.depth]⟩
theorem Flats.show {vs : List V} {ds : List PyData} (f : Flats vs ds) : PyData.showableAll ds = true ∧ PyData.depthAll ds ≤ 1 := by
  induction f with
  | nil => exact ⟨by simp [PyData.showableAll], by simp [PyData.depthAll]⟩
  | cons f1 _ ih =>
    have h1 := f1.show
    exact ⟨by simp [PyData.showableAll, h1.1, ih.1], by
      have h2 := h1.2
      have h3 := ih.2
      simp only [PyData.depthAll]
      omega⟩
theorem rep_reads {h : Heap} {u : V} {d : PyData} {as : List Addr} (f : ∀ w, RelV u w → Reads h w d as) : ∀ (n : Nat) {us : List Value}, Vals (List.replicate n u) us → ∃ bs, ReadsAll h us (List.replicate n d) bs ∧ ∀ b ∈ bs, b ∈ as
  | 0, us, r => by
    cases r
    exact ⟨[], .nil, fun b z => nomatch z⟩
  | n + 1, us, r => by
    rw [List.replicate_succ] at r
    cases r with
    | cons r1 r2 =>
      obtain ⟨bs, h1, h2⟩ := rep_reads f n r2
      rw [List.replicate_succ]
      refine ⟨as ++ bs, .cons (f _ r1) h1, fun b z => ?_⟩
      rcases List.mem_append.mp z with z | z
      · exact z
      · exact h2 b z
theorem rep_show {d : PyData} (h : d.showable = true) : ∀ n : Nat, PyData.showableAll (List.replicate n d) = true ∧ PyData.depthAll (List.replicate n d) ≤ d.depth
  | 0 => ⟨by simp [PyData.showableAll], by simp [PyData.depthAll]⟩
  | n + 1 => by
    have ih := rep_show h n
    rw [List.replicate_succ]
    exact ⟨by simp [PyData.showableAll, h, ih.1], by
      have h3 := ih.2
      simp only [PyData.depthAll]
      omega⟩
theorem rep_len (d : PyData) : ∀ n : Nat, ((PyData.shownAll (List.replicate n d)).map (·.length)).sum = n * d.shown.length ∧ (PyData.shownAll (List.replicate n d)).length = n
  | 0 => by simp [PyData.shownAll]
  | n + 1 => by
    have ih := rep_len d n
    rw [List.replicate_succ]
    simp only [PyData.shownAll, List.map_cons, List.sum_cons, List.length_cons]
    rw [ih.1, ih.2, Nat.succ_mul]
    exact ⟨Nat.add_comm _ _, rfl⟩
theorem kvs_show : ∀ {ks : List Str} {ds : List PyData}, PyData.showableAll ds = true → PyData.depthAll ds ≤ 1 → PyData.showableKv ((ks.map PyData.str).zip ds) = true ∧ PyData.depthKv ((ks.map PyData.str).zip ds) ≤ 1
  | [], ds, _, _ => by simp [PyData.showableKv, PyData.depthKv]
  | k :: ks, [], _, _ => by simp [PyData.showableKv, PyData.depthKv]
  | k :: ks, d :: ds, h1, h2 => by
    simp only [PyData.showableAll, Bool.and_eq_true] at h1
    simp only [PyData.depthAll] at h2
    have ih := kvs_show (ks := ks) h1.2 (by omega)
    simp only [List.map_cons, List.zip_cons_cons]
    refine ⟨by simp [PyData.showableKv, PyData.showable, h1.1, ih.1], ?_⟩
    have h3 := ih.2
    simp only [PyData.depthKv, PyData.depth]
    omega
theorem Thing.show {H : Hp} {v : V} {d : PyData} (t : Thing H v d) : d.showable = true ∧ d.depth ≤ 4 := by
  cases t with
  | flat h => exact ⟨h.show.1, Nat.le_trans h.show.2 (by decide)⟩
  | lst e h =>
    have z := h.show
    exact ⟨by simpa [PyData.showable] using z.1, by
      have z2 := z.2
      simp only [PyData.depth]
      omega⟩
  | tup e h =>
    have z := h.show
    exact ⟨by simpa [PyData.showable] using z.1, by
      have z2 := z.2
      simp only [PyData.depth]
      omega⟩
  | @dct a ks xs ds e l h =>
    have z := kvs_show (ks := ks) h.show.1 h.show.2
    exact ⟨by simpa [PyData.showable] using z.1, by
      have z2 := z.2
      simp only [PyData.depth]
      omega⟩
/-- the dict of all modules is the text's own -/
def IsSys (K : PySem.W.Frag) : Prop := ∃ (o : Obj) (es : Array DictEntry) (n : Nat), K.lookup sysModules = some o ∧ o.data = .dict es n
section
variable {X : Cx} {pins : List (Addr × Obj)} {σ : L2.St} {H : Hp} {s : Shared}
theorem not_sys (S : IsSys X.K) (I : Inv X pins σ H s) {a : Addr} {o : Obj} {its : Array Value} {n : Nat} (e : s.heap.get? a = some o) (d : o.data = .seq its n) : a ≠ sysModules := fun z => by
  obtain ⟨o2, es, n2, hk, hd⟩ := S
  have e2 := I.kIn _ _ hk
  rw [z, e2] at e
  cases e
  rw [hd] at d
  cases d
theorem pairs_reads {h : Heap} : ∀ {ks : List Str} {xs : List V} {ds : List PyData} {vs : List (Key × Value)} {es : List DictEntry}, KV ((ks.map Sum.inr).zip xs) vs → Pairs (mixKind X.prog X.w) es vs → ks.length = xs.length → Flats xs ds →
    ReadsAll h (es.map (·.key)) (((ks.map PyData.str).zip ds).map (·.1)) [] ∧ ReadsAll h (es.map (·.val)) (((ks.map PyData.str).zip ds).map (·.2)) []
  | [], [], _, vs, es, r, p, _, f => by
    cases f
    cases r
    cases p
    exact ⟨.nil, .nil⟩
  | k :: ks, x :: xs, _, vs, es, r, p, l, f => by
    cases f with
    | cons f1 f2 =>
      cases r with
      | cons r1 r2 =>
        cases p with
        | @cons e kv es' kvs' p1 p2 p3 =>
          obtain ⟨q1, q2⟩ := r1
          have ih := pairs_reads (h := h) r2 p3 (by simpa using l) f2
          have hk : keyIs (Sum.inr k) e.key = true := by
            have z : (mixKind X.prog X.w).is _ e.key = true := p1
            rw [← q1] at z
            exact z
          rcases keyIs_shape hk with ⟨i, t, z, _⟩ | ⟨y, t, z, w⟩
          · cases z
          · cases z
            refine ⟨ReadsAll.cons (as := []) (bs := []) ?_ ih.1, ReadsAll.cons (as := []) (bs := []) ?_ ih.2⟩
            · show Reads h e.key (PyData.str k) []
              rw [w]
              exact .str _ _
            · show Reads h e.val _ []
              rw [p2]
              exact f1.reads q2
theorem Thing.reads (S : IsSys X.K) (I : Inv X pins σ H s) {v : V} {d : PyData} (t : Thing H v d) : ∃ as : List Addr, (∀ u, RelV v u → Reads s.heap u d as) ∧ sysModules ∉ as := by
  cases t with
  | flat h => exact ⟨[], fun u r => h.reads r, fun z => nomatch z⟩
  | @lst a xs ds e h =>
    obtain ⟨_, its, n, rv, ho⟩ := (show ObjOk X.prog X.w H s.heap a (.lst xs) from I.hok a _ e)
    have ne := not_sys S I ho rfl
    refine ⟨[a], fun u r => ?_, fun z => ne (List.mem_singleton.mp z).symm⟩
    cases (show u = Value.ref a from r)
    exact Reads.list ho rfl rfl (by simpa using h.reads rv)
  | @tup a xs ds e h =>
    obtain ⟨_, its, rv, o, ho, hc, n, hd⟩ := (show ObjOk X.prog X.w H s.heap a (.tup xs) from I.hok a _ e)
    refine ⟨[], fun u r => ?_, fun z => nomatch z⟩
    cases (show u = Value.ref a from r)
    exact Reads.tuple ho hc hd (by simpa using h.reads rv)
  | @dct a ks xs ds e l h =>
    obtain ⟨_, ns, vs, kv, o, es, ep, ho, hx, hd, _, hp, _⟩ := (show ObjOk X.prog X.w H s.heap a (.dK _) from I.hok a _ e)
    have ne : a ≠ sysModules := beq_eq_false_iff_ne.mp ns
    have z := pairs_reads (h := s.heap) kv hp l h
    refine ⟨[a], fun u r => ?_, fun z => ne (List.mem_singleton.mp z).symm⟩
    cases (show u = Value.ref a from r)
    exact Reads.dict (as := []) (bs := []) ho hx.1 hd z.1 z.2
/-- repr of n times one thing -/
def rShw : List V → Hp → VK → Prop := fun xs H Q => ∃ (p : Addr) (n : Nat) (v : V) (d : PyData), xs = [.ref p] ∧ H p = some (.lst (List.replicate n v)) ∧ Thing H v d ∧ n ≤ 1000 ∧ d.shown.length ≤ 1000 ∧ Q (.str (PyData.shown (.list (List.replicate n d)))) H
theorem call_rep (S : IsSys X.K) (hg : X.A.guards = some []) (hu : X.A.units + 64 < cLine) : CallR X (.builtin "repr") rShw := by
  intro pins s σ H xs us Q I r h
  obtain ⟨p, n, v, d, rfl, e, t, hn, hd, q⟩ := h
  cases r with
  | cons rp rr =>
    cases rr
    rename_i u
    obtain rfl : u = Value.ref p := rp
    obtain ⟨_, its, m, rv, ho⟩ := (show ObjOk X.prog X.w H s.heap p (.lst _) from I.hok p _ e)
    have ne := not_sys S I ho rfl
    obtain ⟨as, f, nas⟩ := t.reads S I
    obtain ⟨bs, hr, sub⟩ := rep_reads f n rv
    have hsh := rep_show t.show.1 n
    have rd : Reads s.heap (.ref p) (.list (List.replicate n d)) (p :: bs) := Reads.list ho rfl rfl (by simpa using hr)
    have dp := t.show.2
    have hl := rep_len d n
    have size : (PyData.shown (.list (List.replicate n d))).length ≤ sizeLine := by
      have z := listText_len_le (PyData.shownAll (List.replicate n d))
      rw [hl.1, hl.2] at z
      have m1 : n * d.shown.length ≤ 1000 * 1000 := Nat.mul_le_mul hn hd
      simp only [PyData.shown]
      rw [sizeLine_eq]
      omega
    refine repr_of_reads' rd (by simpa [PyData.showable] using hsh.1) (fun _ z => ?_) hg ?_ (fun _ _ z => z) (fun h' u tk k => ⟨.str _, H, ?_, ⟨u, rfl⟩, q⟩) size
    · rcases List.mem_cons.mp z with z | z
      · exact ne z.symm
      · exact nas (sub _ z)
    · have z := hsh.2
      simp only [PyData.depth]
      omega
    · exact I.kept (t' := tk) k
end
end Er
set_option Elab.async false
set_option linter.all false
set_option maxRecDepth 100000
set_option maxHeartbeats 4000000
namespace Pk
open PySem PySem.Spec PyProof.Rows L2 Er
def top (i : Nat) : Stmt := PySem.Challenge.pw_lateeditions_k42_what_are_plans.main.body.getD i (.Pass ⟨0, 0, 0, 0⟩)
abbrev FnP (K : PySem.W.Frag) (x : Str) (st : Stmt) (f : Addr) (fd : FuncData) : Prop := FunD K x x (defArgs st) (defBody st) (defScope st) [] [] f fd
/-! ### numbers -/
theorem bits_lt {z : Int} {n : Nat} (h : Builtin.Int.intBits z ≤ n) : z.natAbs < 2 ^ n := by
  unfold Builtin.Int.intBits at h
  split at h
  · rename_i e
    have e2 : z = 0 := by simpa using e
    rw [e2]
    exact Nat.pow_pos (by decide)
  · exact Nat.lt_of_lt_of_le (Nat.lt_log2_self) (Nat.pow_le_pow_right (by decide) h)
theorem bits_le {z : Int} {n : Nat} (h : z.natAbs < 2 ^ n) : Builtin.Int.intBits z ≤ n := by
  unfold Builtin.Int.intBits
  split
  · exact Nat.zero_le _
  · rename_i e
    have e2 : z.natAbs ≠ 0 := by
      intro q
      have q2 : z = 0 := by omega
      rw [q2] at e
      exact e rfl
    exact (Nat.log2_lt e2).mpr h
theorem cpw {m : Int} {n j : Nat} (h : m.natAbs < 2 ^ n) (hn : n ≤ 100) (hj : j ≤ 10) : CPw m (j : Int) := by
  have b := bits_le h
  refine ⟨by omega, ?_⟩
  have e : (2 : Int) ^ 27 = 134217728 := by decide
  rw [e]
  have z : Builtin.Int.intBits m * j ≤ 100 * 10 := Nat.mul_le_mul (by omega) hj
  have z2 : ((Builtin.Int.intBits m * j : Nat) : Int) ≤ 1000 := by omega
  rw [Int.natCast_mul] at z2
  omega
theorem mul_bd {x y A B : Int} (hx : 0 ≤ x) (hA : x ≤ A) (hy : 0 ≤ y) (hB : y ≤ B) : 0 ≤ x * y ∧ x * y ≤ A * B :=
  ⟨Int.mul_nonneg hx hy, Int.mul_le_mul hA hB hy (Int.le_trans hx hA)⟩
theorem modN {x : Int} {n : Nat} (h : 0 < n) : ∃ k : Nat, k < n ∧ x % (n : Int) = (k : Int) := by
  have h1 := Int.emod_nonneg x (show (n : Int) ≠ 0 by omega)
  have h2 := Int.emod_lt_of_pos x (show (0 : Int) < n by omega)
  exact ⟨(x % (n : Int)).toNat, by omega, by omega⟩
/-- no number of the pen has more bits -/
abbrev big : Nat := 1048600
theorem pe_i {X : Cx} {e : Expr} {te : TE} {p pos : Pos} (he : PE X e te) (hm : X.mg "int" = none) (hg : Gl X "int" := by rfl) (hs : starEach [e] X.env = (false, eval e X.env) :: starEach [] X.env := by rfl) : PE X (.Call (.Name "int" p) [e] [] pos) (tCB (fun xs H Q => (∃ i, xs = [.int i] ∧ Q (.int i) H) ∨ ∃ k, xs = [.bl k] ∧ Q (.int (if k then 1 else 0)) H) (tCons te tNil)) :=
  pe_callTy call_int1 hg hm PyProof.Rows.boot_int (pa_cons he pa_nil hs) (he := hs)
/-! ### _law_spread -/
def prA : List Int := [2147483629, 2147483587, 2147483579, 2147483563, 2147483549, 2147483543, 2147483497]
def prB : List Int := [2147483489, 2147483477, 2147483423, 2147483399, 2147483353, 2147483323]
theorem pr_at {x : Int} : ∃ p : Int, atI (prA.map V.int ++ prB.map V.int) (x % 13) = some (.int p) ∧ 0 < p ∧ p < 2147483648 := by
  obtain ⟨k, hk, e⟩ := modN (x := x) (n := 13) (by decide)
  have e2 : x % 13 = (k : Int) := e
  have z : ∀ p ∈ prA ++ prB, (0 : Int) < p ∧ p < 2147483648 := by decide
  have l : k < (prA ++ prB).length := hk
  refine ⟨(prA ++ prB)[k]'l, ?_, (z _ (List.getElem_mem l)).1, (z _ (List.getElem_mem l)).2⟩
  rw [e2, ← List.map_append]
  exact atI_nat (by rw [List.getElem?_map, List.getElem?_eq_getElem l]; rfl)
def spSpread : Sp := fun vs H Q _ => ∃ (c : Int) (a : Nat), vs = [.int c, .int a] ∧ a ≤ 1000 ∧ Builtin.Int.intBits c ≤ big ∧ ∀ (r : Int) H', Sm H H' → (∀ b, H' b = none → H b = none) → 0 ≤ r → Builtin.Int.intBits r ≤ big → Q (.int r) H'
abbrev nSpread : List Str := ["_law_cell", "_law_at", "_law_primes", "_law_mixed", "_law_one_here", "_law_rest", "_law_two", "_law_three"]
theorem scSpread : FnScope nSpread ["_law_cell", "_law_at"] (defScope (top 18)) := ⟨rfl, rfl, rfl, by decide +kernel, rfl, by decide +kernel, by decide +kernel⟩
theorem none_upd {H : Hp} {a : Addr} {o : HO} : ∀ b, upd H a o b = none → H b = none := fun b e => by
  by_cases z : b = a
  · rw [z, upd_same] at e
    cases e
  · rw [upd_ne z] at e
    exact e
section
variable {P : Program} {w : World} {K : PySem.W.Frag} {mg : Str → Option Value} {base : Heap} {f : Addr} {fd : FuncData}
theorem ok_spread (F : FnP K "_law_spread" (top 18) f fd) (mi : mg "int" = none) : FnOk P w K mg base CX0 1 f fd ["_law_cell", "_law_at"] spSpread := by
  refine F.ok (CX := CX0) scSpread (fun vs H Q E h => ?_) (fun cdv A outer s H vs Q E hr h => ?_)
  · obtain ⟨c, a, rfl, _⟩ := h
    rfl
  · refine ⟨_, PSs.nox (pss_cons (ps_if (pt_cmpR op_ge (pv 0) (pe_op op_pow pe_int pe_int) (nomark _)) (pss_one (ps_ret (pv 0))) pss_nil)
      (pss_cons (ps_set (i := 2) scSpread.nd rfl (.inl rfl) (pe_lst (pa_cons pe_int (pa_cons pe_int (pa_cons pe_int (pa_cons pe_int (pa_cons pe_int (pa_cons pe_int (pa_cons pe_int pa_nil)))))))))
      (pss_cons (ps_set (i := 2) scSpread.nd rfl (.inl rfl) (pe_op op_cat (pv 2) (pe_lst (pa_cons pe_int (pa_cons pe_int (pa_cons pe_int (pa_cons pe_int (pa_cons pe_int (pa_cons pe_int pa_nil)))))))))
      (pss_cons (ps_set (i := 3) scSpread.nd rfl (.inl rfl) (pe_op op_add (pe_op op_add (pe_op op_mul (pe_op op_mod (pe_i (pv 0) mi) pe_int) (pe_op op_add (pe_op op_mul pe_int (pv 1)) pe_int)) (pe_op op_mul (pv 1) pe_int)) pe_int))
      (pss_cons (ps_set (i := 4) scSpread.nd rfl (.inl rfl) (pe_op op_mod (pe_i (pe_op op_powB (pv 3) pe_int) mi) (pe_ix ix_list (pv 2) (pe_op op_mod (pe_i (pv 1) mi) pe_int) (fun _ _ => rfl))))
      (pss_cons (ps_set (i := 5) scSpread.nd rfl (.inl rfl) (pe_op op_add (pe_op op_mod (pe_i (pv 0) mi) pe_int) pe_int))
      (pss_cons (ps_set (i := 6) scSpread.nd rfl (.inl rfl) (pe_op op_mod (pe_i (pe_op op_powB (pe_op op_add (pe_op op_mul (pv 4) (pe_op op_add (pv 1) pe_int)) (pv 5)) pe_int) mi) (pe_ix ix_list (pv 2) (pe_op op_mod (pe_i (pe_op op_add (pv 1) pe_int) mi) pe_int) (fun _ _ => rfl))))
      (pss_cons (ps_set (i := 7) scSpread.nd rfl (.inl rfl) (pe_op op_mod (pe_i (pe_op op_powB (pe_op op_add (pe_op op_add (pv 6) (pe_op op_mod (pe_i (pv 4) mi) pe_int)) (pv 1)) pe_int) mi) (pe_ix ix_list (pv 2) (pe_op op_mod (pe_i (pe_op op_add (pv 1) pe_int) mi) pe_int) (fun _ _ => rfl))))
      (pss_one (ps_ret (pe_op op_add (pe_op op_mul (pe_op op_add (pe_op op_mul (pv 4) pe_int) (pv 6)) pe_int) (pv 7)))))))))))), ?_⟩
    obtain ⟨c, a, rfl, ha, hc, q⟩ := h
    refine ⟨_, rfl, _, _, rfl, rfl, ⟨by decide, by decide, by decide⟩, _, _, rfl, rfl, _, rfl, ?_⟩
    by_cases g : (10 : Int) ^ (18 : Int).toNat ≤ c
    · rw [decide_eq_true g]
      refine iteT ⟨_, rfl, q c H (Sm.refl H) (fun _ e => e) ?_ hc⟩
      have e : (10 : Int) ^ (18 : Int).toNat = 1000000000000000000 := by decide
      omega
    · rw [decide_eq_false g]
      refine iteF ?_
      have sz : ∀ n : Nat, n ≤ 1000 → n ≤ sizeLine := fun n z => by
        rw [sizeLine_eq]
        omega
      refine ⟨sz _ (by decide), fun l1 n1 => ⟨_, rfl, sz _ (by decide), fun l2 n2 => ⟨_, _, _, _, rfl, rfl, Sm.new n2 _ _ upd_same, upd_same, sz _ (by decide), fun l3 n3 => ?_⟩⟩⟩
      have m3 : Sm H (upd (upd (upd H l1 (.lst (prA.map V.int))) l2 (.lst (prB.map V.int))) l3 (.lst (prA.map V.int ++ prB.map V.int))) := (Sm.new n1).trans ((Sm.new n2).trans (Sm.new n3))
      have fr : ∀ b, upd (upd (upd H l1 (.lst (prA.map V.int))) l2 (.lst (prB.map V.int))) l3 (.lst (prA.map V.int ++ prB.map V.int)) b = none → H b = none := fun b e => none_upd b (none_upd b (none_upd b e))
      have at3 : upd (upd (upd H l1 (.lst (prA.map V.int))) l2 (.lst (prB.map V.int))) l3 (.lst (prA.map V.int ++ prB.map V.int)) l3 = some (.lst (prA.map V.int ++ prB.map V.int)) := upd_same
      have fin : ∀ (G : Hp), Sm H G → (∀ b, G b = none → H b = none) → ∀ (one rest two three : Int), 0 ≤ one → one < 2147483648 → 0 ≤ two → two < 2147483648 → 0 ≤ three → three < 2147483648 → Q (.int ((one * 2147483647 + two) * 2147483647 + three)) G := fun G m f one rest two three h1 h2 h3 h4 h5 h6 => by
        refine q _ G m f (by omega) (Nat.le_trans (bits_le (n := 94) ?_) (by decide))
        have e : (2 : Nat) ^ 94 = 19807040628566084398385987584 := by decide
        rw [e]
        omega
      have S : SqL K (upd (upd (upd H l1 (.lst (prA.map V.int))) l2 (.lst (prB.map V.int))) l3 (.lst (prA.map V.int ++ prB.map V.int))) l3 (prA.map V.int ++ prB.map V.int) := .inl (.inl at3)
      have c0 := Int.emod_nonneg c (show (1000000007 : Int) ≠ 0 by decide)
      have c1 := Int.emod_lt_of_pos c (show (0 : Int) < 1000000007 by decide)
      have r0 := Int.emod_nonneg c (show (65537 : Int) ≠ 0 by decide)
      have r1 := Int.emod_lt_of_pos c (show (0 : Int) < 65537 by decide)
      have b1 := mul_bd c0 (A := 1000000007) (by omega) (y := 2 * (a : Int) + 69069) (B := 71069) (by omega) (by omega)
      refine ⟨_, rfl, .inl ⟨_, rfl, _, _, rfl, rfl, by show (0 : Int) < 1000000007; decide, _, rfl, _, _, rfl, rfl, .inl ⟨by decide, by decide⟩, _, _, rfl, rfl, _, _, rfl, rfl, .inl ⟨by omega, by omega⟩, _, rfl, _, _, rfl, rfl, .inl ⟨by omega, by omega⟩, _, _, rfl, rfl, _, _, rfl, rfl, ?_⟩⟩
      have mx : (c % 1000000007 * (2 * (a : Int) + 69069) + (a : Int) * 40503 + 977).natAbs < 2 ^ 60 := by
        have e : (2 : Nat) ^ 60 = 1152921504606846976 := by decide
        rw [e]
        omega
      obtain ⟨p1, e1, p1a, p1b⟩ := pr_at (x := (a : Int))
      refine ⟨_, rfl, _, _, rfl, rfl, cpw (n := 60) (j := 3) mx (by decide) (by decide), .inl ⟨_, rfl, _, rfl, _, rfl, .inl ⟨_, rfl, _, _, rfl, rfl, by show (0 : Int) < 13; decide, _, _, _, _, rfl, rfl, S, e1, _, _, rfl, rfl, p1a, ?_⟩⟩⟩
      have o0 : 0 ≤ ((c % 1000000007 * (2 * (a : Int) + 69069) + (a : Int) * 40503 + 977) ^ (3 : Int).toNat % p1) := Int.emod_nonneg _ (by omega)
      have o1 : ((c % 1000000007 * (2 * (a : Int) + 69069) + (a : Int) * 40503 + 977) ^ (3 : Int).toNat % p1) < 2147483648 := by
        have := Int.emod_lt_of_pos ((c % 1000000007 * (2 * (a : Int) + 69069) + (a : Int) * 40503 + 977) ^ (3 : Int).toNat) p1a
        omega
      refine ⟨_, rfl, .inl ⟨_, rfl, _, _, rfl, rfl, by show (0 : Int) < 65537; decide, _, _, rfl, rfl, ?_⟩⟩
      have b2 := mul_bd o0 (A := 2147483648) (by omega) (y := (a : Int) + 3) (B := 1003) (by omega) (by omega)
      have bx : (((c % 1000000007 * (2 * (a : Int) + 69069) + (a : Int) * 40503 + 977) ^ (3 : Int).toNat % p1) * ((a : Int) + 3) + (c % 65537 + 5)).natAbs < 2 ^ 60 := by
        have e : (2 : Nat) ^ 60 = 1152921504606846976 := by decide
        rw [e]
        omega
      obtain ⟨p2, e2, p2a, p2b⟩ := pr_at (x := (a : Int) + 5)
      refine ⟨_, rfl, _, rfl, _, _, rfl, rfl, _, _, rfl, rfl, .inl ⟨by omega, by omega⟩, _, rfl, _, _, rfl, rfl, _, _, rfl, rfl, cpw (n := 60) (j := 5) bx (by decide) (by decide), .inl ⟨_, rfl, _, rfl, _, rfl, _, _, rfl, rfl, .inl ⟨_, rfl, _, _, rfl, rfl, by show (0 : Int) < 13; decide, _, _, _, _, rfl, rfl, S, e2, _, _, rfl, rfl, p2a, ?_⟩⟩⟩
      have t0 : 0 ≤ ((((c % 1000000007 * (2 * (a : Int) + 69069) + (a : Int) * 40503 + 977) ^ (3 : Int).toNat % p1) * ((a : Int) + 3) + (c % 65537 + 5)) ^ (5 : Int).toNat % p2) := Int.emod_nonneg _ (by omega)
      have t1 : ((((c % 1000000007 * (2 * (a : Int) + 69069) + (a : Int) * 40503 + 977) ^ (3 : Int).toNat % p1) * ((a : Int) + 3) + (c % 65537 + 5)) ^ (5 : Int).toNat % p2) < 2147483648 := by
        have := Int.emod_lt_of_pos ((((c % 1000000007 * (2 * (a : Int) + 69069) + (a : Int) * 40503 + 977) ^ (3 : Int).toNat % p1) * ((a : Int) + 3) + (c % 65537 + 5)) ^ (5 : Int).toNat) p2a
        omega
      have by_ : (((((c % 1000000007 * (2 * (a : Int) + 69069) + (a : Int) * 40503 + 977) ^ (3 : Int).toNat % p1) * ((a : Int) + 3) + (c % 65537 + 5)) ^ (5 : Int).toNat % p2) + ((c % 1000000007 * (2 * (a : Int) + 69069) + (a : Int) * 40503 + 977) ^ (3 : Int).toNat % p1) % 1009 + (a : Int)).natAbs < 2 ^ 60 := by
        have e : (2 : Nat) ^ 60 = 1152921504606846976 := by decide
        rw [e]
        omega
      obtain ⟨p3, e3, p3a, p3b⟩ := pr_at (x := (a : Int) + 7)
      refine ⟨_, rfl, _, rfl, .inl ⟨_, rfl, _, _, rfl, rfl, by show (0 : Int) < 1009; decide, _, _, rfl, rfl, _, rfl, _, _, rfl, rfl, _, _, rfl, rfl, cpw (n := 60) (j := 3) by_ (by decide) (by decide), .inl ⟨_, rfl, _, rfl, _, rfl, _, _, rfl, rfl, .inl ⟨_, rfl, _, _, rfl, rfl, by show (0 : Int) < 13; decide, _, _, _, _, rfl, rfl, S, e3, _, _, rfl, rfl, p3a, ?_⟩⟩⟩⟩
      have h0 : 0 ≤ ((((((c % 1000000007 * (2 * (a : Int) + 69069) + (a : Int) * 40503 + 977) ^ (3 : Int).toNat % p1) * ((a : Int) + 3) + (c % 65537 + 5)) ^ (5 : Int).toNat % p2) + ((c % 1000000007 * (2 * (a : Int) + 69069) + (a : Int) * 40503 + 977) ^ (3 : Int).toNat % p1) % 1009 + (a : Int)) ^ (3 : Int).toNat % p3) := Int.emod_nonneg _ (by omega)
      have h1 : ((((((c % 1000000007 * (2 * (a : Int) + 69069) + (a : Int) * 40503 + 977) ^ (3 : Int).toNat % p1) * ((a : Int) + 3) + (c % 65537 + 5)) ^ (5 : Int).toNat % p2) + ((c % 1000000007 * (2 * (a : Int) + 69069) + (a : Int) * 40503 + 977) ^ (3 : Int).toNat % p1) % 1009 + (a : Int)) ^ (3 : Int).toNat % p3) < 2147483648 := by
        have := Int.emod_lt_of_pos ((((((c % 1000000007 * (2 * (a : Int) + 69069) + (a : Int) * 40503 + 977) ^ (3 : Int).toNat % p1) * ((a : Int) + 3) + (c % 65537 + 5)) ^ (5 : Int).toNat % p2) + ((c % 1000000007 * (2 * (a : Int) + 69069) + (a : Int) * 40503 + 977) ^ (3 : Int).toNat % p1) % 1009 + (a : Int)) ^ (3 : Int).toNat) p3a
        omega
      refine ⟨_, rfl, _, _, rfl, rfl, .inl ⟨by omega, by omega⟩, _, rfl, _, _, rfl, rfl, _, _, rfl, rfl, .inl ⟨by omega, by omega⟩, _, rfl, _, _, rfl, rfl, ?_⟩
      exact fin _ m3 fr _ 0 _ _ o0 o1 t0 t1 h0 h1
end
end Pk
set_option Elab.async false
set_option linter.all false
set_option maxRecDepth 100000
set_option maxHeartbeats 4000000
namespace Pk
open PySem PySem.Spec PyProof.Rows L2 Er
/-! ### the pen from which is drawn -/
/-- all but p stands -/
def Sx (p : Addr) (H H' : Hp) : Prop := ∀ b o, b ≠ p → H b = some o → H' b = some o
theorem Sx.refl (p : Addr) (H : Hp) : Sx p H H := fun _ _ _ e => e
theorem Sx.trans {p : Addr} {H H1 H2 : Hp} (a : Sx p H H1) (b : Sx p H1 H2) : Sx p H H2 := fun c o n e => b c o n (a c o n e)
theorem Sx.of {p : Addr} {H H' : Hp} (m : Sm H H') : Sx p H H' := fun b o _ e => m b o e
theorem Sx.upd {p : Addr} {H : Hp} {o : HO} : Sx p H (upd H p o) := fun b u n e => by
  rw [upd_ne n]
  exact e
/-- at pn: the cells, their place, what is left of the last one -/
def PenV (H : Hp) (pn cl : Addr) (cs : List Int) (at_ : Nat) (v : Int) : Prop :=
  H pn = some (.lst [.ref cl, .int at_, .int v]) ∧ H cl = some (.lst (cs.map V.int)) ∧ cs.length ≤ 12 ∧ (∀ z ∈ cs, Builtin.Int.intBits z ≤ big) ∧ 0 ≤ v ∧ Builtin.Int.intBits v ≤ big
def Pen (H : Hp) (pn cl : Addr) (n : Nat) : Prop := ∃ (cs : List Int) (at_ : Nat) (v : Int), PenV H pn cl cs at_ v ∧ at_ ≤ n
theorem penv_ne {H : Hp} {pn cl : Addr} {cs : List Int} {at_ : Nat} {v : Int} (h : PenV H pn cl cs at_ v) : cl ≠ pn := fun z => by
  obtain ⟨h1, h2, _⟩ := h
  rw [z, h1] at h2
  have e := HO.lst.inj (Option.some.inj h2)
  cases cs with
  | nil => cases e
  | cons c cs => cases e
theorem Pen.sm {H H' : Hp} {pn cl : Addr} {n : Nat} (h : Pen H pn cl n) (m : Sm H H') : Pen H' pn cl n := by
  obtain ⟨cs, at_, v, ⟨h1, h2, r⟩, k⟩ := h
  exact ⟨cs, at_, v, ⟨m _ _ h1, m _ _ h2, r⟩, k⟩
theorem Pen.mono {H : Hp} {pn cl : Addr} {n m : Nat} (h : Pen H pn cl n) (l : n ≤ m) : Pen H pn cl m := by
  obtain ⟨cs, at_, v, r, k⟩ := h
  exact ⟨cs, at_, v, r, Nat.le_trans k l⟩
theorem Pen.at_ {H : Hp} {pn cl : Addr} {n : Nat} (h : Pen H pn cl n) : ∃ xs, H pn = some (.lst xs) := by
  obtain ⟨cs, at_, v, ⟨h1, _⟩, k⟩ := h
  exact ⟨_, h1⟩
/-- a pen that is written anew -/
theorem PenV.put {H H' : Hp} {pn cl : Addr} {cs : List Int} {at_ at2 n : Nat} {v v2 : Int} (h : PenV H pn cl cs at_ v) (m : Sx pn H H') (e : H' pn = some (.lst [.ref cl, .int at2, .int v2])) (l : at2 ≤ n) (v0 : 0 ≤ v2) (vb : Builtin.Int.intBits v2 ≤ big) : Pen H' pn cl n :=
  ⟨cs, at2, v2, ⟨e, m _ _ (penv_ne h) h.2.1, h.2.2.1, h.2.2.2.1, v0, vb⟩, l⟩
theorem div_bits {v : Int} {m : Nat} (h : 0 ≤ v) (b : Builtin.Int.intBits v ≤ big) : 0 ≤ v.fdiv (m : Int) ∧ Builtin.Int.intBits (v.fdiv (m : Int)) ≤ big := by
  rw [Int.fdiv_eq_ediv_of_nonneg _ (by omega)]
  have h1 := Int.ediv_nonneg h (show (0 : Int) ≤ (m : Int) by omega)
  have h2 : v / (m : Int) ≤ v := Int.ediv_le_self _ h
  have h3 := bits_lt b
  exact ⟨h1, bits_le (by omega)⟩
/-- an if whose else is empty: what comes behind is read once -/
theorem ite_both {c : Bool} {A : Prop} {T : L2.St → Hp → Prop} {σ : L2.St} {H : Hp} (R : L2.St → Hp → Prop) (hT : ∀ σ' H', R σ' H' → T σ' H') (hA : c = true → (∀ σ' H', R σ' H' → T σ' H') → A) (hB : c = false → R σ H) : if c = true then A else T σ H := by
  cases c with
  | true => exact hA rfl hT
  | false => exact hT _ _ (hB rfl)
def spTake : Sp := fun vs H Q _ => ∃ (pn cl : Addr) (m n : Nat), vs = [.ref pn, .int m] ∧ Pen H pn cl n ∧ n ≤ 900 ∧ 0 < m ∧ m ≤ 1000 ∧
  ∀ (k : Nat) H', k < m → Sx pn H H' → (∀ b, H' b = none → H b = none) → Pen H' pn cl (n + 1) → Q (.int k) H'
abbrev nTake : List Str := ["_law_pen", "_law_many", "_law_at", "_law_cell", "_law_found"]
theorem scTake : FnScope nTake ["_law_pen", "_law_many"] (defScope (top 20)) := ⟨rfl, rfl, rfl, by decide +kernel, rfl, by decide +kernel, by decide +kernel⟩
def spAnew : Sp := fun vs H Q _ => ∃ (pn cl : Addr) (n : Nat), vs = [.ref pn] ∧ Pen H pn cl n ∧ ∀ H', Sx pn H H' → (∀ b, H' b = none → H b = none) → Pen H' pn cl n → Q (.ref pn) H'
abbrev nAnew : List Str := ["_law_pen"]
theorem scAnew : FnScope nAnew ["_law_pen"] (defScope (top 21)) := ⟨rfl, rfl, rfl, by decide +kernel, rfl, by decide +kernel, by decide +kernel⟩
def spOne : Sp := fun vs H Q _ => ∃ (pn cl l : Addr) (xs : List V) (n : Nat), vs = [.ref pn, .ref l] ∧ Pen H pn cl n ∧ n ≤ 900 ∧ H l = some (.lst xs) ∧ l ≠ pn ∧ 0 < xs.length ∧ xs.length ≤ 1000 ∧
  ∀ x H', x ∈ xs → Sx pn H H' → (∀ b, H' b = none → H b = none) → Pen H' pn cl (n + 1) → Q x H'
abbrev nOne : List Str := ["_law_pen", "_law_some"]
theorem scOne : FnScope nOne nOne (defScope (top 22)) := ⟨rfl, rfl, rfl, by decide +kernel, rfl, by decide +kernel, by decide +kernel⟩
section
variable {P : Program} {w : World} {K : PySem.W.Frag} {mg : Str → Option Value} {base : Heap} {f fS fT : Addr} {fd dS dT : FuncData}
theorem bSpread (F : FnP K "_law_spread" (top 18) fS dS) : Binds K dS ["_law_cell", "_law_at"] [] := F.bindsN fun _ _ _ _ _ _ us hl => match us, hl with
  | [_, _], _ => rfl
theorem bTake (F : FnP K "_law_take" (top 20) fT dT) : Binds K dT ["_law_pen", "_law_many"] [] := F.bindsN fun _ _ _ _ _ _ us hl => match us, hl with
  | [_, _], _ => rfl
theorem ok_take (F : FnP K "_law_take" (top 20) f fd) (mi : mg "int" = none) (ml : mg "len" = none) (FS : FnP K "_law_spread" (top 18) fS dS) (gS : mg "_law_spread" = some (.ref fS)) : FnOk P w K mg base CX0 2 f fd ["_law_pen", "_law_many"] spTake := by
  have GS : FnOk P w K mg base CX0 1 fS dS ["_law_cell", "_law_at"] spSpread := ok_spread FS mi
  refine F.ok (CX := CX0) scTake (fun vs H Q E h => ?_) (fun cdv A outer s H vs Q E hr h => ?_)
  · obtain ⟨pn, cl, m, n, rfl, _⟩ := h
    rfl
  · refine ⟨_, PSs.nox (pss_cons (ps_if (pt_cmpR op_lt (pe_ix ix_list (pv 0) pe_int (fun _ _ => rfl)) (pv 1) (nomark _))
        (pss_cons (ps_set (i := 2) scTake.nd rfl (.inl rfl) (pe_ix ix_list (pv 0) pe_int (fun _ _ => rfl)))
        (pss_cons (ps_set (i := 3) scTake.nd rfl (.inl rfl) pe_int)
        (pss_cons (ps_if (pt_cmpR op_lt (pv 2) (pe_callB call_len rfl ml boot_len (pa_cons (pe_ix ix_list (pv 0) pe_int (fun _ _ => rfl)) pa_nil)) (nomark _))
            (pss_one (ps_set (i := 3) scTake.nd rfl (.inl rfl) (pe_ix ix_list (pe_ix ix_list (pv 0) pe_int (fun _ _ => rfl)) (pv 2) (fun _ _ => rfl))))
            (pss_one (ps_if (pt_cmpR op_gt (pe_callB call_len rfl ml boot_len (pa_cons (pe_ix ix_list (pv 0) pe_int (fun _ _ => rfl)) pa_nil)) pe_int (nomark _))
              (pss_one (ps_set (i := 3) scTake.nd rfl (.inl rfl) (pe_op op_mod (pe_i (pe_ix ix_list (pe_ix ix_list (pv 0) pe_int (fun _ _ => rfl)) (pe_op op_mod (pe_i (pe_op op_add (pe_op op_mul (pv 2) pe_int) pe_int) mi) (pe_callB call_len rfl ml boot_len (pa_cons (pe_ix ix_list (pv 0) pe_int (fun _ _ => rfl)) pa_nil))) (fun _ _ => rfl)) mi) (pe_op op_add (pe_op op_pow pe_int pe_int) (pv 2))))) pss_nil)))
        (pss_cons (ps_asg (pe_op op_add (pv 2) pe_int) (pg_sub (pv 0) pe_int set_list))
        (pss_one (ps_asg (by exact (pe_call GS hr rfl gS FS.kp (bSpread FS) .nil pass0 (pa_cons (pv 3) (pa_cons (pv 2) pa_nil)))) (pg_sub (pv 0) pe_int set_list))))))) pss_nil)
      (pss_cons (ps_set (i := 4) scTake.nd rfl (.inl rfl) (pe_op op_mod (pe_i (pe_ix ix_list (pv 0) pe_int (fun _ _ => rfl)) mi) (pv 1)))
      (pss_cons (ps_asg (pe_op op_fdivN (pe_ix ix_list (pv 0) pe_int (fun _ _ => rfl)) (pv 1)) (pg_sub (pv 0) pe_int set_list))
      (pss_one (ps_ret (pv 4)))))), ?_⟩
    obtain ⟨pn, cl, m, n, rfl, ⟨cs, at_, v, pen, le⟩, hn, m0, m1, q⟩ := h
    have hp := pen.1
    have hc := pen.2.1
    have S : SqL K H pn [.ref cl, .int at_, .int v] := .inl (.inl hp)
    have C : SqL K H cl (cs.map V.int) := .inl (.inl hc)
    have at0 : ∀ {u : Int} {a2 : Int}, atI [V.ref cl, V.int a2, V.int u] 0 = some (.ref cl) := atI_nat (j := 0) rfl
    have at1 : ∀ {u : Int} {a2 : Int}, atI [V.ref cl, V.int a2, V.int u] 1 = some (.int a2) := atI_nat (j := 1) rfl
    have at2 : ∀ {u : Int} {a2 : Int}, atI [V.ref cl, V.int a2, V.int u] 2 = some (.int u) := atI_nat (j := 2) rfl
    refine ⟨_, rfl, _, _, _, _, rfl, rfl, S, at2, _, rfl, _, _, rfl, rfl, _, rfl, ?_⟩
    refine ite_both (fun σ G => ∃ (a2 : Nat) (v2 : Int) (o2 o3 : Option V), σ = [some (.ref pn), some (.int m), o2, o3, none] ∧ Sx pn H G ∧ (∀ b, G b = none → H b = none) ∧ G pn = some (.lst [.ref cl, .int a2, .int v2]) ∧ a2 ≤ n + 1 ∧ 0 ≤ v2 ∧ Builtin.Int.intBits v2 ≤ big) ?_ ?_ fun _ => ⟨at_, v, none, none, rfl, Sx.refl _ _, fun _ e => e, hp, by omega, pen.2.2.2.2.1, pen.2.2.2.2.2⟩
    · rintro σ G ⟨a2, v2, o2, o3, rfl, sx, fr, e, le2, v0, vb⟩
      have SG : SqL K G pn [.ref cl, .int a2, .int v2] := .inl (.inl e)
      obtain ⟨k, hk, ek⟩ := modN (x := v2) m0
      refine ⟨_, rfl, _, _, _, _, rfl, rfl, SG, at2, .inl ⟨_, rfl, _, rfl, _, _, rfl, rfl, by show (0 : Int) < m; omega, ?_⟩⟩
      refine ⟨_, rfl, _, _, _, _, rfl, rfl, SG, at2, _, rfl, _, _, rfl, rfl, ⟨by omega, by omega⟩, _, rfl, _, _, _, 2, rfl, rfl, e, rfl, ?_⟩
      refine ⟨_, rfl, ?_⟩
      show Q (.int (v2 % (m : Int))) (upd G pn (.lst [.ref cl, .int a2, .int (v2.fdiv (m : Int))]))
      rw [ek]
      have d := div_bits (m := m) v0 vb
      exact q k _ hk (sx.trans Sx.upd) (fun b z => fr b (none_upd _ z)) (pen.put (sx.trans Sx.upd) upd_same le2 d.1 d.2)
    · intro _ back
      have len : LenV K (.ref cl) H cs.length := .inl ⟨_, C, by rw [List.length_map]⟩
      refine ⟨_, rfl, _, _, _, _, rfl, rfl, S, at1, ?_⟩
      refine ⟨_, rfl, _, rfl, _, _, _, _, rfl, rfl, S, at0, _, cs.length, rfl, len, _, _, rfl, rfl, _, rfl, ?_⟩
      by_cases c1 : ((at_ : Nat) : Int) < ((cs.length : Nat) : Int)
      · rw [decide_eq_true c1]
        have l : at_ < cs.length := by omega
        refine iteT ⟨_, rfl, _, _, _, _, rfl, rfl, S, at0, _, rfl, _, _, _, _, rfl, rfl, C, atI_nat (by rw [List.getElem?_map, List.getElem?_eq_getElem l]; rfl), ?_⟩
        refine ⟨_, rfl, _, _, rfl, rfl, _, rfl, _, _, _, 1, rfl, rfl, hp, rfl, ?_⟩
        refine ⟨_, rfl, _, rfl, _, at_, rfl, by omega, pen.2.2.2.1 _ (List.getElem_mem l), fun r G1 s1 f1 r0 rb => ?_⟩
        have e1 := s1 _ _ (show upd H pn (.lst [.ref cl, .int ((at_ : Nat) + 1), .int v]) pn = _ from upd_same)
        refine ⟨_, rfl, _, _, _, 2, rfl, rfl, e1, rfl, ?_⟩
        refine back _ _ ⟨at_ + 1, r, _, _, rfl, (Sx.upd.trans (Sx.of s1)).trans Sx.upd, fun b e => ?_, upd_same, by omega, r0, rb⟩
        have z := f1 _ (none_upd _ e)
        exact none_upd _ z
      · rw [decide_eq_false c1]
        refine iteF ⟨_, rfl, _, _, _, _, rfl, rfl, S, at0, _, cs.length, rfl, len, _, _, rfl, rfl, _, rfl, ?_⟩
        by_cases c2 : (0 : Int) < ((cs.length : Nat) : Int)
        · rw [decide_eq_true c2]
          obtain ⟨k, hk, ek⟩ := modN (x := (at_ : Int) * 5 + 3) (n := cs.length) (by omega)
          have ck : atI (cs.map V.int) (((at_ : Int) * 5 + 3) % ((cs.length : Nat) : Int)) = some (.int (cs[k]'hk)) := by
            rw [ek]
            exact atI_nat (by rw [List.getElem?_map, List.getElem?_eq_getElem hk]; rfl)
          have e17 : (10 : Int) ^ (17 : Int).toNat = 100000000000000000 := by decide
          have p0 : (0 : Int) < (10 : Int) ^ (17 : Int).toNat + (at_ : Int) := by omega
          have bz : Builtin.Int.intBits (cs[k]'hk % ((10 : Int) ^ (17 : Int).toNat + (at_ : Int))) ≤ big := by
            have z0 := Int.emod_nonneg (cs[k]'hk) (show (10 : Int) ^ (17 : Int).toNat + (at_ : Int) ≠ 0 by omega)
            have z1 := Int.emod_lt_of_pos (cs[k]'hk) p0
            refine Nat.le_trans (bits_le (n := 60) ?_) (by decide)
            have e : (2 : Nat) ^ 60 = 1152921504606846976 := by decide
            rw [e]
            omega
          refine iteT ⟨_, rfl, _, _, _, _, rfl, rfl, S, at0, _, rfl, _, _, rfl, rfl, .inl ⟨by omega, by omega⟩, _, _, rfl, rfl, .inl ⟨_, rfl, _, rfl, _, _, _, _, rfl, rfl, S, at0, _, cs.length, rfl, len, _, _, rfl, rfl, by omega, _, _, _, _, rfl, rfl, C, ck, .inl ⟨_, rfl, _, _, rfl, rfl, ⟨by decide, by decide, by decide⟩, _, rfl, _, _, rfl, rfl, _, _, rfl, rfl, p0, ?_⟩⟩⟩
          refine ⟨_, rfl, _, _, rfl, rfl, _, rfl, _, _, _, 1, rfl, rfl, hp, rfl, ?_⟩
          refine ⟨_, rfl, _, rfl, _, at_, rfl, by omega, bz, fun r G1 s1 f1 r0 rb => ?_⟩
          have e1 := s1 _ _ (show upd H pn (.lst [.ref cl, .int ((at_ : Nat) + 1), .int v]) pn = _ from upd_same)
          refine ⟨_, rfl, _, _, _, 2, rfl, rfl, e1, rfl, ?_⟩
          refine back _ _ ⟨at_ + 1, r, _, _, rfl, (Sx.upd.trans (Sx.of s1)).trans Sx.upd, fun b e => ?_, upd_same, by omega, r0, rb⟩
          have z := f1 _ (none_upd _ e)
          exact none_upd _ z
        · rw [decide_eq_false c2]
          refine iteF ?_
          refine ⟨_, rfl, _, _, rfl, rfl, _, rfl, _, _, _, 1, rfl, rfl, hp, rfl, ?_⟩
          refine ⟨_, rfl, _, rfl, 0, at_, rfl, by omega, by decide, fun r G1 s1 f1 r0 rb => ?_⟩
          have e1 := s1 _ _ (show upd H pn (.lst [.ref cl, .int ((at_ : Nat) + 1), .int v]) pn = _ from upd_same)
          refine ⟨_, rfl, _, _, _, 2, rfl, rfl, e1, rfl, ?_⟩
          refine back _ _ ⟨at_ + 1, r, _, _, rfl, (Sx.upd.trans (Sx.of s1)).trans Sx.upd, fun b e => ?_, upd_same, by omega, r0, rb⟩
          have z := f1 _ (none_upd _ e)
          exact none_upd _ z
theorem ok_anew (F : FnP K "_law_anew" (top 21) f fd) : FnOk P w K mg base CX0 1 f fd ["_law_pen"] spAnew := by
  refine F.ok (CX := CX0) scAnew (fun vs H Q E h => ?_) (fun cdv A outer s H vs Q E hr h => ?_)
  · obtain ⟨pn, cl, n, rfl, _⟩ := h
    rfl
  · refine ⟨_, PSs.nox (pss_cons (ps_asg pe_int (pg_sub (pv 0) pe_int set_list)) (pss_one (ps_ret (pv 0)))), ?_⟩
    obtain ⟨pn, cl, n, rfl, ⟨cs, at_, v, pen, le⟩, q⟩ := h
    exact ⟨_, rfl, _, _, _, 2, rfl, rfl, pen.1, rfl, _, rfl, q _ Sx.upd (fun b e => none_upd _ e) (pen.put Sx.upd upd_same le (by decide) (by decide))⟩
theorem ok_one (F : FnP K "_law_one" (top 22) f fd) (ml : mg "len" = none) (GT : FnOk P w K mg base CX0 2 fT dT ["_law_pen", "_law_many"] spTake) (FT : FnP K "_law_take" (top 20) fT dT) (gT : mg "_law_take" = some (.ref fT)) : FnOk P w K mg base CX0 3 f fd nOne spOne := by
  refine F.ok (CX := CX0) scOne (fun vs H Q E h => ?_) (fun cdv A outer s H vs Q E hr h => ?_)
  · obtain ⟨pn, cl, l, xs, n, rfl, _⟩ := h
    rfl
  · refine ⟨_, PSs.nox (pss_one (ps_ret (pe_ix ix_list (pv 1) (by exact (pe_call GT hr rfl gT FT.kp (bTake FT) .nil pass0 (pa_cons (pv 0) (pa_cons (pe_callB call_len rfl ml boot_len (pa_cons (pv 1) pa_nil)) pa_nil)))) (fun _ _ => rfl)))), ?_⟩
    obtain ⟨pn, cl, l, xs, n, rfl, pen, hn, hl, ne, x0, x1, q⟩ := h
    refine ⟨_, rfl, _, rfl, _, rfl, _, xs.length, rfl, .inl ⟨_, .inl (.inl hl), rfl⟩, pn, cl, xs.length, n, rfl, pen, hn, x0, x1, fun k G hk sx fr pen2 => ?_⟩
    exact ⟨_, _, _, _, rfl, rfl, .inl (.inl (sx _ _ ne hl)), atI_nat (List.getElem?_eq_getElem hk), q _ G (List.getElem_mem hk) sx fr pen2⟩
end
end Pk
set_option Elab.async false
set_option linter.all false
set_option maxRecDepth 100000
set_option maxHeartbeats 4000000
namespace Pk
open PySem PySem.Spec PyProof.Rows L2 Er
/-! ### _law_open -/
theorem mem_int {ns : List Int} {i : Nat} {x : V} (h : (ns.map V.int)[i]? = some x) : ∃ z, ns[i]? = some z ∧ x = .int z := by
  rw [List.getElem?_map] at h
  cases e : ns[i]? with
  | none =>
    rw [e] at h
    cases h
  | some z =>
    rw [e] at h
    exact ⟨z, rfl, (Option.some.inj h).symm⟩
theorem cut_lo (ns : List Int) : cutV (ns.map V.int) none (some (12 : Int)) = (ns.take (min 12 ns.length)).map V.int := by
  unfold cutV
  rw [HT.sIx_none, show ((12 : Int)) = ((12 : Nat) : Int) from rfl, HT.sIx_nat, List.drop_zero, List.length_map, Nat.sub_zero, List.map_take]
theorem cut_hi (ns : List Int) : cutV (ns.map V.int) (some (12 : Int)) (some (63 : Int)) = ((ns.drop (min 12 ns.length)).take (min 63 ns.length - min 12 ns.length)).map V.int := by
  unfold cutV
  rw [show ((12 : Int)) = ((12 : Nat) : Int) from rfl, show ((63 : Int)) = ((63 : Nat) : Int) from rfl, HT.sIx_nat, HT.sIx_nat, List.length_map, List.map_take, List.map_drop]
theorem set_mem {cs : List Int} {k : Nat} {x z : Int} (h : z ∈ cs.set k x) : z = x ∨ z ∈ cs := by
  rcases List.mem_or_eq_of_mem_set h with h | h
  · exact .inr h
  · exact .inl h
theorem pow64 (t n : Nat) (h : t + 6 < n) : 64 * 2 ^ t < 2 ^ n := by
  have e : 64 * 2 ^ t = 2 ^ (t + 6) := by
    rw [Nat.pow_add, Nat.mul_comm]
  rw [e]
  exact Nat.pow_lt_pow_right (by decide) h
def spOpen (K : PySem.W.Frag) : Sp := fun vs H Q _ => ∃ (a : Addr) (ns : List Int), vs = [.ref a] ∧ SqL K H a (ns.map V.int) ∧ ns.length ≤ 63 ∧ (∀ z ∈ ns, Builtin.Int.intBits z ≤ 1048576) ∧
  ∀ pn cl H', Sm H H' → H pn = none → Pen H' pn cl 0 → Q (.ref pn) H'
abbrev nOpen : List Str := ["_law_script", "_law_cells", "_law_k", "_law_cell"]
theorem scOpen : FnScope nOpen ["_law_script"] (defScope (top 19)) := ⟨rfl, rfl, rfl, by decide +kernel, rfl, by decide +kernel, by decide +kernel⟩
theorem SqL.sm {K : PySem.W.Frag} {H H2 : Hp} {a : Addr} {xs : List V} (h : SqL K H a xs) (m : Sm H H2) : SqL K H2 a xs := by
  rcases h with (h | ⟨o, h⟩) | h
  · exact .inl (.inl (m _ _ h))
  · exact .inl (.inr ⟨o, m _ _ h⟩)
  · exact .inr h
section
variable {P : Program} {w : World} {K : PySem.W.Frag} {mg : Str → Option Value} {base : Heap} {f : Addr} {fd : FuncData}
theorem ok_open (F : FnP K "_law_open" (top 19) f fd) (mi : mg "int" = none) (mt : mg "list" = none) (me : mg "enumerate" = none) : FnOk P w K mg base CX0 1 f fd ["_law_script"] (spOpen K) := by
  refine F.ok (CX := CX0) scOpen (fun vs H Q E h => ?_) (fun cdv A outer s H vs Q E hr h => ?_)
  · obtain ⟨a, ns, rfl, _⟩ := h
    rfl
  · refine ⟨_, PSs.nox (pss_cons (ps_set (i := 1) scOpen.nd rfl (.inl rfl) (pe_callTy call_list_of rfl mt PyProof.Rows.boot_list (pa_cons (pe_slice sl_list (pv 0) po_none (po_some pe_int)) pa_nil)))
      (pss_cons (ps_for PassesOwn.never rfl (pi_enum rfl me (pa_cons (pe_slice sl_list (pv 0) (po_some pe_int) (po_some pe_int)) pa_nil)) (pg_tup rfl (pgs_cons (pg_name (i := 2) scOpen.nd rfl (.inl rfl)) (pgs_cons (pg_name (i := 3) scOpen.nd rfl (.inl rfl)) pgs_nil)))
        (pss_one (ps_asg (pe_op op_add (pe_ix ix_list (pv 1) (pe_op op_mod (pe_i (pv 2) mi) pe_int) (fun _ _ => rfl)) (pv 3)) (pg_sub (pv 1) (pe_op op_mod (pe_i (pv 2) mi) pe_int) set_list))))
      (pss_one (ps_ret (pe_lst (pa_cons (pv 1) (pa_cons pe_int (pa_cons pe_int pa_nil)))))))), ?_⟩
    obtain ⟨a, ns, rfl, hS, hl, hb, q⟩ := h
    have sz : ∀ n : Nat, n ≤ 1000 → n ≤ sizeLine := fun n z => by
      rw [sizeLine_eq]
      omega
    refine ⟨_, rfl, _, rfl, a, _, rfl, hS, fun l1 n1 => ⟨l1, _, rfl, .inl (.inl (.inl upd_same)), fun l2 n2 => ?_⟩⟩
    rw [cut_lo] at n2 ⊢
    have s1 := Sm.new (o := .lst ((ns.take (min 12 ns.length)).map V.int)) n1
    have s2 := Sm.new (o := .lst ((ns.take (min 12 ns.length)).map V.int)) n2
    have h2 : H l2 = none := none_upd _ n2
    refine ⟨_, rfl, _, rfl, _, rfl, a, _, rfl, SqL.sm (SqL.sm hS s1) s2, fun l3 n3 => ⟨l3, _, rfl, .inl (.inl upd_same), ?_⟩⟩
    rw [cut_hi]
    have s3 := Sm.new (o := .lst (((ns.drop (min 12 ns.length)).take (min 63 ns.length - min 12 ns.length)).map V.int)) n3
    have mm := s1.trans (s2.trans s3)
    have c2 := s3 _ _ (show upd (upd H l1 _) l2 _ l2 = some (.lst ((ns.take (min 12 ns.length)).map V.int)) from upd_same)
    have ne23 : l2 ≠ l3 := fun z => by
      rw [← z, upd_same] at n3
      cases n3
    have c3 : upd (upd (upd H l1 (.lst ((ns.take (min 12 ns.length)).map V.int))) l2 (.lst ((ns.take (min 12 ns.length)).map V.int))) l3 (.lst (((ns.drop (min 12 ns.length)).take (min 63 ns.length - min 12 ns.length)).map V.int)) l3 = _ := upd_same
    generalize upd (upd (upd H l1 (.lst ((ns.take (min 12 ns.length)).map V.int))) l2 (.lst ((ns.take (min 12 ns.length)).map V.int))) l3 (.lst (((ns.drop (min 12 ns.length)).take (min 63 ns.length - min 12 ns.length)).map V.int)) = G0 at mm c2 c3 ⊢
    have B : ∀ z ∈ ns, z.natAbs ≤ 2 ^ 1048576 := fun z hz => Nat.le_of_lt (bits_lt (hb z hz))
    have big_ : 64 * 2 ^ 1048576 < 2 ^ big := pow64 _ _ (by decide)
    have sub : ∀ z, z ∈ (ns.drop (min 12 ns.length)).take (min 63 ns.length - min 12 ns.length) → z ∈ ns := fun z hz => List.mem_of_mem_drop (List.mem_of_mem_take hz)
    have few : 0 < ((ns.drop (min 12 ns.length)).take (min 63 ns.length - min 12 ns.length)).length → (ns.take (min 12 ns.length)).length = 12 := fun z => by
      rw [List.length_take, List.length_drop] at z
      rw [List.length_take]
      omega
    have most : ((ns.drop (min 12 ns.length)).take (min 63 ns.length - min 12 ns.length)).length ≤ 51 := by
      rw [List.length_take, List.length_drop]
      omega
    have B0 : ∀ z ∈ ns.take (min 12 ns.length), z.natAbs ≤ 2 ^ 1048576 := fun z hz => B z (List.mem_of_mem_take hz)
    have l12 : (ns.take (min 12 ns.length)).length ≤ 12 := by
      rw [List.length_take]
      omega
    generalize (ns.drop (min 12 ns.length)).take (min 63 ns.length - min 12 ns.length) = ms at c3 sub few most ⊢
    generalize ns.take (min 12 ns.length) = cs0 at c2 few B0 l12 ⊢
    clear s1 s2 s3 n1 n2 n3
    have B : ∀ z ∈ ms, z.natAbs ≤ 2 ^ 1048576 := fun z hz => B z (sub z hz)
    generalize (2 : Nat) ^ 1048576 = T at B B0 big_
    refine for_it (walk_enum (xs := ms.map V.int)) (fun i σ G => ∃ (cs : List Int) (v2 v3 : Option V), σ = [some (.ref a), some (.ref l2), v2, v3] ∧ Sm H G ∧ G l2 = some (.lst (cs.map V.int)) ∧ G l3 = some (.lst (ms.map V.int)) ∧ cs.length = cs0.length ∧ (∀ z ∈ cs, z.natAbs ≤ (i + 1) * T))
      ⟨cs0, none, none, rfl, mm, c2, c3, rfl, fun z hz => by rw [Nat.zero_add, Nat.one_mul]; exact B0 z hz⟩ (fun i σ G _ ⟨_, _, _, _, _, _, e, _⟩ => .inl (.inl e)) (fun i x σ G G2 hi p y => ?_) (fun σ G p => ?_)
    · obtain ⟨cs, v2, v3, rfl, sm, e2, e3, len, bd⟩ := p
      obtain ⟨T2, x1, x2, rfl, nT, rfl, ex1, ex2⟩ := y
      have ex1 := Option.some.inj ex1
      subst ex1
      obtain ⟨z, ez, rfl⟩ := mem_int ex2
      rw [List.length_map] at hi
      have c12 : cs.length = 12 := by rw [len, few (by omega)]
      refine ⟨T2, _, rfl, .inl (.inl upd_same), rfl, _, _, rfl, _, _, rfl, rfl, ?_⟩
      have e2' := Sm.new (o := .tup [V.int (i : Nat), V.int z]) nT _ _ e2
      have e3' := Sm.new (o := .tup [V.int (i : Nat), V.int z]) nT _ _ e3
      have sm' := sm.trans (Sm.new (o := .tup [V.int (i : Nat), V.int z]) nT)
      generalize upd G T2 (.tup [V.int (i : Nat), V.int z]) = G1 at e2' e3' sm' ⊢
      obtain ⟨k, hk, ek⟩ := modN (x := (i : Int)) (n := 12) (by decide)
      have ek : (i : Int) % 12 = (k : Int) := ek
      have kl : k < cs.length := by omega
      have at_ : atI (cs.map V.int) ((i : Int) % 12) = some (.int (cs[k]'kl)) := by
        rw [ek]
        exact atI_nat (by rw [List.getElem?_map, List.getElem?_eq_getElem kl]; rfl)
      have ix : ixN (cs.map V.int).length ((i : Int) % 12) = some k := by
        rw [ek, List.length_map]
        unfold ixN
        first
          | (rw [if_pos (by omega)]; simp; omega)
          | (simp; omega)
      refine ⟨_, rfl, _, rfl, .inl ⟨_, rfl, _, _, rfl, rfl, by show (0 : Int) < 12; decide, _, _, _, _, rfl, rfl, .inl (.inl e2'), at_, _, rfl, _, _, rfl, rfl, _, rfl, _, rfl, .inl ⟨_, rfl, _, _, rfl, rfl, by show (0 : Int) < 12; decide, _, _, _, k, rfl, rfl, e2', ix, ?_⟩⟩⟩
      refine ⟨cs.set k (cs[k]'kl + z), _, _, rfl, fun b o e => ?_, ?_, ?_, ?_, fun y hy => ?_⟩
      · rw [upd_ne (ne_of_none e h2)]
        exact sm' b o e
      · rw [upd_same, List.map_set]
      · rw [upd_ne (Ne.symm ne23)]
        exact e3'
      · rw [List.length_set, len]
      · have bz := B z (List.mem_of_getElem? ez)
        have bk := bd _ (List.getElem_mem kl)
        rw [Nat.succ_mul]
        rcases set_mem hy with e | e
        · rw [e]
          omega
        · have := bd y e
          omega
    · obtain ⟨cs, v2, v3, rfl, sm, e2, e3, len, bd⟩ := p
      rw [List.length_map] at bd
      refine ⟨_, rfl, sz _ (by show 3 ≤ 1000; decide), fun pn np => ?_⟩
      refine q pn l2 _ (sm.trans (Sm.new np)) ?_ ⟨cs, 0, 0, ⟨upd_same, Sm.new np _ _ e2, by omega, fun z hz => ?_, by decide, by decide⟩, Nat.le_refl _⟩
      · cases e : H pn with
        | none => rfl
        | some o =>
          have := sm _ _ e
          rw [np] at this
          cases this
      · refine bits_le (Nat.lt_of_le_of_lt (bd z hz) (Nat.lt_of_le_of_lt (Nat.mul_le_mul_right T (show ms.length + 1 ≤ 64 by omega)) big_))
end
end Pk
set_option Elab.async false
set_option linter.all false
set_option maxRecDepth 100000
set_option maxHeartbeats 4000000
namespace Pk
open PySem PySem.Spec PyProof.Rows L2 Er
/-! ### data: what a value is, whichever its depth -/
theorem SqT.sm {K : PySem.W.Frag} {H H2 : Hp} {a : Addr} {xs : List V} (h : SqT K H a xs) (m : Sm H H2) : SqT K H2 a xs := by
  rcases h with (h | ⟨o, h⟩) | h
  · exact .inl (.inl (m _ _ h))
  · exact .inl (.inr ⟨o, m _ _ h⟩)
  · exact .inr h
mutual
inductive Dt (K : PySem.W.Frag) (H : Hp) : V → PyData → Prop
  | non : Dt K H .non .none
  | bl (b : Bool) : Dt K H (.bl b) (.bool b)
  | int (i : Int) : Dt K H (.int i) (.int i)
  | str (x : Str) : Dt K H (.str x) (.str x)
  | lst {a : Addr} {xs : List V} {ds : List PyData} (e : H a = some (.lst xs)) (h : Dts K H xs ds) : Dt K H (.ref a) (.list ds)
  | tup {a : Addr} {xs : List V} {ds : List PyData} (e : SqT K H a xs) (h : Dts K H xs ds) : Dt K H (.ref a) (.tuple ds)
inductive Dts (K : PySem.W.Frag) (H : Hp) : List V → List PyData → Prop
  | nil : Dts K H [] []
  | cons {v : V} {vs : List V} {d : PyData} {ds : List PyData} (h : Dt K H v d) (r : Dts K H vs ds) : Dts K H (v :: vs) (d :: ds)
end
mutual
theorem Dt.sm {K : PySem.W.Frag} {H H' : Hp} (m : Sm H H') : ∀ {v : V} {d : PyData}, Dt K H v d → Dt K H' v d
  | _, _, .non => .non
  | _, _, .bl b => .bl b
  | _, _, .int i => .int i
  | _, _, .str x => .str x
  | _, _, .lst e h => .lst (m _ _ e) (Dts.sm m h)
  | _, _, .tup e h => .tup (SqT.sm e m) (Dts.sm m h)
theorem Dts.sm {K : PySem.W.Frag} {H H' : Hp} (m : Sm H H') : ∀ {vs : List V} {ds : List PyData}, Dts K H vs ds → Dts K H' vs ds
  | _, _, .nil => .nil
  | _, _, .cons h r => .cons (Dt.sm m h) (Dts.sm m r)
end
mutual
theorem Dt.dp {K : PySem.W.Frag} {H : Hp} : ∀ {v : V} {d : PyData}, Dt K H v d → Dp K H v d
  | _, _, .non => .non
  | _, _, .bl b => .bl b
  | _, _, .int i => .int i
  | _, _, .str x => .str x
  | _, _, .lst e h => .lst (.inl (.inl e)) (Dts.dp h)
  | _, _, .tup e h => .tup e (Dts.dp h)
theorem Dts.dp {K : PySem.W.Frag} {H : Hp} : ∀ {vs : List V} {ds : List PyData}, Dts K H vs ds → DpAll K H vs ds
  | _, _, .nil => .nil
  | _, _, .cons h r => .cons (Dt.dp h) (Dts.dp r)
end
theorem Dts.len {K : PySem.W.Frag} {H : Hp} : ∀ {vs : List V} {ds : List PyData}, Dts K H vs ds → vs.length = ds.length
  | _, _, .nil => rfl
  | _, _, .cons _ r => by
    rw [List.length_cons, List.length_cons, r.len]
theorem Dts.at_ {K : PySem.W.Frag} {H : Hp} : ∀ {vs : List V} {ds : List PyData} {i : Nat} {v : V}, Dts K H vs ds → vs[i]? = some v → ∃ d, ds[i]? = some d ∧ Dt K H v d
  | _, _, 0, _, .cons h r, e => by
    have e := Option.some.inj e
    subst e
    exact ⟨_, rfl, h⟩
  | _, _, i + 1, _, .cons h r, e => r.at_ (i := i) e
  | _, _, 0, _, .nil, e => by cases e
  | _, _, _ + 1, _, .nil, e => by cases e
theorem Dts.of {K : PySem.W.Frag} {H : Hp} : ∀ {vs : List V}, (∀ v ∈ vs, ∃ d, Dt K H v d) → ∃ ds, Dts K H vs ds
  | [], _ => ⟨[], .nil⟩
  | v :: vs, h => by
    obtain ⟨d, hd⟩ := h v List.mem_cons_self
    obtain ⟨ds, hs⟩ := Dts.of (vs := vs) fun x hx => h x (List.mem_cons_of_mem _ hx)
    exact ⟨d :: ds, .cons hd hs⟩
theorem Dts.append {K : PySem.W.Frag} {H : Hp} : ∀ {vs ws : List V} {ds es : List PyData}, Dts K H vs ds → Dts K H ws es → Dts K H (vs ++ ws) (ds ++ es)
  | _, _, _, _, .nil, r => r
  | _, _, _, _, .cons h t, r => .cons h (t.append r)
/-! ### what type a value has -/
def isI : PyData → Bool
  | .int _ => true
  | _ => false
def isB : PyData → Bool
  | .bool _ => true
  | _ => false
def isS : PyData → Bool
  | .str _ => true
  | _ => false
def isL : PyData → Bool
  | .list _ => true
  | _ => false
def isT : PyData → Bool
  | .tuple _ => true
  | _ => false
structure Kit (K : PySem.W.Frag) (H : Hp) (v : V) (d : PyData) (t : Value) : Prop where
  ty : TyX K H v t
  i : PySem.W.kitOne K t (.type "int") = some (isI d || isB d)
  b : PySem.W.kitOne K t (.type "bool") = some (isB d)
  s : PySem.W.kitOne K t (.type "str") = some (isS d)
  l : PySem.W.kitAny K t [.type "list", .type "tuple"] = some (isL d || isT d)
  t : PySem.W.kitOne K t (.type "tuple") = some (isT d)
theorem kit_name {K : PySem.W.Frag} {H : Hp} {v : V} {d : PyData} {n : String} {bi bb bs bl bt : Bool} (ty : TyX K H v (.type n)) (h1 : kitB n "int" = some bi) (h2 : kitB n "bool" = some bb) (h3 : kitB n "str" = some bs) (h4 : kitB n "list" = some bl) (h5 : kitB n "tuple" = some bt)
    (e1 : (isI d || isB d) = bi) (e2 : isB d = bb) (e3 : isS d = bs) (e4 : (isL d || isT d) = (bl || bt)) (e5 : isT d = bt) : Kit K H v d (.type n) := by
  refine ⟨ty, ?_, ?_, ?_, ?_, ?_⟩
  · rw [e1]
    exact kit_ty h1
  · rw [e2]
    exact kit_ty h2
  · rw [e3]
    exact kit_ty h3
  · rw [e4]
    unfold PySem.W.kitAny
    rw [kit_ty h4]
    cases bl with
    | true => rfl
    | false =>
      show PySem.W.kitAny K _ _ = _
      unfold PySem.W.kitAny
      rw [kit_ty h5]
      cases bt <;> rfl
  · rw [e5]
    exact kit_ty h5
theorem SqT.ty {K : PySem.W.Frag} {H : Hp} {a : Addr} {xs : List V} (h : SqT K H a xs) : TyX K H (.ref a) (.type "tuple") := by
  rcases h with (h | ⟨o, h⟩) | ⟨o, its, n, h, c, _⟩
  · exact .base (.tup h)
  · exact .fTuple h
  · exact .kTuple h c
theorem Dt.kit {K : PySem.W.Frag} {H : Hp} {v : V} {d : PyData} (h : Dt K H v d) : ∃ t, Kit K H v d t := by
  cases h with
  | non => exact ⟨_, kit_name (bi := false) (bb := false) (bs := false) (bl := false) (bt := false) (.base .non) (by decide +kernel) (by decide +kernel) (by decide +kernel) (by decide +kernel) (by decide +kernel) rfl rfl rfl rfl rfl⟩
  | bl b => exact ⟨_, kit_name (bi := true) (bb := true) (bs := false) (bl := false) (bt := false) (.base (.bl b)) (by decide +kernel) (by decide +kernel) (by decide +kernel) (by decide +kernel) (by decide +kernel) rfl rfl rfl rfl rfl⟩
  | int i => exact ⟨_, kit_name (bi := true) (bb := false) (bs := false) (bl := false) (bt := false) (.base (.int i)) (by decide +kernel) (by decide +kernel) (by decide +kernel) (by decide +kernel) (by decide +kernel) rfl rfl rfl rfl rfl⟩
  | str x => exact ⟨_, kit_name (bi := false) (bb := false) (bs := true) (bl := false) (bt := false) (.base (.str x)) (by decide +kernel) (by decide +kernel) (by decide +kernel) (by decide +kernel) (by decide +kernel) rfl rfl rfl rfl rfl⟩
  | lst e _ => exact ⟨_, kit_name (bi := false) (bb := false) (bs := false) (bl := true) (bt := false) (.base (.lst e)) (by decide +kernel) (by decide +kernel) (by decide +kernel) (by decide +kernel) (by decide +kernel) rfl rfl rfl rfl rfl⟩
  | tup e _ => exact ⟨_, kit_name (bi := false) (bb := false) (bs := false) (bl := false) (bt := true) (SqT.ty e) (by decide +kernel) (by decide +kernel) (by decide +kernel) (by decide +kernel) (by decide +kernel) rfl rfl rfl rfl rfl⟩
/-! ### the small tests: is_int, is_name, is_one_of, is_count, is_window -/
/-- a text is a name: one to eight small letters -/
def IsWord (z : Str) : Prop := 1 ≤ z.length ∧ z.length ≤ 8 ∧ ∀ c ∈ z.cps.toList, 97 ≤ c ∧ c ≤ 122
instance (z : Str) : Decidable (IsWord z) := by
  unfold IsWord
  exact inferInstance
def wordD : PyData → Bool
  | .str z => decide (IsWord z)
  | _ => false
def countD (m : Int) : PyData → Bool
  | .int i => decide (1 ≤ i) && decide (i ≤ m)
  | _ => false
def oneD (ws : List Str) : PyData → Bool
  | .str z => decide (z ∈ ws)
  | _ => false
def noneD : PyData → Bool
  | .none => true
  | _ => false
def spanD (d : PyData) : Bool := noneD d || countD 12 d || oneD ["ever"] d
/-- texts are short -/
def short : PyData → Bool
  | .str z => decide (z.length ≤ 1000) && PyData.strOk z
  | _ => true
def spIsInt (K : PySem.W.Frag) : Sp := fun vs H Q _ => ∃ (x : V) (d : PyData), vs = [x] ∧ Dt K H x d ∧ Q (.bl (isI d)) H
def spIsName (K : PySem.W.Frag) : Sp := fun vs H Q _ => ∃ (x : V) (d : PyData), vs = [x] ∧ Dt K H x d ∧ short d = true ∧ ∀ H', Sm H H' → Q (.bl (wordD d)) H'
def spOneOf (K : PySem.W.Frag) : Sp := fun vs H Q _ => ∃ (x : V) (d : PyData) (a : Addr) (ws : List Str), vs = [x, .ref a] ∧ Dt K H x d ∧ SqT K H a (ws.map V.str) ∧ Q (.bl (oneD ws d)) H
def spCount (K : PySem.W.Frag) : Sp := fun vs H Q _ => ∃ (x : V) (d : PyData) (m : Int), vs = [x, .int m] ∧ Dt K H x d ∧ Q (.bl (countD m d)) H
def spWindow (K : PySem.W.Frag) : Sp := fun vs H Q _ => ∃ (x : V) (d : PyData), vs = [x] ∧ Dt K H x d ∧ ∀ H', Sm H H' → Q (.bl (spanD d)) H'
abbrev nVal : List Str := ["value"]
abbrev nIsName : List Str := ["value", "letter"]
abbrev nOneOf : List Str := ["value", "names"]
abbrev nCount : List Str := ["value", "most"]
theorem scIsInt : FnScope nVal nVal (defScope (top 4)) := ⟨rfl, rfl, rfl, by decide +kernel, rfl, by decide +kernel, by decide +kernel⟩
theorem scIsName : FnScope nIsName ["value"] (defScope (top 5)) := ⟨rfl, rfl, rfl, by decide +kernel, rfl, by decide +kernel, by decide +kernel⟩
theorem scOneOf : FnScope nOneOf nOneOf (defScope (top 6)) := ⟨rfl, rfl, rfl, by decide +kernel, rfl, by decide +kernel, by decide +kernel⟩
theorem scCount : FnScope nCount nCount (defScope (top 13)) := ⟨rfl, rfl, rfl, by decide +kernel, rfl, by decide +kernel, by decide +kernel⟩
theorem scWindow : FnScope nVal nVal (defScope (top 14)) := ⟨rfl, rfl, rfl, by decide +kernel, rfl, by decide +kernel, by decide +kernel⟩
theorem flat_strs (ws : List Str) : (ws.map V.str).all flatV = true := by
  rw [List.all_map]
  exact List.all_eq_true.mpr fun _ _ => rfl
theorem in_strs {ws : List Str} {z : Str} : inV (.str z) (ws.map V.str) = decide (z ∈ ws) := by
  unfold inV
  rw [List.any_map, Bool.eq_iff_iff, List.any_eq_true, decide_eq_true_iff]
  constructor
  · rintro ⟨y, hy, e⟩
    have e2 : y = z := by simpa [eqV] using e
    exact e2 ▸ hy
  · intro h
    exact ⟨z, h, by simp [eqV]⟩
section
variable {P : Program} {w : World} {K : PySem.W.Frag} {mg : Str → Option Value} {base : Heap} {f fI fC fO : Addr} {fd dI dC dO : FuncData}
theorem bIsInt (F : FnP K "is_int" (top 4) fI dI) : Binds K dI nVal [] := F.bindsN fun _ _ _ _ _ _ us hl => match us, hl with
  | [_], _ => rfl
theorem bOneOf (F : FnP K "is_one_of" (top 6) fO dO) : Binds K dO nOneOf [] := F.bindsN fun _ _ _ _ _ _ us hl => match us, hl with
  | [_, _], _ => rfl
theorem bCount (F : FnP K "is_count" (top 13) fC dC) : Binds K dC nCount [] := F.bindsN fun _ _ _ _ _ _ us hl => match us, hl with
  | [_, _], _ => rfl
theorem ok_isint (F : FnP K "is_int" (top 4) f fd) (mi : mg "isinstance" = none) (mn : mg "int" = none) (mb : mg "bool" = none) : FnOk P w K mg base CX0 1 f fd nVal (spIsInt K) := by
  refine F.ok (CX := CX0) scIsInt (fun vs H Q E h => ?_) (fun cdv A outer s H vs Q E hr h => ?_)
  · obtain ⟨x, d, rfl, _⟩ := h
    rfl
  · refine ⟨_, PSs.nox (pss_one (ps_ret (by exact (pe_and (by exact (pe_callB call_isi rfl mi PyProof.Rows.boot_isinstance (pa_cons (pv 0) (pa_cons (pe_bltn (v := .ty "int") rfl mn (by decide +kernel) rfl) pa_nil))))
      (pe_one (by exact (pe_not (by exact (pe_callB call_isi rfl mi PyProof.Rows.boot_isinstance (pa_cons (pv 0) (pa_cons (pe_bltn (v := .ty "bool") rfl mb (by decide +kernel) rfl) pa_nil))))))))))), ?_⟩
    obtain ⟨x, d, rfl, h, q⟩ := h
    obtain ⟨t, k⟩ := h.kit (K := K)
    refine ⟨_, rfl, x, .ty "int", _, _, _, rfl, .ty "int", k.ty, k.i, _, rfl, ?_⟩
    cases e : (isI d || isB d) with
    | true =>
      refine iteT ⟨_, rfl, x, .ty "bool", _, _, _, rfl, .ty "bool", k.ty, k.b, _, rfl, ?_⟩
      have z : isI d = !isB d := by
        cases d <;> first | rfl | cases e
      rw [← z]
      exact q
    | false =>
      have z : isI d = false := by
        cases d <;> first | rfl | cases e
      rw [z] at q
      exact iteF q
theorem ok_oneof (F : FnP K "is_one_of" (top 6) f fd) (mi : mg "isinstance" = none) (ms : mg "str" = none) : FnOk P w K mg base CX0 1 f fd nOneOf (spOneOf K) := by
  refine F.ok (CX := CX0) scOneOf (fun vs H Q E h => ?_) (fun cdv A outer s H vs Q E hr h => ?_)
  · obtain ⟨x, d, a, ws, rfl, _⟩ := h
    rfl
  · refine ⟨_, PSs.nox (pss_one (ps_ret (by exact (pe_and (by exact (pe_callB call_isi rfl mi PyProof.Rows.boot_isinstance (pa_cons (pv 0) (pa_cons (pe_bltn (v := .ty "str") rfl ms (by decide +kernel) rfl) pa_nil)))) (pe_one (by exact (pe_cmpR op_in_seq (pv 0) (pv 1) rfl))))))), ?_⟩
    obtain ⟨x, d, a, ws, rfl, h, hs, q⟩ := h
    obtain ⟨t, k⟩ := h.kit (K := K)
    refine ⟨_, rfl, x, .ty "str", _, _, _, rfl, .ty "str", k.ty, k.s, _, rfl, ?_⟩
    cases h with
    | str z => exact iteT ⟨_, rfl, _, rfl, a, _, rfl, .inr hs, rfl, flat_strs ws, by rw [if_neg (by decide), in_strs]; exact q⟩
    | _ => exact iteF q
theorem ok_count (F : FnP K "is_count" (top 13) f fd) (mi : mg "isinstance" = none) (mn : mg "int" = none) (mb : mg "bool" = none) (FI : FnP K "is_int" (top 4) fI dI) (gI : mg "is_int" = some (.ref fI)) : FnOk P w K mg base CX0 2 f fd nCount (spCount K) := by
  have GI : FnOk P w K mg base CX0 1 fI dI nVal (spIsInt K) := ok_isint FI mi mn mb
  refine F.ok (CX := CX0) scCount (fun vs H Q E h => ?_) (fun cdv A outer s H vs Q E hr h => ?_)
  · obtain ⟨x, d, m, rfl, _⟩ := h
    rfl
  · refine ⟨_, PSs.nox (pss_one (ps_ret (by exact (pe_and (by exact (pe_call GI hr rfl gI FI.kp (bIsInt FI) .nil pass0 (pa_cons (pv 0) pa_nil))) (pe_one (by exact (pe_chain op_le op_le pe_int (pv 0) (pv 1)))))))), ?_⟩
    obtain ⟨x, d, m, rfl, h, q⟩ := h
    refine ⟨_, rfl, x, d, rfl, h, _, rfl, ?_⟩
    cases h with
    | int i =>
      refine iteT ⟨_, rfl, _, _, rfl, rfl, _, rfl, ?_⟩
      have q : Q (.bl (decide (1 ≤ i) && decide (i ≤ m))) H := q
      by_cases c : 1 ≤ i
      · rw [decide_eq_true c] at q ⊢
        exact iteT ⟨_, rfl, _, _, rfl, rfl, q⟩
      · rw [decide_eq_false c] at q ⊢
        exact iteF q
    | _ => exact iteF q
theorem ok_window (F : FnP K "is_window" (top 14) f fd) (mM : ∃ t, mg "MOST_WINDOW" = some (.int 12 t)) (mE : ∃ t, mg "EVER" = some (.str "ever" t)) (GC : FnOk P w K mg base CX0 2 fC dC nCount (spCount K)) (FC : FnP K "is_count" (top 13) fC dC) (gC : mg "is_count" = some (.ref fC))
    (GO : FnOk P w K mg base CX0 1 fO dO nOneOf (spOneOf K)) (FO : FnP K "is_one_of" (top 6) fO dO) (gO : mg "is_one_of" = some (.ref fO)) : FnOk P w K mg base CX0 3 f fd nVal (spWindow K) := by
  obtain ⟨tM, mM⟩ := mM
  obtain ⟨tE, mE⟩ := mE
  refine F.ok (CX := CX0) scWindow (fun vs H Q E h => ?_) (fun cdv A outer s H vs Q E hr h => ?_)
  · obtain ⟨x, d, rfl, _⟩ := h
    rfl
  · refine ⟨_, PSs.nox (pss_one (ps_ret (by exact (pe_or (by exact (pe_cmpR op_isN (pv 0) pe_non rfl)) (by exact (pe_or (by exact (pe_call GC hr rfl gC FC.kp (bCount FC) .nil pass0 (pa_cons (pv 0) (pa_cons (pe_glob (v := .int 12) rfl mM ⟨_, rfl⟩) pa_nil))))
      (pe_one (by exact (pe_call GO (hr.mono (by decide)) rfl gO FO.kp (bOneOf FO) .nil pass0 (pa_cons (pv 0) (pa_cons (pe_tup (pa_cons (pe_glob (v := .str "ever") rfl mE ⟨_, rfl⟩) pa_nil)) pa_nil))))))))))), ?_⟩
    obtain ⟨x, d, rfl, h, q⟩ := h
    refine ⟨_, rfl, rfl, _, rfl, ?_⟩
    have sz : 1 ≤ sizeLine := by
      rw [sizeLine_eq]
      decide
    cases h with
    | non => exact iteT (q H (Sm.refl H))
    | lst e r => exact iteF ⟨_, rfl, _, _, _, rfl, .lst e r, _, rfl, iteF ⟨_, rfl, sz, fun t nt => ⟨_, _, t, [("ever" : Str)], rfl, (Dt.lst e r).sm (Sm.new nt), .inl (.inl upd_same), q _ (Sm.new nt)⟩⟩⟩
    | tup e r => exact iteF ⟨_, rfl, _, _, _, rfl, .tup e r, _, rfl, iteF ⟨_, rfl, sz, fun t nt => ⟨_, _, t, [("ever" : Str)], rfl, (Dt.tup e r).sm (Sm.new nt), .inl (.inl upd_same), q _ (Sm.new nt)⟩⟩⟩
    | bl b => exact iteF ⟨_, rfl, _, _, _, rfl, .bl b, _, rfl, iteF ⟨_, rfl, sz, fun t nt => ⟨_, _, t, [("ever" : Str)], rfl, .bl b, .inl (.inl upd_same), q _ (Sm.new nt)⟩⟩⟩
    | str z => exact iteF ⟨_, rfl, _, _, _, rfl, .str z, _, rfl, iteF ⟨_, rfl, sz, fun t nt => ⟨_, _, t, [("ever" : Str)], rfl, .str z, .inl (.inl upd_same), q _ (Sm.new nt)⟩⟩⟩
    | int i =>
      refine iteF ⟨_, rfl, _, _, _, rfl, .int i, _, rfl, ?_⟩
      cases e : countD 12 (.int i) with
      | true =>
        have z : spanD (.int i) = true := by
          unfold spanD
          rw [e]
          rfl
        rw [z] at q
        exact iteT (q H (Sm.refl H))
      | false =>
        have z : spanD (.int i) = oneD ["ever"] (.int i) := by
          unfold spanD
          rw [e]
          rfl
        rw [z] at q
        exact iteF ⟨_, rfl, sz, fun t nt => ⟨_, _, t, [("ever" : Str)], rfl, .int i, .inl (.inl upd_same), q _ (Sm.new nt)⟩⟩
end
end Pk
set_option Elab.async false
set_option linter.all false
set_option maxRecDepth 100000
set_option maxHeartbeats 4000000
namespace Pk
open PySem PySem.Spec PyProof.Rows L2 Er
theorem Sm.trans {H H1 H2 : Hp} (a : Sm H H1) (b : Sm H1 H2) : Sm H H2 := fun c o e => b c o (a c o e)
theorem Sm.refl (H : Hp) : Sm H H := fun _ _ e => e
/-- [e for x in ..]: one value for each turn -/
theorem lc_map {J : It} {n : Nat} {G : Hp → Prop} {Y : Nat → Hp → V → Hp → Prop} (w : Walk J n G Y) {g : TG} {is : List Nat} {te : TE} {fv : Nat → V} {σ : L2.St} {H1 : Hp} {Q : Addr → Hp → Prop} (hn : n ≤ 1000) (g1 : ∀ H2, Sm H1 H2 → G H2)
    (ev : ∀ (j : Nat) (x : V) (H2 H3 : Hp) (Q : VK), j < n → Sm H1 H2 → Y j H2 x H3 → (∀ H4, Sm H2 H4 → Q (fv j) H4) → g x (wipe σ is) H3 fun σ2 H4 => wipe σ2 is = wipe σ is ∧ te σ2 H4 Q)
    (q : ∀ (D : Addr) (H2 : Hp), Sm H1 H2 → H1 D = none → H2 D = some (.lst ((List.range n).map fv)) → Q D H2) :
    ∀ D, H1 D = none → ∃ W : Nat → Nat → Hp → Prop, (∃ m, W 0 m (upd H1 D (.lst []))) ∧ ∀ i₁ m H, W i₁ m H →
      (J.stop i₁ H ∧ Q D H) ∨ (J.go i₁ H ∧ ∃ Nx : Hp → Prop, (∀ H', Nx H' → ∃ m', m' < m ∧ W (i₁ + 1) m' H') ∧ ∀ x H', J.yld i₁ H x H' → g x (wipe σ is) H' fun σ2 H2 => wipe σ2 is = wipe σ is ∧ tYes σ2 H2 fun b H3 =>
        if b = true then te σ2 H3 fun y H4 => ∃ acc, H4 D = some (.lst acc) ∧ acc.length < sizeLine ∧ Nx (upd H4 D (.lst (acc ++ [y]))) else Nx H3) := by
  intro D hD
  refine lc_it w (g := g) (tt := tYes) (te := te) (vs := is) (Qd := fun H => Q D H) (fun j H2 => H2 D = some (.lst ((List.range j).map fv)) ∧ Sm H1 H2) ⟨upd_same, Sm.new hD⟩ (fun j H2 _ h => g1 H2 h.2) ?_ ?_
  · rintro j x H2 H3 hj ⟨ed, sm⟩ hy
    have z := ev j x H2 H3 (fun y H4 => ∃ acc, H4 D = some (.lst acc) ∧ acc.length < sizeLine ∧ (upd H4 D (.lst (acc ++ [y]))) D = some (.lst ((List.range (j + 1)).map fv)) ∧ Sm H1 (upd H4 D (.lst (acc ++ [y])))) hj sm hy fun H4 s24 => ⟨_, s24 _ _ ed, ?_, ?_, ?_⟩
    · unfold tYes
      dsimp only
      simp only [if_true]
      exact z
    · rw [List.length_map, List.length_range, sizeLine_eq]
      omega
    · rw [upd_same, List.range_succ, List.map_append]
      rfl
    · intro b o e
      rw [upd_ne (ne_of_none e hD)]
      exact s24 _ _ (sm _ _ e)
  · rintro H2 ⟨ed, sm⟩
    exact q D H2 sm hD ed
section
variable {X : Cx} {tg : Expr}
/-- a walk over a list or a tuple -/
def iSeq (K : PySem.W.Frag) (tl : TE) : TI := fun σ H R => tl σ H fun x H1 => ∃ (a : Addr) (xs : List V), x = .ref a ∧ ((SqL K H1 a xs ∧ R (Itl K a) H1) ∨ (SqT K H1 a xs ∧ R (Itt K a) H1))
theorem pi_seq {l : Expr} {tl : TE} (hl : PE X l tl) : PI X tg l (iSeq X.K tl) := by
  refine ⟨fun pins s σ H R I h => thn (hl.run pins s σ H _ I h) fun v s1 ⟨x, H1, I1, r1, a, xs, e, q1⟩ => ?_⟩
  subst e
  cases r1
  have fr : ∀ b ∈ [s1.heap.objs.size], b = s1.heap.objs.size := fun b hb => by simpa using hb
  rcases q1 with ⟨hq, q⟩ | ⟨hq, q⟩
  · obtain ⟨its, rv, p, hz⟩ := I1.list hq
    refine wpAny_pyIter_list p.isList ⟨s1.heap.objs.size, [s1.heap.objs.size], _, _, H1, rfl, I1.kept (t' := s1.toks) fun b o e => Heap.get?_push_of_some _ e, turn_list a _, ⟨_, Heap.get?_push_size _ rfl, rfl, rfl⟩, fun b hb => ?_, q⟩
    rw [fr b hb]
    exact I1.fpOk (Nat.le_refl _) (I1.hok.fresh (Nat.le_refl _))
  · obtain ⟨its, rv, p, hz⟩ := I1.tuple hq
    refine wpAny_pyIter_tuple (show s1.heap.IsTuple a its.toArray from p) ⟨s1.heap.objs.size, [s1.heap.objs.size], _, _, H1, rfl, I1.kept (t' := s1.toks) fun b o e => Heap.get?_push_of_some _ e, turn_tuple a _, ⟨_, Heap.get?_push_size _ rfl, rfl, rfl⟩, fun b hb => ?_, q⟩
    rw [fr b hb]
    exact I1.fpOk (Nat.le_refl _) (I1.hok.fresh (Nat.le_refl _))
/-- x < y, x >= y of data that can be compared -/
def rLtD (K : PySem.W.Frag) : R2 := fun x y H Q => ∃ d e, Dp K H x d ∧ Dp K H y e ∧ PySem.W.alike d e = true ∧ d ≠ .none ∧ d.depth ≤ 60 ∧ Q (.bl (PySem.W.dataLt d e)) H
def rGeD (K : PySem.W.Frag) : R2 := fun x y H Q => ∃ d e, Dp K H x d ∧ Dp K H y e ∧ PySem.W.alike d e = true ∧ d ≠ .none ∧ d.depth ≤ 60 ∧ Q (.bl (!PySem.W.dataLt d e)) H
theorem op_ltD (hu : X.A.units + 64 < cLine) : OpR X (compareOp .Lt) (rLtD X.K) := by
  intro pins s σ H x y v u Q I rx ry h
  obtain ⟨d, e, hd, he, al, nn, dp, q⟩ := h
  obtain ⟨as, r1⟩ := Dp.reads I d x v hd rx
  obtain ⟨bs, r2⟩ := Dp.reads I e y u he ry
  have z : wpAny (model X.prog X.w) X.A (compareOp .Lt v u) (EP X pins σ Q) X.xe s := PySem.W.rcLt_alike d e X.A s v u as bs r1 r2 al nn (by omega) X.prog X.w X.xe _ ⟨.bl _, H, I, rfl, q⟩
  exact z
theorem op_geD (hu : X.A.units + 64 < cLine) : OpR X (compareOp .GtE) (rGeD X.K) := by
  intro pins s σ H x y v u Q I rx ry h
  obtain ⟨d, e, hd, he, al, nn, dp, q⟩ := h
  obtain ⟨as, r1⟩ := Dp.reads I d x v hd rx
  obtain ⟨bs, r2⟩ := Dp.reads I e y u he ry
  have z : wpAny (model X.prog X.w) X.A (compareOp .GtE v u) (EP X pins σ Q) X.xe s := PySem.W.rcGe_alike d e X.A s v u as bs r1 r2 al nn (by omega) X.prog X.w X.xe _ ⟨.bl _, H, I, rfl, q⟩
  exact z
end
theorem walk_zipT {K : PySem.W.Frag} {a b : Addr} {xs ys : List V} {n : Nat} (hn : n = min xs.length ys.length) : Walk (RZ.ItzT K a b) n (fun H => SqT K H a xs ∧ SqT K H b ys) (YPair (fun i => xs[i]?) (fun i => ys[i]?)) := by
  subst hn
  refine ⟨fun i _ hi q => ⟨xs, ys, xs[i]'(by omega), ys[i]'(by omega), q.1, q.2, List.getElem?_eq_getElem _, List.getElem?_eq_getElem _⟩, fun _ q => ⟨xs, ys, q.1, q.2, by omega⟩, fun i H v H' _ q y => ?_⟩
  obtain ⟨T, x, z, e, nT, eH, k1, k2⟩ := y
  exact ⟨T, x, z, e, nT, eH, k1 xs q.1, k2 ys q.2⟩
/-! ### is_name -/
theorem le_a {c : Nat} : (!decide ((⟨#[c]⟩ : Str).cps.toList < (Str.ofString "a").cps.toList)) = decide (97 ≤ c) := by
  rw [Bool.eq_iff_iff]
  show (!decide ([c] < [97])) = true ↔ _
  rw [Bool.not_eq_true', decide_eq_false_iff_not, List.cons_lt_cons_iff]
  simp
theorem le_z {c : Nat} : (!decide ((Str.ofString "z").cps.toList < (⟨#[c]⟩ : Str).cps.toList)) = decide (c ≤ 122) := by
  rw [Bool.eq_iff_iff]
  show (!decide ([122] < [c])) = true ↔ _
  rw [Bool.not_eq_true', decide_eq_false_iff_not, List.cons_lt_cons_iff]
  simp
section
variable {P : Program} {w : World} {K : PySem.W.Frag} {mg : Str → Option Value} {base : Heap} {f fI fN fD : Addr} {fd dI dN dD : FuncData}
theorem bIsName (F : FnP K "is_name" (top 5) fN dN) : Binds K dN nVal [] := F.bindsN fun _ _ _ _ _ _ us hl => match us, hl with
  | [_], _ => rfl
theorem ok_isname (F : FnP K "is_name" (top 5) f fd) (mi : mg "isinstance" = none) (ms : mg "str" = none) (ml : mg "len" = none) (ma : mg "all" = none) : FnOk P w K mg base CX0 1 f fd nVal (spIsName K) := by
  refine F.ok (CX := CX0) scIsName (fun vs H Q E h => ?_) (fun cdv A outer s H vs Q E hr h => ?_)
  · obtain ⟨x, d, rfl, _⟩ := h
    rfl
  · refine ⟨_, PSs.nox (pss_cons (ps_if (PW.pt (pw_or (pt_not (pt_val (by exact (pe_callB call_isi rfl mi PyProof.Rows.boot_isinstance (pa_cons (pv 0) (pa_cons (pe_bltn (v := .ty "str") rfl ms (by decide +kernel) rfl) pa_nil)))))) (pw_or1 (pt_not (pt_chain op_le op_le pe_int (by exact (pe_callB call_len rfl ml boot_len (pa_cons (pv 0) pa_nil))) pe_int))))) (pss_one (ps_ret pe_bl)) pss_nil)
      (pss_one (ps_ret (by exact (pe_callB (cr_all rfl) rfl ma PyProof.Rows.boot_all (pa_cons (by exact (pe_lc (own := [("letter", 1)]) (g := gName 1) (tt := tYes) (te := tChain _ _ (tC (.str "a")) (tVar 1) (tC (.str "z"))) rfl scIsName.nd (pi_str (pv 0))
        (blkOk_by (N := nIsName) (sc := defScope (top 5)) (by decide +kernel)) (fun _ _ _ _ _ => pg_name (i := 1) scIsName.nd rfl (Or.inl rfl)) (fun _ _ _ _ _ => pts_nil) (fun _ _ _ _ _ => by exact (pe_chain op_le_str op_le_str pe_str (by exact (pv 1)) pe_str)))) pa_nil)))))), ?_⟩
    obtain ⟨x, d, rfl, h, sh, q⟩ := h
    obtain ⟨t, k⟩ := h.kit (K := K)
    refine ⟨_, rfl, x, .ty "str", _, _, _, rfl, .ty "str", k.ty, k.s, _, rfl, ?_⟩
    cases h with
    | str z =>
      have z1 : z.length ≤ 1000 := of_decide_eq_true (Bool.and_eq_true_iff.mp sh).1
      have q : ∀ H', Sm H H' → Q (.bl (decide (IsWord z))) H' := q
      refine iteF ?_
      refine ⟨_, rfl, .str z, z.length, rfl, ⟨by rw [sizeLine_eq]; omega, rfl⟩, _, _, rfl, rfl, _, rfl, ?_⟩
      by_cases c1 : (1 : Int) ≤ (z.length : Nat)
      · rw [decide_eq_true c1]
        refine iteT ⟨_, _, rfl, rfl, _, rfl, ?_⟩
        by_cases c2 : ((z.length : Nat) : Int) ≤ 8
        · rw [decide_eq_true c2]
          refine iteF ⟨_, rfl, z, rfl, ?_⟩
          refine lc_map walk_str (is := [1]) (fv := fun j => .bl (decide (97 ≤ z.cps.toList.getD j 0) && decide (z.cps.toList.getD j 0 ≤ 122))) (by show z.length ≤ 1000; exact z1) (fun _ _ => True.intro) (fun j x H2 H3 Q hj s2 y q => ?_) fun D H2 sm nD ed => ?_
          · obtain ⟨rfl, c, ec, rfl⟩ := y
            have cd : z.cps.toList.getD j 0 = c := by
              rw [List.getD_eq_getElem?_getD, Array.getElem?_toList, ec]
              rfl
            have q := q _ (Sm.refl _)
            rw [cd] at q
            refine ⟨rfl, _, rfl, _, _, rfl, rfl, _, rfl, ?_⟩
            by_cases l1 : 97 ≤ c
            · rw [le_a, decide_eq_true l1]
              refine iteT ⟨_, _, rfl, rfl, ?_⟩
              rw [le_z]
              rw [decide_eq_true l1] at q
              exact q
            · rw [le_a, decide_eq_false l1]
              refine iteF ?_
              rw [decide_eq_false l1] at q
              exact q
          · refine ⟨D, (List.range z.length).map fun j => (decide (97 ≤ z.cps.toList.getD j 0) && decide (z.cps.toList.getD j 0 ≤ 122)), rfl, .inl (.inl (by rw [ed, List.map_map]; rfl)), ?_⟩
            have e : ((List.range z.length).map fun j => (decide (97 ≤ z.cps.toList.getD j 0) && decide (z.cps.toList.getD j 0 ≤ 122))).all id = decide (IsWord z) := by
              rw [Bool.eq_iff_iff, List.all_eq_true, decide_eq_true_iff]
              have hl : z.cps.toList.length = z.length := Array.length_toList
              constructor
              · intro h
                refine ⟨by omega, by omega, fun c hc => ?_⟩
                obtain ⟨j, hj, rfl⟩ := List.mem_iff_getElem.mp hc
                have := h _ (List.mem_map.mpr ⟨j, List.mem_range.mpr (by omega), rfl⟩)
                rw [List.getD_eq_getElem?_getD, List.getElem?_eq_getElem hj] at this
                simpa using this
              · rintro ⟨_, _, h⟩ b hb
                obtain ⟨j, hj, rfl⟩ := List.mem_map.mp hb
                have hj := List.mem_range.mp hj
                have := h _ (List.getElem_mem (show j < z.cps.toList.length by omega))
                rw [List.getD_eq_getElem?_getD, List.getElem?_eq_getElem (by omega)]
                simpa using this
            rw [e]
            exact q H2 sm
        · rw [decide_eq_false c2]
          have e : IsWord z ↔ False := ⟨fun h => by have := h.2.1; omega, False.elim⟩
          have q := q H (Sm.refl H)
          rw [decide_eq_false (fun h => e.mp h)] at q
          exact iteT q
      · rw [decide_eq_false c1]
        have e : IsWord z ↔ False := ⟨fun h => by have := h.1; omega, False.elim⟩
        have q := q H (Sm.refl H)
        rw [decide_eq_false (fun h => e.mp h)] at q
        exact iteF ⟨_, rfl, iteT q⟩
    | _ => exact iteT (iteT (q H (Sm.refl H)))
end
end Pk
set_option Elab.async false
set_option linter.all false
set_option maxRecDepth 100000
set_option maxHeartbeats 4000000
namespace Pk
open PySem PySem.Spec PyProof.Rows L2 Er
/-! ### is_deed_name, are_fenced -/
def deedD : PyData → Bool
  | .tuple [.int i, b] => decide (0 ≤ i) && wordD b
  | _ => false
def ascD (ds : List PyData) : Bool := (ds.zip (ds.drop 1)).all fun p => PySem.W.dataLt p.1 p.2
def fenceD : PyData → Bool
  | .tuple ds => ds.all deedD && ascD ds
  | .list ds => ds.all deedD && ascD ds
  | _ => false
/-- what stands in a tuple is short -/
def short1 : PyData → Bool
  | .tuple ds => ds.all short
  | _ => true
/-- a list or tuple, as a fence may be -/
def short2 : PyData → Bool
  | .tuple ds => decide (ds.length ≤ 100) && ds.all short1
  | .list ds => decide (ds.length ≤ 100) && ds.all short1
  | _ => true
theorem deed_shape {d : PyData} (h : deedD d = true) : ∃ (i : Int) (z : Str), d = .tuple [.int i, .str z] ∧ 0 ≤ i ∧ IsWord z := by
  unfold deedD at h
  split at h
  · rename_i i b
    rw [Bool.and_eq_true] at h
    cases b with
    | str z => exact ⟨i, z, rfl, of_decide_eq_true h.1, of_decide_eq_true h.2⟩
    | _ => cases h.2
  · cases h
theorem deeds_alike {d e : PyData} (h : deedD d = true) (h2 : deedD e = true) : PySem.W.alike d e = true ∧ d ≠ .none ∧ d.depth ≤ 60 := by
  obtain ⟨i, z, rfl, _⟩ := deed_shape h
  obtain ⟨j, w, rfl, _⟩ := deed_shape h2
  exact ⟨by simp [PySem.W.alike, PySem.W.alikeAll], (fun q => nomatch q), by simp [PyData.depth, PyData.depthAll]⟩
def spDeedN (K : PySem.W.Frag) : Sp := fun vs H Q _ => ∃ (x : V) (d : PyData), vs = [x] ∧ Dt K H x d ∧ short1 d = true ∧ ∀ H', Sm H H' → Q (.bl (deedD d)) H'
def spFence (K : PySem.W.Frag) : Sp := fun vs H Q _ => ∃ (x : V) (d : PyData), vs = [x] ∧ Dt K H x d ∧ short2 d = true ∧ ∀ H', Sm H H' → Q (.bl (fenceD d)) H'
abbrev nFence : List Str := ["value", "deed", "one", "other"]
theorem scDeedN : FnScope nVal nVal (defScope (top 16)) := ⟨rfl, rfl, rfl, by decide +kernel, rfl, by decide +kernel, by decide +kernel⟩
theorem scFence : FnScope nFence nVal (defScope (top 15)) := ⟨rfl, rfl, rfl, by decide +kernel, rfl, by decide +kernel, by decide +kernel⟩
section
variable {P : Program} {w : World} {K : PySem.W.Frag} {mg : Str → Option Value} {base : Heap} {f fI fN fD : Addr} {fd dI dN dD : FuncData}
theorem bDeedN (F : FnP K "is_deed_name" (top 16) fN dN) : Binds K dN nVal [] := F.bindsN fun _ _ _ _ _ _ us hl => match us, hl with
  | [_], _ => rfl
theorem ok_deedn (F : FnP K "is_deed_name" (top 16) f fd) (mi : mg "isinstance" = none) (mt : mg "tuple" = none) (ml : mg "len" = none) (GI : FnOk P w K mg base CX0 1 fI dI nVal (spIsInt K)) (FI : FnP K "is_int" (top 4) fI dI) (gI : mg "is_int" = some (.ref fI))
    (GN : FnOk P w K mg base CX0 1 fN dN nVal (spIsName K)) (FN : FnP K "is_name" (top 5) fN dN) (gN : mg "is_name" = some (.ref fN)) : FnOk P w K mg base CX0 2 f fd nVal (spDeedN K) := by
  refine F.ok (CX := CX0) scDeedN (fun vs H Q E h => ?_) (fun cdv A outer s H vs Q E hr h => ?_)
  · obtain ⟨x, d, rfl, _⟩ := h
    rfl
  · refine ⟨_, PSs.nox (pss_cons (ps_if (PW.pt (pw_or (pt_not (pt_val (by exact (pe_callB call_isi rfl mi PyProof.Rows.boot_isinstance (pa_cons (pv 0) (pa_cons (pe_bltn (v := .ty "tuple") rfl mt (by decide +kernel) rfl) pa_nil)))))) (pw_or1 (pt_cmpR op_ne (by exact (pe_callB call_len rfl ml boot_len (pa_cons (pv 0) pa_nil))) pe_int (nomark _))))) (pss_one (ps_ret pe_bl)) pss_nil)
      (pss_one (ps_ret (by exact (pe_and (by exact (pe_call GI hr rfl gI FI.kp (bIsInt FI) .nil pass0 (pa_cons (pe_ix ix_tup (pv 0) pe_int (fun _ _ => rfl)) pa_nil))) (by exact (pe_and (by exact (pe_cmpR op_ge (pe_ix ix_tup (pv 0) pe_int (fun _ _ => rfl)) pe_int (nomark _)))
        (pe_one (by exact (pe_call GN hr rfl gN FN.kp (bIsName FN) .nil pass0 (pa_cons (pe_ix ix_tup (pv 0) pe_int (fun _ _ => rfl)) pa_nil))))))))))), ?_⟩
    obtain ⟨x, d, rfl, h, sh, q⟩ := h
    obtain ⟨t, k⟩ := h.kit (K := K)
    refine ⟨_, rfl, x, .ty "tuple", _, _, _, rfl, .ty "tuple", k.ty, k.t, _, rfl, ?_⟩
    cases h with
    | @tup a xs ds e r =>
      have sT : SqT K H a xs := e
      have len := r.len
      refine iteF ⟨_, rfl, _, xs.length, rfl, .inr ⟨_, sT, rfl⟩, rfl, _, rfl, ?_⟩
      cases r with
      | nil =>
        refine iteT ?_
        exact q H (Sm.refl H)
      | @cons v0 vs0 d0 ds0 h0 r0 =>
        cases r0 with
        | nil =>
          have z : deedD (.tuple [d0]) = false := by cases d0 <;> rfl
          rw [z] at q
          exact iteT (q H (Sm.refl H))
        | @cons v1 vs1 d1 ds1 h1 r1 =>
          cases r1 with
          | @cons v2 vs2 d2 ds2 h2 r2 =>
            refine (?_ : if (!decide (V.int (((v0 :: v1 :: v2 :: vs2).length : Nat) : Int) = V.int 2)) = true then _ else _)
            rw [decide_eq_false (fun z => by have := V.int.inj z; simp only [List.length_cons] at this; omega)]
            have z : deedD (.tuple (d0 :: d1 :: d2 :: ds2)) = false := by cases d0 <;> rfl
            rw [z] at q
            exact iteT (q H (Sm.refl H))
          | nil =>
            have a0 : atI [v0, v1] (0 : Int) = some v0 := atI_nat (j := 0) rfl
            have a1 : atI [v0, v1] (1 : Int) = some v1 := atI_nat (j := 1) rfl
            refine iteF ?_
            refine ⟨_, rfl, a, _, _, _, rfl, rfl, sT, a0, v0, d0, rfl, h0, _, rfl, ?_⟩
            cases h0 with
            | int i =>
              have q : ∀ H', Sm H H' → Q (.bl (decide (0 ≤ i) && wordD d1)) H' := q
              refine iteT ⟨_, rfl, a, _, _, _, rfl, rfl, sT, a0, _, _, rfl, rfl, _, rfl, ?_⟩
              by_cases c : 0 ≤ i
              · rw [decide_eq_true c] at q ⊢
                refine iteT ⟨_, rfl, a, _, _, _, rfl, rfl, sT, a1, v1, d1, rfl, h1, ?_, q⟩
                have sh : ([PyData.int i, d1].all short) = true := sh
                simp only [List.all_cons, Bool.and_eq_true] at sh
                exact sh.2.1
              · rw [decide_eq_false c] at q ⊢
                exact iteF (q H (Sm.refl H))
            | _ => exact iteF (q H (Sm.refl H))
    | _ => exact iteT (iteT (q H (Sm.refl H)))
end
end Pk
set_option Elab.async false
set_option linter.all false
set_option maxRecDepth 100000
set_option maxHeartbeats 4000000
namespace Pk
open PySem PySem.Spec PyProof.Rows L2 Er
/-! ### lists and tuples alike -/
def Sqk (K : PySem.W.Frag) (H : Hp) (k : Bool) (a : Addr) (xs : List V) : Prop := if k = true then SqT K H a xs else H a = some (.lst xs)
theorem Sqk.sm {K : PySem.W.Frag} {H H' : Hp} {k : Bool} {a : Addr} {xs : List V} (h : Sqk K H k a xs) (m : Sm H H') : Sqk K H' k a xs := by
  cases k with
  | false => exact m _ _ h
  | true => exact SqT.sm h m
theorem Sqk.eq {K : PySem.W.Frag} {H H' : Hp} {k : Bool} {a : Addr} {xs : List V} (h : Sqk K H k a xs) (e : H' a = H a) : Sqk K H' k a xs := by
  cases k with
  | false => exact e.trans h
  | true =>
    rcases h with (h | ⟨o, h⟩) | h
    · exact .inl (.inl (e.trans h))
    · exact .inl (.inr ⟨o, e.trans h⟩)
    · exact .inr h
theorem seq_it {K : PySem.W.Frag} {k : Bool} {H : Hp} {a : Addr} {xs : List V} {R : It → Hp → Prop} (h : Sqk K H k a xs) (r : ∀ J : It, Walk J xs.length (fun H' => Sqk K H' k a xs) (YAt xs) → R J H) : (SqL K H a xs ∧ R (Itl K a) H) ∨ (SqT K H a xs ∧ R (Itt K a) H) := by
  cases k with
  | false => exact .inl ⟨.inl (.inl h), r _ (Walk.mono walk_list (fun H' e => .inl (.inl e)) fun _ _ _ _ _ _ y => y)⟩
  | true => exact .inr ⟨h, r _ (Walk.mono walk_tup (fun H' e => e) fun _ _ _ _ _ _ y => y)⟩
theorem cut1 {α : Type} (xs : List α) : (xs.drop (min 1 xs.length)).take (xs.length - min 1 xs.length) = xs.drop 1 := by
  cases xs with
  | nil => rfl
  | cons x xs =>
    have e : min 1 (x :: xs).length = 1 := by
      rw [List.length_cons]
      omega
    rw [e]
    exact List.take_of_length_le (by rw [List.length_drop]; exact Nat.le_refl _)
theorem cutV1 (xs : List V) : cutV xs (some (1 : Int)) none = xs.drop 1 := by
  unfold cutV
  rw [HT.sIx_none, show ((1 : Int)) = ((1 : Nat) : Int) from rfl, HT.sIx_nat]
  exact cut1 xs
theorem seq_cut {K : PySem.W.Frag} {k : Bool} {H : Hp} {a : Addr} {xs : List V} {Q : VK} (h : Sqk K H k a xs) (q : ∀ b H', Sm H H' → Sqk K H' k b (xs.drop 1) → Q (.ref b) H') : rSlL K (.ref a) (some (1 : Int)) none H Q ∨ rSlA K (.ref a) (some (1 : Int)) none H Q := by
  cases k with
  | false =>
    refine .inl ⟨a, xs, rfl, .inl (.inl h), fun p np => ?_⟩
    rw [cutV1]
    exact q p _ (Sm.new np) upd_same
  | true =>
    refine .inr ⟨a, xs, rfl, h, fun z => ?_, fun _ p np => ?_⟩
    · have z1 := z.1
      rw [show ((1 : Int)) = ((1 : Nat) : Int) from rfl, HT.sIx_nat] at z1
      have e : xs = [] := List.length_eq_zero_iff.mp (by omega)
      subst e
      exact q a H (Sm.refl H) h
    · rw [cutV1]
      exact q p _ (Sm.new np) (.inl (.inl upd_same))
theorem seq_zip {K : PySem.W.Frag} {k : Bool} {H : Hp} {a b : Addr} {xs ys : List V} {R : It → Hp → Prop} (h : Sqk K H k a xs) (h2 : Sqk K H k b ys) (r : ∀ J : It, Walk J (min xs.length ys.length) (fun H' => Sqk K H' k a xs ∧ Sqk K H' k b ys) (YPair (fun i => xs[i]?) (fun i => ys[i]?)) → R J H) :
    (SqL K H a xs ∧ SqL K H b ys ∧ R (Itz K a b) H) ∨ (SqT K H a xs ∧ SqT K H b ys ∧ R (RZ.ItzT K a b) H) := by
  cases k with
  | false => exact .inl ⟨.inl (.inl h), .inl (.inl h2), r _ (Walk.mono (walk_zip rfl) (fun H' e => ⟨.inl (.inl e.1), .inl (.inl e.2)⟩) fun _ _ _ _ _ _ y => y)⟩
  | true => exact .inr ⟨h, h2, r _ (Walk.mono (walk_zipT rfl) (fun H' e => e) fun _ _ _ _ _ _ y => y)⟩
/-- what a comprehension over J asks -/
abbrev LcB (g : TG) (te : TE) (is : List Nat) (σ : L2.St) (H1 : Hp) (Q : Addr → Hp → Prop) (J : It) : Prop :=
    ∀ D, H1 D = none → ∃ W : Nat → Nat → Hp → Prop, (∃ m, W 0 m (upd H1 D (.lst []))) ∧ ∀ i₁ m H, W i₁ m H →
      (J.stop i₁ H ∧ Q D H) ∨ (J.go i₁ H ∧ ∃ Nx : Hp → Prop, (∀ H', Nx H' → ∃ m', m' < m ∧ W (i₁ + 1) m' H') ∧ ∀ x H', J.yld i₁ H x H' → g x (wipe σ is) H' fun σ2 H2 => wipe σ2 is = wipe σ is ∧ tYes σ2 H2 fun b H3 =>
        if b = true then te σ2 H3 fun y H4 => ∃ acc, H4 D = some (.lst acc) ∧ acc.length < sizeLine ∧ Nx (upd H4 D (.lst (acc ++ [y]))) else Nx H3)
theorem lc_seq {K : PySem.W.Frag} {k : Bool} {a : Addr} {xs : List V} {g : TG} {is : List Nat} {te : TE} {fv : Nat → V} {σ : L2.St} {H1 : Hp} {Q : Addr → Hp → Prop} (h : Sqk K H1 k a xs) (hn : xs.length ≤ 1000)
    (ev : ∀ (j : Nat) (x : V) (H2 H3 : Hp) (Q : VK), j < xs.length → Sm H1 H2 → YAt xs j H2 x H3 → (∀ H4, Sm H2 H4 → Q (fv j) H4) → g x (wipe σ is) H3 fun σ2 H4 => wipe σ2 is = wipe σ is ∧ te σ2 H4 Q)
    (q : ∀ (D : Addr) (H2 : Hp), Sm H1 H2 → H1 D = none → H2 D = some (.lst ((List.range xs.length).map fv)) → Q D H2) :
    (SqL K H1 a xs ∧ LcB g te is σ H1 Q (Itl K a)) ∨ (SqT K H1 a xs ∧ LcB g te is σ H1 Q (Itt K a)) :=
  seq_it (R := fun J H => LcB g te is σ H1 Q J) h fun J wk => lc_map wk hn (fun H2 m2 => h.sm m2) ev q
theorem lc_zip {K : PySem.W.Frag} {k : Bool} {a b : Addr} {xs ys : List V} {g : TG} {is : List Nat} {te : TE} {fv : Nat → V} {σ : L2.St} {H1 : Hp} {Q : Addr → Hp → Prop} (h : Sqk K H1 k a xs) (h2 : Sqk K H1 k b ys) (hn : min xs.length ys.length ≤ 1000)
    (ev : ∀ (j : Nat) (x : V) (H2 H3 : Hp) (Q : VK), j < min xs.length ys.length → Sm H1 H2 → YPair (fun i => xs[i]?) (fun i => ys[i]?) j H2 x H3 → (∀ H4, Sm H2 H4 → Q (fv j) H4) → g x (wipe σ is) H3 fun σ2 H4 => wipe σ2 is = wipe σ is ∧ te σ2 H4 Q)
    (q : ∀ (D : Addr) (H2 : Hp), Sm H1 H2 → H1 D = none → H2 D = some (.lst ((List.range (min xs.length ys.length)).map fv)) → Q D H2) :
    (SqL K H1 a xs ∧ SqL K H1 b ys ∧ LcB g te is σ H1 Q (Itz K a b)) ∨ (SqT K H1 a xs ∧ SqT K H1 b ys ∧ LcB g te is σ H1 Q (RZ.ItzT K a b)) :=
  seq_zip (R := fun J H => LcB g te is σ H1 Q J) h h2 fun J wk => lc_map wk hn (fun H2 m => ⟨h.sm m, h2.sm m⟩) ev q
theorem all_range {α : Type} (p : α → Bool) (ds : List α) (z : α) : ((List.range ds.length).map fun j => p (ds.getD j z)).all id = ds.all p := by
  have e : ((List.range ds.length).map fun j => p (ds.getD j z)) = ds.map p := by
    refine List.ext_getElem (by simp) fun j h1 h2 => ?_
    rw [List.length_map] at h2
    rw [List.getElem_map, List.getElem_range, List.getElem_map, List.getD_eq_getElem?_getD, List.getElem?_eq_getElem h2]
    rfl
  rw [e, List.all_map]
  rfl
theorem zip_range (ds : List PyData) : ds.zip (ds.drop 1) = (List.range (min ds.length (ds.drop 1).length)).map fun j => (ds.getD j .none, (ds.drop 1).getD j .none) := by
  refine List.ext_getElem (by simp) fun j h1 h2 => ?_
  rw [List.length_map, List.length_range] at h2
  rw [List.getElem_zip, List.getElem_map, List.getElem_range, List.getD_eq_getElem?_getD, List.getD_eq_getElem?_getD, List.getElem?_eq_getElem (by omega), List.getElem?_eq_getElem (by omega)]
  rfl
theorem asc_range (ds : List PyData) : ((List.range (min ds.length (ds.drop 1).length)).map fun j => PySem.W.dataLt (ds.getD j .none) ((ds.drop 1).getD j .none)).all id = ascD ds := by
  unfold ascD
  rw [zip_range, List.all_map, List.all_map]
  rfl
/-- a list or tuple, as data -/
theorem Dt.seq {K : PySem.W.Frag} {H : Hp} {x : V} {d : PyData} (h : Dt K H x d) : (∃ (k : Bool) (a : Addr) (xs : List V) (ds : List PyData), x = .ref a ∧ Sqk K H k a xs ∧ Dts K H xs ds ∧ d = (if k = true then .tuple ds else .list ds) ∧ (isL d || isT d) = true) ∨ ((isL d || isT d) = false ∧ fenceD d = false) := by
  cases h with
  | lst e r => exact .inl ⟨false, _, _, _, rfl, e, r, rfl, rfl⟩
  | tup e r => exact .inl ⟨true, _, _, _, rfl, e, r, rfl, rfl⟩
  | _ => exact .inr ⟨rfl, rfl⟩
theorem fence_of (k : Bool) (ds : List PyData) : fenceD (if k = true then .tuple ds else .list ds) = (ds.all deedD && ascD ds) := by
  cases k <;> rfl
theorem short2_of {k : Bool} {ds : List PyData} (h : short2 (if k = true then .tuple ds else .list ds) = true) : ds.length ≤ 100 ∧ ∀ d ∈ ds, short1 d = true := by
  have z : (decide (ds.length ≤ 100) && ds.all short1) = true := by
    cases k <;> exact h
  rw [Bool.and_eq_true] at z
  exact ⟨of_decide_eq_true z.1, fun d hd => List.all_eq_true.mp z.2 d hd⟩
theorem Dts.drop {K : PySem.W.Frag} {H : Hp} : ∀ {vs : List V} {ds : List PyData}, Dts K H vs ds → Dts K H (vs.drop 1) (ds.drop 1)
  | _, _, .nil => .nil
  | _, _, .cons _ r => r
section
variable {P : Program} {w : World} {K : PySem.W.Frag} {mg : Str → Option Value} {base : Heap} {f fI fN fD : Addr} {fd dI dN dD : FuncData}
theorem ok_fenced (F : FnP K "are_fenced" (top 15) f fd) (mi : mg "isinstance" = none) (mL : mg "list" = none) (mT : mg "tuple" = none) (ma : mg "all" = none) (mz : mg "zip" = none)
    (GD : FnOk P w K mg base CX0 2 fD dD nVal (spDeedN K)) (FD : FnP K "is_deed_name" (top 16) fD dD) (gD : mg "is_deed_name" = some (.ref fD)) : FnOk P w K mg base CX0 3 f fd nVal (spFence K) := by
  refine F.ok (CX := CX0) scFence (fun vs H Q E h => ?_) (fun cdv A outer s H vs Q E hr h => ?_)
  · obtain ⟨x, d, rfl, _⟩ := h
    rfl
  · refine ⟨_, PSs.nox (pss_cons (ps_if (PW.pt (pw_or (pt_not (pt_val (by exact (pe_callB call_isiT rfl mi PyProof.Rows.boot_isinstance (pa_cons (pv 0) (pa_cons (by exact (pe_tup (pa_cons (pe_bltn (v := .ty "list") rfl mL (by decide +kernel) rfl) (pa_cons (pe_bltn (v := .ty "tuple") rfl mT (by decide +kernel) rfl) pa_nil)))) pa_nil))))))
        (pw_or1 (pt_not (pt_val (by exact (pe_callB (cr_all rfl) rfl ma PyProof.Rows.boot_all (pa_cons (by exact (pe_lc (own := [("deed", 1)]) (g := gName 1) (tt := tYes) (te := tCall (spDeedN K) [] E0 (tCons (tVar 1) tNil)) rfl scFence.nd (pi_seq (pv 0))
          (blkOk_by (N := nFence) (sc := defScope (top 15)) (by decide +kernel)) (fun _ _ _ _ _ => pg_name (i := 1) scFence.nd rfl (Or.inl rfl)) (fun _ _ _ _ _ => pts_nil) (fun _ _ _ _ _ => by exact (pe_call GD hr rfl gD FD.kp (bDeedN FD) .nil pass0 (pa_cons (by exact (pv 1)) pa_nil))))) pa_nil)))))))) (pss_one (ps_ret pe_bl)) pss_nil)
      (pss_one (ps_ret (by exact (pe_callB (cr_all rfl) rfl ma PyProof.Rows.boot_all (pa_cons (by exact (pe_lc (own := [("one", 2), ("other", 3)]) (g := gTup K 2 (gCons (gName 2) (gCons (gName 3) gNil))) (tt := tYes) (te := tOp (rLtD K) (tVar 2) (tVar 3)) rfl scFence.nd (RZ.pi_zipA rfl mz (pa_cons (pv 0) (pa_cons (by exact (pe_slice (SlR.or sl_list sl_tupA) (pv 0) (po_some pe_int) po_none)) pa_nil)))
        (blkOk_by (N := nFence) (sc := defScope (top 15)) (by decide +kernel)) (fun _ _ _ _ _ => pg_tup rfl (pgs_cons (pg_name (i := 2) scFence.nd rfl (Or.inl rfl)) (pgs_cons (pg_name (i := 3) scFence.nd rfl (Or.inl rfl)) pgs_nil))) (fun _ _ _ _ _ => pts_nil) (fun _ _ _ _ _ => by exact (pe_cmpR (op_ltD hr.units) (by exact (pv 2)) (by exact (pv 3)) (nomark _))))) pa_nil)))))), ?_⟩
    obtain ⟨x, d, rfl, h, sh, q⟩ := h
    have c2 : 2 ≤ sizeLine := by
      rw [sizeLine_eq]
      omega
    have pr : Paired ClsV [V.ty "list", V.ty "tuple"] [Value.type "list", Value.type "tuple"] := .cons (.ty _) (.cons (.ty _) .nil)
    refine ⟨_, rfl, c2, fun T nT => ?_⟩
    have m1 := Sm.new (o := .tup [.ty "list", .ty "tuple"]) nT
    obtain ⟨t, k⟩ := (h.sm m1).kit (K := K)
    refine ⟨x, T, _, t, _, _, rfl, upd_same, pr, k.ty, k.l, _, rfl, ?_⟩
    generalize upd H T (.tup [.ty "list", .ty "tuple"]) = G at m1 ⊢
    rcases (h.sm m1).seq with ⟨kk, a, xs, ds, rfl, ea, r, rfl, il⟩ | ⟨il, e⟩
    · rw [il]
      obtain ⟨l100, shs⟩ := short2_of sh
      have len := r.len
      rw [fence_of] at q
      refine iteF ⟨_, rfl, a, xs, rfl, ?_⟩
      refine lc_seq ea (is := [1]) (fv := fun j => .bl (deedD (ds.getD j .none))) (by omega) (fun j y H2 H3 Q hj m2 yy qq => ?_) fun D G2 m2 nD ed => ?_
      · obtain ⟨rfl, ey⟩ := yy
        obtain ⟨d2, e2, h2⟩ := r.at_ ey
        have z := qq
        rw [List.getD_eq_getElem?_getD, e2] at z
        exact ⟨rfl, _, rfl, y, d2, rfl, h2.sm m2, shs d2 (List.mem_of_getElem? e2), fun H4 m4 => z H4 m4⟩
      · refine ⟨D, (List.range xs.length).map fun j => deedD (ds.getD j .none), rfl, .inl (.inl (by rw [ed, List.map_map]; rfl)), _, rfl, ?_⟩
        rw [len, all_range]
        have m12 := Sm.trans m1 m2
        cases ca : ds.all deedD with
        | false =>
          rw [ca, Bool.false_and] at q
          exact iteT (q _ m12)
        | true =>
          rw [ca, Bool.true_and] at q
          have ea2 := ea.sm m2
          refine iteF ⟨_, rfl, _, rfl, _, rfl, seq_cut ea2 fun b G3 m3 eb => ?_⟩
          have r3 := (r.sm m2).sm m3
          have rd := r3.drop
          have ea3 := ea2.sm m3
          refine ⟨a, b, xs, xs.drop 1, rfl, ?_⟩
          refine lc_zip ea3 eb (is := [2, 3]) (fv := fun j => .bl (PySem.W.dataLt (ds.getD j .none) ((ds.drop 1).getD j .none))) (by omega) (fun j y H2 H3 Q hj m yy qq => ?_) fun D2 G4 m4 nD2 ed2 => ?_
          · obtain ⟨T2, x1, x2, rfl, nT2, rfl, ex1, ex2⟩ := yy
            obtain ⟨d1, e1, h1⟩ := r3.at_ ex1
            obtain ⟨d2, e2, h2⟩ := rd.at_ ex2
            have m5 := Sm.new (H := H2) (o := .tup [x1, x2]) nT2
            have z := qq _ m5
            rw [List.getD_eq_getElem?_getD, List.getD_eq_getElem?_getD, e1, e2] at z
            have al := deeds_alike (List.all_eq_true.mp ca d1 (List.mem_of_getElem? e1)) (List.all_eq_true.mp ca d2 (List.mem_of_mem_drop (List.mem_of_getElem? e2)))
            exact ⟨T2, _, rfl, .inl (.inl upd_same), rfl, _, _, rfl, _, _, rfl, rfl, rfl, _, rfl, _, rfl, d1, d2, ((h1.sm m).sm m5).dp, ((h2.sm m).sm m5).dp, al.1, al.2.1, al.2.2, z⟩
          · refine ⟨D2, (List.range (min xs.length (xs.drop 1).length)).map fun j => PySem.W.dataLt (ds.getD j .none) ((ds.drop 1).getD j .none), rfl, .inl (.inl (by rw [ed2, List.map_map]; rfl)), ?_⟩
            rw [rd.len, r3.len, asc_range]
            exact q _ (Sm.trans m12 (Sm.trans m3 m4))
    · rw [il]
      rw [e] at q
      exact iteT (iteT (q _ m1))
end
end Pk
set_option Elab.async false
set_option linter.all false
set_option maxRecDepth 100000
set_option maxHeartbeats 4000000
namespace Pk
open PySem PySem.Spec PyProof.Rows L2 Er
/-! ### a loop over a list or a tuple; a comprehension with a test -/
abbrev ForB (g : TG) (tb : TS) (D : Ends) (σ : L2.St) (H : Hp) (J : It) : Prop :=
    ∃ W : Nat → Nat → L2.St → Hp → Prop, (∃ m, W 0 m σ H) ∧ ∀ i m σ H, W i m σ H →
      (J.stop i H ∧ D.nx σ H) ∨ (J.go i H ∧ ∃ N : L2.St → Hp → Prop, (∀ σ' H', N σ' H' → ∃ m', m' < m ∧ W (i + 1) m' σ' H') ∧ ∀ x H', J.yld i H x H' → g x σ H' fun σ2 H2 => tb { D with nx := N, ct := N, bk := D.nx } σ2 H2)
theorem for_seq {K : PySem.W.Frag} {k : Bool} {a : Addr} {xs : List V} {g : TG} {tb : TS} {D : Ends} {σ : L2.St} {H : Hp} (h : Sqk K H k a xs) (Pv : Nat → L2.St → Hp → Prop) (h0 : Pv 0 σ H) (hG : ∀ i σ H', i ≤ xs.length → Pv i σ H' → Sqk K H' k a xs)
    (hs : ∀ i x σ H1, xs[i]? = some x → Pv i σ H1 → g x σ H1 fun σ2 H2 => tb { D with nx := Pv (i + 1), ct := Pv (i + 1), bk := D.nx } σ2 H2) (hd : ∀ σ H, Pv xs.length σ H → D.nx σ H) :
    (SqL K H a xs ∧ ForB g tb D σ H (Itl K a)) ∨ (SqT K H a xs ∧ ForB g tb D σ H (Itt K a)) :=
  seq_it (R := fun J H => ForB g tb D σ H J) h fun J wk => for_it wk Pv h0 hG (fun i x σ1 H1 H2 _ p y => by
    obtain ⟨rfl, e⟩ := y
    exact hs i x σ1 _ e p) hd
/-- [e for x in .. if t] -/
theorem lc_fil {J : It} {n : Nat} {G : Hp → Prop} {Y : Nat → Hp → V → Hp → Prop} (w : Walk J n G Y) {g : TG} {is : List Nat} {tt : TT} {te : TE} {t : Nat → Bool} {fv : Nat → V} {σ : L2.St} {H1 : Hp} {Q : Addr → Hp → Prop} (hn : n ≤ 1000) (g1 : ∀ H2, Sm H1 H2 → G H2)
    (ev : ∀ (j : Nat) (x : V) (H2 H3 : Hp) (Q1 : VK) (Q0 : Hp → Prop), j < n → Sm H1 H2 → Y j H2 x H3 → (t j = true → ∀ H4, Sm H2 H4 → Q1 (fv j) H4) → (t j = false → ∀ H4, Sm H2 H4 → Q0 H4) →
      g x (wipe σ is) H3 fun σ2 H4 => wipe σ2 is = wipe σ is ∧ tt σ2 H4 fun b H5 => if b = true then te σ2 H5 Q1 else Q0 H5)
    (q : ∀ (D : Addr) (H2 : Hp), Sm H1 H2 → H1 D = none → H2 D = some (.lst (((List.range n).filter t).map fv)) → Q D H2) :
    ∀ D, H1 D = none → ∃ W : Nat → Nat → Hp → Prop, (∃ m, W 0 m (upd H1 D (.lst []))) ∧ ∀ i₁ m H, W i₁ m H →
      (J.stop i₁ H ∧ Q D H) ∨ (J.go i₁ H ∧ ∃ Nx : Hp → Prop, (∀ H', Nx H' → ∃ m', m' < m ∧ W (i₁ + 1) m' H') ∧ ∀ x H', J.yld i₁ H x H' → g x (wipe σ is) H' fun σ2 H2 => wipe σ2 is = wipe σ is ∧ tt σ2 H2 fun b H3 =>
        if b = true then te σ2 H3 fun y H4 => ∃ acc, H4 D = some (.lst acc) ∧ acc.length < sizeLine ∧ Nx (upd H4 D (.lst (acc ++ [y]))) else Nx H3) := by
  intro D hD
  refine lc_it w (g := g) (tt := tt) (te := te) (vs := is) (Qd := fun H => Q D H) (fun j H2 => H2 D = some (.lst (((List.range j).filter t).map fv)) ∧ Sm H1 H2) ⟨upd_same, Sm.new hD⟩ (fun j H2 _ h => g1 H2 h.2) ?_ ?_
  · rintro j x H2 H3 hj ⟨ed, sm⟩ hy
    have fl : ((List.range j).filter t).length ≤ j := by
      have := List.length_filter_le t (List.range j)
      rwa [List.length_range] at this
    have st : (List.range (j + 1)).filter t = (List.range j).filter t ++ if t j = true then [j] else [] := by
      rw [List.range_succ, List.filter_append]
      by_cases c : t j = true
      · rw [if_pos c, List.filter_cons_of_pos c]
        rfl
      · rw [if_neg c, List.filter_cons_of_neg c]
        rfl
    exact ev j x H2 H3 (fun y H4 => ∃ acc, H4 D = some (.lst acc) ∧ acc.length < sizeLine ∧ (upd H4 D (.lst (acc ++ [y]))) D = some (.lst (((List.range (j + 1)).filter t).map fv)) ∧ Sm H1 (upd H4 D (.lst (acc ++ [y]))))
      (fun H4 => H4 D = some (.lst (((List.range (j + 1)).filter t).map fv)) ∧ Sm H1 H4) hj sm hy (fun c H4 s24 => by
        refine ⟨_, s24 _ _ ed, ?_, ?_, ?_⟩
        · rw [List.length_map, sizeLine_eq]
          omega
        · rw [upd_same, st, if_pos c, List.map_append]
          rfl
        · intro b o e
          rw [upd_ne (ne_of_none e hD)]
          exact s24 _ _ (sm _ _ e)) (fun c H4 s24 => by
        refine ⟨?_, Sm.trans sm s24⟩
        rw [st, if_neg (by rw [c]; exact Bool.false_ne_true), List.append_nil]
        exact s24 _ _ ed)
  · rintro H2 ⟨ed, sm⟩
    exact q D H2 sm hD ed
abbrev LcF (g : TG) (tt : TT) (te : TE) (is : List Nat) (σ : L2.St) (H1 : Hp) (Q : Addr → Hp → Prop) (J : It) : Prop :=
    ∀ D, H1 D = none → ∃ W : Nat → Nat → Hp → Prop, (∃ m, W 0 m (upd H1 D (.lst []))) ∧ ∀ i₁ m H, W i₁ m H →
      (J.stop i₁ H ∧ Q D H) ∨ (J.go i₁ H ∧ ∃ Nx : Hp → Prop, (∀ H', Nx H' → ∃ m', m' < m ∧ W (i₁ + 1) m' H') ∧ ∀ x H', J.yld i₁ H x H' → g x (wipe σ is) H' fun σ2 H2 => wipe σ2 is = wipe σ is ∧ tt σ2 H2 fun b H3 =>
        if b = true then te σ2 H3 fun y H4 => ∃ acc, H4 D = some (.lst acc) ∧ acc.length < sizeLine ∧ Nx (upd H4 D (.lst (acc ++ [y]))) else Nx H3)
theorem lc_zipF {K : PySem.W.Frag} {k : Bool} {a b : Addr} {xs ys : List V} {g : TG} {is : List Nat} {tt : TT} {te : TE} {t : Nat → Bool} {fv : Nat → V} {σ : L2.St} {H1 : Hp} {Q : Addr → Hp → Prop} (h : Sqk K H1 k a xs) (h2 : Sqk K H1 k b ys) (hn : min xs.length ys.length ≤ 1000)
    (ev : ∀ (j : Nat) (x : V) (H2 H3 : Hp) (Q1 : VK) (Q0 : Hp → Prop), j < min xs.length ys.length → Sm H1 H2 → YPair (fun i => xs[i]?) (fun i => ys[i]?) j H2 x H3 → (t j = true → ∀ H4, Sm H2 H4 → Q1 (fv j) H4) → (t j = false → ∀ H4, Sm H2 H4 → Q0 H4) →
      g x (wipe σ is) H3 fun σ2 H4 => wipe σ2 is = wipe σ is ∧ tt σ2 H4 fun b H5 => if b = true then te σ2 H5 Q1 else Q0 H5)
    (q : ∀ (D : Addr) (H2 : Hp), Sm H1 H2 → H1 D = none → H2 D = some (.lst (((List.range (min xs.length ys.length)).filter t).map fv)) → Q D H2) :
    (SqL K H1 a xs ∧ SqL K H1 b ys ∧ LcF g tt te is σ H1 Q (Itz K a b)) ∨ (SqT K H1 a xs ∧ SqT K H1 b ys ∧ LcF g tt te is σ H1 Q (RZ.ItzT K a b)) :=
  seq_zip (R := fun J H => LcF g tt te is σ H1 Q J) h h2 fun J wk => lc_fil wk hn (fun H2 m => ⟨h.sm m, h2.sm m⟩) ev q
theorem dps_strs {K : PySem.W.Frag} {H : Hp} : ∀ ws : List Str, DpAll K H (ws.map V.str) (ws.map PyData.str)
  | [] => .nil
  | w :: ws => .cons (.str w) (dps_strs ws)
theorem dps_ones {K : PySem.W.Frag} {H : Hp} : ∀ ws : List Nat, DpAll K H (ws.map fun _ => V.int 1) (ws.map fun _ => PyData.int 1)
  | [] => .nil
  | _ :: ws => .cons (.int 1) (dps_ones ws)
theorem shaped_of {ds : List PyData} {n : Nat} (h1 : PyData.canLayAll0 ds = true) (h2 : PyData.depthAll ds ≤ n) (hn : n ≤ 50) : SeqAt.shaped (.list ds) = true := by
  unfold SeqAt.shaped
  have c : (PyData.list ds).canLay0 = true := by simpa [PyData.canLay0] using h1
  rw [c, Bool.true_and]
  refine decide_eq_true ?_
  simp only [PyData.depth]
  omega
theorem shaped_strs : ∀ {ws : List Str}, (∀ z ∈ ws, PyData.strOk z = true) → PyData.canLayAll0 (ws.map PyData.str) = true ∧ PyData.depthAll (ws.map PyData.str) ≤ 0
  | [], _ => ⟨by simp [PyData.canLayAll0], by simp [PyData.depthAll]⟩
  | w :: ws, h => by
    have ih := shaped_strs (ws := ws) fun z hz => h z (List.mem_cons_of_mem _ hz)
    have h1 := h w List.mem_cons_self
    have ih2 := ih.2
    exact ⟨by simp [PyData.canLayAll0, PyData.canLay0, h1, ih.1], by simp only [List.map_cons, PyData.depthAll, PyData.depth]; omega⟩
theorem shaped_ones : ∀ (ws : List Nat), PyData.canLayAll0 (ws.map fun _ => PyData.int 1) = true ∧ PyData.depthAll (ws.map fun _ => PyData.int 1) ≤ 0
  | [] => ⟨by simp [PyData.canLayAll0], by simp [PyData.depthAll]⟩
  | w :: ws => by
    have ih := shaped_ones ws
    have ih2 := ih.2
    exact ⟨by simp [PyData.canLayAll0, PyData.canLay0, ih.1], by simp only [List.map_cons, PyData.depthAll, PyData.depth]; omega⟩
theorem filter_none (n : Nat) (p : Nat → Bool) : ((List.range n).filter fun j => !p j).isEmpty = ((List.range n).map p).all id := by
  rw [Bool.eq_iff_iff, List.isEmpty_iff, List.filter_eq_nil_iff, List.all_map, List.all_eq_true]
  constructor
  · intro h j hj
    have := h j hj
    simpa using this
  · intro h j hj
    have := h j hj
    simpa using this
theorem eqv_nil (ds : List PyData) : PyData.eqv (.list ds) (.list []) = ds.isEmpty := by
  cases ds with
  | nil => simp [PyData.eqv, PyData.eqvAll]
  | cons d ds => simp [PyData.eqv, PyData.eqvAll]
def abc : Str := "abcdefghijklmnopqrstuvwxyz"
theorem in_abc {c : Nat} : decide (c ∈ abc.cps.toList) = (decide (97 ≤ c) && decide (c ≤ 122)) := by
  have e : abc.cps.toList = (List.range 26).map (· + 97) := by decide +kernel
  rw [e, Bool.eq_iff_iff, Bool.and_eq_true, decide_eq_true_iff, decide_eq_true_iff, decide_eq_true_iff]
  constructor
  · intro h
    obtain ⟨j, hj, rfl⟩ := List.mem_map.mp h
    have := List.mem_range.mp hj
    omega
  · intro h
    exact List.mem_map.mpr ⟨c - 97, List.mem_range.mpr (by omega), by omega⟩
/-! ### _law_is_whole, _law_is_fence -/
abbrev nWhole : List Str := ["_law_value"]
theorem scWhole : FnScope nWhole nWhole (defScope (top 23)) := ⟨rfl, rfl, rfl, by decide +kernel, rfl, by decide +kernel, by decide +kernel⟩
abbrev nLf : List Str := ["_law_value", "_law_deed", "_law_letter", "_law_one_here", "_law_other"]
theorem scLf : FnScope nLf nWhole (defScope (top 24)) := ⟨rfl, rfl, rfl, by decide +kernel, rfl, by decide +kernel, by decide +kernel⟩
section
variable {P : Program} {w : World} {K : PySem.W.Frag} {mg : Str → Option Value} {base : Heap} {f fW : Addr} {fd dW : FuncData}
theorem bWhole (F : FnP K "_law_is_whole" (top 23) fW dW) : Binds K dW nWhole [] := F.bindsN fun _ _ _ _ _ _ us hl => match us, hl with
  | [_], _ => rfl
theorem ok_whole (F : FnP K "_law_is_whole" (top 23) f fd) (mi : mg "isinstance" = none) (mn : mg "int" = none) (mb : mg "bool" = none) : FnOk P w K mg base CX0 1 f fd nWhole (spIsInt K) := by
  refine F.ok (CX := CX0) scWhole (fun vs H Q E h => ?_) (fun cdv A outer s H vs Q E hr h => ?_)
  · obtain ⟨x, d, rfl, _⟩ := h
    rfl
  · refine ⟨_, PSs.nox (pss_one (ps_ret (by exact (pe_and (by exact (pe_callB call_isi rfl mi PyProof.Rows.boot_isinstance (pa_cons (pv 0) (pa_cons (pe_bltn (v := .ty "int") rfl mn (by decide +kernel) rfl) pa_nil))))
      (pe_one (by exact (pe_not (by exact (pe_callB call_isi rfl mi PyProof.Rows.boot_isinstance (pa_cons (pv 0) (pa_cons (pe_bltn (v := .ty "bool") rfl mb (by decide +kernel) rfl) pa_nil))))))))))), ?_⟩
    obtain ⟨x, d, rfl, h, q⟩ := h
    obtain ⟨t, k⟩ := h.kit (K := K)
    refine ⟨_, rfl, x, .ty "int", _, _, _, rfl, .ty "int", k.ty, k.i, _, rfl, ?_⟩
    cases e : (isI d || isB d) with
    | true =>
      refine iteT ⟨_, rfl, x, .ty "bool", _, _, _, rfl, .ty "bool", k.ty, k.b, _, rfl, ?_⟩
      have z : isI d = !isB d := by
        cases d <;> first | rfl | cases e
      rw [← z]
      exact q
    | false =>
      have z : isI d = false := by
        cases d <;> first | rfl | cases e
      rw [z] at q
      exact iteF q
theorem ok_lfence (F : FnP K "_law_is_fence" (top 24) f fd) (mi : mg "isinstance" = none) (mL : mg "list" = none) (mT : mg "tuple" = none) (ml : mg "len" = none) (ms : mg "str" = none) (mz : mg "zip" = none)
    (GW : FnOk P w K mg base CX0 1 fW dW nWhole (spIsInt K)) (FW : FnP K "_law_is_whole" (top 23) fW dW) (gW : mg "_law_is_whole" = some (.ref fW)) : FnOk P w K mg base CX0 2 f fd nWhole (spFence K) := by
  refine F.ok (CX := CX0) scLf (fun vs H Q E h => ?_) (fun cdv A outer s H vs Q E hr h => ?_)
  · obtain ⟨x, d, rfl, _⟩ := h
    rfl
  · refine ⟨_, PSs.nox (pss_cons (ps_if (pt_not (pt_val (by exact (pe_callB call_isiT rfl mi PyProof.Rows.boot_isinstance (pa_cons (pv 0) (pa_cons (by exact (pe_tup (pa_cons (pe_bltn (v := .ty "list") rfl mL (by decide +kernel) rfl) (pa_cons (pe_bltn (v := .ty "tuple") rfl mT (by decide +kernel) rfl) pa_nil)))) pa_nil)))))) (pss_one (ps_ret pe_bl)) pss_nil)
      (pss_cons (ps_for PassesOwn.never rfl (pi_seq (pv 0)) (pg_name (i := 1) scLf.nd rfl (.inl rfl))
        (pss_cons (ps_if (PW.pt (pw_or (pt_not (pt_val (by exact (pe_callB call_isi rfl mi PyProof.Rows.boot_isinstance (pa_cons (pv 1) (pa_cons (pe_bltn (v := .ty "tuple") rfl mT (by decide +kernel) rfl) pa_nil)))))) (pw_or1 (pt_cmpR op_ne (by exact (pe_callB call_len rfl ml boot_len (pa_cons (pv 1) pa_nil))) pe_int (nomark _))))) (pss_one (ps_ret pe_bl)) pss_nil)
        (pss_cons (ps_if (PW.pt (pw_or (pt_not (pt_val (by exact (pe_call GW hr rfl gW FW.kp (bWhole FW) .nil pass0 (pa_cons (pe_ix ix_tup (pv 1) pe_int (fun _ _ => rfl)) pa_nil))))) (pw_or1 (pt_cmpR op_lt (pe_ix ix_tup (pv 1) pe_int (fun _ _ => rfl)) pe_int (nomark _))))) (pss_one (ps_ret pe_bl)) pss_nil)
        (pss_cons (ps_if (PW.pt (pw_or (pt_not (pt_val (by exact (pe_callB call_isi rfl mi PyProof.Rows.boot_isinstance (pa_cons (pe_ix ix_tup (pv 1) pe_int (fun _ _ => rfl)) (pa_cons (pe_bltn (v := .ty "str") rfl ms (by decide +kernel) rfl) pa_nil)))))) (pw_or1 (pt_not (pt_chain op_le op_le pe_int (by exact (pe_callB call_len rfl ml boot_len (pa_cons (pe_ix ix_tup (pv 1) pe_int (fun _ _ => rfl)) pa_nil))) pe_int))))) (pss_one (ps_ret pe_bl)) pss_nil)
        (pss_one (ps_if (pt_cmpR (op_neD hr.units) (by exact (pe_lc (own := [("_law_letter", 2)]) (g := gName 2) (tt := tTest (tOp (fun x y H Q => ∃ (c : Nat) (z : Str), x = .str ⟨#[c]⟩ ∧ y = .str z ∧ Q (.bl (!decide (c ∈ z.cps.toList))) H) (tVar 2) (tC (.str abc)))) (te := tVar 2) rfl scLf.nd (pi_str (pe_ix ix_tup (pv 1) pe_int (fun _ _ => rfl)))
          (blkOk_by (N := nLf) (sc := defScope (top 24)) (by decide +kernel)) (fun _ _ _ _ _ => pg_name (i := 2) scLf.nd rfl (Or.inl rfl)) (fun _ _ _ _ _ => pts_one (by exact (pt_cmpR op_notIn_sign (by exact (pv 2)) pe_str rfl))) (fun _ _ _ _ _ => by exact (pv 2)))) (pe_lst pa_nil) (nomark _)) (pss_one (ps_ret pe_bl)) pss_nil))))))
      (pss_one (ps_ret (by exact (pe_cmpR (op_eqD hr.units) (by exact (pe_lc (own := [("_law_one_here", 3), ("_law_other", 4)]) (g := gTup K 2 (gCons (gName 3) (gCons (gName 4) gNil))) (tt := tTest (tOp (rGeD K) (tVar 3) (tVar 4))) (te := tC (.int 1)) rfl scLf.nd (RZ.pi_zipA rfl mz (pa_cons (pv 0) (pa_cons (by exact (pe_slice (SlR.or sl_list sl_tupA) (pv 0) (po_some pe_int) po_none)) pa_nil)))
        (blkOk_by (N := nLf) (sc := defScope (top 24)) (by decide +kernel)) (fun _ _ _ _ _ => pg_tup rfl (pgs_cons (pg_name (i := 3) scLf.nd rfl (Or.inl rfl)) (pgs_cons (pg_name (i := 4) scLf.nd rfl (Or.inl rfl)) pgs_nil))) (fun _ _ _ _ _ => pts_one (by exact (pt_cmpR (op_geD hr.units) (by exact (pv 3)) (by exact (pv 4)) (nomark _)))) (fun _ _ _ _ _ => pe_int))) (pe_lst pa_nil) (nomark _))))))), ?_⟩
    obtain ⟨x, d, rfl, h, sh, q⟩ := h
    have c2 : 2 ≤ sizeLine := by
      rw [sizeLine_eq]
      omega
    have c0 : 0 ≤ sizeLine := Nat.zero_le _
    have pr : Paired ClsV [V.ty "list", V.ty "tuple"] [Value.type "list", Value.type "tuple"] := .cons (.ty _) (.cons (.ty _) .nil)
    refine ⟨_, rfl, c2, fun T nT => ?_⟩
    have m1 := Sm.new (o := .tup [.ty "list", .ty "tuple"]) nT
    obtain ⟨t, k⟩ := (h.sm m1).kit (K := K)
    refine ⟨x, T, _, t, _, _, rfl, upd_same, pr, k.ty, k.l, _, rfl, ?_⟩
    generalize upd H T (.tup [.ty "list", .ty "tuple"]) = G at m1 ⊢
    rcases (h.sm m1).seq with ⟨kk, a, xs, ds, rfl, ea, r, rfl, il⟩ | ⟨il, e⟩
    · rw [il]
      obtain ⟨l100, shs⟩ := short2_of sh
      have len := r.len
      rw [fence_of] at q
      have bad : ∀ d ∈ ds, deedD d = false → ∀ G', Sm G G' → Q (.bl false) G' := fun d hd e G' m => by
        have z : ds.all deedD = false := by
          rw [Bool.eq_false_iff]
          intro z
          have := List.all_eq_true.mp z d hd
          rw [e] at this
          cases this
        have q := q G' (Sm.trans m1 m)
        rw [z, Bool.false_and] at q
        exact q
      refine iteF ⟨_, rfl, a, xs, rfl, ?_⟩
      refine for_seq ea (fun i σ G2 => ∃ v1, σ = [some (.ref a), v1, none, none, none] ∧ Sm G G2 ∧ ∀ j d, j < i → ds[j]? = some d → deedD d = true) ⟨none, rfl, Sm.refl G, fun _ _ h => absurd h (Nat.not_lt_zero _)⟩ (fun i σ G2 _ ⟨_, _, m, _⟩ => ea.sm m) (fun i y σ G2 ey p => ?_) (fun σ G2 p => ?_)
      · obtain ⟨v1, rfl, m, al⟩ := p
        obtain ⟨d2, e2, h2⟩ := r.at_ ey
        have hd2 := List.mem_of_getElem? e2
        have h2 := h2.sm m
        have sh2 := shs d2 hd2
        obtain ⟨t2, k2⟩ := h2.kit (K := K)
        have good : deedD d2 = true → ∀ G3, Sm G2 G3 → ∃ v1, [some (V.ref a), some y, none, none, none] = [some (.ref a), v1, none, none, none] ∧ Sm G G3 ∧ ∀ j d, j < i + 1 → ds[j]? = some d → deedD d = true := fun e G3 m3 => by
          refine ⟨_, rfl, Sm.trans m m3, fun j d hj ej => ?_⟩
          by_cases c : j < i
          · exact al j d c ej
          · have c2 : j = i := by omega
            subst c2
            rw [e2] at ej
            rw [← Option.some.inj ej]
            exact e
        refine ⟨_, rfl, y, .ty "tuple", _, _, _, rfl, .ty "tuple", k2.ty, k2.t, _, rfl, ?_⟩
        cases h2 with
        | @tup a2 ys es e3 r2 =>
          have sT : SqT K G2 a2 ys := e3
          refine iteF ⟨_, rfl, _, ys.length, rfl, .inr ⟨_, sT, rfl⟩, rfl, _, rfl, ?_⟩
          cases r2 with
          | nil => exact iteT (bad _ hd2 rfl _ m)
          | @cons v0 vs0 d0 ds0 h0 r0 =>
            cases r0 with
            | nil => exact iteT (bad _ hd2 (by cases d0 <;> rfl) _ m)
            | @cons v1 vs1 d1 ds1 h1 r1 =>
              cases r1 with
              | @cons v2 vs2 d2 ds2 h2 r2 =>
                refine (?_ : if (!decide (V.int (((v0 :: v1 :: v2 :: vs2).length : Nat) : Int) = V.int 2)) = true then _ else _)
                rw [decide_eq_false (fun z => by have := V.int.inj z; simp only [List.length_cons] at this; omega)]
                exact iteT (bad _ hd2 (by cases d0 <;> rfl) _ m)
              | nil =>
                have a0 : atI [v0, v1] (0 : Int) = some v0 := atI_nat (j := 0) rfl
                have a1 : atI [v0, v1] (1 : Int) = some v1 := atI_nat (j := 1) rfl
                refine iteF ?_
                refine ⟨_, rfl, a2, _, _, _, rfl, rfl, sT, a0, v0, d0, rfl, h0, _, rfl, ?_⟩
                cases h0 with
                | int i0 =>
                  refine iteF ⟨_, rfl, a2, _, _, _, rfl, rfl, sT, a0, _, _, rfl, rfl, _, rfl, ?_⟩
                  by_cases c : i0 < 0
                  · rw [decide_eq_true c]
                    refine iteT (bad _ hd2 ?_ _ m)
                    show (decide (0 ≤ i0) && wordD d1) = false
                    rw [decide_eq_false (by omega)]
                    rfl
                  · rw [decide_eq_false c]
                    obtain ⟨t3, k3⟩ := h1.kit (K := K)
                    refine iteF ⟨_, rfl, a2, _, _, _, rfl, rfl, sT, a1, v1, .ty "str", _, _, _, rfl, .ty "str", k3.ty, k3.s, _, rfl, ?_⟩
                    have dz : deedD (.tuple [.int i0, d1]) = wordD d1 := by
                      show (decide (0 ≤ i0) && wordD d1) = _
                      rw [decide_eq_true (by omega), Bool.true_and]
                    rw [dz] at good
                    have bad2 : wordD d1 = false → ∀ G', Sm G G' → Q (.bl false) G' := fun z => bad _ hd2 (dz.trans z)
                    cases h1 with
                    | str z =>
                      have zs : ([PyData.int i0, PyData.str z].all short) = true := sh2
                      simp only [List.all_cons, Bool.and_eq_true] at zs
                      have zs := Bool.and_eq_true_iff.mp zs.2.1
                      have z1 : z.length ≤ 1000 := of_decide_eq_true zs.1
                      have no : ¬ IsWord z → ∀ G', Sm G G' → Q (.bl false) G' := fun e => bad2 (decide_eq_false e)
                      refine iteF ⟨_, rfl, a2, _, _, _, rfl, rfl, sT, a1, .str z, z.length, rfl, ⟨by rw [sizeLine_eq]; omega, rfl⟩, _, _, rfl, rfl, _, rfl, ?_⟩
                      by_cases c1 : (1 : Int) ≤ (z.length : Nat)
                      · rw [decide_eq_true c1]
                        refine iteT ⟨_, _, rfl, rfl, _, rfl, ?_⟩
                        by_cases c8 : ((z.length : Nat) : Int) ≤ 8
                        · rw [decide_eq_true c8]
                          refine iteF ⟨_, rfl, a2, _, _, _, rfl, rfl, sT, a1, z, rfl, ?_⟩
                          refine lc_fil walk_str (is := [2]) (t := fun j => !decide (z.cps.toList.getD j 0 ∈ abc.cps.toList)) (fv := fun j => .str ⟨#[z.cps.toList.getD j 0]⟩) (by show z.length ≤ 1000; exact z1) (fun _ _ => True.intro) (fun j x H2 H3 Q1 Q0 hj s2 yy q1 q0 => ?_) fun D H2 sm nD ed => ?_
                          · obtain ⟨rfl, c3, ec, rfl⟩ := yy
                            have cd : z.cps.toList.getD j 0 = c3 := by
                              rw [List.getD_eq_getElem?_getD, Array.getElem?_toList, ec]
                              rfl
                            rw [cd] at q1 q0
                            refine ⟨rfl, _, rfl, c3, abc, rfl, rfl, _, rfl, ?_⟩
                            cases cc : (!decide (c3 ∈ abc.cps.toList)) with
                            | true => exact iteT ⟨_, rfl, q1 cc _ (Sm.refl _)⟩
                            | false => exact iteF (q0 cc _ (Sm.refl _))
                          · have ws : ((List.range z.cps.size).filter fun j => !decide (z.cps.toList.getD j 0 ∈ abc.cps.toList)).map (fun j => V.str ⟨#[z.cps.toList.getD j 0]⟩) = (((List.range z.cps.size).filter fun j => !decide (z.cps.toList.getD j 0 ∈ abc.cps.toList)).map fun j => (⟨#[z.cps.toList.getD j 0]⟩ : Str)).map V.str := by
                              rw [List.map_map]
                              rfl
                            rw [ws] at ed
                            have shp := shaped_strs (ws := ((List.range z.cps.size).filter fun j => !decide (z.cps.toList.getD j 0 ∈ abc.cps.toList)).map fun j => (⟨#[z.cps.toList.getD j 0]⟩ : Str)) fun u hu => by
                              obtain ⟨j, hj, rfl⟩ := List.mem_map.mp hu
                              have hj := List.mem_range.mp (List.mem_filter.mp hj).1
                              have jl : j < z.cps.toList.length := by rw [Array.length_toList]; exact hj
                              have ok : z.cps.toList.all (· < 0x110000) = true := by
                                have := zs.2
                                unfold PyData.strOk at this
                                rwa [Array.all_toList]
                              have := List.all_eq_true.mp ok _ (List.getElem_mem jl)
                              rw [List.getD_eq_getElem?_getD, List.getElem?_eq_getElem jl]
                              unfold PyData.strOk
                              simpa using this
                            refine ⟨c0, fun l nl => ?_⟩
                            have m4 := Sm.new (o := .lst []) nl
                            refine ⟨_, _, .lst (.inl (.inl (m4 _ _ ed))) (dps_strs _), .lst (.inl (.inl upd_same)) .nil, shaped_of shp.1 shp.2 (by decide), by decide +kernel, _, rfl, ?_⟩
                            rw [eqv_nil, List.isEmpty_map, List.isEmpty_map]
                            rw [filter_none z.cps.size fun j => decide (z.cps.toList.getD j 0 ∈ abc.cps.toList)]
                            have al : ((List.range z.cps.size).map fun j => decide (z.cps.toList.getD j 0 ∈ abc.cps.toList)).all id = decide (IsWord z) := by
                              have e := all_range (fun c => decide (c ∈ abc.cps.toList)) z.cps.toList 0
                              rw [Array.length_toList] at e
                              rw [e, Bool.eq_iff_iff, List.all_eq_true, decide_eq_true_iff]
                              constructor
                              · intro h
                                refine ⟨by omega, by omega, fun c hc => ?_⟩
                                have := h c hc
                                rw [in_abc] at this
                                simpa using this
                              · intro h c hc
                                rw [in_abc]
                                have := h.2.2 c hc
                                simpa using this
                            rw [al]
                            have m5 := Sm.trans sm m4
                            by_cases cw : IsWord z
                            · rw [decide_eq_true cw]
                              exact iteF (good (decide_eq_true cw) _ m5)
                            · rw [decide_eq_false cw]
                              exact iteT (no cw _ (Sm.trans m m5))
                        · rw [decide_eq_false c8]
                          exact iteT (no (fun w => by have := w.2.1; omega) _ m)
                      · rw [decide_eq_false c1]
                        exact iteF ⟨_, rfl, iteT (no (fun w => by have := w.1; omega) _ m)⟩
                    | _ => exact iteT (iteT (bad2 rfl _ m))
                | _ => exact iteT (iteT (bad _ hd2 rfl _ m))
        | _ => exact iteT (iteT (bad _ hd2 rfl _ m))
      · obtain ⟨v1, rfl, m2, al⟩ := p
        have ca : ds.all deedD = true := List.all_eq_true.mpr fun d hd => by
          obtain ⟨j, hj, e⟩ := List.getElem_of_mem hd
          exact al j d (by omega) (by rw [List.getElem?_eq_getElem hj, e])
        rw [ca, Bool.true_and] at q
        have ea2 := ea.sm m2
        refine ⟨_, rfl, _, rfl, _, rfl, seq_cut ea2 fun b G3 m3 eb => ?_⟩
        have r3 := (r.sm m2).sm m3
        have rd := r3.drop
        have ea3 := ea2.sm m3
        refine ⟨a, b, xs, xs.drop 1, rfl, ?_⟩
        refine lc_zipF ea3 eb (is := [3, 4]) (t := fun j => !PySem.W.dataLt (ds.getD j .none) ((ds.drop 1).getD j .none)) (fv := fun _ => .int 1) (by omega) (fun j y H2 H3 Q1 Q0 hj m yy q1 q0 => ?_) fun D2 G4 m4 nD2 ed2 => ?_
        · obtain ⟨T2, x1, x2, rfl, nT2, rfl, ex1, ex2⟩ := yy
          obtain ⟨d1, e1, h1⟩ := r3.at_ ex1
          obtain ⟨d2, e2, h2⟩ := rd.at_ ex2
          have m5 := Sm.new (H := H2) (o := .tup [x1, x2]) nT2
          rw [List.getD_eq_getElem?_getD, List.getD_eq_getElem?_getD, e1, e2] at q1 q0
          have al := deeds_alike (List.all_eq_true.mp ca d1 (List.mem_of_getElem? e1)) (List.all_eq_true.mp ca d2 (List.mem_of_mem_drop (List.mem_of_getElem? e2)))
          refine ⟨T2, _, rfl, .inl (.inl upd_same), rfl, _, _, rfl, _, _, rfl, rfl, rfl, _, rfl, _, rfl, d1, d2, ((h1.sm m).sm m5).dp, ((h2.sm m).sm m5).dp, al.1, al.2.1, al.2.2, _, rfl, ?_⟩
          cases cc : (!PySem.W.dataLt d1 d2) with
          | true => exact iteT (q1 cc _ m5)
          | false => exact iteF (q0 cc _ m5)
        · have shp := shaped_ones ((List.range (min xs.length (xs.drop 1).length)).filter fun j => !PySem.W.dataLt (ds.getD j .none) ((ds.drop 1).getD j .none))
          refine ⟨c0, fun l nl => ?_⟩
          have m5 := Sm.new (o := .lst []) nl
          refine ⟨_, _, .lst (.inl (.inl (m5 _ _ ed2))) (dps_ones _), .lst (.inl (.inl upd_same)) .nil, shaped_of shp.1 shp.2 (by decide), by decide +kernel, ?_⟩
          rw [eqv_nil, List.isEmpty_map, filter_none, rd.len, r3.len, asc_range]
          exact q _ (Sm.trans m1 (Sm.trans m2 (Sm.trans m3 (Sm.trans m4 m5))))
    · rw [il]
      rw [e] at q
      exact iteT (q _ m1)
end
end Pk
set_option Elab.async false
set_option linter.all false
set_option maxRecDepth 100000
set_option maxHeartbeats 4000000
namespace Pk
open PySem PySem.Spec PyProof.Rows L2 Er
/-! ### the five parts of a plan -/
structure Five where
  p0 : V
  p1 : V
  p2 : V
  p3 : V
  p4 : V
  d0 : PyData
  d1 : PyData
  d2 : PyData
  d3 : PyData
  d4 : PyData
def ways : List Str := ["letter", "key", "all"]
def Five.list (F : Five) : List V := [F.p0, F.p1, F.p2, F.p3, F.p4]
/-- the first part that no plan has -/
def Five.wrong (F : Five) : Option V :=
  if oneD ways F.d0 = false then some F.p0 else if countD 3 F.d1 = false then some F.p1 else if spanD F.d2 = false then some F.p2 else if isB F.d3 = false then some F.p3 else if fenceD F.d4 = false then some F.p4 else none
/-- how long a text of it can be -/
def sz : PyData → Nat
  | .list ds => ((PyData.shownAll ds).map (·.length)).sum + 2 * ds.length + 3
  | .tuple ds => ((PyData.shownAll ds).map (·.length)).sum + 2 * ds.length + 3
  | d => d.shown.length
theorem shownAll_len : ∀ ds : List PyData, (PyData.shownAll ds).length = ds.length
  | [] => by simp [PyData.shownAll]
  | d :: ds => by simp [PyData.shownAll, shownAll_len ds]
theorem shown_sz (d : PyData) : d.shown.length ≤ sz d := by
  cases d with
  | list ds =>
    have z := listText_len_le (PyData.shownAll ds)
    rw [shownAll_len] at z
    simp only [PyData.shown]
    exact z
  | tuple ds =>
    have z := tupleText_len_le (PyData.shownAll ds)
    rw [shownAll_len] at z
    simp only [PyData.shown]
    exact z
  | _ => exact Nat.le_refl _
/-- data that can be compared and shown -/
def fit (d : PyData) : Bool := SeqAt.shaped d && (d.showable && (!d.hasDict && (decide (d.depth ≤ 8) && decide (sz d ≤ 300))))
structure Five.Ok (F : Five) (K : PySem.W.Frag) (H : Hp) : Prop where
  t0 : Dt K H F.p0 F.d0
  t1 : Dt K H F.p1 F.d1
  t2 : Dt K H F.p2 F.d2
  t3 : Dt K H F.p3 F.d3
  t4 : Dt K H F.p4 F.d4
  s4 : short2 F.d4 = true
  fi : fit F.d0 = true ∧ fit F.d1 = true ∧ fit F.d2 = true ∧ fit F.d3 = true ∧ fit F.d4 = true
theorem Five.Ok.sm {F : Five} {K : PySem.W.Frag} {H H' : Hp} (o : F.Ok K H) (m : Sm H H') : F.Ok K H' := ⟨o.t0.sm m, o.t1.sm m, o.t2.sm m, o.t3.sm m, o.t4.sm m, o.s4, o.fi⟩
theorem none_sm {H G : Hp} {l : Addr} (m : Sm H G) (n : G l = none) : H l = none := by
  cases e : H l with
  | none => rfl
  | some o =>
    have := m _ _ e
    rw [n] at this
    cases this
/-! ### _law_wrong -/
def spWrong (K : PySem.W.Frag) : Sp := fun vs H Q _ => ∃ (a : Addr) (F : Five), vs = [.ref a] ∧ SqL K H a F.list ∧ F.Ok K H ∧ ∀ q H', Sm H H' → H q = none → H' q = some (.lst F.wrong.toList) → Q (.ref q) H'
abbrev nWrong : List Str := ["_law_parts", "_law_way", "_law_chances", "_law_span", "_law_sealed", "_law_barred"]
theorem scWrong : FnScope nWrong ["_law_parts"] (defScope (top 25)) := ⟨rfl, rfl, rfl, by decide +kernel, rfl, by decide +kernel, by decide +kernel⟩
section
variable {P : Program} {w : World} {K : PySem.W.Frag} {mg : Str → Option Value} {base : Heap} {f fW fL : Addr} {fd dW dL : FuncData}
theorem bLf (F : FnP K "_law_is_fence" (top 24) fL dL) : Binds K dL nWhole [] := F.bindsN fun _ _ _ _ _ _ us hl => match us, hl with
  | [_], _ => rfl
theorem ok_wrong (F : FnP K "_law_wrong" (top 25) f fd) (mi : mg "isinstance" = none) (ms : mg "str" = none) (mb : mg "bool" = none)
    (GW : FnOk P w K mg base CX0 1 fW dW nWhole (spIsInt K)) (FW : FnP K "_law_is_whole" (top 23) fW dW) (gW : mg "_law_is_whole" = some (.ref fW)) (GL : FnOk P w K mg base CX0 2 fL dL nWhole (spFence K)) (FL : FnP K "_law_is_fence" (top 24) fL dL) (gL : mg "_law_is_fence" = some (.ref fL)) :
    FnOk P w K mg base CX0 3 f fd ["_law_parts"] (spWrong K) := by
  refine F.ok (CX := CX0) scWrong (fun vs H Q E h => ?_) (fun cdv A outer s H vs Q E hr h => ?_)
  · obtain ⟨a, F5, rfl, _⟩ := h
    rfl
  · have hr1 := hr.mono (show 1 ≤ 2 by decide)
    refine ⟨_, PSs.nox (pss_cons (ps_asg (pv 0) (pg_lst rfl (pgs_cons (pg_name (i := 1) scWrong.nd rfl (.inl rfl)) (pgs_cons (pg_name (i := 2) scWrong.nd rfl (.inl rfl)) (pgs_cons (pg_name (i := 3) scWrong.nd rfl (.inl rfl)) (pgs_cons (pg_name (i := 4) scWrong.nd rfl (.inl rfl)) (pgs_cons (pg_name (i := 5) scWrong.nd rfl (.inl rfl)) pgs_nil)))))))
      (pss_cons (ps_if (PW.pt (pw_or (pt_not (pt_val (by exact (pe_callB call_isi rfl mi PyProof.Rows.boot_isinstance (pa_cons (pv 1) (pa_cons (pe_bltn (v := .ty "str") rfl ms (by decide +kernel) rfl) pa_nil)))))) (pw_or1 (pt_cmpR op_notIn_seq (pv 1) (pe_tup (pa_cons pe_str (pa_cons pe_str (pa_cons pe_str pa_nil)))) rfl)))) (pss_one (ps_ret (pe_lst (pa_cons (pv 1) pa_nil)))) pss_nil)
      (pss_cons (ps_if (PW.pt (pw_or (pt_not (pt_val (by exact (pe_call GW hr1 rfl gW FW.kp (bWhole FW) .nil pass0 (pa_cons (pv 2) pa_nil))))) (pw_or1 (pt_not (pt_chain op_le op_le pe_int (pv 2) pe_int))))) (pss_one (ps_ret (pe_lst (pa_cons (pv 2) pa_nil)))) pss_nil)
      (pss_cons (ps_if (PW.pt (pw_and (pt_val (by exact (pe_callB call_isi rfl mi PyProof.Rows.boot_isinstance (pa_cons (pv 3) (pa_cons (pe_bltn (v := .ty "str") rfl ms (by decide +kernel) rfl) pa_nil))))) (pw_and1 (pt_cmpR op_ne (pv 3) pe_str (nomark _))))) (pss_one (ps_ret (pe_lst (pa_cons (pv 3) pa_nil)))) pss_nil)
      (pss_cons (ps_if (PW.pt (pw_and (pt_cmpR op_notN (pv 3) pe_non rfl) (pw_and1 (pt_not (pt_val (by exact (pe_callB call_isi rfl mi PyProof.Rows.boot_isinstance (pa_cons (pv 3) (pa_cons (pe_bltn (v := .ty "str") rfl ms (by decide +kernel) rfl) pa_nil)))))))))
          (pss_one (ps_if (PW.pt (pw_or (pt_not (pt_val (by exact (pe_call GW hr1 rfl gW FW.kp (bWhole FW) .nil pass0 (pa_cons (pv 3) pa_nil))))) (pw_or1 (pt_not (pt_chain op_le op_le pe_int (pv 3) pe_int))))) (pss_one (ps_ret (pe_lst (pa_cons (pv 3) pa_nil)))) pss_nil)) pss_nil)
      (pss_cons (ps_if (pt_not (pt_val (by exact (pe_callB call_isi rfl mi PyProof.Rows.boot_isinstance (pa_cons (pv 4) (pa_cons (pe_bltn (v := .ty "bool") rfl mb (by decide +kernel) rfl) pa_nil)))))) (pss_one (ps_ret (pe_lst (pa_cons (pv 4) pa_nil)))) pss_nil)
      (pss_one (ps_ret (pe_ifExp (pt_val (by exact (pe_call GL hr rfl gL FL.kp (bLf FL) .nil pass0 (pa_cons (pv 5) pa_nil)))) (pe_lst pa_nil) (pe_lst (pa_cons (pv 5) pa_nil))))))))))), ?_⟩
    obtain ⟨a, ⟨p0, p1, p2, p3, p4, d0, d1, d2, d3, d4⟩, rfl, ha, ⟨t0, t1, t2, t3, t4, s4, _⟩, q⟩ := h
    have t0 : Dt K H p0 d0 := t0
    have t1 : Dt K H p1 d1 := t1
    have t2 : Dt K H p2 d2 := t2
    have t3 : Dt K H p3 d3 := t3
    have t4 : Dt K H p4 d4 := t4
    have s4 : short2 d4 = true := s4
    have c1 : 1 ≤ sizeLine := by
      rw [sizeLine_eq]
      decide
    have c3 : 3 ≤ sizeLine := by
      rw [sizeLine_eq]
      decide
    have fin : ∀ (p : V) (G : Hp), Sm H G → Five.wrong ⟨p0, p1, p2, p3, p4, d0, d1, d2, d3, d4⟩ = some p → ∀ l, G l = none → Q (.ref l) (upd G l (.lst [p])) := fun p G m e l nl => by
      refine q l _ (m.trans (Sm.new nl)) (none_sm m nl) ?_
      rw [upd_same, e]
      rfl
    refine ⟨_, rfl, a, _, rfl, ha, rfl, _, _, rfl, _, _, rfl, _, _, rfl, _, _, rfl, _, _, rfl, rfl, ?_⟩
    obtain ⟨u0, k0⟩ := t0.kit (K := K)
    refine ⟨_, rfl, p0, .ty "str", _, _, _, rfl, .ty "str", k0.ty, k0.s, _, rfl, ?_⟩
    have out0 : oneD ways d0 = false → ∀ G, Sm H G → ∀ l, G l = none → Q (.ref l) (upd G l (.lst [p0])) := fun e G m => fin p0 G m (by simp [Five.wrong, e])
    cases t0 with
    | str z =>
      refine iteF ⟨_, rfl, c3, fun T nT => ⟨T, _, rfl, .inr (.inl (.inl upd_same)), rfl, flat_strs ways, _, rfl, ?_⟩⟩
      have mT := Sm.new (o := .tup (ways.map V.str)) nT
      have zz : inV (.str z) [V.str "letter", V.str "key", V.str "all"] = decide (z ∈ ways) := in_strs (ws := ways)
      rw [zz, if_pos rfl]
      by_cases cw : z ∈ ways
      · have e0 : oneD ways (.str z) = true := decide_eq_true cw
        rw [decide_eq_true cw]
        refine iteF ?_
        have mT : Sm H (upd H T (.tup [V.str "letter", V.str "key", V.str "all"])) := mT
        generalize upd H T (.tup [V.str "letter", V.str "key", V.str "all"]) = G at mT ⊢
        refine ⟨_, rfl, p1, d1, rfl, t1.sm mT, _, rfl, ?_⟩
        have out1 : countD 3 d1 = false → ∀ l, G l = none → Q (.ref l) (upd G l (.lst [p1])) := fun e => fin p1 G mT (by simp [Five.wrong, e0, e])
        cases t1 with
        | int i1 =>
          refine iteF ⟨_, rfl, _, _, rfl, rfl, _, rfl, ?_⟩
          have cd : countD 3 (.int i1) = (decide (1 ≤ i1) && decide (i1 ≤ 3)) := rfl
          by_cases g1 : (1 : Int) ≤ i1
          · rw [decide_eq_true g1]
            refine iteT ⟨_, _, rfl, rfl, _, rfl, ?_⟩
            by_cases g3 : i1 ≤ 3
            · rw [decide_eq_true g3]
              refine iteF ?_
              have e1 : countD 3 (.int i1) = true := by
                rw [cd, decide_eq_true g1, decide_eq_true g3]
                rfl
              obtain ⟨u2, k2⟩ := (t2.sm mT).kit (K := K)
              refine ⟨_, rfl, p2, .ty "str", _, _, _, rfl, .ty "str", k2.ty, k2.s, _, rfl, ?_⟩
              have out2 : spanD d2 = false → ∀ l, G l = none → Q (.ref l) (upd G l (.lst [p2])) := fun e => fin p2 G mT (by simp [Five.wrong, e0, e1, e])
              cases t2 with
              | non =>
                have e2 : spanD .none = true := rfl
                refine iteF ⟨_, rfl, rfl, _, rfl, iteF ?_⟩
                obtain ⟨u3, k3⟩ := (t3.sm mT).kit (K := K)
                refine ⟨_, rfl, p3, .ty "bool", _, _, _, rfl, .ty "bool", k3.ty, k3.b, _, rfl, ?_⟩
                cases e3 : isB d3 with
                | false => exact iteT ⟨_, rfl, c1, fin p3 _ mT (by simp [Five.wrong, e0, e1, e2, e3])⟩
                | true =>
                  refine iteF ⟨_, rfl, p4, d4, rfl, t4.sm mT, s4, fun G2 m2 => ⟨_, rfl, ?_⟩⟩
                  cases e4 : fenceD d4 with
                  | true =>
                    refine iteT ⟨Nat.zero_le _, fun l nl => q l _ ((Sm.trans mT m2).trans (Sm.new nl)) (none_sm (Sm.trans mT m2) nl) ?_⟩
                    rw [upd_same]
                    simp [Five.wrong, e0, e1, e2, e3, e4]
                  | false => exact iteF ⟨_, rfl, c1, fin p4 _ (Sm.trans mT m2) (by simp [Five.wrong, e0, e1, e2, e3, e4])⟩
              | str y =>
                refine iteT ⟨_, rfl, rfl, _, rfl, ?_⟩
                by_cases ce : y = ("ever" : Str)
                · subst ce
                  have e2 : spanD (.str "ever") = true := by decide
                  refine iteF ⟨_, rfl, rfl, _, rfl, iteT ⟨_, rfl, _, .ty "str", _, _, _, rfl, .ty "str", k2.ty, k2.s, _, rfl, iteF ?_⟩⟩
                  obtain ⟨u3, k3⟩ := (t3.sm mT).kit (K := K)
                  refine ⟨_, rfl, p3, .ty "bool", _, _, _, rfl, .ty "bool", k3.ty, k3.b, _, rfl, ?_⟩
                  cases e3 : isB d3 with
                  | false => exact iteT ⟨_, rfl, c1, fin p3 _ mT (by simp [Five.wrong, e0, e1, e2, e3])⟩
                  | true =>
                    refine iteF ⟨_, rfl, p4, d4, rfl, t4.sm mT, s4, fun G2 m2 => ⟨_, rfl, ?_⟩⟩
                    cases e4 : fenceD d4 with
                    | true =>
                      refine iteT ⟨Nat.zero_le _, fun l nl => q l _ ((Sm.trans mT m2).trans (Sm.new nl)) (none_sm (Sm.trans mT m2) nl) ?_⟩
                      rw [upd_same]
                      simp [Five.wrong, e0, e1, e2, e3, e4]
                    | false => exact iteF ⟨_, rfl, c1, fin p4 _ (Sm.trans mT m2) (by simp [Five.wrong, e0, e1, e2, e3, e4])⟩
                · have e2 : spanD (.str y) = false := by
                    show (false || false || decide (y ∈ [("ever" : Str)])) = false
                    rw [decide_eq_false (fun z => ce (List.mem_singleton.mp z))]
                    rfl
                  rw [decide_eq_false (fun z => ce (V.str.inj z))]
                  exact iteT ⟨_, rfl, c1, out2 e2⟩
              | int i2 =>
                refine iteF ⟨_, rfl, rfl, _, rfl, iteT ⟨_, rfl, _, .ty "str", _, _, _, rfl, .ty "str", k2.ty, k2.s, _, rfl, iteT ⟨_, rfl, _, _, rfl, .int i2, _, rfl, iteF ⟨_, rfl, _, _, rfl, rfl, _, rfl, ?_⟩⟩⟩⟩
                have cd2 : spanD (.int i2) = (decide (1 ≤ i2) && decide (i2 ≤ 12)) := by
                  show (false || (decide (1 ≤ i2) && decide (i2 ≤ 12)) || false) = _
                  simp
                by_cases h1 : (1 : Int) ≤ i2
                · rw [decide_eq_true h1]
                  refine iteT ⟨_, _, rfl, rfl, _, rfl, ?_⟩
                  by_cases h12 : i2 ≤ 12
                  · rw [decide_eq_true h12]
                    have e2 : spanD (.int i2) = true := by
                      rw [cd2, decide_eq_true h1, decide_eq_true h12]
                      rfl
                    refine iteF ?_
                    obtain ⟨u3, k3⟩ := (t3.sm mT).kit (K := K)
                    refine ⟨_, rfl, p3, .ty "bool", _, _, _, rfl, .ty "bool", k3.ty, k3.b, _, rfl, ?_⟩
                    cases e3 : isB d3 with
                    | false => exact iteT ⟨_, rfl, c1, fin p3 _ mT (by simp [Five.wrong, e0, e1, e2, e3])⟩
                    | true =>
                      refine iteF ⟨_, rfl, p4, d4, rfl, t4.sm mT, s4, fun G2 m2 => ⟨_, rfl, ?_⟩⟩
                      cases e4 : fenceD d4 with
                      | true =>
                        refine iteT ⟨Nat.zero_le _, fun l nl => q l _ ((Sm.trans mT m2).trans (Sm.new nl)) (none_sm (Sm.trans mT m2) nl) ?_⟩
                        rw [upd_same]
                        simp [Five.wrong, e0, e1, e2, e3, e4]
                      | false => exact iteF ⟨_, rfl, c1, fin p4 _ (Sm.trans mT m2) (by simp [Five.wrong, e0, e1, e2, e3, e4])⟩
                  · rw [decide_eq_false h12]
                    exact iteT ⟨_, rfl, c1, out2 (by rw [cd2, decide_eq_false h12, Bool.and_false])⟩
                · rw [decide_eq_false h1]
                  exact iteF ⟨_, rfl, iteT ⟨_, rfl, c1, out2 (by rw [cd2, decide_eq_false h1, Bool.false_and])⟩⟩
              | bl b => exact iteF ⟨_, rfl, rfl, _, rfl, iteT ⟨_, rfl, _, .ty "str", _, _, _, rfl, .ty "str", k2.ty, k2.s, _, rfl, iteT ⟨_, rfl, _, _, rfl, .bl b, _, rfl, iteT (iteT ⟨_, rfl, c1, out2 rfl⟩)⟩⟩⟩
              | lst e r => exact iteF ⟨_, rfl, rfl, _, rfl, iteT ⟨_, rfl, _, .ty "str", _, _, _, rfl, .ty "str", k2.ty, k2.s, _, rfl, iteT ⟨_, rfl, _, _, rfl, (Dt.lst e r).sm mT, _, rfl, iteT (iteT ⟨_, rfl, c1, out2 rfl⟩)⟩⟩⟩
              | tup e r => exact iteF ⟨_, rfl, rfl, _, rfl, iteT ⟨_, rfl, _, .ty "str", _, _, _, rfl, .ty "str", k2.ty, k2.s, _, rfl, iteT ⟨_, rfl, _, _, rfl, (Dt.tup e r).sm mT, _, rfl, iteT (iteT ⟨_, rfl, c1, out2 rfl⟩)⟩⟩⟩
            · rw [decide_eq_false g3]
              exact iteT ⟨_, rfl, c1, out1 (by rw [cd, decide_eq_false g3, Bool.and_false])⟩
          · rw [decide_eq_false g1]
            exact iteF ⟨_, rfl, iteT ⟨_, rfl, c1, out1 (by rw [cd, decide_eq_false g1, Bool.false_and])⟩⟩
        | _ => exact iteT (iteT ⟨_, rfl, c1, out1 rfl⟩)
      · rw [decide_eq_false cw]
        exact iteT ⟨_, rfl, c1, out0 (decide_eq_false cw) _ mT⟩
    | _ => exact iteT ⟨_, rfl, c1, out0 rfl _ (Sm.refl H)⟩
end
end Pk
set_option Elab.async false
set_option linter.all false
set_option maxRecDepth 100000
set_option maxHeartbeats 4000000
namespace Pk
open PySem PySem.Spec PyProof.Rows L2 Er
open PySem.ErK (EC)
/-! ### raising an error of the program -/
def inner (s : Stmt) : Stmt := match s with
  | .ClassDef _ _ _ (st :: _) .. => st
  | _ => s
def clsBody (s : Stmt) : List Stmt := match s with
  | .ClassDef _ _ _ b _ _ _ _ _ _ _ => b
  | _ => []
def meth (i : Nat) : Stmt := (clsBody (top 12)).getD i (.Pass ⟨0, 0, 0, 0⟩)
def spErr (K : PySem.W.Frag) : Sp := fun vs H Q _ => ∃ (a C : Addr) (v : V), vs = [.ref a, v] ∧ OexC K C ∧ PySem.W.findIn K (.ref C) "value" = some none ∧ H a = some (exo a C none) ∧
  ∀ dx, H dx = none → dx ≠ a → Q .non (upd (upd H dx (exd dx [("value", v)])) a (exo a C (some dx)))
abbrev nErr : List Str := ["self", "value"]
theorem scErr : FnScope nErr nErr (defScope (inner (top 2))) := ⟨rfl, rfl, rfl, by decide +kernel, rfl, by decide +kernel, by decide +kernel⟩
/-- what the written part says of BadPlan -/
structure Bp (K : PySem.W.Frag) (mg : Str → Option Value) (C fI : Addr) (dI : FuncData) : Prop where
  ec : EC K "BadPlan" "value" C fI
  F : FunD K "__init__" "BadPlan.__init__" (defArgs (inner (top 2))) (defBody (inner (top 2))) (defScope (inner (top 2))) [] [] fI dI
  g : mg "BadPlan" = some (.ref C)
section
variable {P : Program} {w : World} {K : PySem.W.Frag} {mg : Str → Option Value} {base : Heap} {f fI C : Addr} {fd dI : FuncData}
theorem ok_err (F : FunD K "__init__" "BadPlan.__init__" (defArgs (inner (top 2))) (defBody (inner (top 2))) (defScope (inner (top 2))) [] [] f fd) : FnOk P w K mg base CX0 1 f fd nErr (spErr K) := by
  refine F.ok (CX := CX0) scErr (fun vs H Q E h => ?_) (fun cdv A outer s H vs Q E hr h => ?_)
  · obtain ⟨a, C, v, rfl, _⟩ := h
    rfl
  · refine ⟨_, PSs.nox (pss_one (ps_ost (pv 0) (pv 1))), ?_⟩
    obtain ⟨a, C, v, rfl, T, no, ha, q⟩ := h
    exact ⟨_, rfl, _, rfl, a, C, rfl, T, no, .inl ⟨ha, q⟩⟩
theorem bErr (F : FunD K "__init__" "BadPlan.__init__" (defArgs (inner (top 2))) (defBody (inner (top 2))) (defScope (inner (top 2))) [] [] f fd) : Binds K fd nErr [] := F.bindsN fun _ _ _ _ _ _ us hl => match us, hl with
  | [_, _], _ => rfl
theorem upd_del {H : Hp} {a d : Addr} {o u v x : HO} (na : H a = none) (ne : d ≠ a) : upd (del (upd (upd (upd H a o) d u) a v) a) d x = upd H d x := by
  funext b
  by_cases hd : b = d
  · rw [hd, upd_same, upd_same]
  · rw [upd_ne hd, upd_ne hd]
    by_cases ha : b = a
    · rw [ha, del_same, na]
    · rw [del_ne ha, upd_ne ha, upd_ne hd, upd_ne ha]
/-- what raise BadPlan(v) asks -/
theorem mk_reads {v : V} {H1 : Hp} {Q : XK} (T : OexC K C) (no : PySem.W.findIn K (.ref C) "value" = some none) (q : ∀ d, H1 d = none → Q (.ref C) (some d) (upd H1 d (.xd [("value", v)]))) :
    [v].length ≤ 1000 ∧ ∀ a, H1 a = none → spErr K (.ref a :: ([v] ++ [])) (upd H1 a (exo a C none)) (fun u H2 => u = .non ∧ ∃ (d : Addr) (fs : List (Str × V)), H2 a = some (exo a C (some d)) ∧ H2 d = some (exd d fs) ∧ H1 d = none ∧ Q (.ref C) (some d) (upd (del H2 a) d (.xd fs))) (fun _ _ _ => False) := by
  refine ⟨by show 1 ≤ 1000; decide, fun a na => ⟨a, C, v, rfl, T, no, upd_same, fun dx nd ne => ⟨rfl, dx, [("value", v)], upd_same, ?_, ?_, ?_⟩⟩⟩
  · rw [upd_ne ne, upd_same]
  · rw [upd_ne ne] at nd
    exact nd
  · rw [upd_ne ne] at nd
    rw [upd_del na ne]
    exact q dx nd
end
/-! ### Plan.__init__ -/
def flds (F : Five) (ft : Addr) : List (Str × V) := [("_way", F.p0), ("_tries", F.p1), ("_window", F.p2), ("_stamp", F.p3), ("_fence", .ref ft)]
/-- a plan -/
structure PlanAt (K : PySem.W.Frag) (H : Hp) (C x : Addr) (F : Five) (ft : Addr) (fx : List V) (ds : List PyData) : Prop where
  at_ : ∃ dx, H x = some (.ins C dx (flds F ft))
  ft_ : SqT K H ft fx
  fx_ : Dts K H fx ds
  t0 : Dt K H F.p0 F.d0
  t1 : Dt K H F.p1 F.d1
  t2 : Dt K H F.p2 F.d2
  t3 : Dt K H F.p3 F.d3
  s0 : SeqAt.shaped F.d0 = true
  s1 : SeqAt.shaped F.d1 = true
  s2 : SeqAt.shaped F.d2 = true
  s3 : SeqAt.shaped F.d3 = true
  s4 : SeqAt.shaped (.tuple ds) = true
theorem PlanAt.sm {K : PySem.W.Frag} {H H' : Hp} {C x ft : Addr} {F : Five} {fx : List V} {ds : List PyData} (p : PlanAt K H C x F ft fx ds) (m : Sm H H') : PlanAt K H' C x F ft fx ds :=
  ⟨p.at_.elim fun dx e => ⟨dx, m _ _ e⟩, SqT.sm p.ft_ m, p.fx_.sm m, p.t0.sm m, p.t1.sm m, p.t2.sm m, p.t3.sm m, p.s0, p.s1, p.s2, p.s3, p.s4⟩
theorem shaped_tup {d : PyData} {ds : List PyData} (e : d = .tuple ds ∨ d = .list ds) (h : fit d = true) : SeqAt.shaped (.tuple ds) = true := by
  have z := (Bool.and_eq_true_iff.mp h).1
  rcases e with rfl | rfl
  · exact z
  · exact z
theorem Dts.shapes {F : Five} {K : PySem.W.Frag} {H : Hp} (o : F.Ok K H) : SeqAt.shaped F.d0 = true ∧ SeqAt.shaped F.d1 = true ∧ SeqAt.shaped F.d2 = true ∧ SeqAt.shaped F.d3 = true := by
  obtain ⟨f0, f1, f2, f3, _⟩ := o.fi
  exact ⟨(Bool.and_eq_true_iff.mp f0).1, (Bool.and_eq_true_iff.mp f1).1, (Bool.and_eq_true_iff.mp f2).1, (Bool.and_eq_true_iff.mp f3).1⟩
def fdata (F : Five) (ds : List PyData) : Prop := F.d4 = .tuple ds ∨ F.d4 = .list ds
theorem SqT.sx {K : PySem.W.Frag} {H H' : Hp} {x C dx a : Addr} {fs : List (Str × V)} {xs : List V} (hx : H x = some (.ins C dx fs)) (m : Sx x H H') (h : SqT K H a xs) : SqT K H' a xs := by
  rcases h with (h | ⟨o, h⟩) | h
  · exact .inl (.inl (m _ _ (fun z => by rw [z, hx] at h; cases h) h))
  · exact .inl (.inr ⟨o, m _ _ (fun z => by rw [z, hx] at h; cases h) h⟩)
  · exact .inr h
mutual
theorem Dt.sx {K : PySem.W.Frag} {H H' : Hp} {x C dx : Addr} {fs : List (Str × V)} (hx : H x = some (.ins C dx fs)) (m : Sx x H H') : ∀ {v : V} {d : PyData}, Dt K H v d → Dt K H' v d
  | _, _, .non => .non
  | _, _, .bl b => .bl b
  | _, _, .int i => .int i
  | _, _, .str x => .str x
  | _, _, .lst e h => .lst (m _ _ (fun z => by rw [z, hx] at e; cases e) e) (Dts.sx hx m h)
  | _, _, .tup e h => .tup (SqT.sx hx m e) (Dts.sx hx m h)
theorem Dts.sx {K : PySem.W.Frag} {H H' : Hp} {x C dx : Addr} {fs : List (Str × V)} (hx : H x = some (.ins C dx fs)) (m : Sx x H H') : ∀ {vs : List V} {ds : List PyData}, Dts K H vs ds → Dts K H' vs ds
  | _, _, .nil => .nil
  | _, _, .cons h r => .cons (Dt.sx hx m h) (Dts.sx hx m r)
end
def spPlan (K : PySem.W.Frag) (C CB : Addr) : Sp := fun vs H Q E => ∃ (x dx : Addr) (F : Five), vs = [.ref x, F.p0, F.p1, F.p2, F.p3, F.p4] ∧ H x = some (.ins C dx []) ∧ F.Ok K H ∧
  (∀ v, F.wrong = some v → ∀ d H', Sm H H' → H d = none → H' d = some (.xd [("value", v)]) → E (.ref CB) (some d) H') ∧
  (F.wrong = none → ∀ (ft : Addr) (fx : List V) (ds : List PyData) H', Sx x H H' → PlanAt K H' C x F ft fx ds → fdata F ds → Q .non H')
abbrev nInit : List Str := ["self", "way", "tries", "window", "stamp", "fence"]
theorem scInit : FnScope nInit nInit (defScope (meth 0)) := ⟨rfl, rfl, rfl, by decide +kernel, rfl, by decide +kernel, by decide +kernel⟩
/-- what the written part says of Plan and the defs that its __init__ calls -/
structure Calls (K : PySem.W.Frag) (mg : Str → Option Value) (fO fC fW fF : Addr) (dO dC dW dF : FuncData) : Prop where
  FO : FnP K "is_one_of" (top 6) fO dO
  gO : mg "is_one_of" = some (.ref fO)
  FC : FnP K "is_count" (top 13) fC dC
  gC : mg "is_count" = some (.ref fC)
  FW : FnP K "is_window" (top 14) fW dW
  gW : mg "is_window" = some (.ref fW)
  FF : FnP K "are_fenced" (top 15) fF dF
  gF : mg "are_fenced" = some (.ref fF)
section
variable {P : Program} {w : World} {K : PySem.W.Frag} {mg : Str → Option Value} {base : Heap} {f fI C CB aW fO fC fW fF : Addr} {fd dI dO dC dW dF : FuncData} {kws : List (Str × V)}
theorem bWindow (F : FnP K "is_window" (top 14) f fd) : Binds K fd nVal [] := F.bindsN fun _ _ _ _ _ _ us hl => match us, hl with
  | [_], _ => rfl
theorem bFenced (F : FnP K "are_fenced" (top 15) f fd) : Binds K fd nVal [] := F.bindsN fun _ _ _ _ _ _ us hl => match us, hl with
  | [_], _ => rfl
theorem ok_init (F : FunD K "__init__" "Plan.__init__" (defArgs (meth 0)) (defBody (meth 0)) (defScope (meth 0)) [] kws f fd) (B : Bp K mg CB fI dI) (hC : Cls K C) (n1 : NoAttr K C "_way") (n2 : NoAttr K C "_tries") (n3 : NoAttr K C "_window") (n4 : NoAttr K C "_stamp") (n5 : NoAttr K C "_fence")
    (mi : mg "isinstance" = none) (mb : mg "bool" = none) (mt : mg "tuple" = none) (mW : mg "WAYS" = some (.ref aW)) (tW : ∀ H, SqT K H aW (ways.map V.str)) (mM : ∃ t, mg "MOST_TRIES" = some (.int 3 t)) (T : Calls K mg fO fC fW fF dO dC dW dF)
    (GO : FnOk P w K mg base CX0 1 fO dO nOneOf (spOneOf K)) (GC : FnOk P w K mg base CX0 2 fC dC nCount (spCount K)) (GW : FnOk P w K mg base CX0 3 fW dW nVal (spWindow K)) (GF : FnOk P w K mg base CX0 3 fF dF nVal (spFence K)) :
    FnOk P w K mg base (L2.CX P w) 4 f fd nInit (spPlan K C CB) := by
  obtain ⟨tM, mM⟩ := mM
  refine F.ok (CX := L2.CX P w) scInit (fun vs H Q E h => ?_) (fun cdv A outer s H vs Q E hr h => ?_)
  · obtain ⟨x, dx, F5, rfl, _⟩ := h
    rfl
  · have hr1 := hr.mono (show 1 ≤ 3 by decide)
    have hr2 := hr.mono (show 2 ≤ 3 by decide)
    have GE : FnOk P w K mg base CX0 1 fI dI nErr (spErr K) := ok_err B.F
    refine ⟨_, pss_cons (ps_if (pt_not (pt_val (by exact (pe_call GO hr1 rfl T.gO T.FO.kp (bOneOf T.FO) .nil pass0 (pa_cons (pv 1) (pa_cons (pe_glob (v := .ref aW) rfl mW rfl) pa_nil)))))) (pss_one (ps_raise rfl (takes_of rfl rfl rfl rfl) (pmk_oex (e := .Name "way" _) (es := []) B.ec.ox B.ec.iC B.ec.tI GE hr2 (bErr B.F) .nil pass0 rfl B.g (pa_cons (pv 1) pa_nil)))) pss_nil)
      (pss_cons (ps_if (pt_not (pt_val (by exact (pe_call GC hr2 rfl T.gC T.FC.kp (bCount T.FC) .nil pass0 (pa_cons (pv 2) (pa_cons (pe_glob (v := .int 3) rfl mM ⟨_, rfl⟩) pa_nil)))))) (pss_one (ps_raise rfl (takes_of rfl rfl rfl rfl) (pmk_oex B.ec.ox B.ec.iC B.ec.tI GE hr2 (bErr B.F) .nil pass0 rfl B.g (pa_cons (pv 2) pa_nil)))) pss_nil)
      (pss_cons (ps_if (pt_not (pt_val (by exact (pe_call GW hr rfl T.gW T.FW.kp (bWindow T.FW) .nil pass0 (pa_cons (pv 3) pa_nil))))) (pss_one (ps_raise rfl (takes_of rfl rfl rfl rfl) (pmk_oex B.ec.ox B.ec.iC B.ec.tI GE hr2 (bErr B.F) .nil pass0 rfl B.g (pa_cons (pv 3) pa_nil)))) pss_nil)
      (pss_cons (ps_if (pt_not (pt_val (by exact (pe_callB call_isi rfl mi PyProof.Rows.boot_isinstance (pa_cons (pv 4) (pa_cons (pe_bltn (v := .ty "bool") rfl mb (by decide +kernel) rfl) pa_nil)))))) (pss_one (ps_raise rfl (takes_of rfl rfl rfl rfl) (pmk_oex B.ec.ox B.ec.iC B.ec.tI GE hr2 (bErr B.F) .nil pass0 rfl B.g (pa_cons (pv 4) pa_nil)))) pss_nil)
      (pss_cons (ps_if (pt_not (pt_val (by exact (pe_call GF hr rfl T.gF T.FF.kp (bFenced T.FF) .nil pass0 (pa_cons (pv 5) pa_nil))))) (pss_one (ps_raise rfl (takes_of rfl rfl rfl rfl) (pmk_oex B.ec.ox B.ec.iC B.ec.tI GE hr2 (bErr B.F) .nil pass0 rfl B.g (pa_cons (pv 5) pa_nil)))) pss_nil)
      (PSs.nox (pss_cons (ps_fld (pv 0) (pv 1) (by rfl)) (pss_cons (ps_fld (pv 0) (pv 2) (by rfl)) (pss_cons (ps_fld (pv 0) (pv 3) (by rfl)) (pss_cons (ps_fld (pv 0) (pv 4) (by rfl))
      (pss_one (ps_fld (pv 0) (by exact (pe_callTy call_tuple_of rfl mt PyProof.Rows.boot_tuple (pa_cons (pv 5) pa_nil))) (by rfl)))))))))))), ?_⟩
    obtain ⟨x, dx, ⟨p0, p1, p2, p3, p4, d0, d1, d2, d3, d4⟩, rfl, hx, ⟨t0, t1, t2, t3, t4, s4, fi⟩, qE, q⟩ := h
    have t0 : Dt K H p0 d0 := t0
    have t1 : Dt K H p1 d1 := t1
    have t2 : Dt K H p2 d2 := t2
    have t3 : Dt K H p3 d3 := t3
    have t4 : Dt K H p4 d4 := t4
    have s4 : short2 d4 = true := s4
    have out : ∀ (v : V) (G : Hp), Sm H G → Five.wrong ⟨p0, p1, p2, p3, p4, d0, d1, d2, d3, d4⟩ = some v → ∀ d, G d = none → E (.ref CB) (some d) (upd G d (.xd [("value", v)])) := fun v G m e d nd => qE v e d _ (m.trans (Sm.new nd)) (none_sm m nd) upd_same
    refine ⟨_, rfl, p0, d0, aW, ways, rfl, t0, tW H, _, rfl, ?_⟩
    cases e0 : oneD ways d0 with
    | false => exact iteT ⟨_, rfl, mk_reads B.ec.ox B.ec.noN (out p0 _ (Sm.refl H) (by simp [Five.wrong, e0]))⟩
    | true =>
      refine iteF ⟨_, rfl, p1, d1, 3, rfl, t1, _, rfl, ?_⟩
      cases e1 : countD 3 d1 with
      | false => exact iteT ⟨_, rfl, mk_reads B.ec.ox B.ec.noN (out p1 _ (Sm.refl H) (by simp [Five.wrong, e0, e1]))⟩
      | true =>
        refine iteF ⟨_, rfl, p2, d2, rfl, t2, fun G1 m1 => ⟨_, rfl, ?_⟩⟩
        cases e2 : spanD d2 with
        | false => exact iteT ⟨_, rfl, mk_reads B.ec.ox B.ec.noN (out p2 _ m1 (by simp [Five.wrong, e0, e1, e2]))⟩
        | true =>
          obtain ⟨u3, k3⟩ := (t3.sm m1).kit (K := K)
          refine iteF ⟨_, rfl, p3, .ty "bool", _, _, _, rfl, .ty "bool", k3.ty, k3.b, _, rfl, ?_⟩
          cases e3 : isB d3 with
          | false => exact iteT ⟨_, rfl, mk_reads B.ec.ox B.ec.noN (out p3 _ m1 (by simp [Five.wrong, e0, e1, e2, e3]))⟩
          | true =>
            refine iteF ⟨_, rfl, p4, d4, rfl, t4.sm m1, s4, fun G2 m2 => ⟨_, rfl, ?_⟩⟩
            have m := Sm.trans m1 m2
            cases e4 : fenceD d4 with
            | false => exact iteT ⟨_, rfl, mk_reads B.ec.ox B.ec.noN (out p4 _ m (by simp [Five.wrong, e0, e1, e2, e3, e4]))⟩
            | true =>
              have q := q (by simp [Five.wrong, e0, e1, e2, e3, e4])
              have hx2 := m _ _ hx
              rcases t4.seq with ⟨kk, a, xs, ds, rfl, ea, r, rfl, il⟩ | ⟨_, ef⟩
              · have fdt : fdata ⟨p0, p1, p2, p3, .ref a, d0, d1, d2, d3, if kk = true then .tuple ds else .list ds⟩ ds := by
                  cases kk with
                  | true => exact .inl rfl
                  | false => exact .inr rfl
                have shs := Dts.shapes (F := ⟨p0, p1, p2, p3, .ref a, d0, d1, d2, d3, if kk = true then .tuple ds else .list ds⟩) (K := K) (H := H) ⟨t0, t1, t2, t3, t4, s4, fi⟩
                have ax : ∀ {u : HO} {G : Hp}, G a = some u → u ≠ .ins C dx [] → G x = some (.ins C dx []) → a ≠ x := fun {u G} e n ex z => n (by rw [z, ex] at e; exact (Option.some.inj e).symm)
                refine iteF ?_
                refine ⟨_, rfl, _, rfl, x, C, dx, [], rfl, hx2, hC, n1, by show 0 < 1000; decide, ?_⟩
                have s1 : Sx x H (upd G2 x (.ins C dx (putF "_way" p0 []))) := (Sx.of m).trans Sx.upd
                refine ⟨_, rfl, _, rfl, x, C, dx, _, rfl, upd_same, hC, n2, by show 1 < 1000; decide, ?_⟩
                have s1 := s1.trans (Sx.upd (o := .ins C dx (putF "_tries" p1 (putF "_way" p0 []))))
                refine ⟨_, rfl, _, rfl, x, C, dx, _, rfl, upd_same, hC, n3, by show 2 < 1000; decide, ?_⟩
                have s1 := s1.trans (Sx.upd (o := .ins C dx (putF "_window" p2 (putF "_tries" p1 (putF "_way" p0 [])))))
                refine ⟨_, rfl, _, rfl, x, C, dx, _, rfl, upd_same, hC, n4, by show 3 < 1000; decide, ?_⟩
                have s1 := s1.trans (Sx.upd (o := .ins C dx (putF "_stamp" p3 (putF "_window" p2 (putF "_tries" p1 (putF "_way" p0 []))))))
                have xe : ∀ {G : Hp} {o : HO}, upd G x o x = some o := upd_same
                have eax := @xe (upd (upd (upd G2 x (.ins C dx (putF "_way" p0 []))) x (.ins C dx (putF "_tries" p1 (putF "_way" p0 [])))) x (.ins C dx (putF "_window" p2 (putF "_tries" p1 (putF "_way" p0 []))))) (.ins C dx (putF "_stamp" p3 (putF "_window" p2 (putF "_tries" p1 (putF "_way" p0 [])))))
                generalize upd (upd (upd (upd G2 x (.ins C dx (putF "_way" p0 []))) x (.ins C dx (putF "_tries" p1 (putF "_way" p0 [])))) x (.ins C dx (putF "_window" p2 (putF "_tries" p1 (putF "_way" p0 []))))) x (.ins C dx (putF "_stamp" p3 (putF "_window" p2 (putF "_tries" p1 (putF "_way" p0 []))))) = G4 at s1 eax ⊢
                have fin : ∀ (ft : Addr) (G5 : Hp), Sm G4 G5 → SqT K G5 ft xs → ∀ {G6 : Hp}, G6 = upd G5 x (.ins C dx (flds ⟨p0, p1, p2, p3, .ref a, d0, d1, d2, d3, if kk = true then .tuple ds else .list ds⟩ ft)) → Q .non G6 := fun ft G5 m5 ht G6 e6 => by
                  rw [e6]
                  have s6 := (s1.trans (Sx.of m5)).trans (Sx.upd (o := .ins C dx (flds ⟨p0, p1, p2, p3, .ref a, d0, d1, d2, d3, if kk = true then .tuple ds else .list ds⟩ ft)))
                  refine q ft xs ds _ s6 ⟨⟨dx, upd_same⟩, ?_, r.sx hx s6, t0.sx hx s6, t1.sx hx s6, t2.sx hx s6, t3.sx hx s6, shs.1, shs.2.1, shs.2.2.1, shs.2.2.2, shaped_tup fdt fi.2.2.2.2⟩ fdt
                  have x5 := m5 _ _ eax
                  have ne : ∀ {u : HO}, G5 ft = some u → (∀ fs, u ≠ .ins C dx fs) → ft ≠ x := fun {u} e n z => n _ (by rw [z, x5] at e; exact (Option.some.inj e).symm)
                  rcases ht with (ht | ⟨o, ht⟩) | ht
                  · exact .inl (.inl (by rw [upd_ne (ne ht (fun _ z => nomatch z))]; exact ht))
                  · exact .inl (.inr ⟨o, by rw [upd_ne (ne ht (fun _ z => nomatch z))]; exact ht⟩)
                  · exact .inr ht
                cases kk with
                | false =>
                  have ea : H a = some (.lst xs) := ea
                  have ne : a ≠ x := fun z => by
                    rw [z, hx] at ea
                    cases ea
                  refine ⟨_, rfl, a, xs, rfl, .inl ⟨.inl (.inl (s1 _ _ ne ea)), fun ft nf => ⟨_, rfl, x, C, dx, _, rfl, Sm.new nf _ _ eax, hC, n5, by show 4 < 1000; decide, fin ft _ (Sm.new nf) (.inl (.inl upd_same)) rfl⟩⟩⟩
                | true =>
                  have ea4 : SqT K G4 a xs := by
                    rcases ea with (ea | ⟨o, ea⟩) | ea
                    · exact .inl (.inl (s1 _ _ (fun z => by rw [z, hx] at ea; cases ea) ea))
                    · exact .inl (.inr ⟨o, s1 _ _ (fun z => by rw [z, hx] at ea; cases ea) ea⟩)
                    · exact .inr ea
                  exact ⟨_, rfl, a, xs, rfl, .inr ⟨ea4, ⟨_, rfl, x, C, dx, _, rfl, eax, hC, n5, by show 4 < 1000; decide, fin a G4 (Sm.refl _) ea4 rfl⟩⟩⟩
              · rw [e4] at ef
                cases ef
end
end Pk
set_option Elab.async false
set_option linter.all false
set_option maxRecDepth 100000
set_option maxHeartbeats 4000000
namespace Pk
open PySem PySem.Spec PyProof.Rows L2 Er
open PySem.ErK (EC)
/-! ### a plan -/
/-- what is told of ==, of two plans -/
def sameP (F G : Five) (ds es : List PyData) : Bool := PyData.eqv F.d0 G.d0 && (PyData.eqv F.d1 G.d1 && (PyData.eqv F.d2 G.d2 && (PyData.eqv F.d3 G.d3 && PyData.eqv (.tuple ds) (.tuple es))))
/-- what the written part says of Plan -/
structure PlC (K : PySem.W.Frag) (mg : Str → Option Value) (C : Addr) : Prop where
  cl : Cls K C
  ha : PySem.W.findIn K (.ref C) "__class__" = some (some (.builtin "object.__class__"))
  hn : PySem.W.specialIn K (.builtin "object.__class__") "__get__" = some (some (.builtin "getset_descriptor.__get__"))
  htk : PySem.W.takesIn K (.builtin "object.__class__") = some true
  hm : PySem.W.mroIn K C (.type "object") = some true
  kC : PySem.W.kitOne K (.ref C) (.ref C) = some true
  kI : PySem.W.kitOne K (.type "int") (.ref C) = some false
  kS : PySem.W.kitOne K (.type "str") (.ref C) = some false
  nI : PySem.W.notFirst K C (.type "int") = true
  nS : PySem.W.notFirst K C (.type "str") = true
  n1 : NoAttr K C "_way"
  n2 : NoAttr K C "_tries"
  n3 : NoAttr K C "_window"
  n4 : NoAttr K C "_stamp"
  n5 : NoAttr K C "_fence"
  g : mg "Plan" = some (.ref C)
section
variable {X : Cx} {CX : CXT} {n : Nat} {C f : Addr} {fd : FuncData} {ps : List Str} {sp : Sp} {E : XK}
/-- x == y, x an instance of the class at C with its own __eq__ -/
def rEqP (C : Addr) (sp : Sp) (E : XK) : R2 := fun x y H Q => ∃ a dx fs, x = .ref a ∧ H a = some (.ins C dx fs) ∧ ((∃ b dy gs, y = .ref b ∧ H b = some (.ins C dy gs)) ∨ (∃ i, y = .int i) ∨ ∃ z, y = .str z) ∧ sp [x, y] H Q E
theorem op_eqP (F : FnOk X.prog X.w X.K X.mg X.base CX n f fd ps sp) (hs : PySem.W.findIn X.K (.ref C) "__eq__" = some (some (.ref f))) (hf : PySem.W.isFn X.K (.ref f) = true) (hb : Binds X.K fd ps []) (hr : Room n X.A) (hx : Passes CX X E)
    (nI : PySem.W.notFirst X.K C (.type "int") = true) (nS : PySem.W.notFirst X.K C (.type "str") = true) : OpR X (compareOp .Eq) (rEqP C sp E) := by
  intro pins s σ H x y v u Q I rx ry h
  obtain ⟨a, dx, fs, rfl, ha, hy, q⟩ := h
  cases (show v = Value.ref a from rx)
  obtain ⟨mA, J, _⟩ := ins_get I.hok ha
  obtain ⟨od, J, _⟩ := J.look
  obtain ⟨m, hF⟩ := I.fr
  have ty : ∃ t, PySem.W.Looks (model X.prog X.w) s.heap (typeOf u) t ∧ PySem.W.notFirst X.K C t = true := by
    rcases hy with ⟨b, dy, gs, rfl, hb'⟩ | ⟨i, rfl⟩ | ⟨z, rfl⟩
    · cases (show u = Value.ref b from ry)
      obtain ⟨mB, J', _⟩ := ins_get I.hok hb'
      obtain ⟨od', J', _⟩ := J'.look
      exact ⟨_, J'.type, by simp [PySem.W.notFirst]⟩
    · obtain ⟨t, e⟩ := (show ∃ t, u = Value.int i t from ry)
      subst e
      exact ⟨_, PySem.W.Looks.of_pure rfl, nI⟩
    · obtain ⟨t, e⟩ := (show ∃ t, u = Value.str z t from ry)
      subst e
      exact ⟨_, PySem.W.Looks.of_pure rfl, nS⟩
  obtain ⟨t, lk, nf⟩ := ty
  show wpAny (model X.prog X.w) X.A (richCompare .Eq _ u) (EP X pins σ Q) X.xe s
  refine PySem.W.cmp_K (op := .Eq) hr.units0 hF I.ok.mod.kin J lk nf hs hf ?_
  refine wpAny_mono (run_fn (us := [.ref a, u]) (vs := [.ref a, y]) F hr hb .nil hx I (.cons rfl (.cons ry .nil)) q) (fun w s' z => ?_) fun _ _ x => x
  obtain ⟨z', H', I', rz, qz⟩ := z
  exact SlX.cmpback rz ⟨z', H', I', rz, qz⟩
end
/-! ### Plan.__eq__, its properties -/
def spEqP (K : PySem.W.Frag) (C : Addr) : Sp := fun vs H Q _ => ∃ (x : Addr) (y : V) (F : Five) (ft : Addr) (fx : List V) (ds : List PyData), vs = [.ref x, y] ∧ PlanAt K H C x F ft fx ds ∧
  ((∃ (z : Addr) (G : Five) (gt : Addr) (gx : List V) (es : List PyData), y = .ref z ∧ PlanAt K H C z G gt gx es ∧ Q (.bl (sameP F G ds es)) H) ∨ ((∃ i, y = .int i) ∨ ∃ z, y = .str z) ∧ Q (.bl false) H)
abbrev nEq : List Str := ["self", "other"]
theorem scEq : FnScope nEq nEq (defScope (meth 6)) := ⟨rfl, rfl, rfl, by decide +kernel, rfl, by decide +kernel, by decide +kernel⟩
abbrev nSelf : List Str := ["self"]
theorem scGet1 : FnScope nSelf nSelf (defScope (meth 1)) := ⟨rfl, rfl, rfl, by decide +kernel, rfl, by decide +kernel, by decide +kernel⟩
theorem scGet2 : FnScope nSelf nSelf (defScope (meth 2)) := ⟨rfl, rfl, rfl, by decide +kernel, rfl, by decide +kernel, by decide +kernel⟩
theorem scGet3 : FnScope nSelf nSelf (defScope (meth 3)) := ⟨rfl, rfl, rfl, by decide +kernel, rfl, by decide +kernel, by decide +kernel⟩
theorem scGet4 : FnScope nSelf nSelf (defScope (meth 4)) := ⟨rfl, rfl, rfl, by decide +kernel, rfl, by decide +kernel, by decide +kernel⟩
theorem scGet5 : FnScope nSelf nSelf (defScope (meth 5)) := ⟨rfl, rfl, rfl, by decide +kernel, rfl, by decide +kernel, by decide +kernel⟩
section
variable {P : Program} {w : World} {K : PySem.W.Frag} {mg : Str → Option Value} {base : Heap} {f C : Addr} {fd : FuncData}
theorem ok_eq (F : FunD K "__eq__" "Plan.__eq__" (defArgs (meth 6)) (defBody (meth 6)) (defScope (meth 6)) [] [] f fd) (mi : mg "isinstance" = none) (T : PlC K mg C) : FnOk P w K mg base CX0 1 f fd nEq (spEqP K C) := by
  refine F.ok (CX := CX0) scEq (fun vs H Q E h => ?_) (fun cdv A outer s H vs Q E hr h => ?_)
  · obtain ⟨x, y, F5, ft, fx, ds, rfl, _⟩ := h
    rfl
  · refine ⟨_, PSs.nox (pss_cons (ps_if (pt_not (pt_val (by exact (pe_callB call_isi rfl mi PyProof.Rows.boot_isinstance (pa_cons (pv 1) (pa_cons (pe_glob (v := .ref C) rfl T.g rfl) pa_nil)))))) (pss_one (ps_ret pe_bl)) pss_nil)
      (pss_cons (ps_if (PW.pt (pw_or (pt_cmpR (op_neD hr.units) (pe_fld (pv 0) rfl) (pe_fld (pv 1) rfl) (nomark _)) (pw_or1 (pt_cmpR (op_neD hr.units) (pe_fld (pv 0) rfl) (pe_fld (pv 1) rfl) (nomark _))))) (pss_one (ps_ret pe_bl)) pss_nil)
      (pss_cons (ps_if (PW.pt (pw_or (pt_cmpR (op_neD hr.units) (pe_fld (pv 0) rfl) (pe_fld (pv 1) rfl) (nomark _)) (pw_or1 (pt_cmpR (op_neD hr.units) (pe_fld (pv 0) rfl) (pe_fld (pv 1) rfl) (nomark _))))) (pss_one (ps_ret pe_bl)) pss_nil)
      (pss_one (ps_ret (by exact (pe_cmpR (op_eqD hr.units) (pe_fld (pv 0) rfl) (pe_fld (pv 1) rfl) (nomark _)))))))), ?_⟩
    obtain ⟨x, y, F5, ft, fx, ds, rfl, p, h⟩ := h
    rcases h with ⟨z, G5, gt, gx, es, rfl, p2, q⟩ | ⟨h, q⟩
    · obtain ⟨dx, hx⟩ := p.at_
      obtain ⟨dz, hz⟩ := p2.at_
      refine ⟨_, rfl, _, .ref C, _, _, true, rfl, .own C, .base (.ins hz T.cl T.ha T.hn T.htk T.hm), T.kC, _, rfl, ?_⟩
      refine iteF ⟨_, rfl, x, C, dx, _, _, rfl, hx, T.cl, T.n1, rfl, _, rfl, z, C, dz, _, _, rfl, hz, T.cl, T.n1, rfl, F5.d0, G5.d0, p.t0.dp, p2.t0.dp, p.s0, p2.s0, _, rfl, ?_⟩
      unfold sameP at q
      cases e0 : PyData.eqv F5.d0 G5.d0 with
      | false =>
        rw [e0, Bool.false_and] at q
        exact iteT q
      | true =>
        rw [e0, Bool.true_and] at q
        refine iteF ⟨_, rfl, x, C, dx, _, _, rfl, hx, T.cl, T.n2, rfl, _, rfl, z, C, dz, _, _, rfl, hz, T.cl, T.n2, rfl, F5.d1, G5.d1, p.t1.dp, p2.t1.dp, p.s1, p2.s1, _, rfl, ?_⟩
        cases e1 : PyData.eqv F5.d1 G5.d1 with
        | false =>
          rw [e1, Bool.false_and] at q
          exact iteT q
        | true =>
          rw [e1, Bool.true_and] at q
          refine iteF ⟨_, rfl, x, C, dx, _, _, rfl, hx, T.cl, T.n3, rfl, _, rfl, z, C, dz, _, _, rfl, hz, T.cl, T.n3, rfl, F5.d2, G5.d2, p.t2.dp, p2.t2.dp, p.s2, p2.s2, _, rfl, ?_⟩
          cases e2 : PyData.eqv F5.d2 G5.d2 with
          | false =>
            rw [e2, Bool.false_and] at q
            exact iteT q
          | true =>
            rw [e2, Bool.true_and] at q
            refine iteF ⟨_, rfl, x, C, dx, _, _, rfl, hx, T.cl, T.n4, rfl, _, rfl, z, C, dz, _, _, rfl, hz, T.cl, T.n4, rfl, F5.d3, G5.d3, p.t3.dp, p2.t3.dp, p.s3, p2.s3, _, rfl, ?_⟩
            cases e3 : PyData.eqv F5.d3 G5.d3 with
            | false =>
              rw [e3, Bool.false_and] at q
              exact iteT q
            | true =>
              rw [e3, Bool.true_and] at q
              exact iteF ⟨_, rfl, x, C, dx, _, _, rfl, hx, T.cl, T.n5, rfl, _, rfl, z, C, dz, _, _, rfl, hz, T.cl, T.n5, rfl, .tuple ds, .tuple es, .tup p.ft_ p.fx_.dp, .tup p2.ft_ p2.fx_.dp, p.s4, p2.s4, q⟩
    · rcases h with ⟨i, rfl⟩ | ⟨z, rfl⟩
      · exact ⟨_, rfl, _, .ref C, _, _, false, rfl, .own C, .base (.int i), T.kI, _, rfl, iteT q⟩
      · exact ⟨_, rfl, _, .ref C, _, _, false, rfl, .own C, .base (.str z), T.kS, _, rfl, iteT q⟩
theorem ok_get1 (F : FunD K "way" "Plan.way" (defArgs (meth 1)) (defBody (meth 1)) (defScope (meth 1)) [] [] f fd) (T : PlC K mg C) : FnOk P w K mg base CX0 1 f fd nSelf (getSp C "_way") := by
  refine F.ok (CX := CX0) scGet1 (fun vs H Q E h => ?_) (fun cdv A outer s H vs Q E hr h => ?_)
  · obtain ⟨a, dx, fs, v, rfl, _⟩ := h
    rfl
  · refine ⟨_, PSs.nox (pss_one (ps_ret (by exact (pe_fld (pv 0) rfl)))), ?_⟩
    obtain ⟨a, dx, fs, v, rfl, ea, l, q⟩ := h
    exact ⟨_, rfl, a, C, dx, fs, v, rfl, ea, T.cl, T.n1, l, q⟩
theorem ok_get2 (F : FunD K "tries" "Plan.tries" (defArgs (meth 2)) (defBody (meth 2)) (defScope (meth 2)) [] [] f fd) (T : PlC K mg C) : FnOk P w K mg base CX0 1 f fd nSelf (getSp C "_tries") := by
  refine F.ok (CX := CX0) scGet2 (fun vs H Q E h => ?_) (fun cdv A outer s H vs Q E hr h => ?_)
  · obtain ⟨a, dx, fs, v, rfl, _⟩ := h
    rfl
  · refine ⟨_, PSs.nox (pss_one (ps_ret (by exact (pe_fld (pv 0) rfl)))), ?_⟩
    obtain ⟨a, dx, fs, v, rfl, ea, l, q⟩ := h
    exact ⟨_, rfl, a, C, dx, fs, v, rfl, ea, T.cl, T.n2, l, q⟩
theorem ok_get3 (F : FunD K "window" "Plan.window" (defArgs (meth 3)) (defBody (meth 3)) (defScope (meth 3)) [] [] f fd) (T : PlC K mg C) : FnOk P w K mg base CX0 1 f fd nSelf (getSp C "_window") := by
  refine F.ok (CX := CX0) scGet3 (fun vs H Q E h => ?_) (fun cdv A outer s H vs Q E hr h => ?_)
  · obtain ⟨a, dx, fs, v, rfl, _⟩ := h
    rfl
  · refine ⟨_, PSs.nox (pss_one (ps_ret (by exact (pe_fld (pv 0) rfl)))), ?_⟩
    obtain ⟨a, dx, fs, v, rfl, ea, l, q⟩ := h
    exact ⟨_, rfl, a, C, dx, fs, v, rfl, ea, T.cl, T.n3, l, q⟩
theorem ok_get4 (F : FunD K "stamp" "Plan.stamp" (defArgs (meth 4)) (defBody (meth 4)) (defScope (meth 4)) [] [] f fd) (T : PlC K mg C) : FnOk P w K mg base CX0 1 f fd nSelf (getSp C "_stamp") := by
  refine F.ok (CX := CX0) scGet4 (fun vs H Q E h => ?_) (fun cdv A outer s H vs Q E hr h => ?_)
  · obtain ⟨a, dx, fs, v, rfl, _⟩ := h
    rfl
  · refine ⟨_, PSs.nox (pss_one (ps_ret (by exact (pe_fld (pv 0) rfl)))), ?_⟩
    obtain ⟨a, dx, fs, v, rfl, ea, l, q⟩ := h
    exact ⟨_, rfl, a, C, dx, fs, v, rfl, ea, T.cl, T.n4, l, q⟩
theorem ok_get5 (F : FunD K "fence" "Plan.fence" (defArgs (meth 5)) (defBody (meth 5)) (defScope (meth 5)) [] [] f fd) (T : PlC K mg C) : FnOk P w K mg base CX0 1 f fd nSelf (getSp C "_fence") := by
  refine F.ok (CX := CX0) scGet5 (fun vs H Q E h => ?_) (fun cdv A outer s H vs Q E hr h => ?_)
  · obtain ⟨a, dx, fs, v, rfl, _⟩ := h
    rfl
  · refine ⟨_, PSs.nox (pss_one (ps_ret (by exact (pe_fld (pv 0) rfl)))), ?_⟩
    obtain ⟨a, dx, fs, v, rfl, ea, l, q⟩ := h
    exact ⟨_, rfl, a, C, dx, fs, v, rfl, ea, T.cl, T.n5, l, q⟩
end
/-! ### _law_plan_of -/
def spOf (K : PySem.W.Frag) (C CB : Addr) : Sp := fun vs H Q E => ∃ (a : Addr) (F : Five), vs = [.ref a] ∧ SqL K H a F.list ∧ F.Ok K H ∧
  (∀ v, F.wrong = some v → ∀ d H', Sm H H' → H d = none → H' d = some (.xd [("value", v)]) → E (.ref CB) (some d) H') ∧
  (F.wrong = none → ∀ (x ft : Addr) (fx : List V) (ds : List PyData) H', Sm H H' → H x = none → PlanAt K H' C x F ft fx ds → fdata F ds → Q (.ref x) H')
abbrev nOf : List Str := ["_law_parts", "_law_way", "_law_chances", "_law_span", "_law_sealed", "_law_barred"]
theorem scOf : FnScope nOf ["_law_parts"] (defScope (top 27)) := ⟨rfl, rfl, rfl, by decide +kernel, rfl, by decide +kernel, by decide +kernel⟩
theorem passW {X : Cx} {E : XK} (tk : Takes X (fun cls d _ H => E cls d H)) : Passes (L2.CX X.prog X.w) X E := fun _ _ _ _ e s' I c => tk e s' (XE.of_call I (fun _ _ _ h => h) c)
section
variable {P : Program} {w : World} {K : PySem.W.Frag} {mg : Str → Option Value} {base : Heap} {f fP C CB : Addr} {fd dP : FuncData} {kws : List (Str × V)}
theorem kb (F : FunD K "__init__" "Plan.__init__" (defArgs (meth 0)) (defBody (meth 0)) (defScope (meth 0)) [] kws fP dP) (hk : kws ≠ []) : KBn K dP nInit 2 ["tries", "window", "stamp", "fence"] (fun us ws => us ++ ws) (fun vs zs => vs ++ zs) := by
  obtain ⟨mv, h⟩ := F.kbinds0 (ps := nInit) 2 ["tries", "window", "stamp", "fence"] [] (fun us _ ws => us ++ ws) hk (fun q h => nomatch h) (fun r1 _ r3 => r1.append r3) (fun D doc pm an cdv ct us mv ws l1 l2 l3 => match us, mv, ws, l1, l2, l3 with
    | [_, _], [], [_, _, _, _], _, _, _ => rfl)
  exact h
theorem ok_of (F : FnP K "_law_plan_of" (top 27) f fd) (FP : FunD K "__init__" "Plan.__init__" (defArgs (meth 0)) (defBody (meth 0)) (defScope (meth 0)) [] kws fP dP) (hk : kws ≠ []) (M : Mk K C fP) (gP : mg "Plan" = some (.ref C))
    (GP : FnOk P w K mg base (L2.CX P w) 4 fP dP nInit (spPlan K C CB)) : FnOk P w K mg base (L2.CX P w) 6 f fd ["_law_parts"] (spOf K C CB) := by
  refine F.ok (CX := L2.CX P w) scOf (fun vs H Q E h => ?_) (fun cdv A outer s H vs Q E hr h => ?_)
  · obtain ⟨a, F5, rfl, _⟩ := h
    rfl
  · refine ⟨_, pss_cons (ps_asg (pv 0) (pg_lst rfl (pgs_cons (pg_name (i := 1) scOf.nd rfl (.inl rfl)) (pgs_cons (pg_name (i := 2) scOf.nd rfl (.inl rfl)) (pgs_cons (pg_name (i := 3) scOf.nd rfl (.inl rfl)) (pgs_cons (pg_name (i := 4) scOf.nd rfl (.inl rfl)) (pgs_cons (pg_name (i := 5) scOf.nd rfl (.inl rfl)) pgs_nil)))))))
      (pss_one (ps_ret (by exact (pe_makeK (n := 1) M GP hr rfl gP (kb FP hk) (passW (takes_of rfl rfl rfl rfl)) (pa_cons (pv 1) pa_nil) (pk_cons (pv 2) (pk_cons (pv 3) (pk_cons (pv 4) (pk_cons (pv 5) pk_nil)))))))), ?_⟩
    obtain ⟨a, F5, rfl, ha, o, qE, q⟩ := h
    refine ⟨_, rfl, a, _, rfl, ha, rfl, _, _, rfl, _, _, rfl, _, _, rfl, _, _, rfl, _, _, rfl, rfl, ?_⟩
    refine ⟨_, rfl, _, rfl, _, rfl, _, rfl, _, rfl, rfl, rfl, fun x dx nx ndx ne => ?_⟩
    have m1 : Sm H (upd (upd H dx (.own x)) x (.ins C dx [])) := (Sm.new ndx).trans (Sm.new (by rw [upd_ne (Ne.symm ne)]; exact nx))
    refine ⟨x, dx, F5, rfl, upd_same, o.sm m1, fun v e d H' m2 nd hd => qE v e d H' (m1.trans m2) (none_sm m1 nd) hd, fun e ft fx ds H' s2 pl fd => ⟨rfl, ?_⟩⟩
    exact q e x ft fx ds H' (fun b u eb => s2 b u (fun z => by rw [z, nx] at eb; cases eb) (m1 b u eb)) nx pl fd
end
end Pk
set_option Elab.async false
set_option linter.all false
set_option maxRecDepth 100000
set_option maxHeartbeats 8000000
namespace Pk
open PySem PySem.Spec PyProof.Rows L2 Er
/-! ### _law_drawn_parts -/
/-- a value that may stand as a part of a plan; the pen is no part of it -/
def good (d : PyData) : Bool := fit d && short2 d
def Prt (K : PySem.W.Frag) (H : Hp) (pn : Addr) (v : V) : Prop := ∃ d, Dt K (del H pn) v d ∧ good d = true
theorem sm_del {pn : Addr} {H H' : Hp} (s : Sx pn H H') : Sm (del H pn) (del H' pn) := fun b o e => by
  by_cases z : b = pn
  · rw [z, del_same] at e
    cases e
  · rw [del_ne z] at e ⊢
    exact s b o z e
theorem del_sm {pn : Addr} {H : Hp} : Sm (del H pn) H := fun b o e => by
  by_cases z : b = pn
  · rw [z, del_same] at e
    cases e
  · rw [del_ne z] at e
    exact e
theorem Prt.sx {K : PySem.W.Frag} {H H' : Hp} {pn : Addr} {v : V} (p : Prt K H pn v) (s : Sx pn H H') : Prt K H' pn v := by
  obtain ⟨d, h, g⟩ := p
  exact ⟨d, h.sm (sm_del s), g⟩
theorem Prt.non {K : PySem.W.Frag} {H : Hp} {pn : Addr} : Prt K H pn .non := ⟨_, .non, by decide +kernel⟩
theorem Prt.bl {K : PySem.W.Frag} {H : Hp} {pn : Addr} {b : Bool} : Prt K H pn (.bl b) := ⟨_, .bl b, by cases b <;> decide +kernel⟩
theorem Prt.int {K : PySem.W.Frag} {H : Hp} {pn : Addr} (i : Int) (h : good (.int i) = true) : Prt K H pn (.int i) := ⟨_, .int i, h⟩
theorem Prt.str {K : PySem.W.Frag} {H : Hp} {pn : Addr} (z : Str) (h : good (.str z) = true) : Prt K H pn (.str z) := ⟨_, .str z, h⟩
theorem Prt.tup {K : PySem.W.Frag} {H : Hp} {pn a : Addr} {xs : List V} {ds : List PyData} (e : H a = some (.tup xs)) (ne : a ≠ pn) (r : Dts K (del H pn) xs ds) (h : good (.tuple ds) = true) : Prt K H pn (.ref a) := ⟨_, .tup (.inl (.inl (by rw [del_ne ne]; exact e))) r, h⟩
theorem Prt.lst {K : PySem.W.Frag} {H : Hp} {pn a : Addr} {xs : List V} {ds : List PyData} (e : H a = some (.lst xs)) (ne : a ≠ pn) (r : Dts K (del H pn) xs ds) (h : good (.list ds) = true) : Prt K H pn (.ref a) := ⟨_, .lst (by rw [del_ne ne]; exact e) r, h⟩
theorem all_rep {p : V → Prop} {xs : List V} {k : Nat} (h : ∀ x ∈ xs, p x) : ∀ x ∈ (List.replicate k xs).flatten, p x := fun x hx => by
  obtain ⟨l, hl, hx⟩ := List.mem_flatten.mp hx
  rw [(List.mem_replicate.mp hl).2] at hx
  exact h x hx
theorem all_app {p : V → Prop} {xs ys : List V} (h : ∀ x ∈ xs, p x) (h2 : ∀ x ∈ ys, p x) : ∀ x ∈ xs ++ ys, p x := fun x hx => by
  rcases List.mem_append.mp hx with e | e
  · exact h x e
  · exact h2 x e
theorem all_nil {p : V → Prop} : ∀ x ∈ ([] : List V), p x := fun x hx => nomatch hx
theorem all_cons {p : V → Prop} {y : V} {ys : List V} (h : p y) (r : ∀ x ∈ ys, p x) : ∀ x ∈ y :: ys, p x := fun x hx => by
  rcases List.mem_cons.mp hx with e | e
  · rw [e]
    exact h
  · exact r x e
theorem pen_ne {H : Hp} {pn cl a : Addr} {n : Nat} (h : Pen H pn cl n) (na : H a = none) : a ≠ pn := fun z => by
  obtain ⟨xs, e⟩ := h.at_
  rw [z, e] at na
  cases na
/-- a small thing within a fence -/
def item (d : PyData) : Bool := d.canLay0 && (d.showable && (!d.hasDict && (decide (d.depth ≤ 2) && (decide (d.shown.length ≤ 32) && short1 d))))
theorem items_all : ∀ {ds : List PyData}, (∀ d ∈ ds, item d = true) → PyData.canLayAll0 ds = true ∧ PyData.showableAll ds = true ∧ PyData.hasDictAll ds = false ∧ PyData.depthAll ds ≤ 2 ∧ ((PyData.shownAll ds).map (·.length)).sum ≤ 32 * ds.length ∧ (PyData.shownAll ds).length = ds.length ∧ ds.all short1 = true
  | [], _ => by simp [PyData.canLayAll0, PyData.showableAll, PyData.hasDictAll, PyData.depthAll, PyData.shownAll]
  | d :: ds, h => by
    have h1 := h d List.mem_cons_self
    obtain ⟨i1, i2, i3, i4, i5, i6, i7⟩ := items_all (ds := ds) fun x hx => h x (List.mem_cons_of_mem _ hx)
    unfold item at h1
    simp only [Bool.and_eq_true, Bool.not_eq_true', decide_eq_true_eq] at h1
    obtain ⟨a1, a2, a3, a4, a5, a6⟩ := h1
    refine ⟨by simp [PyData.canLayAll0, a1, i1], by simp [PyData.showableAll, a2, i2], by simp [PyData.hasDictAll, a3, i3], by simp only [PyData.depthAll]; omega, ?_, by simp [PyData.shownAll, i6], by simp [a6, i7]⟩
    simp only [PyData.shownAll, List.map_cons, List.sum_cons, List.length_cons]
    omega
theorem good_list {ds : List PyData} (h : ∀ d ∈ ds, item d = true) (l : ds.length ≤ 8) : good (.list ds) = true ∧ good (.tuple ds) = true := by
  obtain ⟨i1, i2, i3, i4, i5, i6, i7⟩ := items_all h
  have sh : short2 (.list ds) = true := by
    show (decide (ds.length ≤ 100) && ds.all short1) = true
    rw [i7, decide_eq_true (by omega)]
    rfl
  have d1 : (PyData.list ds).depth ≤ 8 := by
    simp only [PyData.depth]
    omega
  have d2 : (PyData.tuple ds).depth ≤ 8 := by
    simp only [PyData.depth]
    omega
  have l1 : sz (.list ds) ≤ 300 := by
    show ((PyData.shownAll ds).map (·.length)).sum + 2 * ds.length + 3 ≤ 300
    omega
  have l2 : sz (.tuple ds) ≤ 300 := l1
  have p1 : SeqAt.shaped (.list ds) = true := shaped_of i1 i4 (by decide)
  have p2 : SeqAt.shaped (.tuple ds) = true := p1
  constructor
  · unfold good fit
    rw [p1, sh, decide_eq_true d1, decide_eq_true l1, show (PyData.list ds).showable = true from by simpa [PyData.showable] using i2, show (PyData.list ds).hasDict = false from by simpa [PyData.hasDict] using i3]
    rfl
  · unfold good fit
    rw [p2, show short2 (.tuple ds) = true from sh, decide_eq_true d2, decide_eq_true l2, show (PyData.tuple ds).showable = true from by simpa [PyData.showable] using i2, show (PyData.tuple ds).hasDict = false from by simpa [PyData.hasDict] using i3]
    rfl
/-- things of a fence, the pen apart -/
def Itm (K : PySem.W.Frag) (H : Hp) (pn : Addr) (v : V) : Prop := ∃ d, Dt K (del H pn) v d ∧ item d = true
theorem Itm.sx {K : PySem.W.Frag} {H H' : Hp} {pn : Addr} {v : V} (p : Itm K H pn v) (s : Sx pn H H') : Itm K H' pn v := by
  obtain ⟨d, h, g⟩ := p
  exact ⟨d, h.sm (sm_del s), g⟩
theorem itms {K : PySem.W.Frag} {H : Hp} {pn : Addr} : ∀ {xs : List V}, (∀ x ∈ xs, Itm K H pn x) → ∃ ds, Dts K (del H pn) xs ds ∧ ∀ d ∈ ds, item d = true
  | [], _ => ⟨[], .nil, fun d hd => nomatch hd⟩
  | x :: xs, h => by
    obtain ⟨d, hd, g⟩ := h x List.mem_cons_self
    obtain ⟨ds, hs, gs⟩ := itms (xs := xs) fun y hy => h y (List.mem_cons_of_mem _ hy)
    refine ⟨d :: ds, .cons hd hs, fun e he => ?_⟩
    rcases List.mem_cons.mp he with z | z
    · rw [z]
      exact g
    · exact gs e z
/-- a list or tuple of such -/
theorem Prt.tups {K : PySem.W.Frag} {H : Hp} {pn a : Addr} {xs : List V} (e : H a = some (.tup xs)) (ne : a ≠ pn) (h : ∀ x ∈ xs, Itm K H pn x) (l : xs.length ≤ 8) : Prt K H pn (.ref a) := by
  obtain ⟨ds, r, g⟩ := itms h
  exact Prt.tup e ne r (good_list g (by rw [← r.len]; exact l)).2
theorem Prt.lsts {K : PySem.W.Frag} {H : Hp} {pn a : Addr} {xs : List V} (e : H a = some (.lst xs)) (ne : a ≠ pn) (h : ∀ x ∈ xs, Itm K H pn x) (l : xs.length ≤ 8) : Prt K H pn (.ref a) := by
  obtain ⟨ds, r, g⟩ := itms h
  exact Prt.lst e ne r (good_list g (by rw [← r.len]; exact l)).1
theorem Itm.tup {K : PySem.W.Frag} {H : Hp} {pn a : Addr} {xs : List V} {ds : List PyData} (e : H a = some (.tup xs)) (ne : a ≠ pn) (r : Dts K (del H pn) xs ds) (h : item (.tuple ds) = true) : Itm K H pn (.ref a) := ⟨_, .tup (.inl (.inl (by rw [del_ne ne]; exact e))) r, h⟩
theorem Itm.lst {K : PySem.W.Frag} {H : Hp} {pn a : Addr} {xs : List V} {ds : List PyData} (e : H a = some (.lst xs)) (ne : a ≠ pn) (r : Dts K (del H pn) xs ds) (h : item (.list ds) = true) : Itm K H pn (.ref a) := ⟨_, .lst (by rw [del_ne ne]; exact e) r, h⟩
theorem Itm.at {K : PySem.W.Frag} {X : Hp} {pn a : Addr} {v : V} (h : Itm K X pn v) (_ : X a = none) : Itm K X pn v := h
theorem Itm.non {K : PySem.W.Frag} {H : Hp} {pn : Addr} : Itm K H pn .non := ⟨_, .non, by decide +kernel⟩
theorem Sm.to {H X : Hp} {a : Addr} (m : Sm H X) (_ : X a = none) : Sm H X := m
/-- a list of such parts -/
def Lp (K : PySem.W.Frag) (G : Hp) (pn l : Addr) (xs : List V) : Prop := G l = some (.lst xs) ∧ l ≠ pn ∧ ∀ x ∈ xs, Prt K G pn x
theorem Lp.sx {K : PySem.W.Frag} {G G' : Hp} {pn l : Addr} {xs : List V} (p : Lp K G pn l xs) (s : Sx pn G G') : Lp K G' pn l xs := ⟨s _ _ p.2.1 p.1, p.2.1, fun x hx => (p.2.2 x hx).sx s⟩
/-- [deed for deed in deeds if take(pen, 2) == 0] -/
theorem barred_reads {K : PySem.W.Frag} {X : Hp} {pn cl ld : Addr} {xs : List V} {k : Nat} {o1 o2 o3 o4 o5 o6 o7 o8 o9 o10 : Option V} {Q : Addr → Hp → Prop} (pen : Pen X pn cl k) (hk : k + xs.length ≤ 900) (hl : X ld = some (.lst xs)) (ne : ld ≠ pn) (hx : xs.length ≤ 8)
    (q : ∀ D G ys, ys.length ≤ xs.length → (∀ y ∈ ys, y ∈ xs) → Sx pn X G → (∀ b, G b = none → X b = none) → X D = none → G D = some (.lst ys) → Pen G pn cl (k + xs.length) → Q D G) :
    LcF (gName 10) (tTest (tOp rEq (tCall spTake [] E0 (tCons (tVar 0) (tCons (tC (.int 2)) tNil))) (tC (.int 0)))) (tVar 10) [10] [some (.ref pn), o1, o2, o3, o4, o5, o6, o7, o8, o9, o10] X Q (Itl K ld) := by
  intro D hD
  refine lc_it (walk_list (K := K) (a := ld) (xs := xs)) (Qd := fun H => Q D H) (fun j G => ∃ acc, G D = some (.lst acc) ∧ acc.length ≤ j ∧ (∀ y ∈ acc, y ∈ xs) ∧ Sx pn X G ∧ (∀ b, G b = none → X b = none) ∧ Pen G pn cl (k + j)) ?_ (fun j G _ ⟨_, _, _, _, s, _⟩ => .inl (.inl (s _ _ ne hl))) ?_ ?_
  · exact ⟨[], upd_same, Nat.le_refl _, (fun y hy => nomatch hy), Sx.of (Sm.new hD), fun b e => none_upd b e, pen.sm (Sm.new hD)⟩
  · rintro j x G G2 hj ⟨acc, ed, al, am, sx, fr, pj⟩ ⟨rfl, ex⟩
    have nD : D ≠ pn := pen_ne pen hD
    refine ⟨rfl, _, rfl, pn, cl, 2, k + j, rfl, pj, by omega, by decide, by decide, fun i G3 hi s3 f3 p3 => ⟨rfl, _, rfl, ?_⟩⟩
    have sx3 := sx.trans s3
    have fr3 : ∀ b, G3 b = none → X b = none := fun b e => fr b (f3 b e)
    by_cases c : V.int ((i : Nat) : Int) = V.int 0
    · rw [decide_eq_true c]
      refine iteT ⟨_, rfl, acc, s3 _ _ nD ed, by rw [sizeLine_eq]; omega, acc ++ [x], upd_same, by rw [List.length_append]; exact Nat.succ_le_succ al, fun y hy => ?_, fun b o nb e => ?_, fun b e => fr3 b (none_upd b e), ?_⟩
      · rcases List.mem_append.mp hy with z | z
        · exact am y z
        · rw [List.mem_singleton.mp z]
          exact List.mem_of_getElem? ex
      · rw [upd_ne (ne_of_none e hD)]
        exact sx3 b o nb e
      · obtain ⟨cs, at_, v, pv_, le⟩ := p3
        obtain ⟨cs0, at0, v0, pv0, _⟩ := pen
        refine ⟨cs, at_, v, ⟨?_, ?_, pv_.2.2⟩, le⟩
        · rw [upd_ne (Ne.symm nD)]
          exact pv_.1
        · rw [upd_ne (ne_of_none pv0.2.1 hD)]
          exact pv_.2.1
    · rw [decide_eq_false c]
      exact iteF ⟨acc, s3 _ _ nD ed, Nat.le_succ_of_le al, am, sx3, fr3, p3⟩
  · rintro G ⟨acc, ed, al, am, sx, fr, pj⟩
    exact q D G acc al am sx fr hD ed pj
theorem catA_both {K : PySem.W.Frag} {H : Hp} {a b : Addr} {xs ys : List V} {T : VK} (ha : SqT K H a xs) (hb : H b = some (.tup ys)) (l : xs.length + ys.length ≤ sizeLine) (ny : ys ≠ []) (q : ∀ p H', Sm H H' → H' p = some (.tup (xs ++ ys)) → T (.ref p) H') : rCatA K (.ref a) (.ref b) H T :=
  ⟨a, b, xs, ys, rfl, rfl, ha, .inl (.inl hb), l, fun e => by
    subst e
    exact q b H (fun _ _ e => e) hb, fun _ e => absurd e ny, fun _ _ p np => q p _ (Sm.new np) upd_same⟩
theorem pen_tup {H : Hp} {pn cl a : Addr} {n : Nat} {xs : List V} (h : Pen H pn cl n) (e : H a = some (.tup xs)) : a ≠ pn := fun z => by
  obtain ⟨ys, e2⟩ := h.at_
  rw [z, e2] at e
  cases e
abbrev nDr : List Str := ["_law_pen", "_law_odd", "_law_way", "_law_chances", "_law_span", "_law_sealed", "_law_deeds", "_law_barred", "_law_wrongs", "_law_some", "_law_deed"]
theorem scDr : FnScope nDr ["_law_pen"] (defScope (top 26)) := ⟨rfl, rfl, rfl, by decide +kernel, rfl, by decide +kernel, by decide +kernel⟩
def spDrawn (K : PySem.W.Frag) : Sp := fun vs H Q _ => ∃ (pn cl : Addr) (n : Nat), vs = [.ref pn] ∧ Pen H pn cl n ∧ n ≤ 800 ∧
  ∀ (q : Addr) (F : Five) H', Sx pn H H' → H q = none → H' q = some (.lst F.list) → q ≠ pn → F.Ok K (del H' pn) → Pen H' pn cl (n + 10) → Q (.ref q) H'
section
variable {P : Program} {w : World} {K : PySem.W.Frag} {mg : Str → Option Value} {base : Heap} {f fT fO : Addr} {fd dT dO : FuncData}
theorem bOne (F : FnP K "_law_one" (top 22) fO dO) : Binds K dO nOne [] := F.bindsN fun _ _ _ _ _ _ us hl => match us, hl with
  | [_, _], _ => rfl
theorem ok_drawn (F : FnP K "_law_drawn_parts" (top 26) f fd) (mt : mg "tuple" = none) (GT : FnOk P w K mg base CX0 2 fT dT ["_law_pen", "_law_many"] spTake) (FT : FnP K "_law_take" (top 20) fT dT) (gT : mg "_law_take" = some (.ref fT))
    (GO : FnOk P w K mg base CX0 3 fO dO nOne spOne) (FO : FnP K "_law_one" (top 22) fO dO) (gO : mg "_law_one" = some (.ref fO)) : FnOk P w K mg base CX0 4 f fd ["_law_pen"] (spDrawn K) := by
  refine F.ok (CX := CX0) scDr (fun vs H Q E h => ?_) (fun cdv A outer s H vs Q E hr h => ?_)
  · obtain ⟨pn, cl, n, rfl, _⟩ := h
    rfl
  · have hr2 := hr.mono (show 2 ≤ 3 by decide)
    refine ⟨_, PSs.nox (pss_cons (ps_set (i := 1) scDr.nd rfl (.inl rfl) (pe_lst (pa_cons pe_non (pa_cons pe_int (pa_cons pe_int (pa_cons (pe_un un_neg pe_int) (pa_cons pe_bl (pa_cons pe_bl (pa_cons pe_str (pa_cons pe_str (pa_cons (pe_tup pa_nil) (pa_cons (pe_lst pa_nil) (pa_cons (pe_tup (pa_cons pe_int pa_nil)) (pa_cons pe_int (pa_cons (pe_op op_pow pe_int pe_int) (pa_cons pe_str (pa_cons pe_str pa_nil)))))))))))))))))
      (pss_cons (ps_set (i := 2) scDr.nd rfl (.inl rfl) (by exact (pe_call GO hr rfl gO FO.kp (bOne FO) .nil pass0 (pa_cons (pv 0) (pa_cons (pe_op op_cat (pe_op op_cat (pe_op op_rep (pe_lst (pa_cons pe_str (pa_cons pe_str (pa_cons pe_str pa_nil)))) pe_int) (pe_lst (pa_cons pe_str (pa_cons pe_str (pa_cons pe_str pa_nil))))) (pv 1)) pa_nil)))))
      (pss_cons (ps_set (i := 3) scDr.nd rfl (.inl rfl) (by exact (pe_call GO hr rfl gO FO.kp (bOne FO) .nil pass0 (pa_cons (pv 0) (pa_cons (pe_op op_cat (pe_op op_rep (pe_lst (pa_cons pe_int (pa_cons pe_int (pa_cons pe_int pa_nil)))) pe_int) (pv 1)) pa_nil)))))
      (pss_cons (ps_set (i := 4) scDr.nd rfl (.inl rfl) (by exact (pe_call GO hr rfl gO FO.kp (bOne FO) .nil pass0 (pa_cons (pv 0) (pa_cons (pe_op op_cat (pe_op op_rep (pe_lst (pa_cons pe_non (pa_cons pe_str (pa_cons pe_int (pa_cons pe_int (pa_cons pe_int pa_nil)))))) pe_int) (pv 1)) pa_nil)))))
      (pss_cons (ps_set (i := 5) scDr.nd rfl (.inl rfl) (by exact (pe_call GO hr rfl gO FO.kp (bOne FO) .nil pass0 (pa_cons (pv 0) (pa_cons (pe_op op_cat (pe_op op_rep (pe_lst (pa_cons pe_bl (pa_cons pe_bl pa_nil))) pe_int) (pv 1)) pa_nil)))))
      (pss_cons (ps_set (i := 6) scDr.nd rfl (.inl rfl) (pe_lst (pa_cons (pe_tup (pa_cons pe_int (pa_cons pe_str pa_nil))) (pa_cons (pe_tup (pa_cons pe_int (pa_cons pe_str pa_nil))) (pa_cons (pe_tup (pa_cons pe_int (pa_cons pe_str pa_nil))) (pa_cons (pe_tup (pa_cons pe_int (pa_cons pe_str pa_nil))) pa_nil))))))
      (pss_cons (by exact (ps_setLc (i := 7) (own := [("_law_deed", 10)]) (g := gName 10) (tt := tTest (tOp rEq (tCall spTake [] E0 (tCons (tVar 0) (tCons (tC (.int 2)) tNil))) (tC (.int 0)))) (te := tVar 10) (by rfl) scDr.nd rfl rfl (sw_true rfl rfl rfl (by decide +kernel)) (pi_list (pv 6))
        (blkOk_by (N := nDr) (sc := defScope (top 26)) (by decide +kernel)) (fun _ _ _ _ _ => pg_name (i := 10) scDr.nd rfl (Or.inl rfl)) (fun _ _ _ _ _ => pts_one (by exact (pt_cmpR op_eq (by exact (pe_call GT hr2 rfl gT FT.kp (bTake FT) .nil pass0 (pa_cons (by exact (pv 0)) (pa_cons pe_int pa_nil)))) pe_int (nomark _)))) (fun _ _ _ _ _ => by exact (pv 10))))
      (pss_cons (ps_set (i := 8) scDr.nd rfl (.inl rfl) (pe_lst (pa_cons (pe_tup (pa_cons pe_bl (pa_cons pe_str pa_nil))) (pa_cons (pe_tup (pa_cons pe_int (pa_cons pe_str pa_nil))) (pa_cons (pe_tup (pa_cons pe_int (pa_cons pe_str pa_nil))) (pa_cons (pe_tup (pa_cons (pe_un un_neg pe_int) (pa_cons pe_str pa_nil))) (pa_cons (pe_lst (pa_cons pe_int (pa_cons pe_str pa_nil))) (pa_cons (pe_tup (pa_cons pe_int (pa_cons pe_str (pa_cons pe_int pa_nil)))) (pa_cons (pe_tup (pa_cons pe_int (pa_cons pe_str pa_nil))) (pa_cons (pe_tup (pa_cons pe_str (pa_cons pe_str pa_nil))) pa_nil))))))))))
      (pss_cons (ps_set (i := 8) scDr.nd rfl (.inl rfl) (pe_op op_cat (pv 8) (pe_lst (pa_cons (pe_tup (pa_cons pe_int (pa_cons pe_str pa_nil))) (pa_cons (pe_tup (pa_cons pe_int (pa_cons pe_str pa_nil))) (pa_cons (pe_tup (pa_cons pe_int (pa_cons pe_str pa_nil))) (pa_cons (pe_tup (pa_cons pe_int (pa_cons pe_str pa_nil))) (pa_cons pe_non (pa_cons (pe_tup (pa_cons pe_int (pa_cons pe_int pa_nil))) pa_nil)))))))))
      (pss_cons (ps_set (i := 8) scDr.nd rfl (.inl rfl) (pe_op op_catA (pe_callTy call_tuple_of rfl mt PyProof.Rows.boot_tuple (pa_cons (pv 7) pa_nil)) (pe_tup (pa_cons (by exact (pe_call GO hr rfl gO FO.kp (bOne FO) .nil pass0 (pa_cons (pv 0) (pa_cons (pv 8) pa_nil)))) pa_nil))))
      (pss_cons (ps_set (i := 9) scDr.nd rfl (.inl rfl) (pe_op op_cat (pe_op op_cat (pe_op op_rep (pe_lst (pa_cons (pe_callTy call_tuple_of rfl mt PyProof.Rows.boot_tuple (pa_cons (pv 7) pa_nil)) pa_nil)) pe_int) (pe_op op_rep (pe_lst (pa_cons (pv 7) pa_nil)) pe_int)) (pe_lst (pa_cons (pv 8) pa_nil))))
      (pss_cons (ps_set (i := 9) scDr.nd rfl (.inl rfl) (pe_op op_cat (pv 9) (pe_lst (pa_cons (pe_callTy call_tuple_of rfl mt PyProof.Rows.boot_tuple (pa_cons (pe_revL (pv 7)) pa_nil)) (pa_cons (pe_callTy call_tuple_of rfl mt PyProof.Rows.boot_tuple (pa_cons (pe_op op_cat (pv 7) (pe_slice sl_list (pv 7) po_none (po_some pe_int))) pa_nil)) pa_nil)))))
      (pss_one (ps_ret (pe_lst (pa_cons (pv 2) (pa_cons (pv 3) (pa_cons (pv 4) (pa_cons (pv 5) (pa_cons (by exact (pe_call GO hr rfl gO FO.kp (bOne FO) .nil pass0 (pa_cons (pv 0) (pa_cons (pe_op op_cat (pv 9) (pv 1)) pa_nil)))) pa_nil)))))))))))))))))))), ?_⟩
    obtain ⟨pn, cl, n, rfl, pen, hn, q⟩ := h
    have sz : ∀ n : Nat, n ≤ 1000 → n ≤ sizeLine := fun n z => by
      rw [sizeLine_eq]
      omega
    -- the odd ones
    refine ⟨_, rfl, Nat.zero_le _, fun t1 n1 => ⟨Nat.zero_le _, fun l1 k1 => ⟨sz _ (by show 1 ≤ 1000; decide), fun t2 n2 => ⟨_, _, rfl, rfl, ⟨by decide, by decide, by decide⟩, sz _ (by show 15 ≤ 1000; decide), fun lo no => ?_⟩⟩⟩⟩
    have m0 := ((Sm.new (o := .tup []) n1).trans (Sm.new (o := .lst []) k1)).trans ((Sm.new (o := .tup [.int 0]) n2).trans (Sm.new (o := .lst [.non, .int 0, .int 4, .int (-1), .bl true, .bl false, .str "1", .str "", .ref t1, .ref l1, .ref t2, .int 13, .int ((10 : Int) ^ (20 : Int).toNat), .str "never", .str "Ever"]) no))
    have pen0 := pen.sm m0
    have nt1 : t1 ≠ pn := pen_ne pen n1
    have nl1 : l1 ≠ pn := pen_ne (pen.sm (Sm.new n1)) k1
    have nt2 : t2 ≠ pn := pen_ne (pen.sm ((Sm.new n1).trans (Sm.new k1))) n2
    have nlo : lo ≠ pn := pen_ne (pen.sm ((Sm.new n1).trans ((Sm.new k1).trans (Sm.new n2)))) no
    have et1 := ((Sm.new (o := .lst []) k1).trans ((Sm.new (o := .tup [.int 0]) n2).trans (Sm.new (o := .lst [.non, .int 0, .int 4, .int (-1), .bl true, .bl false, .str "1", .str "", .ref t1, .ref l1, .ref t2, .int 13, .int ((10 : Int) ^ (20 : Int).toNat), .str "never", .str "Ever"]) no))) _ _ (show upd H t1 (.tup []) t1 = _ from upd_same)
    have el1 := ((Sm.new (o := .tup [.int 0]) n2).trans (Sm.new (o := .lst [.non, .int 0, .int 4, .int (-1), .bl true, .bl false, .str "1", .str "", .ref t1, .ref l1, .ref t2, .int 13, .int ((10 : Int) ^ (20 : Int).toNat), .str "never", .str "Ever"]) no)) _ _ (show upd (upd H t1 (.tup [])) l1 (.lst []) l1 = _ from upd_same)
    have et2 := (Sm.new (o := .lst [.non, .int 0, .int 4, .int (-1), .bl true, .bl false, .str "1", .str "", .ref t1, .ref l1, .ref t2, .int 13, .int ((10 : Int) ^ (20 : Int).toNat), .str "never", .str "Ever"]) no) _ _ (show upd (upd (upd H t1 (.tup [])) l1 (.lst [])) t2 (.tup [.int 0]) t2 = _ from upd_same)
    have eo : upd (upd (upd (upd H t1 (.tup [])) l1 (.lst [])) t2 (.tup [.int 0])) lo (.lst [.non, .int 0, .int 4, .int (-1), .bl true, .bl false, .str "1", .str "", .ref t1, .ref l1, .ref t2, .int 13, .int ((10 : Int) ^ (20 : Int).toNat), .str "never", .str "Ever"]) lo = _ := upd_same
    have sx0 : Sx pn H _ := Sx.of m0
    have fr0 : ∀ b, upd (upd (upd (upd H t1 (.tup [])) l1 (.lst [])) t2 (.tup [.int 0])) lo (.lst [.non, .int 0, .int 4, .int (-1), .bl true, .bl false, .str "1", .str "", .ref t1, .ref l1, .ref t2, .int 13, .int ((10 : Int) ^ (20 : Int).toNat), .str "never", .str "Ever"]) b = none → H b = none := fun b e => none_sm m0 e
    generalize upd (upd (upd (upd H t1 (.tup [])) l1 (.lst [])) t2 (.tup [.int 0])) lo (.lst [.non, .int 0, .int 4, .int (-1), .bl true, .bl false, .str "1", .str "", .ref t1, .ref l1, .ref t2, .int 13, .int ((10 : Int) ^ (20 : Int).toNat), .str "never", .str "Ever"]) = G0 at pen0 et1 el1 et2 eo sx0 fr0 ⊢
    have od : Lp K G0 pn lo [.non, .int 0, .int 4, .int (-1), .bl true, .bl false, .str "1", .str "", .ref t1, .ref l1, .ref t2, .int 13, .int ((10 : Int) ^ (20 : Int).toNat), .str "never", .str "Ever"] := ⟨eo, nlo, all_cons .non (all_cons (.int _ (by decide +kernel)) (all_cons (.int _ (by decide +kernel)) (all_cons (.int _ (by decide +kernel)) (all_cons .bl (all_cons .bl (all_cons (.str _ (by decide +kernel)) (all_cons (.str _ (by decide +kernel)) (all_cons (.tup et1 nt1 .nil (by decide +kernel)) (all_cons (.lst el1 nl1 .nil (by decide +kernel))
      (all_cons (.tup et2 nt2 (.cons (.int 0) .nil) (by decide +kernel)) (all_cons (.int _ (by decide +kernel)) (all_cons (.int _ (by decide +kernel)) (all_cons (.str _ (by decide +kernel)) (all_cons (.str _ (by decide +kernel)) all_nil))))))))))))))⟩
    clear et1 el1 et2 m0 eo n1 k1 n2 no nt1 nl1 nt2 nlo
    refine ⟨_, rfl, sz _ (by show 3 ≤ 1000; decide), fun a1 na1 => ⟨_, _, _, rfl, rfl, upd_same, by decide, by decide, sz _ (by show 18 ≤ 1000; decide), fun a2 na2 => ⟨sz _ (by show 3 ≤ 1000; decide), fun a3 na3 => ⟨_, _, _, _, rfl, rfl, Sm.new na3 _ _ upd_same, upd_same, sz _ (by show 21 ≤ 1000; decide), fun a4 na4 => ⟨_, rfl, _, _, _, _, rfl, rfl, upd_same, Sm.new na4 _ _ (Sm.new na3 _ _ (Sm.new na2 _ _ (Sm.new na1 _ _ od.1))), sz _ (by show 36 ≤ 1000; decide), fun a5 na5 => ?_⟩⟩⟩⟩⟩
    have mm := Sm.to ((((Sm.new (o := .lst [.str "letter", .str "key", .str "all"]) na1).trans (Sm.new na2)).trans (Sm.new na3)).trans (Sm.new na4)) na5
    refine ⟨pn, cl, a5, _, n, rfl, pen0.sm (mm.trans (Sm.new na5)), by omega, upd_same, pen_ne (pen0.sm mm) na5, by show 0 < 36; decide, by show 36 ≤ 1000; decide, fun x2 G1 hx s' f' pen1 => ?_⟩
    have sM : Sx pn G0 G1 := (Sx.of (mm.trans (Sm.new na5))).trans s'
    have px2 : Prt K G1 pn x2 := all_app (p := Prt K G1 pn) (all_app (all_rep (all_cons (.str _ (by decide +kernel)) (all_cons (.str _ (by decide +kernel)) (all_cons (.str _ (by decide +kernel)) all_nil)))) (all_cons (.str _ (by decide +kernel)) (all_cons (.str _ (by decide +kernel)) (all_cons (.str _ (by decide +kernel)) all_nil)))) (fun y hy => (od.2.2 y hy).sx sM) x2 hx
    have od := od.sx sM
    have fr1 : ∀ b, G1 b = none → H b = none := fun b e => fr0 b (none_sm (mm.trans (Sm.new na5)) (f' b e))
    have sx1 := sx0.trans sM
    clear na1 na2 na3 na4 na5 mm s' f' hx sM sx0 fr0 pen0
    refine ⟨_, rfl, sz _ (by show 3 ≤ 1000; decide), fun a1 na1 => ⟨_, _, _, rfl, rfl, upd_same, by decide, by decide, sz _ (by show 30 ≤ 1000; decide), fun a2 na2 => ⟨_, rfl, _, _, _, _, rfl, rfl, upd_same, Sm.new na2 _ _ (Sm.new na1 _ _ od.1), sz _ (by show 45 ≤ 1000; decide), fun a5 na5 => ?_⟩⟩⟩
    have mm := Sm.to ((Sm.new (o := .lst [.int 1, .int 2, .int 3]) na1).trans (Sm.new na2)) na5
    refine ⟨pn, cl, a5, _, n + 1, rfl, pen1.sm (mm.trans (Sm.new na5)), by omega, upd_same, pen_ne (pen1.sm mm) na5, by show 0 < 45; decide, by show 45 ≤ 1000; decide, fun x3 G2 hx s' f' pen2 => ?_⟩
    have sM : Sx pn G1 G2 := (Sx.of (mm.trans (Sm.new na5))).trans s'
    have px3 : Prt K G2 pn x3 := all_app (p := Prt K G2 pn) (all_rep (all_cons (.int _ (by decide +kernel)) (all_cons (.int _ (by decide +kernel)) (all_cons (.int _ (by decide +kernel)) all_nil)))) (fun y hy => (od.2.2 y hy).sx sM) x3 hx
    have od := od.sx sM
    have fr2 : ∀ b, G2 b = none → H b = none := fun b e => fr1 b (none_sm (mm.trans (Sm.new na5)) (f' b e))
    have sx2 := sx1.trans sM
    have px2 := px2.sx sM
    clear na1 na2 na5 mm s' f' hx sM sx1 fr1 pen1
    refine ⟨_, rfl, sz _ (by show 5 ≤ 1000; decide), fun a1 na1 => ⟨_, _, _, rfl, rfl, upd_same, by decide, by decide, sz _ (by show 40 ≤ 1000; decide), fun a2 na2 => ⟨_, rfl, _, _, _, _, rfl, rfl, upd_same, Sm.new na2 _ _ (Sm.new na1 _ _ od.1), sz _ (by show 55 ≤ 1000; decide), fun a5 na5 => ?_⟩⟩⟩
    have mm := Sm.to ((Sm.new (o := .lst [.non, .str "ever", .int 1, .int 2, .int 12]) na1).trans (Sm.new na2)) na5
    refine ⟨pn, cl, a5, _, n + 2, rfl, pen2.sm (mm.trans (Sm.new na5)), by omega, upd_same, pen_ne (pen2.sm mm) na5, by show 0 < 55; decide, by show 55 ≤ 1000; decide, fun x4 G3 hx s' f' pen3 => ?_⟩
    have sM : Sx pn G2 G3 := (Sx.of (mm.trans (Sm.new na5))).trans s'
    have px4 : Prt K G3 pn x4 := all_app (p := Prt K G3 pn) (all_rep (all_cons .non (all_cons (.str _ (by decide +kernel)) (all_cons (.int _ (by decide +kernel)) (all_cons (.int _ (by decide +kernel)) (all_cons (.int _ (by decide +kernel)) all_nil)))))) (fun y hy => (od.2.2 y hy).sx sM) x4 hx
    have od := od.sx sM
    have fr3 : ∀ b, G3 b = none → H b = none := fun b e => fr2 b (none_sm (mm.trans (Sm.new na5)) (f' b e))
    have sx3 := sx2.trans sM
    have px2 := px2.sx sM
    have px3 := px3.sx sM
    clear na1 na2 na5 mm s' f' hx sM sx2 fr2 pen2
    refine ⟨_, rfl, sz _ (by show 2 ≤ 1000; decide), fun a1 na1 => ⟨_, _, _, rfl, rfl, upd_same, by decide, by decide, sz _ (by show 24 ≤ 1000; decide), fun a2 na2 => ⟨_, rfl, _, _, _, _, rfl, rfl, upd_same, Sm.new na2 _ _ (Sm.new na1 _ _ od.1), sz _ (by show 39 ≤ 1000; decide), fun a5 na5 => ?_⟩⟩⟩
    have mm := Sm.to ((Sm.new (o := .lst [.bl true, .bl false]) na1).trans (Sm.new na2)) na5
    refine ⟨pn, cl, a5, _, n + 3, rfl, pen3.sm (mm.trans (Sm.new na5)), by omega, upd_same, pen_ne (pen3.sm mm) na5, by show 0 < 39; decide, by show 39 ≤ 1000; decide, fun x5 G4 hx s' f' pen4 => ?_⟩
    have sM : Sx pn G3 G4 := (Sx.of (mm.trans (Sm.new na5))).trans s'
    have px5 : Prt K G4 pn x5 := all_app (p := Prt K G4 pn) (all_rep (all_cons .bl (all_cons .bl all_nil))) (fun y hy => (od.2.2 y hy).sx sM) x5 hx
    have od := od.sx sM
    have fr4 : ∀ b, G4 b = none → H b = none := fun b e => fr3 b (none_sm (mm.trans (Sm.new na5)) (f' b e))
    have sx4 := sx3.trans sM
    have px2 := px2.sx sM
    have px3 := px3.sx sM
    have px4 := px4.sx sM
    clear na1 na2 na5 mm s' f' hx sM sx3 fr3 pen3
    -- the deeds
    refine ⟨(sz _ (by show 2 ≤ 1000; decide)), fun ua0 va0 => ⟨(sz _ (by show 2 ≤ 1000; decide)), fun ua1 va1 => ⟨(sz _ (by show 2 ≤ 1000; decide)), fun ua2 va2 => ⟨(sz _ (by show 2 ≤ 1000; decide)), fun ua3 va3 => ⟨sz _ (by show 4 ≤ 1000; decide), fun ld nd => ?_⟩⟩⟩⟩⟩
    have ia0 := Itm.at (Itm.tup (K := K) (pn := pn) upd_same (pen_ne pen4 va0) (.cons (.int _) (.cons (.str _) .nil)) (by decide +kernel)) va1
    have ia0 := ia0.sx (Sx.of (Sm.to ((((Sm.new (o := .tup [.int 0, .str "y"]) va1).trans (Sm.new (o := .tup [.int 1, .str "x"]) va2)).trans (Sm.new (o := .tup [.int 2, .str "abcdefgh"]) va3))) nd))
    have ia1 := Itm.at (Itm.tup (K := K) (pn := pn) upd_same (pen_ne (pen4.sm (Sm.new (o := .tup [.int 0, .str "x"]) va0)) va1) (.cons (.int _) (.cons (.str _) .nil)) (by decide +kernel)) va2
    have ia1 := ia1.sx (Sx.of (Sm.to (((Sm.new (o := .tup [.int 1, .str "x"]) va2).trans (Sm.new (o := .tup [.int 2, .str "abcdefgh"]) va3))) nd))
    have ia2 := Itm.at (Itm.tup (K := K) (pn := pn) upd_same (pen_ne (pen4.sm ((Sm.new (o := .tup [.int 0, .str "x"]) va0).trans (Sm.new (o := .tup [.int 0, .str "y"]) va1))) va2) (.cons (.int _) (.cons (.str _) .nil)) (by decide +kernel)) va3
    have ia2 := ia2.sx (Sx.of (Sm.to ((Sm.new (o := .tup [.int 2, .str "abcdefgh"]) va3)) nd))
    have ia3 := Itm.at (Itm.tup (K := K) (pn := pn) upd_same (pen_ne (pen4.sm (((Sm.new (o := .tup [.int 0, .str "x"]) va0).trans (Sm.new (o := .tup [.int 0, .str "y"]) va1)).trans (Sm.new (o := .tup [.int 1, .str "x"]) va2))) va3) (.cons (.int _) (.cons (.str _) .nil)) (by decide +kernel)) nd
    have m6 := Sm.to (((((Sm.new (o := .tup [.int 0, .str "x"]) va0).trans (Sm.new (o := .tup [.int 0, .str "y"]) va1)).trans (Sm.new (o := .tup [.int 1, .str "x"]) va2)).trans (Sm.new (o := .tup [.int 2, .str "abcdefgh"]) va3))) nd
    have ndp : ld ≠ pn := pen_ne (pen4.sm m6) nd
    have pen5 := pen4.sm (m6.trans (Sm.new (o := .lst [.ref ua0, .ref ua1, .ref ua2, .ref ua3]) nd))
    have sM : Sx pn G4 _ := Sx.of (m6.trans (Sm.new (o := .lst [.ref ua0, .ref ua1, .ref ua2, .ref ua3]) nd))
    have dl : ∀ x ∈ [V.ref ua0, .ref ua1, .ref ua2, .ref ua3], Itm K _ pn x := fun x hx => (all_cons (p := Itm K _ pn) ia0 (all_cons ia1 (all_cons ia2 (all_cons ia3 all_nil))) x hx).sx (Sx.of (Sm.new (o := .lst [.ref ua0, .ref ua1, .ref ua2, .ref ua3]) nd))
    refine ⟨_, rfl, ld, rfl, ⟨_, .inl (.inl upd_same)⟩, barred_reads (xs := [.ref ua0, .ref ua1, .ref ua2, .ref ua3]) pen5 (by show n + 3 + 1 + 4 ≤ 900; omega) upd_same ndp (by show 4 ≤ 8; decide) fun lb G6 ys yl ym s' f' nb eb pen6 => ?_⟩
    have yi : ∀ y ∈ ys, Itm K G6 pn y := fun y hy => (dl y (ym y hy)).sx s'
    have sM := sM.trans s'
    have nbp : lb ≠ pn := pen_ne pen5 nb
    have fr6 : ∀ b, G6 b = none → H b = none := fun b e => fr4 b (none_sm (m6.trans (Sm.new nd)) (f' b e))
    have sx6 := sx4.trans sM
    have od := od.sx sM
    have px2 := px2.sx sM
    have px3 := px3.sx sM
    have px4 := px4.sx sM
    have px5 := px5.sx sM
    have yl : ys.length ≤ 4 := yl
    have pen6 : Pen G6 pn cl (n + 8) := pen6
    clear dl ia0 ia1 ia2 ia3 m6 nd pen5 s' f' nb ym sx4 fr4 pen4 sM ndp
    clear va0 va1 va2 va3
    -- what is wrong
    refine ⟨(sz _ (by show 2 ≤ 1000; decide)), fun ub0 vb0 => ⟨(sz _ (by show 2 ≤ 1000; decide)), fun ub1 vb1 => ⟨(sz _ (by show 2 ≤ 1000; decide)), fun ub2 vb2 => ⟨_, rfl, (sz _ (by show 2 ≤ 1000; decide)), fun ub3 vb3 => ⟨(sz _ (by show 2 ≤ 1000; decide)), fun ub4 vb4 => ⟨(sz _ (by show 3 ≤ 1000; decide)), fun ub5 vb5 => ⟨(sz _ (by show 2 ≤ 1000; decide)), fun ub6 vb6 => ⟨(sz _ (by show 2 ≤ 1000; decide)), fun ub7 vb7 => ⟨sz _ (by show 8 ≤ 1000; decide), fun lw1 vw1 => ⟨_, rfl, ⟨(sz _ (by show 2 ≤ 1000; decide)), fun uc0 vc0 => ⟨(sz _ (by show 2 ≤ 1000; decide)), fun uc1 vc1 => ⟨(sz _ (by show 2 ≤ 1000; decide)), fun uc2 vc2 => ⟨(sz _ (by show 2 ≤ 1000; decide)), fun uc3 vc3 => ⟨(sz _ (by show 2 ≤ 1000; decide)), fun uc5 vc5 => ⟨sz _ (by show 6 ≤ 1000; decide), fun lw2 vw2 => ⟨_, _, [V.ref ub0, .ref ub1, .ref ub2, .ref ub3, .ref ub4, .ref ub5, .ref ub6, .ref ub7], _, rfl, rfl, ?e1, upd_same, sz _ (by show 14 ≤ 1000; decide), fun lw nw => ?rest⟩⟩⟩⟩⟩⟩⟩⟩⟩⟩⟩⟩⟩⟩⟩⟩⟩
    case e1 => exact ((((((Sm.new (o := .tup [.int 0, .str "x1"]) vc0).trans (Sm.new (o := .tup [.int 0, .str "a b"]) vc1)).trans (Sm.new (o := .tup [.int 0, .str "x\n"]) vc2)).trans (Sm.new (o := .tup [.int 0, .str "a_b"]) vc3)).trans (Sm.new (o := .tup [.int 0, .int 1]) vc5)).trans (Sm.new (o := .lst [.ref uc0, .ref uc1, .ref uc2, .ref uc3, .non, .ref uc5]) vw2)) _ _ upd_same
    have ib0 := Itm.at (Itm.tup (K := K) (pn := pn) upd_same (pen_ne pen6 vb0) (.cons (.bl _) (.cons (.str _) .nil)) (by decide +kernel)) vb1
    have ib0 := ib0.sx (Sx.of (Sm.to ((((((((((((((Sm.new (o := .tup [.int 0, .str "X"]) vb1).trans (Sm.new (o := .tup [.int 0, .str ""]) vb2)).trans (Sm.new (o := .tup [.int (-1), .str "x"]) vb3)).trans (Sm.new (o := .lst [.int 0, .str "x"]) vb4)).trans (Sm.new (o := .tup [.int 0, .str "x", .int 1]) vb5)).trans (Sm.new (o := .tup [.int 0, .str "abcdefghi"]) vb6)).trans (Sm.new (o := .tup [.str "0", .str "x"]) vb7)).trans (Sm.new (o := .lst [.ref ub0, .ref ub1, .ref ub2, .ref ub3, .ref ub4, .ref ub5, .ref ub6, .ref ub7]) vw1)).trans (Sm.new (o := .tup [.int 0, .str "x1"]) vc0)).trans (Sm.new (o := .tup [.int 0, .str "a b"]) vc1)).trans (Sm.new (o := .tup [.int 0, .str "x\n"]) vc2)).trans (Sm.new (o := .tup [.int 0, .str "a_b"]) vc3)).trans (Sm.new (o := .tup [.int 0, .int 1]) vc5)).trans (Sm.new (o := .lst [.ref uc0, .ref uc1, .ref uc2, .ref uc3, .non, .ref uc5]) vw2)) nw))
    have ib1 := Itm.at (Itm.tup (K := K) (pn := pn) upd_same (pen_ne (pen6.sm (Sm.new (o := .tup [.bl true, .str "x"]) vb0)) vb1) (.cons (.int _) (.cons (.str _) .nil)) (by decide +kernel)) vb2
    have ib1 := ib1.sx (Sx.of (Sm.to (((((((((((((Sm.new (o := .tup [.int 0, .str ""]) vb2).trans (Sm.new (o := .tup [.int (-1), .str "x"]) vb3)).trans (Sm.new (o := .lst [.int 0, .str "x"]) vb4)).trans (Sm.new (o := .tup [.int 0, .str "x", .int 1]) vb5)).trans (Sm.new (o := .tup [.int 0, .str "abcdefghi"]) vb6)).trans (Sm.new (o := .tup [.str "0", .str "x"]) vb7)).trans (Sm.new (o := .lst [.ref ub0, .ref ub1, .ref ub2, .ref ub3, .ref ub4, .ref ub5, .ref ub6, .ref ub7]) vw1)).trans (Sm.new (o := .tup [.int 0, .str "x1"]) vc0)).trans (Sm.new (o := .tup [.int 0, .str "a b"]) vc1)).trans (Sm.new (o := .tup [.int 0, .str "x\n"]) vc2)).trans (Sm.new (o := .tup [.int 0, .str "a_b"]) vc3)).trans (Sm.new (o := .tup [.int 0, .int 1]) vc5)).trans (Sm.new (o := .lst [.ref uc0, .ref uc1, .ref uc2, .ref uc3, .non, .ref uc5]) vw2)) nw))
    have ib2 := Itm.at (Itm.tup (K := K) (pn := pn) upd_same (pen_ne (pen6.sm ((Sm.new (o := .tup [.bl true, .str "x"]) vb0).trans (Sm.new (o := .tup [.int 0, .str "X"]) vb1))) vb2) (.cons (.int _) (.cons (.str _) .nil)) (by decide +kernel)) vb3
    have ib2 := ib2.sx (Sx.of (Sm.to ((((((((((((Sm.new (o := .tup [.int (-1), .str "x"]) vb3).trans (Sm.new (o := .lst [.int 0, .str "x"]) vb4)).trans (Sm.new (o := .tup [.int 0, .str "x", .int 1]) vb5)).trans (Sm.new (o := .tup [.int 0, .str "abcdefghi"]) vb6)).trans (Sm.new (o := .tup [.str "0", .str "x"]) vb7)).trans (Sm.new (o := .lst [.ref ub0, .ref ub1, .ref ub2, .ref ub3, .ref ub4, .ref ub5, .ref ub6, .ref ub7]) vw1)).trans (Sm.new (o := .tup [.int 0, .str "x1"]) vc0)).trans (Sm.new (o := .tup [.int 0, .str "a b"]) vc1)).trans (Sm.new (o := .tup [.int 0, .str "x\n"]) vc2)).trans (Sm.new (o := .tup [.int 0, .str "a_b"]) vc3)).trans (Sm.new (o := .tup [.int 0, .int 1]) vc5)).trans (Sm.new (o := .lst [.ref uc0, .ref uc1, .ref uc2, .ref uc3, .non, .ref uc5]) vw2)) nw))
    have ib3 := Itm.at (Itm.tup (K := K) (pn := pn) upd_same (pen_ne (pen6.sm (((Sm.new (o := .tup [.bl true, .str "x"]) vb0).trans (Sm.new (o := .tup [.int 0, .str "X"]) vb1)).trans (Sm.new (o := .tup [.int 0, .str ""]) vb2))) vb3) (.cons (.int _) (.cons (.str _) .nil)) (by decide +kernel)) vb4
    have ib3 := ib3.sx (Sx.of (Sm.to (((((((((((Sm.new (o := .lst [.int 0, .str "x"]) vb4).trans (Sm.new (o := .tup [.int 0, .str "x", .int 1]) vb5)).trans (Sm.new (o := .tup [.int 0, .str "abcdefghi"]) vb6)).trans (Sm.new (o := .tup [.str "0", .str "x"]) vb7)).trans (Sm.new (o := .lst [.ref ub0, .ref ub1, .ref ub2, .ref ub3, .ref ub4, .ref ub5, .ref ub6, .ref ub7]) vw1)).trans (Sm.new (o := .tup [.int 0, .str "x1"]) vc0)).trans (Sm.new (o := .tup [.int 0, .str "a b"]) vc1)).trans (Sm.new (o := .tup [.int 0, .str "x\n"]) vc2)).trans (Sm.new (o := .tup [.int 0, .str "a_b"]) vc3)).trans (Sm.new (o := .tup [.int 0, .int 1]) vc5)).trans (Sm.new (o := .lst [.ref uc0, .ref uc1, .ref uc2, .ref uc3, .non, .ref uc5]) vw2)) nw))
    have ib4 := Itm.at (Itm.lst (K := K) (pn := pn) upd_same (pen_ne (pen6.sm ((((Sm.new (o := .tup [.bl true, .str "x"]) vb0).trans (Sm.new (o := .tup [.int 0, .str "X"]) vb1)).trans (Sm.new (o := .tup [.int 0, .str ""]) vb2)).trans (Sm.new (o := .tup [.int (-1), .str "x"]) vb3))) vb4) (.cons (.int _) (.cons (.str _) .nil)) (by decide +kernel)) vb5
    have ib4 := ib4.sx (Sx.of (Sm.to ((((((((((Sm.new (o := .tup [.int 0, .str "x", .int 1]) vb5).trans (Sm.new (o := .tup [.int 0, .str "abcdefghi"]) vb6)).trans (Sm.new (o := .tup [.str "0", .str "x"]) vb7)).trans (Sm.new (o := .lst [.ref ub0, .ref ub1, .ref ub2, .ref ub3, .ref ub4, .ref ub5, .ref ub6, .ref ub7]) vw1)).trans (Sm.new (o := .tup [.int 0, .str "x1"]) vc0)).trans (Sm.new (o := .tup [.int 0, .str "a b"]) vc1)).trans (Sm.new (o := .tup [.int 0, .str "x\n"]) vc2)).trans (Sm.new (o := .tup [.int 0, .str "a_b"]) vc3)).trans (Sm.new (o := .tup [.int 0, .int 1]) vc5)).trans (Sm.new (o := .lst [.ref uc0, .ref uc1, .ref uc2, .ref uc3, .non, .ref uc5]) vw2)) nw))
    have ib5 := Itm.at (Itm.tup (K := K) (pn := pn) upd_same (pen_ne (pen6.sm (((((Sm.new (o := .tup [.bl true, .str "x"]) vb0).trans (Sm.new (o := .tup [.int 0, .str "X"]) vb1)).trans (Sm.new (o := .tup [.int 0, .str ""]) vb2)).trans (Sm.new (o := .tup [.int (-1), .str "x"]) vb3)).trans (Sm.new (o := .lst [.int 0, .str "x"]) vb4))) vb5) (.cons (.int _) (.cons (.str _) (.cons (.int _) .nil))) (by decide +kernel)) vb6
    have ib5 := ib5.sx (Sx.of (Sm.to (((((((((Sm.new (o := .tup [.int 0, .str "abcdefghi"]) vb6).trans (Sm.new (o := .tup [.str "0", .str "x"]) vb7)).trans (Sm.new (o := .lst [.ref ub0, .ref ub1, .ref ub2, .ref ub3, .ref ub4, .ref ub5, .ref ub6, .ref ub7]) vw1)).trans (Sm.new (o := .tup [.int 0, .str "x1"]) vc0)).trans (Sm.new (o := .tup [.int 0, .str "a b"]) vc1)).trans (Sm.new (o := .tup [.int 0, .str "x\n"]) vc2)).trans (Sm.new (o := .tup [.int 0, .str "a_b"]) vc3)).trans (Sm.new (o := .tup [.int 0, .int 1]) vc5)).trans (Sm.new (o := .lst [.ref uc0, .ref uc1, .ref uc2, .ref uc3, .non, .ref uc5]) vw2)) nw))
    have ib6 := Itm.at (Itm.tup (K := K) (pn := pn) upd_same (pen_ne (pen6.sm ((((((Sm.new (o := .tup [.bl true, .str "x"]) vb0).trans (Sm.new (o := .tup [.int 0, .str "X"]) vb1)).trans (Sm.new (o := .tup [.int 0, .str ""]) vb2)).trans (Sm.new (o := .tup [.int (-1), .str "x"]) vb3)).trans (Sm.new (o := .lst [.int 0, .str "x"]) vb4)).trans (Sm.new (o := .tup [.int 0, .str "x", .int 1]) vb5))) vb6) (.cons (.int _) (.cons (.str _) .nil)) (by decide +kernel)) vb7
    have ib6 := ib6.sx (Sx.of (Sm.to ((((((((Sm.new (o := .tup [.str "0", .str "x"]) vb7).trans (Sm.new (o := .lst [.ref ub0, .ref ub1, .ref ub2, .ref ub3, .ref ub4, .ref ub5, .ref ub6, .ref ub7]) vw1)).trans (Sm.new (o := .tup [.int 0, .str "x1"]) vc0)).trans (Sm.new (o := .tup [.int 0, .str "a b"]) vc1)).trans (Sm.new (o := .tup [.int 0, .str "x\n"]) vc2)).trans (Sm.new (o := .tup [.int 0, .str "a_b"]) vc3)).trans (Sm.new (o := .tup [.int 0, .int 1]) vc5)).trans (Sm.new (o := .lst [.ref uc0, .ref uc1, .ref uc2, .ref uc3, .non, .ref uc5]) vw2)) nw))
    have ib7 := Itm.at (Itm.tup (K := K) (pn := pn) upd_same (pen_ne (pen6.sm (((((((Sm.new (o := .tup [.bl true, .str "x"]) vb0).trans (Sm.new (o := .tup [.int 0, .str "X"]) vb1)).trans (Sm.new (o := .tup [.int 0, .str ""]) vb2)).trans (Sm.new (o := .tup [.int (-1), .str "x"]) vb3)).trans (Sm.new (o := .lst [.int 0, .str "x"]) vb4)).trans (Sm.new (o := .tup [.int 0, .str "x", .int 1]) vb5)).trans (Sm.new (o := .tup [.int 0, .str "abcdefghi"]) vb6))) vb7) (.cons (.str _) (.cons (.str _) .nil)) (by decide +kernel)) vw1
    have ib7 := ib7.sx (Sx.of (Sm.to (((((((Sm.new (o := .lst [.ref ub0, .ref ub1, .ref ub2, .ref ub3, .ref ub4, .ref ub5, .ref ub6, .ref ub7]) vw1).trans (Sm.new (o := .tup [.int 0, .str "x1"]) vc0)).trans (Sm.new (o := .tup [.int 0, .str "a b"]) vc1)).trans (Sm.new (o := .tup [.int 0, .str "x\n"]) vc2)).trans (Sm.new (o := .tup [.int 0, .str "a_b"]) vc3)).trans (Sm.new (o := .tup [.int 0, .int 1]) vc5)).trans (Sm.new (o := .lst [.ref uc0, .ref uc1, .ref uc2, .ref uc3, .non, .ref uc5]) vw2)) nw))
    have ic0 := Itm.at (Itm.tup (K := K) (pn := pn) upd_same (pen_ne (pen6.sm (((((((((Sm.new (o := .tup [.bl true, .str "x"]) vb0).trans (Sm.new (o := .tup [.int 0, .str "X"]) vb1)).trans (Sm.new (o := .tup [.int 0, .str ""]) vb2)).trans (Sm.new (o := .tup [.int (-1), .str "x"]) vb3)).trans (Sm.new (o := .lst [.int 0, .str "x"]) vb4)).trans (Sm.new (o := .tup [.int 0, .str "x", .int 1]) vb5)).trans (Sm.new (o := .tup [.int 0, .str "abcdefghi"]) vb6)).trans (Sm.new (o := .tup [.str "0", .str "x"]) vb7)).trans (Sm.new (o := .lst [.ref ub0, .ref ub1, .ref ub2, .ref ub3, .ref ub4, .ref ub5, .ref ub6, .ref ub7]) vw1))) vc0) (.cons (.int _) (.cons (.str _) .nil)) (by decide +kernel)) vc1
    have ic0 := ic0.sx (Sx.of (Sm.to (((((Sm.new (o := .tup [.int 0, .str "a b"]) vc1).trans (Sm.new (o := .tup [.int 0, .str "x\n"]) vc2)).trans (Sm.new (o := .tup [.int 0, .str "a_b"]) vc3)).trans (Sm.new (o := .tup [.int 0, .int 1]) vc5)).trans (Sm.new (o := .lst [.ref uc0, .ref uc1, .ref uc2, .ref uc3, .non, .ref uc5]) vw2)) nw))
    have ic1 := Itm.at (Itm.tup (K := K) (pn := pn) upd_same (pen_ne (pen6.sm ((((((((((Sm.new (o := .tup [.bl true, .str "x"]) vb0).trans (Sm.new (o := .tup [.int 0, .str "X"]) vb1)).trans (Sm.new (o := .tup [.int 0, .str ""]) vb2)).trans (Sm.new (o := .tup [.int (-1), .str "x"]) vb3)).trans (Sm.new (o := .lst [.int 0, .str "x"]) vb4)).trans (Sm.new (o := .tup [.int 0, .str "x", .int 1]) vb5)).trans (Sm.new (o := .tup [.int 0, .str "abcdefghi"]) vb6)).trans (Sm.new (o := .tup [.str "0", .str "x"]) vb7)).trans (Sm.new (o := .lst [.ref ub0, .ref ub1, .ref ub2, .ref ub3, .ref ub4, .ref ub5, .ref ub6, .ref ub7]) vw1)).trans (Sm.new (o := .tup [.int 0, .str "x1"]) vc0))) vc1) (.cons (.int _) (.cons (.str _) .nil)) (by decide +kernel)) vc2
    have ic1 := ic1.sx (Sx.of (Sm.to ((((Sm.new (o := .tup [.int 0, .str "x\n"]) vc2).trans (Sm.new (o := .tup [.int 0, .str "a_b"]) vc3)).trans (Sm.new (o := .tup [.int 0, .int 1]) vc5)).trans (Sm.new (o := .lst [.ref uc0, .ref uc1, .ref uc2, .ref uc3, .non, .ref uc5]) vw2)) nw))
    have ic2 := Itm.at (Itm.tup (K := K) (pn := pn) upd_same (pen_ne (pen6.sm (((((((((((Sm.new (o := .tup [.bl true, .str "x"]) vb0).trans (Sm.new (o := .tup [.int 0, .str "X"]) vb1)).trans (Sm.new (o := .tup [.int 0, .str ""]) vb2)).trans (Sm.new (o := .tup [.int (-1), .str "x"]) vb3)).trans (Sm.new (o := .lst [.int 0, .str "x"]) vb4)).trans (Sm.new (o := .tup [.int 0, .str "x", .int 1]) vb5)).trans (Sm.new (o := .tup [.int 0, .str "abcdefghi"]) vb6)).trans (Sm.new (o := .tup [.str "0", .str "x"]) vb7)).trans (Sm.new (o := .lst [.ref ub0, .ref ub1, .ref ub2, .ref ub3, .ref ub4, .ref ub5, .ref ub6, .ref ub7]) vw1)).trans (Sm.new (o := .tup [.int 0, .str "x1"]) vc0)).trans (Sm.new (o := .tup [.int 0, .str "a b"]) vc1))) vc2) (.cons (.int _) (.cons (.str _) .nil)) (by decide +kernel)) vc3
    have ic2 := ic2.sx (Sx.of (Sm.to (((Sm.new (o := .tup [.int 0, .str "a_b"]) vc3).trans (Sm.new (o := .tup [.int 0, .int 1]) vc5)).trans (Sm.new (o := .lst [.ref uc0, .ref uc1, .ref uc2, .ref uc3, .non, .ref uc5]) vw2)) nw))
    have ic3 := Itm.at (Itm.tup (K := K) (pn := pn) upd_same (pen_ne (pen6.sm ((((((((((((Sm.new (o := .tup [.bl true, .str "x"]) vb0).trans (Sm.new (o := .tup [.int 0, .str "X"]) vb1)).trans (Sm.new (o := .tup [.int 0, .str ""]) vb2)).trans (Sm.new (o := .tup [.int (-1), .str "x"]) vb3)).trans (Sm.new (o := .lst [.int 0, .str "x"]) vb4)).trans (Sm.new (o := .tup [.int 0, .str "x", .int 1]) vb5)).trans (Sm.new (o := .tup [.int 0, .str "abcdefghi"]) vb6)).trans (Sm.new (o := .tup [.str "0", .str "x"]) vb7)).trans (Sm.new (o := .lst [.ref ub0, .ref ub1, .ref ub2, .ref ub3, .ref ub4, .ref ub5, .ref ub6, .ref ub7]) vw1)).trans (Sm.new (o := .tup [.int 0, .str "x1"]) vc0)).trans (Sm.new (o := .tup [.int 0, .str "a b"]) vc1)).trans (Sm.new (o := .tup [.int 0, .str "x\n"]) vc2))) vc3) (.cons (.int _) (.cons (.str _) .nil)) (by decide +kernel)) vc5
    have ic3 := ic3.sx (Sx.of (Sm.to ((Sm.new (o := .tup [.int 0, .int 1]) vc5).trans (Sm.new (o := .lst [.ref uc0, .ref uc1, .ref uc2, .ref uc3, .non, .ref uc5]) vw2)) nw))
    have ic5 := Itm.at (Itm.tup (K := K) (pn := pn) upd_same (pen_ne (pen6.sm (((((((((((((Sm.new (o := .tup [.bl true, .str "x"]) vb0).trans (Sm.new (o := .tup [.int 0, .str "X"]) vb1)).trans (Sm.new (o := .tup [.int 0, .str ""]) vb2)).trans (Sm.new (o := .tup [.int (-1), .str "x"]) vb3)).trans (Sm.new (o := .lst [.int 0, .str "x"]) vb4)).trans (Sm.new (o := .tup [.int 0, .str "x", .int 1]) vb5)).trans (Sm.new (o := .tup [.int 0, .str "abcdefghi"]) vb6)).trans (Sm.new (o := .tup [.str "0", .str "x"]) vb7)).trans (Sm.new (o := .lst [.ref ub0, .ref ub1, .ref ub2, .ref ub3, .ref ub4, .ref ub5, .ref ub6, .ref ub7]) vw1)).trans (Sm.new (o := .tup [.int 0, .str "x1"]) vc0)).trans (Sm.new (o := .tup [.int 0, .str "a b"]) vc1)).trans (Sm.new (o := .tup [.int 0, .str "x\n"]) vc2)).trans (Sm.new (o := .tup [.int 0, .str "a_b"]) vc3))) vc5) (.cons (.int _) (.cons (.int _) .nil)) (by decide +kernel)) vw2
    have ic5 := ic5.sx (Sx.of (Sm.to (Sm.new (o := .lst [.ref uc0, .ref uc1, .ref uc2, .ref uc3, .non, .ref uc5]) vw2) nw))
    have m8 := Sm.to (((((((((((((((Sm.new (o := .tup [.bl true, .str "x"]) vb0).trans (Sm.new (o := .tup [.int 0, .str "X"]) vb1)).trans (Sm.new (o := .tup [.int 0, .str ""]) vb2)).trans (Sm.new (o := .tup [.int (-1), .str "x"]) vb3)).trans (Sm.new (o := .lst [.int 0, .str "x"]) vb4)).trans (Sm.new (o := .tup [.int 0, .str "x", .int 1]) vb5)).trans (Sm.new (o := .tup [.int 0, .str "abcdefghi"]) vb6)).trans (Sm.new (o := .tup [.str "0", .str "x"]) vb7)).trans (Sm.new (o := .lst [.ref ub0, .ref ub1, .ref ub2, .ref ub3, .ref ub4, .ref ub5, .ref ub6, .ref ub7]) vw1)).trans (Sm.new (o := .tup [.int 0, .str "x1"]) vc0)).trans (Sm.new (o := .tup [.int 0, .str "a b"]) vc1)).trans (Sm.new (o := .tup [.int 0, .str "x\n"]) vc2)).trans (Sm.new (o := .tup [.int 0, .str "a_b"]) vc3)).trans (Sm.new (o := .tup [.int 0, .int 1]) vc5)).trans (Sm.new (o := .lst [.ref uc0, .ref uc1, .ref uc2, .ref uc3, .non, .ref uc5]) vw2)) nw
    have wl : ∀ x ∈ [V.ref ub0, .ref ub1, .ref ub2, .ref ub3, .ref ub4, .ref ub5, .ref ub6, .ref ub7] ++ [V.ref uc0, .ref uc1, .ref uc2, .ref uc3, .non, .ref uc5], Itm K _ pn x := fun x hx => (all_app (all_cons ib0 (all_cons ib1 (all_cons ib2 (all_cons ib3 (all_cons ib4 (all_cons ib5 (all_cons ib6 (all_cons ib7 all_nil)))))))) (all_cons ic0 (all_cons ic1 (all_cons ic2 (all_cons ic3 (all_cons .non (all_cons ic5 all_nil))))))) x hx
    refine ⟨_, rfl, lb, ys, rfl, .inl ⟨.inl (.inl (Sm.new nw _ _ (m8 _ _ eb))), fun tb nt => ?_⟩⟩
    have m9 := Sm.to (m8.trans (Sm.new (o := .lst ([V.ref ub0, .ref ub1, .ref ub2, .ref ub3, .ref ub4, .ref ub5, .ref ub6, .ref ub7] ++ [V.ref uc0, .ref uc1, .ref uc2, .ref uc3, .non, .ref uc5])) nw)) nt
    refine ⟨_, rfl, _, rfl, pn, cl, lw, _, n + 8, rfl, pen6.sm (m9.trans (Sm.new nt)), by omega, Sm.new nt _ _ upd_same, pen_ne (pen6.sm m8) nw, by show 0 < 14; decide, by show 14 ≤ 1000; decide, fun xw G7 hxw s7 f7 pen7 => ⟨sz _ (by show 1 ≤ 1000; decide), fun tw ntw => ?_⟩⟩
    have sT : Sx pn G6 G7 := (Sx.of (m9.trans (Sm.new (o := .tup ys) nt))).trans s7
    have iw : Itm K G7 pn xw := (wl xw hxw).sx ((Sx.of ((Sm.new (o := .lst ([V.ref ub0, .ref ub1, .ref ub2, .ref ub3, .ref ub4, .ref ub5, .ref ub6, .ref ub7] ++ [V.ref uc0, .ref uc1, .ref uc2, .ref uc3, .non, .ref uc5])) nw).trans (Sm.new (o := .tup ys) nt))).trans s7)
    have ntp : tb ≠ pn := pen_ne (pen6.sm m9) nt
    have etb := s7 _ _ ntp (show upd _ tb (.tup ys) tb = some (.tup ys) from upd_same)
    have eb := sT _ _ nbp eb
    have yi : ∀ y ∈ ys, Itm K G7 pn y := fun y hy => (yi y hy).sx sT
    have fr7 : ∀ b, G7 b = none → H b = none := fun b e => fr6 b (none_sm (m9.trans (Sm.new (o := .tup ys) nt)) (f7 b e))
    have sx7 := sx6.trans sT
    have od := od.sx sT
    have px2 := px2.sx sT
    have px3 := px3.sx sT
    have px4 := px4.sx sT
    have px5 := px5.sx sT
    clear wl m8 m9 s7 f7 sT sx6 fr6 pen6 hxw nt nw
    clear ib0 ib1 ib2 ib3 ib4 ib5 ib6 ib7 ic0 ic1 ic2 ic3 ic5
    refine catA_both (.inl (.inl (Sm.new ntw _ _ etb))) upd_same (by show ys.length + 1 ≤ sizeLine; rw [sizeLine_eq]; omega) (fun z => nomatch z) fun pw G8 m8 ew => ?_
    have sT : Sx pn G7 G8 := Sx.of ((Sm.new ntw).trans m8)
    have iw := iw.sx sT
    have eb := sT _ _ nbp eb
    have yi : ∀ y ∈ ys, Itm K G8 pn y := fun y hy => (yi y hy).sx sT
    have fr8 : ∀ b, G8 b = none → H b = none := fun b e => fr7 b (none_sm ((Sm.new ntw).trans m8) e)
    have sx8 := sx7.trans sT
    have od := od.sx sT
    have px2 := px2.sx sT
    have px3 := px3.sx sT
    have px4 := px4.sx sT
    have px5 := px5.sx sT
    have pen8 := pen7.sm ((Sm.new ntw).trans m8)
    have pw_ : Prt K G8 pn (.ref pw) := Prt.tups ew (pen_tup pen8 ew) (all_app (p := Itm K G8 pn) yi (all_cons iw all_nil)) (by rw [List.length_append]; show ys.length + 1 ≤ 8; omega)
    have pb_ : Prt K G8 pn (.ref lb) := Prt.lsts eb nbp yi (by omega)
    clear sT m8 ntw sx7 fr7 pen7 iw etb ew
    -- what is handed in as a fence
    refine ⟨_, rfl, lb, ys, rfl, .inl ⟨.inl (.inl eb), fun t3 q3 => ⟨sz _ (by show 1 ≤ 1000; decide), fun a1 r1 => ⟨_, _, _, rfl, rfl, upd_same, by decide, by decide, sz _ (by show 12 ≤ 1000; decide), fun a2 r2 => ⟨_, rfl, sz _ (by show 1 ≤ 1000; decide), fun a3 r3 => ⟨_, _, _, rfl, rfl, upd_same, by decide, by decide, sz _ (by show 6 ≤ 1000; decide), fun a4 r4 =>
      ⟨_, _, _, _, rfl, rfl, Sm.new r4 _ _ (Sm.new r3 _ _ upd_same), upd_same, sz _ (by show 18 ≤ 1000; decide), fun a5 r5 => ⟨_, rfl, sz _ (by show 1 ≤ 1000; decide), fun a6 r6 => ⟨_, _, _, _, rfl, rfl, Sm.new r6 _ _ upd_same, upd_same, sz _ (by show 19 ≤ 1000; decide), fun ls rs => ?_⟩⟩⟩⟩⟩⟩⟩⟩⟩
    have n3 : t3 ≠ pn := pen_ne pen8 q3
    have m1 := Sm.to ((((((Sm.new (o := .lst [.ref t3]) r1).trans (Sm.new (o := .lst (List.replicate (12 : Int).toNat [V.ref t3]).flatten) r2)).trans (Sm.new (o := .lst [.ref lb]) r3)).trans (Sm.new (o := .lst (List.replicate (6 : Int).toNat [V.ref lb]).flatten) r4)).trans (Sm.new (o := .lst ((List.replicate (12 : Int).toNat [V.ref t3]).flatten ++ (List.replicate (6 : Int).toNat [V.ref lb]).flatten)) r5)).trans (Sm.new (o := .lst [.ref pw]) r6)) rs
    have m2 := Sm.to ((Sm.new (o := .tup ys) q3).trans m1) rs
    have p3 : Prt K _ pn (.ref t3) := (Prt.tups (K := K) (H := upd G8 t3 (.tup ys)) upd_same n3 (fun y hy => (yi y hy).sx (Sx.of (Sm.new q3))) (by omega)).sx (Sx.of m1)
    have lsp : ls ≠ pn := pen_ne (pen8.sm m2) rs
    have sl : ∀ x ∈ ((List.replicate (12 : Int).toNat [V.ref t3]).flatten ++ (List.replicate (6 : Int).toNat [V.ref lb]).flatten) ++ [V.ref pw], Prt K _ pn x := all_app (all_app (all_rep (all_cons p3 all_nil)) (all_rep (all_cons (pb_.sx (Sx.of m2)) all_nil))) (all_cons (pw_.sx (Sx.of m2)) all_nil)
    have eb2 := m2 _ _ eb
    have yi2 : ∀ y ∈ ys, Itm K _ pn y := fun y hy => (yi y hy).sx (Sx.of m2)
    have pen9 := pen8.sm m2
    refine ⟨_, rfl, _, rfl, lb, ys, rfl, .inl (.inl (Sm.new rs _ _ eb2)), fun c1 s1 => ⟨c1, ys.reverse, rfl, .inl ⟨.inl (.inl upd_same), fun c2 s2 => ⟨_, rfl, _, rfl, _, rfl, lb, ys, rfl, .inl (.inl (Sm.new s2 _ _ (Sm.new s1 _ _ (Sm.new rs _ _ eb2)))), fun c3 s3 => ⟨_, _, _, _, rfl, rfl, Sm.new s3 _ _ (Sm.new s2 _ _ (Sm.new s1 _ _ (Sm.new rs _ _ eb2))), upd_same, ?l1, fun c4 s4 =>
      ⟨c4, _, rfl, .inl ⟨.inl (.inl upd_same), fun c5 s5 => ⟨sz _ (by show 2 ≤ 1000; decide), fun c6 s6 => ⟨ls, c6, ((List.replicate (12 : Int).toNat [V.ref t3]).flatten ++ (List.replicate (6 : Int).toNat [V.ref lb]).flatten) ++ [V.ref pw], _, rfl, rfl, ?e2, upd_same, sz _ (by show 21 ≤ 1000; decide), fun lt st => ?rest2⟩⟩⟩⟩⟩⟩⟩⟩⟩
    case l1 =>
      have := cutV_length ys none (some (1 : Int))
      rw [sizeLine_eq]
      omega
    case e2 => exact Sm.new s6 _ _ (Sm.new s5 _ _ (Sm.new s4 _ _ (Sm.new s3 _ _ (Sm.new s2 _ _ (Sm.new s1 _ _ upd_same)))))
    have cl_ := cutV_length ys none (some (1 : Int))
    have cm : ∀ y ∈ cutV ys none (some (1 : Int)), y ∈ ys := fun y hy => List.mem_of_mem_drop (List.mem_of_mem_take hy)
    have w0 := Sm.to (Sm.new (o := .lst (((List.replicate (12 : Int).toNat [V.ref t3]).flatten ++ (List.replicate (6 : Int).toNat [V.ref lb]).flatten) ++ [V.ref pw])) rs) s1
    have w1 := Sm.to (w0.trans (Sm.new (o := .lst ys.reverse) s1)) s2
    have w2 := Sm.to (w1.trans (Sm.new (o := .tup ys.reverse) s2)) s3
    have w3 := Sm.to (w2.trans (Sm.new (o := .lst (cutV ys none (some (1 : Int)))) s3)) s4
    have w4 := Sm.to (w3.trans (Sm.new (o := .lst (ys ++ cutV ys none (some (1 : Int)))) s4)) s5
    have w5 := Sm.to (w4.trans (Sm.new (o := .tup (ys ++ cutV ys none (some (1 : Int)))) s5)) s6
    have w6 := Sm.to (w5.trans (Sm.new (o := .lst [.ref c2, .ref c5]) s6)) st
    have d2 : c2 ≠ pn := pen_ne (pen9.sm w1) s2
    have d5 : c5 ≠ pn := pen_ne (pen9.sm w4) s5
    have dt : lt ≠ pn := pen_ne (pen9.sm w6) st
    have e2t := (((Sm.to (Sm.new (o := .lst (cutV ys none (some (1 : Int)))) s3) s4).trans (Sm.new (o := .lst (ys ++ cutV ys none (some (1 : Int)))) s4)).trans ((Sm.to (Sm.new (o := .tup (ys ++ cutV ys none (some (1 : Int)))) s5) s6).trans (Sm.new (o := .lst [.ref c2, .ref c5]) s6))) _ _ (show upd _ c2 (.tup ys.reverse) c2 = some (.tup ys.reverse) from upd_same)
    have e5t := (Sm.to (Sm.new (o := .lst [.ref c2, .ref c5]) s6) st) _ _ (show upd _ c5 (.tup (ys ++ cutV ys none (some (1 : Int)))) c5 = some (.tup (ys ++ cutV ys none (some (1 : Int)))) from upd_same)
    have p2 := Prt.tups (K := K) e2t d2 (fun y hy => (yi2 y (List.mem_reverse.mp hy)).sx (Sx.of w6)) (by rw [List.length_reverse]; omega)
    have p5 := Prt.tups (K := K) e5t d5 (all_app (p := Itm K _ pn) (fun y hy => (yi2 y hy).sx (Sx.of w6)) fun y hy => (yi2 y (cm y hy)).sx (Sx.of w6)) (by rw [List.length_append]; omega)
    have tl : ∀ x ∈ (((List.replicate (12 : Int).toNat [V.ref t3]).flatten ++ (List.replicate (6 : Int).toNat [V.ref lb]).flatten) ++ [V.ref pw]) ++ [V.ref c2, V.ref c5], Prt K _ pn x := all_app (fun x hx => (sl x hx).sx (Sx.of w6)) (all_cons p2 (all_cons p5 all_nil))
    have m7 := m2.trans w6
    refine ⟨_, rfl, _, rfl, _, rfl, _, rfl, _, rfl, _, rfl, _, rfl, lt, lo, _, _, rfl, rfl, upd_same, Sm.new st _ _ (m7 _ _ od.1), sz _ (by show 36 ≤ 1000; decide), fun le re => ?_⟩
    have m8 := Sm.to (m7.trans (Sm.new (o := .lst ((((List.replicate (12 : Int).toNat [V.ref t3]).flatten ++ (List.replicate (6 : Int).toNat [V.ref lb]).flatten) ++ [V.ref pw]) ++ [V.ref c2, V.ref c5])) st)) re
    refine ⟨pn, cl, le, _, n + 9, rfl, pen8.sm (m8.trans (Sm.new re)), by omega, upd_same, pen_ne (pen8.sm m8) re, by show 0 < 36; decide, by show 36 ≤ 1000; decide, fun xf G9 hx s' f' pen10 => ⟨sz _ (by show 5 ≤ 1000; decide), fun lq nq => ?_⟩⟩
    have sT : Sx pn G8 G9 := (Sx.of (m8.trans (Sm.new re))).trans s'
    have sU : Sx pn _ G9 := (Sx.of ((Sm.new (o := .lst ((((List.replicate (12 : Int).toNat [V.ref t3]).flatten ++ (List.replicate (6 : Int).toNat [V.ref lb]).flatten) ++ [V.ref pw]) ++ [V.ref c2, V.ref c5])) st).trans (Sm.new re))).trans s'
    have xfp : Prt K G9 pn xf := all_app (p := Prt K G9 pn) (fun x hx => (tl x hx).sx sU) (fun x hx => (od.2.2 x hx).sx sT) xf hx
    obtain ⟨e2, h2, g2⟩ := px2.sx sT
    obtain ⟨e3, h3, g3⟩ := px3.sx sT
    obtain ⟨e4, h4, g4⟩ := px4.sx sT
    obtain ⟨e5, h5, g5⟩ := px5.sx sT
    obtain ⟨e6, h6, g6⟩ := xfp
    have g2 := Bool.and_eq_true_iff.mp g2
    have g3 := Bool.and_eq_true_iff.mp g3
    have g4 := Bool.and_eq_true_iff.mp g4
    have g5 := Bool.and_eq_true_iff.mp g5
    have g6 := Bool.and_eq_true_iff.mp g6
    have sV := sm_del (pn := pn) (Sx.of (Sm.new (o := .lst [x2, x3, x4, x5, xf]) nq))
    exact q lq ⟨x2, x3, x4, x5, xf, e2, e3, e4, e5, e6⟩ _ ((sx8.trans sT).trans (Sx.of (Sm.new nq))) (fr8 _ (none_sm (m8.trans (Sm.new re)) (f' _ nq))) upd_same (pen_ne pen10 nq)
      ⟨h2.sm sV, h3.sm sV, h4.sm sV, h5.sm sV, h6.sm sV, g6.2, g2.1, g3.1, g4.1, g5.1, g6.1⟩ (pen10.sm (Sm.new nq))
end
end Pk
set_option Elab.async false
set_option linter.all false
set_option maxRecDepth 100000
set_option maxHeartbeats 4000000
namespace Pk
open PySem PySem.Spec PyProof.Rows L2 Er
open PySem.ErK (EC)
section
variable {X : Cx}
/-! ### repr of data -/
def rShD (K : PySem.W.Frag) : List V → Hp → VK → Prop := fun xs H Q => ∃ (v : V) (d : PyData), xs = [v] ∧ Dp K H v d ∧ d.showable = true ∧ d.hasDict = false ∧ d.depth ≤ 20 ∧ d.shown.length ≤ 5000 ∧ Q (.str d.shown) H
theorem call_rD (hg : X.A.guards = some []) (hu : X.A.units + 64 < cLine) : CallR X (.builtin "repr") (rShD X.K) := by
  intro pins s σ H xs us Q I r h
  obtain ⟨v, d, rfl, hd, sh, nd, dp, sz, q⟩ := h
  obtain ⟨u, rfl, ru⟩ := r.one
  have fits : d.shown.length ≤ sizeLine := by
    rw [sizeLine_eq]
    omega
  obtain ⟨as, rd⟩ := Dp.reads I d v u hd ru
  cases hd with
  | non =>
    cases (show u = Value.none from ru)
    exact PySem.P.repr_of_none ⟨.str _, H, I.tok _, ⟨_, rfl⟩, q⟩
  | bl b =>
    cases (show u = Value.bool b from ru)
    refine PySem.P.repr_of_bool ⟨.str _, H, I.tok _, ⟨_, rfl⟩, ?_⟩
    cases b <;> exact q
  | int i =>
    obtain ⟨t, e⟩ := (show ∃ t, u = Value.int i t from ru)
    cases e
    exact PySem.P.repr_of_int (by simpa [PyData.showable] using sh) ⟨.str _, H, I.tok _, ⟨_, rfl⟩, q⟩
  | str z =>
    obtain ⟨t, e⟩ := (show ∃ t, u = Value.str z t from ru)
    cases e
    exact PySem.P.repr_of_str ⟨.str _, H, I.tok _, ⟨_, rfl⟩, q⟩ fits
  | lst hs ha =>
    cases ru
    exact repr_of_reads' rd sh (fun z => by rw [nd] at z; cases z) hg (by omega) (fun _ _ z => z) (fun h' w tk k => ⟨.str _, H, I.kept (t' := tk) k, ⟨w, rfl⟩, q⟩) fits
  | tup hs ha =>
    cases ru
    exact repr_of_reads' rd sh (fun z => by rw [nd] at z; cases z) hg (by omega) (fun _ _ z => z) (fun h' w tk k => ⟨.str _, H, I.kept (t' := tk) k, ⟨w, rfl⟩, q⟩) fits
/-! ### isinstance of the error that a suite holds -/
def rIsH (K : PySem.W.Frag) (C a : Addr) (cls : Value) (d : Option Addr) : List V → Hp → VK → Prop := fun xs H Q => ∃ (c : V) (cu : Value) (b : Bool) (dd : Addr) (fs : List (Str × V)), xs = [.ref a, c] ∧ ClsV c cu ∧ cls = .ref C ∧ d = some dd ∧ H dd = some (.xd fs) ∧ PySem.W.kitOne K (.ref C) cu = some b ∧ Q (.bl b) H
theorem call_isH {a C : Addr} {oe : Obj} {cls : Value} {d : Option Addr} {pn : List (Addr × Obj)} (T : L2.ExcC X.K C) (hz : Zc cls d oe) (hf : ∃ vs, oe.data = .fields vs) : CallR (X.suite a ((a, oe) :: pn)) (.builtin "isinstance") (rIsH X.K C a cls d) := by
  intro pins s σ H xs us Q I r h
  obtain ⟨c, cu, b, dd, fs, rfl, k, ec, ed, ea, e, q⟩ := h
  obtain ⟨u1, u2, rfl, r1, r2⟩ := vals2 r
  have e2 := k.eq r2
  subst e2
  obtain rfl : u1 = Value.ref a := r1
  subst ec
  subst ed
  obtain ⟨ha, _⟩ := I.pin (a, oe) (List.mem_append_left _ List.mem_cons_self)
  obtain ⟨vs, hd⟩ := hf
  have hx : ObjOk X.prog X.w H s.heap dd (.xd fs) := I.hok dd _ ea
  obtain ⟨mA, hns, hr⟩ := hx
  obtain ⟨od, ho, hl⟩ := lookIn_ns hns
  have J : PySem.W.InstAt s.heap a oe C (some od) := ⟨ha, hz.1, by unfold PySem.W.notCls; rw [hd] <;> rfl, by rw [hz.2]; exact ho⟩
  exact PySem.W.kia_one (PySem.ErK.kit_err T) I.kIn J e (fun z => nomatch z) fun tk => ⟨.bl b, H, I.tok tk, rfl, q⟩
end
end Pk
set_option Elab.async false
set_option linter.all false
set_option maxRecDepth 100000
set_option maxHeartbeats 4000000
namespace Pk
open PySem PySem.Spec PyProof.Rows L2 Er
/-! ### five parts, shown and held against each other -/
structure Fit (d : PyData) : Prop where
  sh : SeqAt.shaped d = true
  sw : d.showable = true
  nd : d.hasDict = false
  dp : d.depth ≤ 8
  sz : sz d ≤ 300
theorem fit_of {d : PyData} (h : fit d = true) : Fit d := by
  unfold fit at h
  simp only [Bool.and_eq_true, Bool.not_eq_true', decide_eq_true_eq] at h
  exact ⟨h.1, h.2.1, h.2.2.1, h.2.2.2.1, h.2.2.2.2⟩
theorem fit_mk {d : PyData} (h : Fit d) : fit d = true := by
  unfold fit
  rw [h.sh, h.sw, h.nd, decide_eq_true h.dp, decide_eq_true h.sz]
  rfl
/-- a list and a tuple of the same things -/
theorem fit_tup {ds : List PyData} (h : Fit (.list ds)) : Fit (.tuple ds) := ⟨h.sh, h.sw, h.nd, h.dp, h.sz⟩
theorem fit_lst {ds : List PyData} (h : Fit (.tuple ds)) : Fit (.list ds) := ⟨h.sh, h.sw, h.nd, h.dp, h.sz⟩
structure Five.Fits (F : Five) : Prop where
  f0 : Fit F.d0
  f1 : Fit F.d1
  f2 : Fit F.d2
  f3 : Fit F.d3
  f4 : Fit F.d4
theorem Five.Ok.fits {F : Five} {K : PySem.W.Frag} {H : Hp} (o : F.Ok K H) : F.Fits := by
  obtain ⟨a, b, c, d, e⟩ := o.fi
  exact ⟨fit_of a, fit_of b, fit_of c, fit_of d, fit_of e⟩
theorem five_show {d0 d1 d2 d3 d4 : PyData} (f0 : Fit d0) (f1 : Fit d1) (f2 : Fit d2) (f3 : Fit d3) (f4 : Fit d4) : (PyData.list [d0, d1, d2, d3, d4]).showable = true ∧ (PyData.list [d0, d1, d2, d3, d4]).hasDict = false ∧ (PyData.list [d0, d1, d2, d3, d4]).depth ≤ 20 ∧ (PyData.list [d0, d1, d2, d3, d4]).shown.length ≤ 5000 := by
  refine ⟨?_, ?_, ?_, ?_⟩
  · simp [PyData.showable, PyData.showableAll, f0.sw, f1.sw, f2.sw, f3.sw, f4.sw]
  · simp [PyData.hasDict, PyData.hasDictAll, f0.nd, f1.nd, f2.nd, f3.nd, f4.nd]
  · have := f0.dp
    have := f1.dp
    have := f2.dp
    have := f3.dp
    have := f4.dp
    simp only [PyData.depth, PyData.depthAll]
    omega
  · have := shown_sz (.list [d0, d1, d2, d3, d4])
    have a0 := shown_sz d0
    have a1 := shown_sz d1
    have a2 := shown_sz d2
    have a3 := shown_sz d3
    have a4 := shown_sz d4
    have b0 := f0.sz
    have b1 := f1.sz
    have b2 := f2.sz
    have b3 := f3.sz
    have b4 := f4.sz
    have e : sz (.list [d0, d1, d2, d3, d4]) = d0.shown.length + (d1.shown.length + (d2.shown.length + (d3.shown.length + (d4.shown.length + 0)))) + 2 * 5 + 3 := by
      show ((PyData.shownAll [d0, d1, d2, d3, d4]).map (·.length)).sum + 2 * 5 + 3 = _
      simp only [PyData.shownAll, List.map_cons, List.map_nil, List.sum_cons, List.sum_nil]
    omega
theorem five_dp {K : PySem.W.Frag} {H : Hp} {q : Addr} {p0 p1 p2 p3 p4 : V} {d0 d1 d2 d3 d4 : PyData} (e : SqL K H q [p0, p1, p2, p3, p4]) (t0 : Dt K H p0 d0) (t1 : Dt K H p1 d1) (t2 : Dt K H p2 d2) (t3 : Dt K H p3 d3) (t4 : Dt K H p4 d4) : Dp K H (.ref q) (.list [d0, d1, d2, d3, d4]) :=
  .lst e (.cons t0.dp (.cons t1.dp (.cons t2.dp (.cons t3.dp (.cons t4.dp .nil)))))
theorem one_show {d : PyData} (f : Fit d) : d.showable = true ∧ d.hasDict = false ∧ d.depth ≤ 20 ∧ d.shown.length ≤ 5000 := by
  have := f.dp
  have := f.sz
  have := shown_sz d
  exact ⟨f.sw, f.nd, by omega, by omega⟩
theorem eqv_self {d : PyData} (f : SeqAt.shaped d = true) : PyData.eqv d d = true := PySem.SeqAt.eqv_refl d (Bool.and_eq_true_iff.mp f).1
/-! ### what a good plan's parts are -/
inductive Good (K : PySem.W.Frag) (H : Hp) : Five → Prop
  | mk (z : Str) (i : Int) (p2 : V) (d2 : PyData) (b k : Bool) (a : Addr) (xs : List V) (ds : List PyData) (hz : z ∈ ways) (hi : 1 ≤ i) (hi3 : i ≤ 3) (t2 : Dt K H p2 d2) (h2 : spanD d2 = true) (hk : Sqk K H k a xs) (r : Dts K H xs ds) (hd : ds.all deedD = true) (ha : ascD ds = true) :
      Good K H ⟨.str z, .int i, p2, .bl b, .ref a, .str z, .int i, d2, .bool b, if k = true then .tuple ds else .list ds⟩
theorem wrong_none {F : Five} (h : F.wrong = none) : oneD ways F.d0 = true ∧ countD 3 F.d1 = true ∧ spanD F.d2 = true ∧ isB F.d3 = true ∧ fenceD F.d4 = true := by
  unfold Five.wrong at h
  cases e0 : oneD ways F.d0 with
  | false => simp [e0] at h
  | true =>
    cases e1 : countD 3 F.d1 with
    | false => simp [e0, e1] at h
    | true =>
      cases e2 : spanD F.d2 with
      | false => simp [e0, e1, e2] at h
      | true =>
        cases e3 : isB F.d3 with
        | false => simp [e0, e1, e2, e3] at h
        | true =>
          cases e4 : fenceD F.d4 with
          | false => simp [e0, e1, e2, e3, e4] at h
          | true => exact ⟨rfl, rfl, rfl, rfl, rfl⟩
theorem none_wrong {F : Five} (h : oneD ways F.d0 = true ∧ countD 3 F.d1 = true ∧ spanD F.d2 = true ∧ isB F.d3 = true ∧ fenceD F.d4 = true) : F.wrong = none := by
  obtain ⟨e0, e1, e2, e3, e4⟩ := h
  simp [Five.wrong, e0, e1, e2, e3, e4]
theorem Five.Ok.good {F : Five} {K : PySem.W.Frag} {H : Hp} (o : F.Ok K H) (h : F.wrong = none) : Good K H F := by
  obtain ⟨e0, e1, e2, e3, e4⟩ := wrong_none h
  obtain ⟨p0, p1, p2, p3, p4, d0, d1, d2, d3, d4⟩ := F
  obtain ⟨t0, t1, t2, t3, t4, s4, fi⟩ := o
  dsimp only at *
  cases t0 with
  | str z =>
    cases t1 with
    | int i =>
      cases t3 with
      | bl b =>
        rcases t4.seq with ⟨k, a, xs, ds, rfl, ea, r, rfl, il⟩ | ⟨_, ef⟩
        · rw [fence_of, Bool.and_eq_true] at e4
          have c : (decide (1 ≤ i) && decide (i ≤ 3)) = true := e1
          rw [Bool.and_eq_true] at c
          exact .mk z i p2 d2 b k a xs ds (of_decide_eq_true e0) (of_decide_eq_true c.1) (of_decide_eq_true c.2) t2 e2 ea r e4.1 e4.2
        · rw [ef] at e4
          cases e4
      | _ => cases e3
    | _ => cases e1
  | _ => cases e0
/-- F with another part in the place j -/
def Five.put (F : Five) (v : V) (d : PyData) : Nat → Five
  | 0 => { F with p0 := v, d0 := d }
  | 1 => { F with p1 := v, d1 := d }
  | 2 => { F with p2 := v, d2 := d }
  | 3 => { F with p3 := v, d3 := d }
  | _ => { F with p4 := v, d4 := d }
theorem Five.put_list (F : Five) (v : V) (d : PyData) (j : Nat) (h : j < 5) : cutV F.list none (some (j : Int)) ++ [v] ++ cutV F.list (some ((j : Int) + 1)) none = (F.put v d j).list := by
  match j, h with
  | 0, _ => rfl
  | 1, _ => rfl
  | 2, _ => rfl
  | 3, _ => rfl
  | 4, _ => rfl
theorem Five.put_ok {F : Five} {K : PySem.W.Frag} {H : Hp} (o : F.Ok K H) {v : V} {d : PyData} (j : Nat) (t : Dt K H v d) (f : Fit d) (s : j < 4 ∨ short2 d = true) : (F.put v d j).Ok K H := by
  obtain ⟨t0, t1, t2, t3, t4, s4, f0, f1, f2, f3, f4⟩ := o
  have g := fit_mk f
  match j, s with
  | 0, _ => exact ⟨t, t1, t2, t3, t4, s4, g, f1, f2, f3, f4⟩
  | 1, _ => exact ⟨t0, t, t2, t3, t4, s4, f0, g, f2, f3, f4⟩
  | 2, _ => exact ⟨t0, t1, t, t3, t4, s4, f0, f1, g, f3, f4⟩
  | 3, _ => exact ⟨t0, t1, t2, t, t4, s4, f0, f1, f2, g, f4⟩
  | n + 4, s => exact ⟨t0, t1, t2, t3, t, s.resolve_left (by omega), f0, f1, f2, f3, g⟩
/-- tuple(xs) of a list or a tuple, by one way on -/
def rTupA (K : PySem.W.Frag) : List V → Hp → VK → Prop := fun vs H Q => ∃ (k : Bool) (a : Addr) (xs : List V), vs = [.ref a] ∧ Sqk K H k a xs ∧ ∀ st G, Sm H G → SqT K G st xs → Q (.ref st) G
theorem call_tupA {X : Cx} : CallR X (.type "tuple") (rTupA X.K) := by
  intro pins s σ H vs us Q I r h
  obtain ⟨k, a, xs, e, h, q⟩ := h
  cases k with
  | false => exact call_tuple_of pins s σ H vs us Q I r ⟨a, xs, e, .inl ⟨.inl (.inl h), fun l nl => q l _ (Sm.new nl) (.inl (.inl upd_same))⟩⟩
  | true => exact call_tuple_of pins s σ H vs us Q I r ⟨a, xs, e, .inr ⟨h, q a H (Sm.refl H) h⟩⟩
/-- list(xs) likewise -/
def rLstA (K : PySem.W.Frag) : List V → Hp → VK → Prop := fun vs H Q => ∃ (k : Bool) (a : Addr) (xs : List V), vs = [.ref a] ∧ Sqk K H k a xs ∧ ∀ l, H l = none → Q (.ref l) (upd H l (.lst xs))
theorem call_lstA {X : Cx} : CallR X (.type "list") (rLstA X.K) := by
  intro pins s σ H vs us Q I r h
  obtain ⟨k, a, xs, e, h, q⟩ := h
  cases k with
  | false => exact call_list_of pins s σ H vs us Q I r ⟨a, xs, e, .inl (.inl (.inl h)), q⟩
  | true => exact call_list_of pins s σ H vs us Q I r ⟨a, xs, e, .inr h, q⟩
/-- what two things of a plan are, held against each other -/
theorem eqv_lists (xs ys : List PyData) : PyData.eqv (.tuple xs) (.tuple ys) = PyData.eqv (.list xs) (.list ys) := by
  simp [PyData.eqv]
theorem way_other (z : Str) (h : z ∈ ways) : oneD ways (.str (if z = ("letter" : Str) then "key" else "letter")) = true ∧ PyData.eqv (.str z) (.str (if z = ("letter" : Str) then "key" else "letter")) = false := by
  by_cases c : z = ("letter" : Str)
  · subst c
    exact ⟨by decide +kernel, by decide +kernel⟩
  · rw [if_neg c]
    refine ⟨by decide +kernel, ?_⟩
    show (z == ("letter" : Str)) = false
    exact beq_eq_false_iff_ne.mpr c
theorem tries_other (i : Int) (h : 1 ≤ i) (h3 : i ≤ 3) : countD 3 (.int (i % 3 + 1)) = true ∧ PyData.eqv (.int i) (.int (i % 3 + 1)) = false := by
  constructor
  · show (decide (1 ≤ i % 3 + 1) && decide (i % 3 + 1 ≤ 3)) = true
    rw [decide_eq_true (by omega), decide_eq_true (by omega)]
    rfl
  · show (i == i % 3 + 1) = false
    exact beq_eq_false_iff_ne.mpr (by omega)
theorem span_other {d : PyData} (h : spanD d = true) : (PyData.eqv d (.int 5) = false → spanD (.int 5) = true) ∧ (PyData.eqv d (.int 5) = true → spanD .none = true ∧ PyData.eqv d .none = false) := by
  refine ⟨fun _ => by decide +kernel, fun e => ⟨rfl, ?_⟩⟩
  cases d <;> first | rfl | cases e
theorem seal_other (b : Bool) : isB (.bool (!b)) = true ∧ PyData.eqv (.bool b) (.bool (!b)) = false := by
  cases b <;> exact ⟨rfl, rfl⟩
theorem fit_int {i : Int} (h : i.natAbs ≤ 12) : Fit (.int i) := by
  have : i = 0 ∨ i = 1 ∨ i = 2 ∨ i = 3 ∨ i = 4 ∨ i = 5 ∨ i = 6 ∨ i = 7 ∨ i = 8 ∨ i = 9 ∨ i = 10 ∨ i = 11 ∨ i = 12 ∨ i = -1 ∨ i = -2 ∨ i = -3 ∨ i = -4 ∨ i = -5 ∨ i = -6 ∨ i = -7 ∨ i = -8 ∨ i = -9 ∨ i = -10 ∨ i = -11 ∨ i = -12 := by omega
  rcases this with rfl | rfl | rfl | rfl | rfl | rfl | rfl | rfl | rfl | rfl | rfl | rfl | rfl | rfl | rfl | rfl | rfl | rfl | rfl | rfl | rfl | rfl | rfl | rfl | rfl <;> exact fit_of (by decide +kernel)
end Pk
set_option Elab.async false
set_option linter.all false
set_option maxRecDepth 100000
set_option maxHeartbeats 4000000
namespace Pk
open PySem PySem.Spec PyProof.Rows L2 Er
/-! ### what the law turns -/
theorem ite_val {c : Bool} {x y : V} {σ : L2.St} {H : Hp} {Q : VK} (h : Q (if c = true then x else y) H) : if c = true then tC x σ H Q else tC y σ H Q := by
  cases c with
  | true => exact h
  | false => exact h
theorem other_fence {K : PySem.W.Frag} {c : Bool} {σ : L2.St} {H : Hp} {Q : VK}
    (q : ∀ (k : Bool) (a : Addr) (ys : List V) (es : List PyData) H', Sm H H' → Sqk K H' k a ys → Dts K H' ys es → (k = c ∧ es = if c = true then [] else [.tuple [.int 0, .str "x"]]) → Q (.ref a) H') :
    if c = true then tTup tNil σ H Q else tLst (tCons (tTup (tCons (tC (.int 0)) (tCons (tC (.str "x")) tNil))) tNil) σ H Q := by
  cases c with
  | true => exact ⟨Nat.zero_le _, fun t nt => q true t [] [] _ (Sm.new nt) (.inl (.inl upd_same)) .nil ⟨rfl, rfl⟩⟩
  | false =>
    refine ⟨by show 2 ≤ sizeLine; rw [sizeLine_eq]; decide, fun t nt => ⟨by show 1 ≤ sizeLine; rw [sizeLine_eq]; decide, fun l nl => ?_⟩⟩
    exact q false l [.ref t] [.tuple [.int 0, .str "x"]] _ ((Sm.new nt).trans (Sm.new nl)) upd_same (.cons (.tup (.inl (.inl (Sm.new nl _ _ upd_same))) (.cons (.int 0) (.cons (.str _) .nil))) .nil) ⟨rfl, rfl⟩
def Other (K : PySem.W.Frag) (G : Hp) (F : Five) (ds : List PyData) (j : Nat) (v : V) : Prop :=
  ∃ d, Dt K G v d ∧ Fit d ∧ (j < 4 ∨ short2 d = true) ∧ (F.put v d j).wrong = none ∧ ((j < 4 ∧ ∀ es, sameP F (F.put v d j) ds es = false) ∨ (j = 4 ∧ ∃ (k : Bool) (a : Addr) (ys : List V) (es : List PyData), v = .ref a ∧ Sqk K G k a ys ∧ Dts K G ys es ∧ d = (if k = true then .tuple es else .list es)))
theorem Other.sm {K : PySem.W.Frag} {G G' : Hp} {F : Five} {ds : List PyData} {j : Nat} {v : V} (o : Other K G F ds j v) (m : Sm G G') : Other K G' F ds j v := by
  obtain ⟨d, t, f, s, w, h⟩ := o
  refine ⟨d, t.sm m, f, s, w, ?_⟩
  rcases h with h | ⟨hj, k, a, ys, es, e, sq, r, ed⟩
  · exact .inl h
  · exact .inr ⟨hj, k, a, ys, es, e, sq.sm m, r.sm m, ed⟩
theorem others {K : PySem.W.Frag} {G : Hp} {z : Str} {i0 : Int} {p2 : V} {d2 : PyData} {b k : Bool} {a4 a5 : Addr} {ds es : List PyData} {d4 : PyData} {ys : List V} (hz : z ∈ ways) (hi : 1 ≤ i0) (hi3 : i0 ≤ 3) (h2 : spanD d2 = true) (h4 : fenceD d4 = true)
    (w : Five.wrong ⟨.str z, .int i0, p2, .bl b, .ref a4, .str z, .int i0, d2, .bool b, d4⟩ = none) (sq : Sqk K G k a5 ys) (r : Dts K G ys es) (he : es = if k = true then [] else [.tuple [.int 0, .str "x"]]) :
    ∀ (j : Nat) (v : V), [V.str (if z = ("letter" : Str) then "key" else "letter"), .int (i0 % 3 + 1), if (!PyData.eqv d2 (.int 5)) = true then .int 5 else .non, .bl (!b), .ref a5][j]? = some v → Other K G ⟨.str z, .int i0, p2, .bl b, .ref a4, .str z, .int i0, d2, .bool b, d4⟩ ds j v := by
  obtain ⟨e0, e1, e2, e3, e4⟩ := wrong_none w
  dsimp only at e0 e1 e2 e3 e4
  intro j v hv
  match j, hv with
  | 0, hv =>
    have hv := Option.some.inj hv
    subst hv
    have o := way_other z hz
    refine ⟨_, .str _, ?_, .inl (by decide), none_wrong ⟨o.1, e1, e2, e3, e4⟩, .inl ⟨by decide, fun es => ?_⟩⟩
    · by_cases c : z = ("letter" : Str)
      · rw [if_pos c]
        exact fit_of (by decide +kernel)
      · rw [if_neg c]
        exact fit_of (by decide +kernel)
    · unfold sameP
      show (PyData.eqv (.str z) (.str (if z = ("letter" : Str) then "key" else "letter")) && _) = false
      rw [o.2, Bool.false_and]
  | 1, hv =>
    have hv := Option.some.inj hv
    subst hv
    have o := tries_other i0 hi hi3
    refine ⟨_, .int _, fit_int (by omega), .inl (by decide), none_wrong ⟨e0, o.1, e2, e3, e4⟩, .inl ⟨by decide, fun es => ?_⟩⟩
    unfold sameP
    show (_ && (PyData.eqv (.int i0) (.int (i0 % 3 + 1)) && _)) = false
    rw [o.2, Bool.false_and, Bool.and_false]
  | 2, hv =>
    have hv := Option.some.inj hv
    subst hv
    have o := span_other h2
    cases c : PyData.eqv d2 (.int 5) with
    | false =>
      refine ⟨.int 5, .int 5, fit_int (by decide), .inl (by decide), none_wrong ⟨e0, e1, o.1 c, e3, e4⟩, .inl ⟨by decide, fun es => ?_⟩⟩
      unfold sameP
      show (_ && (_ && (PyData.eqv d2 (.int 5) && _))) = false
      rw [c, Bool.false_and, Bool.and_false, Bool.and_false]
    | true =>
      refine ⟨.none, .non, fit_of (by decide +kernel), .inl (by decide), none_wrong ⟨e0, e1, (o.2 c).1, e3, e4⟩, .inl ⟨by decide, fun es => ?_⟩⟩
      unfold sameP
      show (_ && (_ && (PyData.eqv d2 .none && _))) = false
      rw [(o.2 c).2, Bool.false_and, Bool.and_false, Bool.and_false]
  | 3, hv =>
    have hv := Option.some.inj hv
    subst hv
    have o := seal_other b
    refine ⟨_, .bl _, ?_, .inl (by decide), none_wrong ⟨e0, e1, e2, o.1, e4⟩, .inl ⟨by decide, fun es => ?_⟩⟩
    · cases b <;> exact fit_of (by decide +kernel)
    · unfold sameP
      show (_ && (_ && (_ && (PyData.eqv (.bool b) (.bool (!b)) && _)))) = false
      rw [o.2, Bool.false_and, Bool.and_false, Bool.and_false, Bool.and_false]
  | 4, hv =>
    have hv := Option.some.inj hv
    subst hv
    subst he
    cases k with
    | true => exact ⟨.tuple [], .tup sq r, fit_of (by decide +kernel), .inr (by decide +kernel), none_wrong ⟨e0, e1, e2, e3, (by decide +kernel : fenceD (.tuple []) = true)⟩, .inr ⟨rfl, true, a5, ys, _, rfl, sq, r, rfl⟩⟩
    | false => exact ⟨.list [.tuple [.int 0, .str "x"]], .lst sq r, fit_of (by decide +kernel), .inr (by decide +kernel), none_wrong ⟨e0, e1, e2, e3, (by decide +kernel : fenceD (.list [.tuple [.int 0, .str "x"]]) = true)⟩, .inr ⟨rfl, false, a5, ys, _, rfl, sq, r, rfl⟩⟩
  | n + 5, hv => cases hv
/-! ### a list that is no part of a plan may be changed -/
theorem SqT.put {K : PySem.W.Frag} {H : Hp} {a g : Addr} {xs ys zs : List V} (h : SqT K H a xs) (hg : H g = some (.lst ys)) : SqT K (upd H g (.lst zs)) a xs := by
  rcases h with (h | ⟨o, h⟩) | h
  · exact .inl (.inl (by rw [upd_ne (fun z => by rw [z, hg] at h; cases h)]; exact h))
  · exact .inl (.inr ⟨o, by rw [upd_ne (fun z => by rw [z, hg] at h; cases h)]; exact h⟩)
  · exact .inr h
theorem Dt.putD {K : PySem.W.Frag} {H : Hp} {g : Addr} {ys zs : List V} {v : V} {d : PyData} (h : Dt K H v d) (hd : deedD d = true) (hg : H g = some (.lst ys)) : Dt K (upd H g (.lst zs)) v d := by
  obtain ⟨i, z, rfl, _⟩ := deed_shape hd
  cases h with
  | tup e r =>
    cases r with
    | cons h0 r0 =>
      cases r0 with
      | cons h1 r1 =>
        cases r1 with
        | nil =>
          cases h0 with
          | int =>
            cases h1 with
            | str => exact .tup (SqT.put e hg) (.cons (.int i) (.cons (.str z) .nil))
theorem Dts.putD {K : PySem.W.Frag} {H : Hp} {g : Addr} {ys zs : List V} : ∀ {vs : List V} {ds : List PyData}, Dts K H vs ds → ds.all deedD = true → H g = some (.lst ys) → Dts K (upd H g (.lst zs)) vs ds
  | _, _, .nil, _, _ => .nil
  | _, _, .cons h r, hd, hg => by
    rw [List.all_cons, Bool.and_eq_true] at hd
    exact .cons (h.putD hd.1 hg) (Dts.putD r hd.2 hg)
theorem Dt.flat {K : PySem.W.Frag} {H H' : Hp} {v : V} {d : PyData} (h : Dt K H v d) (s : spanD d = true) : Dt K H' v d := by
  cases h with
  | non => exact .non
  | int i => exact .int i
  | str z => exact .str z
  | _ => cases s
theorem PlanAt.put {K : PySem.W.Frag} {H : Hp} {C x ft g : Addr} {z : Str} {i0 : Int} {p2 p4 : V} {b : Bool} {d2 d4 : PyData} {fx : List V} {ds : List PyData} {ys zs : List V} (p : PlanAt K H C x ⟨.str z, .int i0, p2, .bl b, p4, .str z, .int i0, d2, .bool b, d4⟩ ft fx ds) (h2 : spanD d2 = true) (hd : ds.all deedD = true) (hg : H g = some (.lst ys)) :
    PlanAt K (upd H g (.lst zs)) C x ⟨.str z, .int i0, p2, .bl b, p4, .str z, .int i0, d2, .bool b, d4⟩ ft fx ds := by
  obtain ⟨⟨dx, e⟩, f, r, t0, t1, t2, t3, s0, s1, s2, s3, s4⟩ := p
  exact ⟨⟨dx, by rw [upd_ne (fun q => by rw [q, hg] at e; cases e)]; exact e⟩, SqT.put f hg, r.putD hd hg, .str z, .int i0, t2.flat h2, .bl b, s0, s1, s2, s3, s4⟩
end Pk
set_option Elab.async false
set_option linter.all false
set_option maxRecDepth 100000
set_option maxHeartbeats 8000000
namespace Pk
open PySem PySem.Spec PyProof.Rows L2 Er
open PySem.ErK (EC)
/-- what stands behind the top -/
structure Fns (K : PySem.W.Frag) (mg : Str → Option Value) (C CB DE fB fP aW fE : Addr) (dB dP dE : FuncData) (kws : List (Str × V)) (g1 g2 g3 g4 g5 q1 q2 q3 q4 q5 : Addr) (h1 h2 h3 h4 h5 : FuncData) (fI fN fO fC fW fF fD : Addr) (dI dN dO dC dW dF dD : FuncData) (fS fOp fT fA fOn fWh fLf fWr fDr fOf : Addr) (dS dOp dT dA dOn dWh dLf dWr dDr dOf : FuncData) : Prop where
  B : Bp K mg CB fB dB
  T : PlC K mg C
  M : Mk K C fP
  FP : FunD K "__init__" "Plan.__init__" (defArgs (meth 0)) (defBody (meth 0)) (defScope (meth 0)) [] kws fP dP
  FE : FunD K "__eq__" "Plan.__eq__" (defArgs (meth 6)) (defBody (meth 6)) (defScope (meth 6)) [] [] fE dE
  eq1 : PySem.W.findIn K (.ref C) "__eq__" = some (some (.ref fE))
  eq2 : PySem.W.isFn K (.ref fE) = true
  P1 : PropOf K C "way" q1 g1
  P2 : PropOf K C "tries" q2 g2
  P3 : PropOf K C "window" q3 g3
  P4 : PropOf K C "stamp" q4 g4
  P5 : PropOf K C "fence" q5 g5
  F1 : FunD K "way" "Plan.way" (defArgs (meth 1)) (defBody (meth 1)) (defScope (meth 1)) [] [] g1 h1
  F2 : FunD K "tries" "Plan.tries" (defArgs (meth 2)) (defBody (meth 2)) (defScope (meth 2)) [] [] g2 h2
  F3 : FunD K "window" "Plan.window" (defArgs (meth 3)) (defBody (meth 3)) (defScope (meth 3)) [] [] g3 h3
  F4 : FunD K "stamp" "Plan.stamp" (defArgs (meth 4)) (defBody (meth 4)) (defScope (meth 4)) [] [] g4 h4
  F5 : FunD K "fence" "Plan.fence" (defArgs (meth 5)) (defBody (meth 5)) (defScope (meth 5)) [] [] g5 h5
  gD : mg "DeskError" = some (.ref DE)
  te : PySem.W.exmOne K (.ref CB) (.ref DE) = some true
  kB : PySem.W.kitOne K (.ref CB) (.ref CB) = some true
  gW : mg "WAYS" = some (.ref aW)
  tW : ∀ H, SqT K H aW (ways.map V.str)
  mT : ∃ t, mg "MOST_TRIES" = some (.int 3 t)
  mM : ∃ t, mg "MOST_WINDOW" = some (.int 12 t)
  mE : ∃ t, mg "EVER" = some (.str "ever" t)
  FI : FnP K "is_int" (top 4) fI dI
  gI : mg "is_int" = some (.ref fI)
  FN : FnP K "is_name" (top 5) fN dN
  gN : mg "is_name" = some (.ref fN)
  FD : FnP K "is_deed_name" (top 16) fD dD
  gDn : mg "is_deed_name" = some (.ref fD)
  cs : Calls K mg fO fC fW fF dO dC dW dF
  FS : FnP K "_law_spread" (top 18) fS dS
  gS : mg "_law_spread" = some (.ref fS)
  FOp : FnP K "_law_open" (top 19) fOp dOp
  gOp : mg "_law_open" = some (.ref fOp)
  FT : FnP K "_law_take" (top 20) fT dT
  gT : mg "_law_take" = some (.ref fT)
  FA : FnP K "_law_anew" (top 21) fA dA
  gA : mg "_law_anew" = some (.ref fA)
  FOn : FnP K "_law_one" (top 22) fOn dOn
  gOn : mg "_law_one" = some (.ref fOn)
  FWh : FnP K "_law_is_whole" (top 23) fWh dWh
  gWh : mg "_law_is_whole" = some (.ref fWh)
  FLf : FnP K "_law_is_fence" (top 24) fLf dLf
  gLf : mg "_law_is_fence" = some (.ref fLf)
  FWr : FnP K "_law_wrong" (top 25) fWr dWr
  gWr : mg "_law_wrong" = some (.ref fWr)
  FDr : FnP K "_law_drawn_parts" (top 26) fDr dDr
  gDr : mg "_law_drawn_parts" = some (.ref fDr)
  FOf : FnP K "_law_plan_of" (top 27) fOf dOf
  gOf : mg "_law_plan_of" = some (.ref fOf)
  hk : kws.map (·.1) = ([("tries" : Str), "window", "stamp", "fence"] : List Str)
  kv : ∃ e, kws.map (·.2) = [.int 1, .non, .bl false, .ref e] ∧ ∀ H, SqT K H e []
  mi : mg "isinstance" = none
  mn : mg "int" = none
  mb : mg "bool" = none
  ms : mg "str" = none
  ml : mg "len" = none
  ma : mg "all" = none
  mz : mg "zip" = none
  mL : mg "list" = none
  mU : mg "tuple" = none
  mN : mg "enumerate" = none
  mR : mg "range" = none
  mr : mg "repr" = none
theorem kchain (D : Addr) (doc pm : Value) (an : Option Addr) (cdv ct : Value) (a b k1 k2 k3 k4 : Value) :
    KwChain D (([("tries" : Str), "window", "stamp", "fence"] : List Str).zip [k1, k2, k3, k4]) (bindArgs (PySem.W.fnOf "__init__" "Plan.__init__" (defArgs (meth 0)) (defBody (meth 0)) (defScope (meth 0)) .none (.ref D) doc pm an cdv ct) ⟨[a, b], []⟩) (nInit.zip ([a, b] ++ [k1, k2, k3, k4])) :=
  ⟨_, _, _, _, _, _, rfl, rfl, _, _, _, _, _, _, rfl, rfl, _, _, _, _, _, _, rfl, rfl, _, _, _, _, _, _, rfl, rfl, rfl⟩
theorem takesN {X : Cx} : Takes X (fun _ _ _ _ => False) := fun _ _ ⟨_, _, _, _, _, _, _, _, _, _, _, _, _, _, _, _, w⟩ => w.elim
/-- no data of the program's own stands yet, but the script -/
def Only (H : Hp) : Prop := ∀ b, H b = none ∨ ∃ ob xs, H b = some (.frz ob (.lst xs))
def spLaw (K : PySem.W.Frag) : Sp := fun vs H Q _ => ∃ (a : Addr) (ns : List Int), vs = [.ref a] ∧ SqL K H a (ns.map V.int) ∧ ns.length ≤ 63 ∧ (∀ z ∈ ns, Builtin.Int.intBits z ≤ 1048576) ∧ ∀ H', Q (.bl true) H'
abbrev nW : List Str := ["_law_script", "_law_pen", "_law_time", "_law_parts", "_law_kept", "_law_wrongs", "_law_plan", "e", "_law_told", "_law_again", "_law_turned", "_law_at", "_law_other", "_law_less", "_law_given", "_law_plain"]
theorem scW : FnScope nW ["_law_script"] (defScope (top 28)) := ⟨rfl, rfl, rfl, by decide +kernel, rfl, by decide +kernel, by decide +kernel⟩
section
variable {P : Program} {w : World} {K : PySem.W.Frag} {mg : Str → Option Value} {base : Heap} {f C CB DE fB fP aW fE g1 g2 g3 g4 g5 q1 q2 q3 q4 q5 fI fN fO fC fW fF fD fS fOp fT fA fOn fWh fLf fWr fDr fOf : Addr} {dB dP dE h1 h2 h3 h4 h5 dI dN dO dC dW dF dD dS dOp dT dA dOn dWh dLf dWr dDr dOf : FuncData} {kws : List (Str × V)}
theorem law_body (Z : Fns K mg C CB DE fB fP aW fE dB dP dE kws g1 g2 g3 g4 g5 q1 q2 q3 q4 q5 h1 h2 h3 h4 h5 fI fN fO fC fW fF fD dI dN dO dC dW dF dD fS fOp fT fA fOn fWh fLf fWr fDr fOf dS dOp dT dA dOn dWh dLf dWr dDr dOf) {cdv : Value} {A : Around} {outer : List Env} {s : Shared} {H : Hp} {vs : List V} {Q : VK} {E : XK} (hg : A.guards = some []) (hr : Room 6 (A.deeper (envOfC "law" (defScope (top 28)) s.heap.objs.size f cdv))) (h : spLaw K vs H Q E) :
    ∃ t, PSs (cxOf CX0 P w K mg base nW "law" (defScope (top 28)) f cdv A outer s H E) (defBody (top 28)) t ∧ t { nx := fun _ H' => Q .non H', rt := Q } (start nW vs) H := by
  have ne : kws ≠ [] := fun z => by
    have := Z.hk
    rw [z] at this
    cases this
  have GI : FnOk P w K mg base CX0 1 fI dI nVal (spIsInt K) := ok_isint Z.FI Z.mi Z.mn Z.mb
  have GN : FnOk P w K mg base CX0 1 fN dN nVal (spIsName K) := ok_isname Z.FN Z.mi Z.ms Z.ml Z.ma
  have GO : FnOk P w K mg base CX0 1 fO dO nOneOf (spOneOf K) := ok_oneof Z.cs.FO Z.mi Z.ms
  have GC : FnOk P w K mg base CX0 2 fC dC nCount (spCount K) := ok_count Z.cs.FC Z.mi Z.mn Z.mb Z.FI Z.gI
  have GW : FnOk P w K mg base CX0 3 fW dW nVal (spWindow K) := ok_window Z.cs.FW Z.mM Z.mE GC Z.cs.FC Z.cs.gC GO Z.cs.FO Z.cs.gO
  have GD : FnOk P w K mg base CX0 2 fD dD nVal (spDeedN K) := ok_deedn Z.FD Z.mi Z.mU Z.ml GI Z.FI Z.gI GN Z.FN Z.gN
  have GF : FnOk P w K mg base CX0 3 fF dF nVal (spFence K) := ok_fenced Z.cs.FF Z.mi Z.mL Z.mU Z.ma Z.mz GD Z.FD Z.gDn
  have GP : FnOk P w K mg base (L2.CX P w) 4 fP dP nInit (spPlan K C CB) := ok_init Z.FP Z.B Z.T.cl Z.T.n1 Z.T.n2 Z.T.n3 Z.T.n4 Z.T.n5 Z.mi Z.mb Z.mU Z.gW Z.tW Z.mT Z.cs GO GC GW GF
  have GE : FnOk P w K mg base CX0 1 fE dE nEq (spEqP K C) := ok_eq Z.FE Z.mi Z.T
  have G1 : FnOk P w K mg base CX0 1 g1 h1 nSelf (getSp C "_way") := ok_get1 Z.F1 Z.T
  have G2 : FnOk P w K mg base CX0 1 g2 h2 nSelf (getSp C "_tries") := ok_get2 Z.F2 Z.T
  have G3 : FnOk P w K mg base CX0 1 g3 h3 nSelf (getSp C "_window") := ok_get3 Z.F3 Z.T
  have G4 : FnOk P w K mg base CX0 1 g4 h4 nSelf (getSp C "_stamp") := ok_get4 Z.F4 Z.T
  have G5 : FnOk P w K mg base CX0 1 g5 h5 nSelf (getSp C "_fence") := ok_get5 Z.F5 Z.T
  have GT : FnOk P w K mg base CX0 2 fT dT ["_law_pen", "_law_many"] spTake := ok_take Z.FT Z.mn Z.ml Z.FS Z.gS
  have GOn : FnOk P w K mg base CX0 3 fOn dOn nOne spOne := ok_one Z.FOn Z.ml GT Z.FT Z.gT
  have GDr : FnOk P w K mg base CX0 4 fDr dDr ["_law_pen"] (spDrawn K) := ok_drawn Z.FDr Z.mU GT Z.FT Z.gT GOn Z.FOn Z.gOn
  have GA : FnOk P w K mg base CX0 1 fA dA ["_law_pen"] spAnew := ok_anew Z.FA
  have GOp : FnOk P w K mg base CX0 1 fOp dOp ["_law_script"] (spOpen K) := ok_open Z.FOp Z.mn Z.mL Z.mN
  have GWh : FnOk P w K mg base CX0 1 fWh dWh nWhole (spIsInt K) := ok_whole Z.FWh Z.mi Z.mn Z.mb
  have GLf : FnOk P w K mg base CX0 2 fLf dLf nWhole (spFence K) := ok_lfence Z.FLf Z.mi Z.mL Z.mU Z.ml Z.ms Z.mz GWh Z.FWh Z.gWh
  have GWr : FnOk P w K mg base CX0 3 fWr dWr ["_law_parts"] (spWrong K) := ok_wrong Z.FWr Z.mi Z.ms Z.mb GWh Z.FWh Z.gWh GLf Z.FLf Z.gLf
  have GOf : FnOk P w K mg base (L2.CX P w) 6 fOf dOf ["_law_parts"] (spOf K C CB) := ok_of Z.FOf Z.FP ne Z.M Z.T.g GP
  have bOf : Binds K dOf ["_law_parts"] [] := Z.FOf.bindsN fun _ _ _ _ _ _ us hl => match us, hl with
    | [_], _ => rfl
  have bWr : Binds K dWr ["_law_parts"] [] := Z.FWr.bindsN fun _ _ _ _ _ _ us hl => match us, hl with
    | [_], _ => rfl
  have bDr : Binds K dDr ["_law_pen"] [] := Z.FDr.bindsN fun _ _ _ _ _ _ us hl => match us, hl with
    | [_], _ => rfl
  have bA : Binds K dA ["_law_pen"] [] := Z.FA.bindsN fun _ _ _ _ _ _ us hl => match us, hl with
    | [_], _ => rfl
  have bOp : Binds K dOp ["_law_script"] [] := Z.FOp.bindsN fun _ _ _ _ _ _ us hl => match us, hl with
    | [_], _ => rfl
  have bE : Binds K dE nEq [] := Z.FE.bindsN fun _ _ _ _ _ _ us hl => match us, hl with
    | [_, _], _ => rfl
  have b1 : Binds K h1 nSelf [] := Z.F1.bindsN fun _ _ _ _ _ _ us hl => match us, hl with
    | [_], _ => rfl
  have b2 : Binds K h2 nSelf [] := Z.F2.bindsN fun _ _ _ _ _ _ us hl => match us, hl with
    | [_], _ => rfl
  have b3 : Binds K h3 nSelf [] := Z.F3.bindsN fun _ _ _ _ _ _ us hl => match us, hl with
    | [_], _ => rfl
  have b4 : Binds K h4 nSelf [] := Z.F4.bindsN fun _ _ _ _ _ _ us hl => match us, hl with
    | [_], _ => rfl
  have b5 : Binds K h5 nSelf [] := Z.F5.bindsN fun _ _ _ _ _ _ us hl => match us, hl with
    | [_], _ => rfl
  have hr1 := hr.mono (show 1 ≤ 6 by decide)
  have hr2 := hr.mono (show 2 ≤ 6 by decide)
  have hr3 := hr.mono (show 3 ≤ 6 by decide)
  have hr4 := hr.mono (show 4 ≤ 6 by decide)
  have hr5 := hr.mono (show 5 ≤ 6 by decide)
  have rep : CallR (cxOf CX0 P w K mg base nW "law" (defScope (top 28)) f cdv A outer s H E).nox (.builtin "repr") (rShD K) := call_rD hg hr.units
  have eqP : OpR (cxOf CX0 P w K mg base nW "law" (defScope (top 28)) f cdv A outer s H E).nox (compareOp .Eq) (rEqP C (spEqP K C) E0) := op_eqP GE Z.eq1 Z.eq2 bE hr1 pass0 Z.T.nI Z.T.nS
  obtain ⟨e, hv, hE⟩ := Z.kv
  obtain ⟨dsK, vKw, bKw⟩ := Z.FP.binds0 (ps := nInit) 2 ne (by have := congrArg List.length Z.hk; rw [List.length_map] at this; rw [this]; rfl) (fun D doc pm an cdv ct us ks l1 l2 => by
    rw [Z.hk]
    have l2 : ks.length = 4 := by
      have := congrArg List.length Z.hk
      rw [List.length_map] at this
      rw [l2, this]
      rfl
    match us, ks, l1, l2 with
    | [a, b], [k1, k2, k3, k4], _, _ => exact kchain D doc pm an cdv ct a b k1 k2 k3 k4)
  refine ⟨_, PSs.nox (pss_cons (ps_set (i := 1) scW.nd rfl (.inl rfl) (by exact (pe_call GOp hr1 rfl Z.gOp Z.FOp.kp bOp .nil pass0 (pa_cons (pv 0) pa_nil))))
        (pss_cons (ps_for PassesOwn.never rfl (pi_range1 rfl Z.mR (pa_cons pe_int pa_nil)) (pg_name (i := 2) scW.nd rfl (.inl rfl))
        (pss_cons (ps_set (i := 3) scW.nd rfl (.inl rfl) (by exact (pe_call GDr hr4 rfl Z.gDr Z.FDr.kp bDr .nil pass0 (pa_cons (by exact (pe_call GA hr1 rfl Z.gA Z.FA.kp bA .nil pass0 (pa_cons (pv 1) pa_nil))) pa_nil))))
        (pss_cons (ps_par (i := 4) (j := 5) rfl scW.nd rfl rfl (by decide) rfl rfl (pa_cons (pe_callB rep rfl Z.mr PyProof.Rows.boot_repr (pa_cons (pv 3) pa_nil)) (pa_cons (by exact (pe_call GWr hr3 rfl Z.gWr Z.FWr.kp bWr .nil pass0 (pa_cons (pv 3) pa_nil))) pa_nil)) (by rfl))
        (pss_cons (ps_try_as (i := 7) (Wout := fun _ _ _ _ => False) rfl rfl scW.nd rfl rfl ⟨rfl, by decide, .inl Z.gD⟩ takesN (fun W pn xe tk _ => pss_one (ps_set (i := 6) scW.nd rfl (.inl rfl) (by exact (pe_callS GOf hr rfl Z.gOf Z.FOf.kp bOf (fun σ => passAt tk σ) (pa_cons (pv 3) pa_nil))))) (fun a oe cls d pn hz hf => by exact (pss_cons (ps_if (PW.pt (pw_or (pt_cmpR (show OpR _ _ (rEqD K) from op_eqD hr.units) (pv 5) (pe_lst pa_nil) (nomark _)) (pw_or (pt_not (pt_val (by exact (pe_callB (show CallR _ _ (rIsH K CB a cls d) from call_isH (C := CB) Z.B.ec.xc hz hf) rfl Z.mi PyProof.Rows.boot_isinstance (pa_cons (pv 7) (pa_cons (pe_glob (v := .ref CB) rfl Z.B.g rfl) pa_nil)))))) (pw_or1 (pt_cmpR op_ne (pe_callB (show CallR _ _ (rShD K) from call_rD hg hr.units) rfl Z.mr PyProof.Rows.boot_repr (pa_cons (pv 3) pa_nil)) (pv 4) (nomark _)))))) (pss_one (ps_ret pe_bl)) pss_nil)
          (pss_cons (ps_if (pt_cmpR op_ne (pe_callB (show CallR _ _ (rShD K) from call_rD hg hr.units) rfl Z.mr PyProof.Rows.boot_repr (pa_cons (by exact (pe_xf (C := CB) Z.B.ec.xf Z.B.ec.noN hz hf (pv 7))) pa_nil)) (pe_callB (show CallR _ _ (rShD K) from call_rD hg hr.units) rfl Z.mr PyProof.Rows.boot_repr (pa_cons (pe_ix (show IxR _ (rIxL K) from ix_list) (pv 5) pe_int (fun _ _ => rfl)) pa_nil)) (nomark _)) (pss_one (ps_ret pe_bl)) pss_nil) (pss_one ps_continue)))))
        (pss_cons (ps_if (PW.pt (pw_or (pt_cmpR (op_neD hr.units) (pv 5) (pe_lst pa_nil) (nomark _)) (pw_or1 (pt_cmpR op_ne (pe_callB rep rfl Z.mr PyProof.Rows.boot_repr (pa_cons (pv 3) pa_nil)) (pv 4) (nomark _))))) (pss_one (ps_ret pe_bl)) pss_nil)
        (pss_cons (ps_set (i := 8) scW.nd rfl (.inl rfl) (pe_lst (pa_cons (by exact (pe_prop (pv 6) Z.T.cl Z.P1 G1 hr2 b1 .nil pass0 rfl)) (pa_cons (by exact (pe_prop (pv 6) Z.T.cl Z.P2 G2 hr2 b2 .nil pass0 rfl)) (pa_cons (by exact (pe_prop (pv 6) Z.T.cl Z.P3 G3 hr2 b3 .nil pass0 rfl)) (pa_cons (by exact (pe_prop (pv 6) Z.T.cl Z.P4 G4 hr2 b4 .nil pass0 rfl)) (pa_cons (by exact (pe_prop (pv 6) Z.T.cl Z.P5 G5 hr2 b5 .nil pass0 rfl)) pa_nil)))))))
        (pss_cons (ps_if (pt_cmpR op_ne (pe_callB rep rfl Z.mr PyProof.Rows.boot_repr (pa_cons (pv 8) pa_nil)) (pe_callB rep rfl Z.mr PyProof.Rows.boot_repr (pa_cons (pe_op op_cat (pe_slice sl_list (pv 3) po_none (po_some pe_int)) (pe_lst (pa_cons (pe_callTy call_tupA rfl Z.mU PyProof.Rows.boot_tuple (pa_cons (pe_ix ix_list (pv 3) pe_int (fun _ _ => rfl)) pa_nil)) pa_nil))) pa_nil)) (nomark _)) (pss_one (ps_ret pe_bl)) pss_nil)
        (pss_cons (ps_set (i := 9) scW.nd rfl (.inl rfl) (by exact (pe_callS GOf hr rfl Z.gOf Z.FOf.kp bOf (fun σ => passAt takesN σ) (pa_cons (pe_op op_cat (pe_slice sl_list (pv 3) po_none (po_some pe_int)) (pe_lst (pa_cons (pe_callTy call_lstA rfl Z.mL PyProof.Rows.boot_list (pa_cons (pe_ix ix_list (pv 3) pe_int (fun _ _ => rfl)) pa_nil)) pa_nil))) pa_nil))))
        (pss_cons (ps_if (PW.pt (pw_or (pt_not (pt_cmpR eqP (pv 6) (pv 9) (nomark _))) (pw_or (pt_cmpR eqP (pv 6) pe_int (nomark _)) (pw_or1 (pt_cmpR eqP (pv 6) pe_str (nomark _)))))) (pss_one (ps_ret pe_bl)) pss_nil)
        (pss_cons (ps_set (i := 10) scW.nd rfl (.inl rfl) (pe_lst (pa_cons (pe_ifExp (pt_cmpR (op_eqD hr.units) (pe_ix ix_list (pv 3) pe_int (fun _ _ => rfl)) pe_str (nomark _)) pe_str pe_str) (pa_cons (pe_op op_add (pe_op op_mod (pe_i (pe_ix ix_list (pv 3) pe_int (fun _ _ => rfl)) Z.mn) pe_int) pe_int) pa_nil))))
        (pss_cons (ps_set (i := 10) scW.nd rfl (.inl rfl) (pe_op op_cat (pv 10) (pe_lst (pa_cons (pe_ifExp (pt_cmpR (op_neD hr.units) (pe_ix ix_list (pv 3) pe_int (fun _ _ => rfl)) pe_int (nomark _)) pe_int pe_non) (pa_cons (pe_not (pe_ix ix_list (pv 3) pe_int (fun _ _ => rfl))) (pa_cons (pe_ifExp (pt_cmpR (op_neD hr.units) (pe_ix ix_list (pv 3) pe_int (fun _ _ => rfl)) (pe_tup pa_nil) (nomark _)) (pe_tup pa_nil) (pe_lst (pa_cons (pe_tup (pa_cons pe_int (pa_cons pe_str pa_nil))) pa_nil))) pa_nil))))))
        (pss_cons (ps_for PassesOwn.never rfl (pi_enum rfl Z.mN (pa_cons (pv 10) pa_nil)) (pg_tup rfl (pgs_cons (pg_name (i := 11) scW.nd rfl (.inl rfl)) (pgs_cons (pg_name (i := 12) scW.nd rfl (.inl rfl)) pgs_nil))) (pss_cons (ps_set (i := 13) scW.nd rfl (.inl rfl) (by exact (pe_and (by exact (pe_cmpR op_eq (pv 11) pe_int (nomark _))) (pe_one (by exact (pe_cmpR (op_eqD hr.units) (pe_callTy call_lstA rfl Z.mL PyProof.Rows.boot_list (pa_cons (pe_ix ix_list (pv 3) pe_int (fun _ _ => rfl)) pa_nil)) (pe_callTy call_lstA rfl Z.mL PyProof.Rows.boot_list (pa_cons (pv 12) pa_nil)) (nomark _)))))))
          (pss_one (ps_if (PW.pt (pw_and (pt_not (pt_val (pv 13))) (pw_and1 (pt_cmpR eqP (pv 6) (by exact (pe_callS GOf hr rfl Z.gOf Z.FOf.kp bOf (fun σ => passAt takesN σ) (pa_cons (pe_op op_cat (pe_op op_cat (pe_slice sl_list (pv 3) po_none (po_some (pv 11))) (pe_lst (pa_cons (pv 12) pa_nil))) (pe_slice sl_list (pv 3) (po_some (pe_op op_add (pv 11) pe_int)) po_none)) pa_nil))) (nomark _))))) (pss_one (ps_ret pe_bl)) pss_nil))))
        (pss_cons (ps_set (i := 14) scW.nd rfl (.inl rfl) (pe_callTy call_lstA rfl Z.mL PyProof.Rows.boot_list (pa_cons (pe_ix ix_list (pv 3) pe_int (fun _ _ => rfl)) pa_nil)))
        (pss_cons (ps_set (i := 6) scW.nd rfl (.inl rfl) (by exact (pe_callS GOf hr rfl Z.gOf Z.FOf.kp bOf (fun σ => passAt takesN σ) (pa_cons (pe_op op_cat (pe_slice sl_list (pv 3) po_none (po_some pe_int)) (pe_lst (pa_cons (pv 14) pa_nil))) pa_nil))))
        (pss_cons (ps_expr (pe_bm PySem.F.plainAttrs_list PySem.F.slot_list_append PySem.F.type_list_append mt_append (pv 14) (pa_cons (pe_tup (pa_cons pe_int (pa_cons pe_str pa_nil))) pa_nil)))
        (pss_one (ps_if (PW.pt (pw_or (pt_not (pt_cmpR eqP (pv 6) (pv 9) (nomark _))) (pw_or1 (pt_cmpR (op_neD hr.units) (by exact (pe_prop (pv 6) Z.T.cl Z.P5 G5 hr2 b5 .nil pass0 rfl)) (pe_callTy call_tupA rfl Z.mU PyProof.Rows.boot_tuple (pa_cons (pe_ix ix_list (pv 3) pe_int (fun _ _ => rfl)) pa_nil)) (nomark _))))) (pss_one (ps_ret pe_bl)) pss_nil)))))))))))))))))
        (pss_cons (ps_set (i := 15) scW.nd rfl (.inl rfl) (by exact (pe_make Z.M GP hr5 rfl Z.T.g bKw vKw (passW takesN) (pa_cons pe_str pa_nil))))
        (pss_cons (ps_set (i := 8) scW.nd rfl (.inl rfl) (pe_lst (pa_cons (by exact (pe_prop (pv 15) Z.T.cl Z.P1 G1 hr2 b1 .nil pass0 rfl)) (pa_cons (by exact (pe_prop (pv 15) Z.T.cl Z.P2 G2 hr2 b2 .nil pass0 rfl)) (pa_cons (by exact (pe_prop (pv 15) Z.T.cl Z.P3 G3 hr2 b3 .nil pass0 rfl)) (pa_cons (by exact (pe_prop (pv 15) Z.T.cl Z.P4 G4 hr2 b4 .nil pass0 rfl)) (pa_cons (by exact (pe_prop (pv 15) Z.T.cl Z.P5 G5 hr2 b5 .nil pass0 rfl)) pa_nil)))))))
        (pss_one (ps_ret (by exact (pe_cmpR (op_eqD hr.units) (pv 8) (pe_lst (pa_cons pe_str (pa_cons pe_int (pa_cons pe_non (pa_cons pe_bl (pa_cons (pe_tup pa_nil) pa_nil)))))) (nomark _))))))))), ?_⟩
  obtain ⟨a, ns, rfl, hS, hl, hb, q⟩ := h
  have sz_ : ∀ n : Nat, n ≤ 1000 → n ≤ sizeLine := fun n z => by
    rw [sizeLine_eq]
    omega
  refine ⟨_, rfl, a, ns, rfl, hS, hl, hb, fun pn cl H1 m1 npn pen => ?_⟩
  refine ⟨5, rfl, by decide, by decide, for_range (lo := 0) (n := 5) (fun i σ G => ∃ v2 v3 v4 v5 v6 v7 v8 v9 v10 v11 v12 v13 v14 : Option V, σ = [some (.ref a), some (.ref pn), v2, v3, v4, v5, v6, v7, v8, v9, v10, v11, v12, v13, v14, none] ∧ Pen G pn cl (10 * i)) ⟨none, none, none, none, none, none, none, none, none, none, none, none, none, rfl, pen⟩ ?_ ?_⟩
  · rintro i σ G hi ⟨v2, v3, v4, v5, v6, v7, v8, v9, v10, v11, v12, v13, v14, rfl, pen⟩
    refine ⟨_, rfl, pn, cl, 10 * i, rfl, pen, fun G1 s1 f1 pen1 => ⟨pn, cl, 10 * i, rfl, pen1, by omega, fun pq F G2 s2 nq eq nqp ok pen2 => ?_⟩⟩
    have ok := ok.sm del_sm
    have good := fun e => ok.good (F := F) e
    have fts := ok.fits
    obtain ⟨p0, p1, p2, p3, p4, d0, d1, d2, d3, d4⟩ := F
    have t0 : Dt K G2 p0 d0 := ok.t0
    have t1 : Dt K G2 p1 d1 := ok.t1
    have t2 : Dt K G2 p2 d2 := ok.t2
    have t3 : Dt K G2 p3 d3 := ok.t3
    have t4 : Dt K G2 p4 d4 := ok.t4
    have eq : G2 pq = some (.lst [p0, p1, p2, p3, p4]) := eq
    have pen2 : Pen G2 pn cl (10 * (i + 1)) := pen2
    clear s1 f1 pen1 s2 nq
    have S5 := five_show fts.f0 fts.f1 fts.f2 fts.f3 fts.f4
    have fdp : ∀ {G : Hp}, Sm G2 G → Dp K G (.ref pq) (.list [d0, d1, d2, d3, d4]) := fun {G} m => five_dp (.inl (.inl (m _ _ eq))) (t0.sm m) (t1.sm m) (t2.sm m) (t3.sm m) (t4.sm m)
    refine ⟨_, rfl, _, _, rfl, fdp (Sm.refl G2), S5.1, S5.2.1, S5.2.2.1, S5.2.2.2, _, rfl, pq, ⟨p0, p1, p2, p3, p4, d0, d1, d2, d3, d4⟩, rfl, .inl (.inl eq), ok, fun wq G3 m3 nw ew => ⟨_, _, rfl, ?_⟩⟩
    refine ⟨_, rfl, pq, ⟨p0, p1, p2, p3, p4, d0, d1, d2, d3, d4⟩, rfl, .inl (.inl (m3 _ _ eq)), ok.sm m3, fun v ev d G4 m4 nd ed => ⟨true, Z.te, fun _ er ner => ?_, fun z => nomatch z⟩, fun ev x ft fx ds G4 m4 nx pl fdt => ?_⟩
    · -- refused
      have m34 := Sm.trans m3 m4
      have wl : G4 wq = some (.lst [v]) := by
        have z := m4 _ _ ew
        rw [ev] at z
        exact z
      obtain ⟨dv, tv, fv⟩ : ∃ dv, Dt K G4 v dv ∧ Fit dv := by
        have z : (v = p0 ∧ True) ∨ (v = p1 ∧ True) ∨ (v = p2 ∧ True) ∨ (v = p3 ∧ True) ∨ (v = p4 ∧ True) := by
          unfold Five.wrong at ev
          dsimp only at ev
          repeat' split at ev
          all_goals first | (cases ev; simp) | cases ev
        rcases z with ⟨rfl, _⟩ | ⟨rfl, _⟩ | ⟨rfl, _⟩ | ⟨rfl, _⟩ | ⟨rfl, _⟩
        · exact ⟨d0, t0.sm m34, fts.f0⟩
        · exact ⟨d1, t1.sm m34, fts.f1⟩
        · exact ⟨d2, t2.sm m34, fts.f2⟩
        · exact ⟨d3, t3.sm m34, fts.f3⟩
        · exact ⟨d4, t4.sm m34, fts.f4⟩
      have S1 := one_show fv
      have c1 : SeqAt.shaped (.list [dv]) = true := shaped_of (n := 8) (by simp [PyData.canLayAll0, (Bool.and_eq_true_iff.mp fv.sh).1]) (by simp only [PyData.depthAll]; have := fv.dp; omega) (by decide)
      refine ⟨_, rfl, Nat.zero_le _, fun l nl => ?_⟩
      have m5 := Sm.new (o := .lst []) nl
      refine ⟨.list [dv], .list [], .lst (.inl (.inl (m5 _ _ wl))) (.cons (tv.sm m5).dp .nil), .lst (.inl (.inl upd_same)) .nil, c1, by decide +kernel, _, rfl, ?_⟩
      rw [eqv_nil]
      have m35 := m34.trans m5
      refine iteF ⟨_, rfl, .ref CB, _, true, d, _, rfl, .own CB, rfl, rfl, m5 _ _ ed, Z.kB, _, rfl, iteF ⟨_, rfl, _, _, rfl, fdp m35, S5.1, S5.2.1, S5.2.2.1, S5.2.2.2, _, rfl, rfl, _, rfl, ?_⟩⟩
      rw [decide_eq_true rfl]
      refine iteF ⟨_, rfl, rfl, rfl, d, _, v, rfl, m5 _ _ ed, rfl, v, dv, rfl, (tv.sm m5).dp, S1.1, S1.2.1, S1.2.2.1, S1.2.2.2, _, rfl, wq, _, _, _, rfl, rfl, .inl (.inl (m5 _ _ wl)), atI_nat (j := 0) rfl, v, dv, rfl, (tv.sm m5).dp, S1.1, S1.2.1, S1.2.2.1, S1.2.2.2, rfl, _, rfl, ?_⟩
      rw [decide_eq_true rfl]
      refine iteF ⟨_, _, _, _, _, _, _, _, _, _, _, _, _, rfl, pen2.sm m35⟩
    · -- a plan is made
      have gd := good ev
      have m24 := Sm.trans m3 m4
      have wl : G4 wq = some (.lst []) := by
        have z := m4 _ _ ew
        rw [ev] at z
        exact z
      refine ⟨_, rfl, Nat.zero_le _, fun l nl => ?_⟩
      have m5 := Sm.new (o := .lst []) nl
      refine ⟨.list [], .list [], .lst (.inl (.inl (m5 _ _ wl))) .nil, .lst (.inl (.inl upd_same)) .nil, by decide +kernel, by decide +kernel, _, rfl, ?_⟩
      rw [eqv_nil]
      have m25 := m24.trans m5
      have pl := pl.sm m5
      generalize upd G4 l (.lst []) = G5 at m25 pl ⊢
      refine iteF ⟨_, rfl, _, _, rfl, fdp m25, S5.1, S5.2.1, S5.2.2.1, S5.2.2.2, _, rfl, rfl, _, rfl, ?_⟩
      rw [decide_eq_true rfl]
      refine iteF ?_
      clear nl m5 wl ew m3 m4 m24 nw nx l
      obtain ⟨dx, hx5⟩ := pl.at_
      refine ⟨_, rfl, x, dx, _, rfl, hx5, x, dx, _, _, rfl, hx5, rfl, _, rfl, x, dx, _, rfl, hx5, x, dx, _, _, rfl, hx5, rfl, _, rfl, x, dx, _, rfl, hx5, x, dx, _, _, rfl, hx5, rfl, _, rfl, x, dx, _, rfl, hx5, x, dx, _, _, rfl, hx5, rfl, _, rfl, x, dx, _, rfl, hx5, x, dx, _, _, rfl, hx5, rfl, sz_ _ (by show 5 ≤ 1000; decide), fun tl ntl => ?_⟩
      have m6 := Sm.new (o := .lst [p0, p1, p2, p3, .ref ft]) ntl
      have etl : upd G5 tl (.lst [p0, p1, p2, p3, .ref ft]) tl = _ := upd_same
      have pl := pl.sm m6
      have m26 := Sm.trans m25 m6
      generalize upd G5 tl (.lst [p0, p1, p2, p3, .ref ft]) = G6 at m26 pl etl ⊢
      clear m6 ntl hx5 m25
      cases gd with
      | mk z i0 _ _ b k a4 xs4 ds4 hz hi1 hi3 t2' h2 hk r hd ha =>
        have eds : ds = ds4 := by
          cases k with
          | true =>
            rcases fdt with e | e
            · cases e
              rfl
            · cases e
          | false =>
            rcases fdt with e | e
            · cases e
            · cases e
              rfl
        subst eds
        have fT : Fit (.tuple ds) := by
          have f4 := fts.f4
          cases k with
          | true => exact f4
          | false => exact fit_tup f4
        have S6 := five_show fts.f0 fts.f1 fts.f2 fts.f3 fT
        have hk6 := hk.sm m26
        have a4t : atI [V.str z, V.int i0, p2, V.bl b, V.ref a4] (4 : Int) = some (.ref a4) := atI_nat (j := 4) rfl
        have eq6 := m26 _ _ eq
        refine ⟨_, rfl, _, .list [.str z, .int i0, d2, .bool b, .tuple ds], rfl, five_dp (.inl (.inl etl)) (t0.sm m26) (t1.sm m26) (t2.sm m26) (t3.sm m26) (.tup pl.ft_ pl.fx_), S6.1, S6.2.1, S6.2.2.1, S6.2.2.2, ?_⟩
        refine ⟨_, rfl, _, rfl, pq, _, rfl, .inl (.inl eq6), fun l1 n1 => ?_⟩
        have m7 := Sm.new (o := .lst (cutV [V.str z, V.int i0, p2, V.bl b, V.ref a4] none (some (4 : Int)))) n1
        refine ⟨_, rfl, pq, _, _, _, rfl, rfl, .inl (.inl (m7 _ _ eq6)), a4t, k, a4, xs4, rfl, hk6.sm m7, fun st G7 m8 hst => ⟨sz_ _ (by show 1 ≤ 1000; decide), fun l2 n2 => ⟨l1, l2, _, _, rfl, rfl, Sm.new n2 _ _ (m8 _ _ upd_same), upd_same, sz_ _ (by show 5 ≤ 1000; decide), fun l3 n3 => ?_⟩⟩⟩
        have m9 := Sm.to ((m7.trans m8).trans (Sm.new (o := .lst [.ref st]) n2)) n3
        have m10 := Sm.to ((Sm.new (H := G7) (o := .lst [.ref st]) n2)) n3
        have m11 := Sm.new (o := .lst (cutV (Five.list ⟨.str z, .int i0, p2, .bl b, .ref a4, .str z, .int i0, d2, .bool b, if k = true then .tuple ds else .list ds⟩) none (some (4 : Int)) ++ [V.ref st])) n3
        have m27 := (m26.trans m9).trans m11
        refine ⟨_, .list [.str z, .int i0, d2, .bool b, .tuple ds], rfl, five_dp (.inl (.inl upd_same)) (t0.sm m27) (t1.sm m27) (t2.sm m27) (t3.sm m27) (.tup (SqT.sm hst (m10.trans m11)) (r.sm m27)), S6.1, S6.2.1, S6.2.2.1, S6.2.2.2, rfl, _, rfl, ?_⟩
        rw [decide_eq_true rfl]
        refine iteF ?_
        have pl8 := (pl.sm m9).sm m11
        have m28 : Sm G2 _ := m27
        generalize upd (upd G7 l2 (.lst [V.ref st])) l3 (.lst (cutV (Five.list ⟨.str z, .int i0, p2, .bl b, .ref a4, .str z, .int i0, d2, .bool b, if k = true then .tuple ds else .list ds⟩) none (some (4 : Int)) ++ [V.ref st])) = G8 at m28 pl8 ⊢
        clear m7 m8 m9 m10 m11 n1 n2 n3 hst m27 pl etl m26 eq6 hk6
        -- the same plan again
        have W := wrong_none ev
        dsimp only at W
        have hk8 := hk.sm m28
        have r8 := r.sm m28
        have eq8 := m28 _ _ eq
        have s4l : short2 (.list ds) = true := by
          have z := ok.s4
          cases k <;> exact z
        have fL : Fit (.list ds) := fit_lst fT
        refine ⟨_, rfl, _, rfl, pq, _, rfl, .inl (.inl eq8), fun l4 n4 => ?_⟩
        have m9 := Sm.new (o := .lst (cutV (Five.list ⟨.str z, .int i0, p2, .bl b, .ref a4, .str z, .int i0, d2, .bool b, if k = true then .tuple ds else .list ds⟩) none (some (4 : Int)))) n4
        refine ⟨_, rfl, pq, _, _, _, rfl, rfl, .inl (.inl (m9 _ _ eq8)), a4t, k, a4, xs4, rfl, hk8.sm m9, fun l5 n5 => ⟨sz_ _ (by show 1 ≤ 1000; decide), fun l6 n6 => ⟨l4, l6, _, _, rfl, rfl, Sm.new n6 _ _ (Sm.new n5 _ _ upd_same), upd_same, sz_ _ (by show 5 ≤ 1000; decide), fun l7 n7 => ?_⟩⟩⟩
        have m10 := Sm.to ((m9.trans (Sm.new (o := .lst xs4) n5)).trans (Sm.new (o := .lst [.ref l5]) n6)) n7
        have e5 := (Sm.to (Sm.new (o := .lst [.ref l5]) n6) n7) _ _ (show upd _ l5 (.lst xs4) l5 = some (.lst xs4) from upd_same)
        have wf : Five.wrong ⟨.str z, .int i0, p2, .bl b, .ref l5, .str z, .int i0, d2, .bool b, .list ds⟩ = none := none_wrong ⟨W.1, W.2.1, W.2.2.1, W.2.2.2.1, by show (ds.all deedD && ascD ds) = true; rw [hd, ha]; rfl⟩
        have ok7 := Five.put_ok (ok.sm (m28.trans m10)) 4 (Dt.lst (K := K) e5 (r8.sm m10)) fL (.inr s4l)
        have m11 := Sm.new (o := .lst (cutV (Five.list ⟨.str z, .int i0, p2, .bl b, .ref a4, .str z, .int i0, d2, .bool b, if k = true then .tuple ds else .list ds⟩) none (some (4 : Int)) ++ [V.ref l5])) n7
        refine ⟨l7, ⟨.str z, .int i0, p2, .bl b, .ref l5, .str z, .int i0, d2, .bool b, .list ds⟩, rfl, .inl (.inl upd_same), ok7.sm m11, (fun v e => nomatch (wf.symm.trans e)), fun _ x2 ft2 fx2 ds2 G9 m12 nx2 pl2 fdt2 => ?_⟩
        have eds2 : ds2 = ds := by
          rcases fdt2 with e | e
          · cases e
          · cases e
            rfl
        subst eds2
        have m29 := (m28.trans m10).trans (m11.trans m12)
        have pl9 := pl8.sm ((m10.trans m11).trans m12)
        clear m9 m10 m11 m12 n4 n5 n6 n7 e5 ok7 eq8 hk8 r8 m28 pl8 nx2
        -- the two are equal, and equal to nothing else
        obtain ⟨dx9, hx9⟩ := pl9.at_
        obtain ⟨dz9, hz9⟩ := pl2.at_
        have sE : sameP ⟨.str z, .int i0, p2, .bl b, .ref a4, .str z, .int i0, d2, .bool b, if k = true then .tuple ds2 else .list ds2⟩ ⟨.str z, .int i0, p2, .bl b, .ref l5, .str z, .int i0, d2, .bool b, .list ds2⟩ ds2 ds2 = true := by
          unfold sameP
          show (PyData.eqv (.str z) (.str z) && (PyData.eqv (.int i0) (.int i0) && (PyData.eqv d2 d2 && (PyData.eqv (.bool b) (.bool b) && PyData.eqv (.tuple ds2) (.tuple ds2))))) = true
          rw [eqv_self fts.f0.sh, eqv_self fts.f1.sh, eqv_self fts.f2.sh, eqv_self fts.f3.sh, eqv_self fT.sh]
          rfl
        refine ⟨_, rfl, _, rfl, x, dx9, _, rfl, hx9, .inl ⟨x2, dz9, _, rfl, hz9⟩, x, .ref x2, ⟨.str z, .int i0, p2, .bl b, .ref a4, .str z, .int i0, d2, .bool b, if k = true then .tuple ds2 else .list ds2⟩, ft, fx, ds2, rfl, pl9, .inl ⟨x2, ⟨.str z, .int i0, p2, .bl b, .ref l5, .str z, .int i0, d2, .bool b, .list ds2⟩, ft2, fx2, ds2, rfl, pl2, _, rfl, ?_⟩⟩
        rw [sE]
        refine iteF ⟨_, rfl, x, dx9, _, rfl, hx9, .inr (.inl ⟨0, rfl⟩), x, .int 0, ⟨.str z, .int i0, p2, .bl b, .ref a4, .str z, .int i0, d2, .bool b, if k = true then .tuple ds2 else .list ds2⟩, ft, fx, ds2, rfl, pl9, .inr ⟨.inl ⟨0, rfl⟩, _, rfl, iteF ⟨_, rfl, x, dx9, _, rfl, hx9, .inr (.inr ⟨_, rfl⟩), x, .str "letter", ⟨.str z, .int i0, p2, .bl b, .ref a4, .str z, .int i0, d2, .bool b, if k = true then .tuple ds2 else .list ds2⟩, ft, fx, ds2, rfl, pl9, .inr ⟨.inr ⟨_, rfl⟩, _, rfl, iteF ?_⟩⟩⟩⟩
        -- what differs at one place
        have eq9 := m29 _ _ eq
        have L9 : SqL K G9 pq (Five.list ⟨.str z, .int i0, p2, .bl b, .ref a4, .str z, .int i0, d2, .bool b, if k = true then .tuple ds2 else .list ds2⟩) := .inl (.inl eq9)
        have a0t : atI [V.str z, V.int i0, p2, V.bl b, V.ref a4] (0 : Int) = some (.str z) := atI_nat (j := 0) rfl
        have a1t : atI [V.str z, V.int i0, p2, V.bl b, V.ref a4] (1 : Int) = some (.int i0) := atI_nat (j := 1) rfl
        have a2t : atI [V.str z, V.int i0, p2, V.bl b, V.ref a4] (2 : Int) = some p2 := atI_nat (j := 2) rfl
        have a3t : atI [V.str z, V.int i0, p2, V.bl b, V.ref a4] (3 : Int) = some (.bl b) := atI_nat (j := 3) rfl
        have ez : (if PyData.eqv (.str z) (.str "letter") = true then V.str "key" else V.str "letter") = V.str (if z = ("letter" : Str) then "key" else "letter") := by
          show (if (z == ("letter" : Str)) = true then _ else _) = _
          by_cases c : z = ("letter" : Str)
          · rw [if_pos c, if_pos (beq_iff_eq.mpr c)]
          · rw [if_neg c, if_neg (fun h => c (beq_iff_eq.mp h))]
        refine ⟨_, rfl, pq, _, _, _, rfl, rfl, L9, a0t, .str z, .str "letter", .str z, .str _, fts.f0.sh, by decide +kernel, _, rfl, ite_val ?_⟩
        rw [ez]
        refine ⟨_, rfl, pq, _, _, _, rfl, rfl, L9, a1t, .inl ⟨_, rfl, _, _, rfl, rfl, by show (0 : Int) < 3; decide, _, _, rfl, rfl, sz_ _ (by show 2 ≤ 1000; decide), fun u1 n1 => ?_⟩⟩
        have m1 := Sm.new (o := .lst [V.str (if z = ("letter" : Str) then "key" else "letter"), .int (i0 % 3 + 1)]) n1
        refine ⟨_, rfl, _, rfl, pq, _, _, _, rfl, rfl, .inl (.inl (m1 _ _ eq9)), a2t, d2, .int 5, ((t2.sm m29).sm m1).dp, .int 5, fts.f2.sh, by decide +kernel, _, rfl, ite_val ?_⟩
        refine ⟨_, rfl, pq, _, _, _, rfl, rfl, .inl (.inl (m1 _ _ eq9)), a3t, b, rfl, ?_⟩
        refine ⟨_, rfl, pq, _, _, _, rfl, rfl, .inl (.inl (m1 _ _ eq9)), a4t, Nat.zero_le _, fun u2 n2 => ?_⟩
        have m2 := Sm.new (o := .tup []) n2
        refine ⟨if k = true then .tuple ds2 else .list ds2, .tuple [], (((t4.sm m29).sm m1).sm m2).dp, .tup (.inl (.inl upd_same)) .nil, fts.f4.sh, by decide +kernel, _, rfl, other_fence (K := K) fun k5 a5 ys es G10 m3 sq5 r5 h5 => ⟨sz_ _ (by show 3 ≤ 1000; decide), fun u3 n3 => ⟨u1, u3, _, _, rfl, rfl, Sm.new n3 _ _ (m3 _ _ (m2 _ _ upd_same)), upd_same, sz_ _ (by show 5 ≤ 1000; decide), fun u4 n4 => ?_⟩⟩⟩
        have m14 := m1.trans (m2.trans m3)
        have m30 := m29.trans m14
        have pl10 := pl9.sm m14
        have pz10 := pl2.sm m14
        have OT := others (ds := ds2) hz hi1 hi3 h2 W.2.2.2.2 ev sq5 r5 (by rw [h5.2, ← h5.1])
        have q11 := Sm.new (H := G10) (o := .lst [if (!PyData.eqv d2 (.int 5)) = true then V.int 5 else V.non, .bl (!b), .ref a5]) n3
        refine ⟨_, rfl, u4, _, rfl, .inl (.inl upd_same), ?_⟩
        refine for_it (walk_enum (xs := [V.str (if z = ("letter" : Str) then "key" else "letter"), .int (i0 % 3 + 1), if (!PyData.eqv d2 (.int 5)) = true then .int 5 else .non, .bl (!b), .ref a5])) (fun j σ G => ∃ v11 v12 v13 : Option V, σ = [some (.ref a), some (.ref pn), some (.int (0 + i)), some (.ref pq), some (.str (PyData.list [.str z, .int i0, d2, .bool b, if k = true then .tuple ds2 else .list ds2]).shown), some (.ref wq), some (.ref x), v7, some (.ref tl), some (.ref x2), some (.ref u4), v11, v12, v13, v14, none] ∧ Sm G10 G ∧
          G u4 = some (.lst [V.str (if z = ("letter" : Str) then "key" else "letter"), .int (i0 % 3 + 1), if (!PyData.eqv d2 (.int 5)) = true then .int 5 else .non, .bl (!b), .ref a5])) ⟨_, _, _, rfl, q11.trans (Sm.new n4), upd_same⟩ (fun j σ G _ ⟨_, _, _, _, _, e⟩ => .inl (.inl e)) (fun j x0 σ G G11 hj p y => ?_) (fun σ G p => ?_)
        · obtain ⟨v11, v12, v13, rfl, mG, eu⟩ := p
          obtain ⟨T, x1, v, rfl, nT, rfl, ex1, ex2⟩ := y
          have ex1 := Option.some.inj ex1
          subst ex1
          have j5 : j < 5 := hj
          obtain ⟨dv, tv, fv, sv, wj, last⟩ := (OT j v ex2).sm mG
          have mT := Sm.new (H := G) (o := .tup [V.int ((j : Nat) : Int), v]) nT
          refine ⟨T, _, rfl, .inl (.inl upd_same), rfl, _, _, rfl, _, _, rfl, rfl, ?_⟩
          have m31 := (m30.trans mG).trans mT
          have m32 := mG.trans mT
          have eu := mT _ _ eu
          have tv := tv.sm mT
          generalize upd G T (.tup [V.int ((j : Nat) : Int), v]) = G11 at m31 m32 mT eu tv ⊢
          rcases last with ⟨j4, sf⟩ | ⟨rfl, k', a', ys', es', rfl, sq', r', rfl⟩
          · refine ⟨_, rfl, rfl, _, rfl, ?_⟩
            rw [decide_eq_false (fun e => by have := V.int.inj e; omega)]
            refine iteF ⟨_, rfl, _, rfl, iteT ?_⟩
            refine ⟨_, rfl, _, rfl, _, rfl, _, rfl, pq, _, rfl, .inl (.inl (m31 _ _ eq)), fun b1 w1 => ⟨_, rfl, sz_ _ (by show 1 ≤ 1000; decide), fun b2 w2 => ⟨b1, b2, cutV (Five.list ⟨.str z, .int i0, p2, .bl b, .ref a4, .str z, .int i0, d2, .bool b, if k = true then .tuple ds2 else .list ds2⟩) none (some ((j : Nat) : Int)), _, rfl, rfl, Sm.new w2 _ _ upd_same, upd_same, ?l1A, fun b3 w3 => ⟨_, rfl, _, rfl, _, _, rfl, rfl, _, rfl, pq, (Five.list ⟨.str z, .int i0, p2, .bl b, .ref a4, .str z, .int i0, d2, .bool b, if k = true then .tuple ds2 else .list ds2⟩), rfl, ?e1A, fun b4 w4 => ⟨b3, b4, cutV (Five.list ⟨.str z, .int i0, p2, .bl b, .ref a4, .str z, .int i0, d2, .bool b, if k = true then .tuple ds2 else .list ds2⟩) none (some ((j : Nat) : Int)) ++ [v], _, rfl, rfl, Sm.new w4 _ _ upd_same, upd_same, ?l2A, fun b5 w5 => ?gA⟩⟩⟩⟩⟩
            case l1A =>
              have := cutV_length (Five.list ⟨.str z, .int i0, p2, .bl b, .ref a4, .str z, .int i0, d2, .bool b, if k = true then .tuple ds2 else .list ds2⟩) none (some ((j : Nat) : Int))
              have e5 : (Five.list ⟨.str z, .int i0, p2, .bl b, .ref a4, .str z, .int i0, d2, .bool b, if k = true then .tuple ds2 else .list ds2⟩).length = 5 := rfl
              refine sz_ _ ?_
              show (cutV (Five.list ⟨.str z, .int i0, p2, .bl b, .ref a4, .str z, .int i0, d2, .bool b, if k = true then .tuple ds2 else .list ds2⟩) none (some ((j : Nat) : Int))).length + 1 ≤ 1000
              omega
            case e1A => exact .inl (.inl (Sm.new w3 _ _ (Sm.new w2 _ _ (Sm.new w1 _ _ (m31 _ _ eq)))))
            case l2A =>
              have := cutV_length (Five.list ⟨.str z, .int i0, p2, .bl b, .ref a4, .str z, .int i0, d2, .bool b, if k = true then .tuple ds2 else .list ds2⟩) none (some ((j : Nat) : Int))
              have := cutV_length (Five.list ⟨.str z, .int i0, p2, .bl b, .ref a4, .str z, .int i0, d2, .bool b, if k = true then .tuple ds2 else .list ds2⟩) (some (((j : Nat) : Int) + 1)) none
              have e5 : (Five.list ⟨.str z, .int i0, p2, .bl b, .ref a4, .str z, .int i0, d2, .bool b, if k = true then .tuple ds2 else .list ds2⟩).length = 5 := rfl
              refine sz_ _ ?_
              rw [List.length_append]
              show (cutV (Five.list ⟨.str z, .int i0, p2, .bl b, .ref a4, .str z, .int i0, d2, .bool b, if k = true then .tuple ds2 else .list ds2⟩) none (some ((j : Nat) : Int))).length + 1 + (cutV (Five.list ⟨.str z, .int i0, p2, .bl b, .ref a4, .str z, .int i0, d2, .bool b, if k = true then .tuple ds2 else .list ds2⟩) (some (((j : Nat) : Int) + 1)) none).length ≤ 1000
              omega
            have mW := Sm.to ((((Sm.new (o := .lst (cutV (Five.list ⟨.str z, .int i0, p2, .bl b, .ref a4, .str z, .int i0, d2, .bool b, if k = true then .tuple ds2 else .list ds2⟩) none (some ((j : Nat) : Int)))) w1).trans (Sm.new (o := .lst [v]) w2)).trans (Sm.new (o := .lst (cutV (Five.list ⟨.str z, .int i0, p2, .bl b, .ref a4, .str z, .int i0, d2, .bool b, if k = true then .tuple ds2 else .list ds2⟩) none (some ((j : Nat) : Int)) ++ [v])) w3)).trans (Sm.new (o := .lst (cutV (Five.list ⟨.str z, .int i0, p2, .bl b, .ref a4, .str z, .int i0, d2, .bool b, if k = true then .tuple ds2 else .list ds2⟩) (some (((j : Nat) : Int) + 1)) none)) w4)) w5
            have mX := mW.trans (Sm.new (o := .lst (cutV (Five.list ⟨.str z, .int i0, p2, .bl b, .ref a4, .str z, .int i0, d2, .bool b, if k = true then .tuple ds2 else .list ds2⟩) none (some ((j : Nat) : Int)) ++ [v] ++ cutV (Five.list ⟨.str z, .int i0, p2, .bl b, .ref a4, .str z, .int i0, d2, .bool b, if k = true then .tuple ds2 else .list ds2⟩) (some (((j : Nat) : Int) + 1)) none)) w5)
            have okj := Five.put_ok (ok.sm ((Sm.trans m31 mX))) j (tv.sm (Sm.trans (Sm.refl G11) mX)) fv sv
            refine ⟨b5, Five.put ⟨.str z, .int i0, p2, .bl b, .ref a4, .str z, .int i0, d2, .bool b, if k = true then .tuple ds2 else .list ds2⟩ v dv j, rfl, .inl (.inl (by rw [← Five.put_list _ _ _ _ j5]; exact upd_same)), okj, (fun v e => nomatch (wj.symm.trans e)), fun _ x3 ft3 fx3 ds3 G12 m12 nx3 pl3 fd3 => ?_⟩
            have plx := pl10.sm ((Sm.trans m32 mX).trans m12)
            obtain ⟨dxx, hxx⟩ := plx.at_
            obtain ⟨dx3, hx3⟩ := pl3.at_
            have sF : sameP ⟨.str z, .int i0, p2, .bl b, .ref a4, .str z, .int i0, d2, .bool b, if k = true then .tuple ds2 else .list ds2⟩ (Five.put ⟨.str z, .int i0, p2, .bl b, .ref a4, .str z, .int i0, d2, .bool b, if k = true then .tuple ds2 else .list ds2⟩ v dv j) ds2 ds3 = false := sf ds3
            refine ⟨x, dxx, _, rfl, hxx, .inl ⟨x3, dx3, _, rfl, hx3⟩, x, .ref x3, ⟨.str z, .int i0, p2, .bl b, .ref a4, .str z, .int i0, d2, .bool b, if k = true then .tuple ds2 else .list ds2⟩, ft, fx, ds2, rfl, plx, .inl ⟨x3, Five.put ⟨.str z, .int i0, p2, .bl b, .ref a4, .str z, .int i0, d2, .bool b, if k = true then .tuple ds2 else .list ds2⟩ v dv j, ft3, fx3, ds3, rfl, pl3, _, rfl, ?_⟩⟩
            rw [sF]
            exact iteF ⟨_, _, _, rfl, (Sm.trans m32 mX).trans m12, m12 _ _ (mX _ _ (eu))⟩
          · refine ⟨_, rfl, rfl, _, rfl, ?_⟩
            rw [decide_eq_true (by rfl)]
            have sq' := sq'.sm mT
            have r' := r'.sm mT
            have fE : Fit (.list es') := by
              cases k' with
              | true => exact fit_lst fv
              | false => exact fv
            refine iteT ⟨_, rfl, pq, _, _, _, rfl, rfl, .inl (.inl (m31 _ _ eq)), a4t, k, a4, xs4, rfl, hk.sm m31, fun b8 w8 => ⟨_, rfl, k', a', ys', rfl, sq'.sm (Sm.new w8), fun b9 w9 => ?_⟩⟩
            have mY := (Sm.new (o := .lst xs4) w8).trans (Sm.new (o := .lst ys') w9)
            refine ⟨.list ds2, .list es', .lst (.inl (.inl (Sm.new w9 _ _ upd_same))) (r.sm (m31.trans mY)).dp, .lst (.inl (.inl upd_same)) (r'.sm mY).dp, fL.sh, fE.sh, _, rfl, _, rfl, ?_⟩
            cases e9 : PyData.eqv (.list ds2) (.list es') with
            | true => exact iteF ⟨_, _, _, rfl, m32.trans mY, mY _ _ eu⟩
            | false =>
              refine iteT ?_
              refine ⟨_, rfl, _, rfl, _, rfl, _, rfl, pq, _, rfl, .inl (.inl ((Sm.trans m31 mY) _ _ eq)), fun b1 w1 => ⟨_, rfl, sz_ _ (by show 1 ≤ 1000; decide), fun b2 w2 => ⟨b1, b2, cutV (Five.list ⟨.str z, .int i0, p2, .bl b, .ref a4, .str z, .int i0, d2, .bool b, if k = true then .tuple ds2 else .list ds2⟩) none (some ((4 : Nat) : Int)), _, rfl, rfl, Sm.new w2 _ _ upd_same, upd_same, ?l1B, fun b3 w3 => ⟨_, rfl, _, rfl, _, _, rfl, rfl, _, rfl, pq, (Five.list ⟨.str z, .int i0, p2, .bl b, .ref a4, .str z, .int i0, d2, .bool b, if k = true then .tuple ds2 else .list ds2⟩), rfl, ?e1B, fun b4 w4 => ⟨b3, b4, cutV (Five.list ⟨.str z, .int i0, p2, .bl b, .ref a4, .str z, .int i0, d2, .bool b, if k = true then .tuple ds2 else .list ds2⟩) none (some ((4 : Nat) : Int)) ++ [V.ref a'], _, rfl, rfl, Sm.new w4 _ _ upd_same, upd_same, ?l2B, fun b5 w5 => ?gB⟩⟩⟩⟩⟩
              case l1B =>
                have := cutV_length (Five.list ⟨.str z, .int i0, p2, .bl b, .ref a4, .str z, .int i0, d2, .bool b, if k = true then .tuple ds2 else .list ds2⟩) none (some ((4 : Nat) : Int))
                have e5 : (Five.list ⟨.str z, .int i0, p2, .bl b, .ref a4, .str z, .int i0, d2, .bool b, if k = true then .tuple ds2 else .list ds2⟩).length = 5 := rfl
                refine sz_ _ ?_
                show (cutV (Five.list ⟨.str z, .int i0, p2, .bl b, .ref a4, .str z, .int i0, d2, .bool b, if k = true then .tuple ds2 else .list ds2⟩) none (some ((4 : Nat) : Int))).length + 1 ≤ 1000
                omega
              case e1B => exact .inl (.inl (Sm.new w3 _ _ (Sm.new w2 _ _ (Sm.new w1 _ _ ((Sm.trans m31 mY) _ _ eq)))))
              case l2B =>
                have := cutV_length (Five.list ⟨.str z, .int i0, p2, .bl b, .ref a4, .str z, .int i0, d2, .bool b, if k = true then .tuple ds2 else .list ds2⟩) none (some ((4 : Nat) : Int))
                have := cutV_length (Five.list ⟨.str z, .int i0, p2, .bl b, .ref a4, .str z, .int i0, d2, .bool b, if k = true then .tuple ds2 else .list ds2⟩) (some (((4 : Nat) : Int) + 1)) none
                have e5 : (Five.list ⟨.str z, .int i0, p2, .bl b, .ref a4, .str z, .int i0, d2, .bool b, if k = true then .tuple ds2 else .list ds2⟩).length = 5 := rfl
                refine sz_ _ ?_
                rw [List.length_append]
                show (cutV (Five.list ⟨.str z, .int i0, p2, .bl b, .ref a4, .str z, .int i0, d2, .bool b, if k = true then .tuple ds2 else .list ds2⟩) none (some ((4 : Nat) : Int))).length + 1 + (cutV (Five.list ⟨.str z, .int i0, p2, .bl b, .ref a4, .str z, .int i0, d2, .bool b, if k = true then .tuple ds2 else .list ds2⟩) (some (((4 : Nat) : Int) + 1)) none).length ≤ 1000
                omega
              have mW := Sm.to ((((Sm.new (o := .lst (cutV (Five.list ⟨.str z, .int i0, p2, .bl b, .ref a4, .str z, .int i0, d2, .bool b, if k = true then .tuple ds2 else .list ds2⟩) none (some ((4 : Nat) : Int)))) w1).trans (Sm.new (o := .lst [V.ref a']) w2)).trans (Sm.new (o := .lst (cutV (Five.list ⟨.str z, .int i0, p2, .bl b, .ref a4, .str z, .int i0, d2, .bool b, if k = true then .tuple ds2 else .list ds2⟩) none (some ((4 : Nat) : Int)) ++ [V.ref a'])) w3)).trans (Sm.new (o := .lst (cutV (Five.list ⟨.str z, .int i0, p2, .bl b, .ref a4, .str z, .int i0, d2, .bool b, if k = true then .tuple ds2 else .list ds2⟩) (some (((4 : Nat) : Int) + 1)) none)) w4)) w5
              have mX := mW.trans (Sm.new (o := .lst (cutV (Five.list ⟨.str z, .int i0, p2, .bl b, .ref a4, .str z, .int i0, d2, .bool b, if k = true then .tuple ds2 else .list ds2⟩) none (some ((4 : Nat) : Int)) ++ [V.ref a'] ++ cutV (Five.list ⟨.str z, .int i0, p2, .bl b, .ref a4, .str z, .int i0, d2, .bool b, if k = true then .tuple ds2 else .list ds2⟩) (some (((4 : Nat) : Int) + 1)) none)) w5)
              have okj := Five.put_ok (ok.sm ((Sm.trans (Sm.trans m31 mY) mX))) 4 (tv.sm (Sm.trans mY mX)) fv sv
              refine ⟨b5, Five.put ⟨.str z, .int i0, p2, .bl b, .ref a4, .str z, .int i0, d2, .bool b, if k = true then .tuple ds2 else .list ds2⟩ (.ref a') (if k' = true then .tuple es' else .list es') 4, rfl, .inl (.inl (by rw [← Five.put_list _ _ _ _ j5]; exact upd_same)), okj, (fun v e => nomatch (wj.symm.trans e)), fun _ x3 ft3 fx3 ds3 G12 m12 nx3 pl3 fd3 => ?_⟩
              have plx := pl10.sm ((Sm.trans (Sm.trans m32 mY) mX).trans m12)
              obtain ⟨dxx, hxx⟩ := plx.at_
              obtain ⟨dx3, hx3⟩ := pl3.at_
              have sF : sameP ⟨.str z, .int i0, p2, .bl b, .ref a4, .str z, .int i0, d2, .bool b, if k = true then .tuple ds2 else .list ds2⟩ (Five.put ⟨.str z, .int i0, p2, .bl b, .ref a4, .str z, .int i0, d2, .bool b, if k = true then .tuple ds2 else .list ds2⟩ (.ref a') (if k' = true then .tuple es' else .list es') 4) ds2 ds3 = false := by
                have e3 : ds3 = es' := by
                  cases k' with
                  | true =>
                    rcases fd3 with e | e
                    · cases e
                      rfl
                    · cases e
                  | false =>
                    rcases fd3 with e | e
                    · cases e
                    · cases e
                      rfl
                subst e3
                unfold sameP
                show (_ && (_ && (_ && (_ && PyData.eqv (.tuple ds2) (.tuple ds3))))) = false
                rw [eqv_lists, e9, Bool.and_false, Bool.and_false, Bool.and_false, Bool.and_false]
              refine ⟨x, dxx, _, rfl, hxx, .inl ⟨x3, dx3, _, rfl, hx3⟩, x, .ref x3, ⟨.str z, .int i0, p2, .bl b, .ref a4, .str z, .int i0, d2, .bool b, if k = true then .tuple ds2 else .list ds2⟩, ft, fx, ds2, rfl, plx, .inl ⟨x3, Five.put ⟨.str z, .int i0, p2, .bl b, .ref a4, .str z, .int i0, d2, .bool b, if k = true then .tuple ds2 else .list ds2⟩ (.ref a') (if k' = true then .tuple es' else .list es') 4, ft3, fx3, ds3, rfl, pl3, _, rfl, ?_⟩⟩
              rw [sF]
              exact iteF ⟨_, _, _, rfl, (Sm.trans (Sm.trans m32 mY) mX).trans m12, m12 _ _ (mX _ _ (mY _ _ eu))⟩
        · -- what is handed in is changed afterwards
          obtain ⟨v11, v12, v13, rfl, mG, eu⟩ := p
          have m31 := m30.trans mG
          have hk31 := hk.sm m31
          have eq31 := m31 _ _ eq
          refine ⟨_, rfl, pq, _, _, _, rfl, rfl, .inl (.inl eq31), a4t, k, a4, xs4, rfl, hk31, fun gv wg => ?_⟩
          have mg := Sm.new (o := .lst xs4) wg
          refine ⟨_, rfl, _, rfl, pq, _, rfl, .inl (.inl (mg _ _ eq31)), fun l8 w8 => ⟨_, rfl, sz_ _ (by show 1 ≤ 1000; decide), fun l9 w9 => ⟨l8, l9, _, _, rfl, rfl, Sm.new w9 _ _ upd_same, upd_same, sz_ _ (by show 5 ≤ 1000; decide), fun l10 w10 => ?_⟩⟩⟩
          have mh := Sm.to ((Sm.new (o := .lst (cutV (Five.list ⟨.str z, .int i0, p2, .bl b, .ref a4, .str z, .int i0, d2, .bool b, if k = true then .tuple ds2 else .list ds2⟩) none (some (4 : Int)))) w8).trans (Sm.new (o := .lst [.ref gv]) w9)) w10
          have mj := Sm.new (o := .lst (cutV (Five.list ⟨.str z, .int i0, p2, .bl b, .ref a4, .str z, .int i0, d2, .bool b, if k = true then .tuple ds2 else .list ds2⟩) none (some (4 : Int)) ++ [V.ref gv])) w10
          have eg := mh _ _ (show upd G gv (.lst xs4) gv = some (.lst xs4) from upd_same)
          have wf6 : Five.wrong ⟨.str z, .int i0, p2, .bl b, .ref gv, .str z, .int i0, d2, .bool b, .list ds2⟩ = none := none_wrong ⟨W.1, W.2.1, W.2.2.1, W.2.2.2.1, by show (ds2.all deedD && ascD ds2) = true; rw [hd, ha]; rfl⟩
          have ok6 := Five.put_ok (ok.sm ((m31.trans mg).trans mh)) 4 (Dt.lst (K := K) eg ((r.sm m31).sm (mg.trans mh))) fL (.inr s4l)
          refine ⟨l10, ⟨.str z, .int i0, p2, .bl b, .ref gv, .str z, .int i0, d2, .bool b, .list ds2⟩, rfl, .inl (.inl upd_same), ok6.sm mj, (fun v e => nomatch (wf6.symm.trans e)), fun _ x4 ft4 fx4 ds4 G13 m13 nx4 pl4 fd4 => ?_⟩
          have e4 : ds4 = ds2 := by
            rcases fd4 with e | e
            · cases e
            · cases e
              rfl
          subst e4
          have mk := (mg.trans mh).trans (mj.trans m13)
          have eg13 := m13 _ _ (mj _ _ eg)
          have pz13 := (pz10.sm mG).sm mk
          refine ⟨_, rfl, .inl ⟨rfl, _, .inl (.inl eg13)⟩, sz_ _ (by show 2 ≤ 1000; decide), fun tt wt => ?_⟩
          have mt := Sm.new (o := .tup [.int 9, .str "z"]) wt
          refine ⟨gv, xs4, .ref tt, rfl, rfl, mt _ _ eg13, ?l3, ?_⟩
          case l3 =>
            have e := r.len
            have := (short2_of ok.s4).1
            rw [sizeLine_eq]
            omega
          have pl14 := (pl4.sm mt).put (zs := xs4 ++ [.ref tt]) h2 hd (mt _ _ eg13)
          have pz14 := (pz13.sm mt).put (zs := xs4 ++ [.ref tt]) h2 hd (mt _ _ eg13)
          have g0 : G2 gv = none := none_sm m31 wg
          have m34 : Sm G2 (upd (upd G13 tt (.tup [.int 9, .str "z"])) gv (.lst (xs4 ++ [.ref tt]))) := fun b' o' e' => by
            rw [upd_ne (ne_of_none e' g0)]
            exact mt _ _ (mk _ _ (m31 _ _ e'))
          generalize upd (upd G13 tt (.tup [.int 9, .str "z"])) gv (.lst (xs4 ++ [.ref tt])) = G14 at pl14 pz14 m34 ⊢
          obtain ⟨dx4, hx4⟩ := pl14.at_
          obtain ⟨dz4, hz4⟩ := pz14.at_
          refine ⟨_, rfl, _, rfl, x4, dx4, _, rfl, hx4, .inl ⟨x2, dz4, _, rfl, hz4⟩, x4, .ref x2, ⟨.str z, .int i0, p2, .bl b, .ref gv, .str z, .int i0, d2, .bool b, .list ds4⟩, ft4, fx4, ds4, rfl, pl14, .inl ⟨x2, ⟨.str z, .int i0, p2, .bl b, .ref l5, .str z, .int i0, d2, .bool b, .list ds4⟩, ft2, fx2, ds4, rfl, pz14, _, rfl, ?_⟩⟩
          have sG : sameP ⟨.str z, .int i0, p2, .bl b, .ref gv, .str z, .int i0, d2, .bool b, .list ds4⟩ ⟨.str z, .int i0, p2, .bl b, .ref l5, .str z, .int i0, d2, .bool b, .list ds4⟩ ds4 ds4 = true := sE
          rw [sG]
          refine iteF ⟨_, rfl, x4, dx4, _, rfl, hx4, x4, dx4, _, _, rfl, hx4, rfl, _, rfl, pq, _, _, _, rfl, rfl, .inl (.inl (m34 _ _ eq)), a4t, k, a4, xs4, rfl, hk.sm m34, fun st G15 m15 hst => ?_⟩
          refine ⟨.tuple ds4, .tuple ds4, .tup (SqT.sm pl14.ft_ m15) (pl14.fx_.sm m15).dp, .tup hst (r.sm (m34.trans m15)).dp, fT.sh, fT.sh, _, rfl, ?_⟩
          rw [eqv_self fT.sh]
          exact iteF ⟨_, _, _, _, _, _, _, _, _, _, _, _, _, rfl, pen2.sm (m34.trans m15)⟩
  · -- a plan with its defaults
    rintro σ G ⟨v2, v3, v4, v5, v6, v7, v8, v9, v10, v11, v12, v13, v14, rfl, pen⟩
    have o0 : Five.Ok ⟨.str "key", .int 1, .non, .bl false, .ref e, .str "key", .int 1, .none, .bool false, .tuple []⟩ K G := ⟨.str _, .int _, .non, .bl _, .tup (hE G) .nil, (by decide +kernel : short2 (.tuple []) = true), (by decide +kernel : fit (.str "key") = true), (by decide +kernel : fit (.int 1) = true), (by decide +kernel : fit .none = true), (by decide +kernel : fit (.bool false) = true), (by decide +kernel : fit (.tuple []) = true)⟩
    have w0 : Five.wrong ⟨.str "key", .int 1, .non, .bl false, .ref e, .str "key", .int 1, .none, .bool false, .tuple []⟩ = none := none_wrong ⟨(by decide +kernel : oneD ways (.str "key") = true), (by decide +kernel : countD 3 (.int 1) = true), (by decide +kernel : spanD .none = true), (by decide +kernel : isB (.bool false) = true), (by decide +kernel : fenceD (.tuple []) = true)⟩
    intro xp dp np ndp nep
    rw [hv]
    have m1 : Sm G (upd (upd G dp (.own xp)) xp (.ins C dp [])) := (Sm.new ndp).trans (Sm.new (by rw [upd_ne (Ne.symm nep)]; exact np))
    refine ⟨xp, dp, ⟨.str "key", .int 1, .non, .bl false, .ref e, .str "key", .int 1, .none, .bool false, .tuple []⟩, rfl, upd_same, o0.sm m1, (fun v e => nomatch (w0.symm.trans e)), fun _ ft fx ds H' s2 pl fd => ⟨rfl, ?_⟩⟩
    have ed : ds = [] := by
      rcases fd with e | e
      · cases e
        rfl
      · cases e
    subst ed
    obtain ⟨dq, hp⟩ := pl.at_
    refine ⟨_, rfl, xp, dq, _, rfl, hp, xp, dq, _, _, rfl, hp, rfl, _, rfl, xp, dq, _, rfl, hp, xp, dq, _, _, rfl, hp, rfl, _, rfl, xp, dq, _, rfl, hp, xp, dq, _, _, rfl, hp, rfl, _, rfl, xp, dq, _, rfl, hp, xp, dq, _, _, rfl, hp, rfl, _, rfl, xp, dq, _, rfl, hp, xp, dq, _, _, rfl, hp, rfl, sz_ _ (by show 5 ≤ 1000; decide), fun tl ntl => ?_⟩
    have mt := Sm.new (o := .lst [V.str "key", .int 1, .non, .bl false, .ref ft]) ntl
    refine ⟨_, rfl, Nat.zero_le _, fun t1 n1 => ⟨sz_ _ (by show 5 ≤ 1000; decide), fun t2 n2 => ?_⟩⟩
    have mu := (Sm.new (o := .tup []) n1).trans (Sm.new (o := .lst [V.str "key", .int 1, .non, .bl false, .ref t1]) n2)
    refine ⟨.list [.str "key", .int 1, .none, .bool false, .tuple []], .list [.str "key", .int 1, .none, .bool false, .tuple []], .lst (.inl (.inl (mu _ _ upd_same))) (.cons (.str _) (.cons (.int _) (.cons .non (.cons (.bl _) (.cons (.tup (SqT.sm pl.ft_ (mt.trans mu)) (pl.fx_.sm (mt.trans mu)).dp) .nil))))),
      .lst (.inl (.inl upd_same)) (.cons (.str _) (.cons (.int _) (.cons .non (.cons (.bl _) (.cons (.tup (.inl (.inl (Sm.new n2 _ _ upd_same))) .nil) .nil))))), by decide +kernel, by decide +kernel, ?_⟩
    have ee : PyData.eqv (.list [.str "key", .int 1, .none, .bool false, .tuple []]) (.list [.str "key", .int 1, .none, .bool false, .tuple []]) = true := by decide +kernel
    rw [ee]
    exact q _
end
end Pk
set_option Elab.async false
set_option linter.all false
set_option maxRecDepth 100000
set_option maxHeartbeats 8000000
namespace Pk
open PySem PySem.Spec PyProof.Rows L2 Er
open PySem.ErK (EC)
abbrev pW : List Str := ["_law_script"]
section
variable {P : Program} {w : World} {K : PySem.W.Frag} {mg : Str → Option Value} {base : Heap} {f C CB DE fB fP aW fE g1 g2 g3 g4 g5 q1 q2 q3 q4 q5 fI fN fO fC fW fF fD fS fOp fT fA fOn fWh fLf fWr fDr fOf : Addr} {fd dB dP dE h1 h2 h3 h4 h5 dI dN dO dC dW dF dD dS dOp dT dA dOn dWh dLf dWr dDr dOf : FuncData} {kws : List (Str × V)}
/-- the law's def is called where no repr runs -/
theorem run_at (T : Fns K mg C CB DE fB fP aW fE dB dP dE kws g1 g2 g3 g4 g5 q1 q2 q3 q4 q5 h1 h2 h3 h4 h5 fI fN fO fC fW fF fD dI dN dO dC dW dF dD fS fOp fT fA fOn fWh fLf fWr fDr fOf dS dOp dT dA dOn dWh dLf dWr dDr dOf) (FW : FnP K "law" (top 28) f fd) {A : Around} {outer : List Env} {s : Shared} {H : Hp} {args : Args} {us : List Value} {vs : List V} {Q : VK} {E : XK} (hg : A.guards = some []) (hr : Room 7 A)
    (e0 : Env0 P w K mg base A outer s H) (hb : BindsTo s fd args (pW.zip us)) (r : Vals vs us) (hsp : spLaw K vs H Q E) : codeAny (model P w) A (.call (.ref f) args) (CR CX0 outer P w H s Q E) s := by
  obtain ⟨oc, od, dV, kV, doc, pm, an, cdv, ct, osl, rfl, lk, hcd, _, _⟩ := FW.ex
  have len1 : vs.length = pW.length := by
    obtain ⟨a, ns, rfl, _⟩ := hsp
    rfl
  have inK : K.In s.heap := PySem.W.Frag.In.keeps e0.mod.kin fun b o e => (e0.bs b o e).1
  have free : s.heap.NoLimit := e0.mod.nolimit.keeps fun b o e => (e0.bs b o e).1
  have kinds : ∀ y ∈ pW.zip us, (defScope (top 28)).names.lookup y.1 = some .local ∨ ((defScope (top 28)).names.lookup y.1 = some .cell ∧ ((cellsFrom (s.heap.objs.size + 1) (defScope (top 28)).names []).lookup y.1).isSome = true) := fun y hy => by
    obtain ⟨n, v⟩ := y
    have z := (List.of_mem_zip hy).1
    rcases scW.par n z with e | e
    · exact .inl e
    · exact .inr ⟨e, PySem.W.cellsFrom_some _ _ _ (.inl e)⟩
  refine codeAny_call_function hr.depth (inK _ _ lk) rfl scW.co scW.gen rfl (PySem.W.codeRec_of inK hcd) (hb _ _ _ _ ?_)
  refine wpAny_newFunctionEnv_cells scW.kind kinds fun env he s1 x => ?_
  subst he
  refine ⟨free.keeps x.toInCall.keep, codeAny_func ?_⟩
  obtain ⟨t, ht, hq⟩ := law_body (P := P) (w := w) (base := base) (f := f) (cdv := cdv) (outer := outer) (s := s) (E := E) T hg (hr.deeper _) hsp
  have I := inv_start (CX := CX0) (P := P) (w := w) (K := K) (mg := mg) (base := base) (E := E) scW hr.hd e0 len1 r x
  refine wpAny_mono (ht.run [] s1 (start nW vs) H _ I hq) (fun fl s' hs => ?_) fun e s' z => z
  cases fl with
  | ret u =>
    obtain ⟨v, σ', H', J, rv, q⟩ := hs
    exact ⟨v, H', J.os, J.bare, J.base, J.hok, rv, q⟩
  | next =>
    obtain ⟨σ', H', J, q⟩ := hs
    exact ⟨V.non, H', J.os, J.bare, J.base, J.hok, rfl, q⟩
  | brk =>
    obtain ⟨_, _, _, q⟩ := hs
    exact q.elim
  | cont =>
    obtain ⟨_, _, _, q⟩ := hs
    exact q.elim
/-- the law, called by the claim -/
theorem top_call {mb : Str → Option Value} {a : Addr} {s₁ : Shared} {vs : List Value} {ns : List Int} (T : Fns K mg C CB DE fB fP aW fE dB dP dE kws g1 g2 g3 g4 g5 q1 q2 q3 q4 q5 h1 h2 h3 h4 h5 fI fN fO fC fW fF fD dI dN dO dC dW dF dD fS fOp fT fA fOn fWh fLf fWr fDr fOf dS dOp dT dA dOn dWh dLf dWr dDr dOf) (FW : FnP K "law" (top 28) f fd) (bind : ∀ (s : Shared) (u : Value), BindsTo s fd ⟨[u], []⟩ [("_law_script", u)])
    (inK : K.In s₁.heap) (glob : s₁.heap.Ns mainGlobals mg) (blt : s₁.heap.Ns builtinsNs mb) (blt2 : ∀ x : Str, x ≠ "__name__" → mb x = bootBuiltins x) (lim : s₁.heap.NoLimit) (gens : s₁.gens = #[])
    (at_ : s₁.heap.get? a = some { cls := .type "list", data := .seq vs.toArray }) (ar : IntsAre vs ns) (few : ns.length ≤ 63) (bits : ∀ z ∈ ns, Builtin.Int.intBits z ≤ 1048576) :
    codeAny (model P w) callerA (.call (.ref f) ⟨[.ref a], []⟩) (fun r s' => r = .ok (.ret (.bool true)) ∧ OldK s₁.heap s'.heap ∧ s'.os = s₁.os ∧ AllBare s'.gens) s₁ := by
  have rel := vals_ints ar
  have lenV := ar.length
  have small : ns.length ≤ sizeLine := by
    rw [sizeLine_eq]
    omega
  have main : ∀ H : Hp, Only H → SqL K H a (ns.map V.int) → HOk P w H s₁.heap → (∀ b, H b ≠ none → b = a) → (H a ≠ none → K.lookup a = none) →
      codeAny (model P w) callerA (.call (.ref f) ⟨[.ref a], []⟩) (fun r s' => r = .ok (.ret (.bool true)) ∧ OldK s₁.heap s'.heap ∧ s'.os = s₁.os ∧ AllBare s'.gens) s₁ := by
    intro H only sq hok alone notK
    have there : ∀ {b : Addr}, H b ≠ none → b = a := fun {b} z => alone b z
    have nsOf : ∀ {b : Addr} {m : Str → Option Value}, s₁.heap.Ns b m → (hidT s₁.heap H).Ns b m := fun {b m} ⟨o, es, ep, e, d, z⟩ => by
      have free : H b = none := by
        cases c : H b with
        | none => rfl
        | some u =>
          have e2 := there (b := b) (by rw [c]; simp)
          subst e2
          rw [at_] at e
          cases e
          have d2 : Data.seq vs.toArray _ = Data.dict es ep := d
          cases d2
      exact ⟨o, es, ep, hidT_get e free, d, z⟩
    have inB : K.In (hidT s₁.heap H) := fun b o e => hidT_get (inK b o e) (by
      cases c : H b with
      | none => rfl
      | some u =>
        have e2 := there (b := b) (by rw [c]; simp)
        subst e2
        have z := notK (by rw [c]; simp)
        rw [z] at e
        cases e)
    have modOk : Mod K mg (hidT s₁.heap H) := ⟨inB, nsOf glob, ⟨mb, nsOf blt, blt2⟩, by
      obtain ⟨mc, z1, z2⟩ := lim
      exact ⟨mc, nsOf z1, z2⟩⟩
    have e0 : Env0 P w K mg (hidT s₁.heap H) callerA [] s₁ H :=
      ⟨rfl, modOk, fun b o e => of_hidT e, Nat.le_of_eq (hidT_size _ _), trivial, fun b z => absurd (show b ∈ ([] : List Addr) from z) (by simp), hok, .of_eq gens⟩
    have room : Room 7 callerA := ⟨rfl, by decide, by decide⟩
    refine codeAny_mono (run_at (us := [.ref a]) (vs := [.ref a]) (Q := fun v _ => v = .bl true) (E := fun _ _ _ => False) T FW rfl room e0 (bind s₁ (.ref a)) (.cons rfl .nil) ⟨a, ns, rfl, sq, few, bits, fun _ => rfl⟩) fun r s' z => ?_
    cases r with
    | error e => exact z.elim
    | ok fl =>
      cases fl with
      | next => exact z.elim
      | brk => exact z.elim
      | cont => exact z.elim
      | ret u =>
        obtain ⟨v, H', eos, bare, un, hok', rv, ev⟩ := z
        have ev2 : v = .bl true := ev
        subst ev2
        obtain rfl : u = Value.bool true := rv
        refine ⟨rfl, OldK.of_keep fun b o e => ?_, eos, bare⟩
        cases c : H b with
        | none => exact un.keep b o e c (fun z2 => absurd (show b ∈ ([] : List Addr) from z2) (by simp)) (by simp)
        | some u =>
          rcases only b with z2 | ⟨ob, xs, z2⟩
          · rw [c] at z2
            cases z2
          · obtain ⟨x1, _⟩ := hok b _ z2
            obtain ⟨x2, _⟩ := hok' b _ (un.frzs b ob _ z2)
            rw [e] at x1
            cases x1
            exact x2
  cases known : K.lookup a with
  | some o =>
    have e := inK a o known
    rw [at_] at e
    cases e
    refine main (fun _ => none) (fun _ => .inl rfl) (.inr ⟨_, vs.toArray, _, known, rfl, rfl, rfl, ?_, by simpa using rel⟩) (fun b u z => by cases z) (fun b z => absurd rfl z) fun z => absurd rfl z
    rw [List.size_toArray, lenV]
    exact small
  | none =>
    refine main (fun b => if b = a then some (.frz { cls := .type "list", data := .seq vs.toArray } (.lst (ns.map V.int))) else none) (fun b => ?_) (.inl (.inr ⟨{ cls := .type "list", data := .seq vs.toArray }, if_pos rfl⟩)) (fun b u z => ?_) (fun b z => ?_) fun _ => known
    · by_cases c : b = a
      · exact .inr ⟨_, _, if_pos c⟩
      · exact .inl (if_neg c)
    · by_cases c : b = a
      · have z2 := (if_pos c).symm.trans z
        cases z2
        subst c
        exact ⟨at_, by rw [List.length_map]; exact small, vs, _, rel, at_⟩
      · have z2 := (if_neg c).symm.trans z
        cases z2
    · by_cases c : b = a
      · exact c
      · exact absurd (if_neg c) z
end
end Pk
set_option Elab.async false
set_option linter.all false
set_option maxRecDepth 100000
set_option maxHeartbeats 0
namespace Hk
open PySem PySem.Spec PyProof.Rows L2 Er Pk
open PySem.ErK (EC tA tB tS)
/-! ### what is looked at behind the top -/
def oxB (K : PySem.W.Frag) (C : Addr) : Bool := match K.lookup C with
  | some ⟨.type "type", _, .cls cd, sl⟩ => (match cd.mro, sl.toList with
    | .ref C' :: bm, [_, _, _, _, some (.builtin n), _] => C' == C && n == "ValueError.__new__" && !cd.hasDel && cd.hasDict && PySem.HandSPX.refsVE bm
    | _, _ => false)
  | _ => false
def eqB (a b : Option (Option Value)) : Bool := decide (a = b)
def xcB (K : PySem.W.Frag) (C : Addr) : Bool :=
  eqB (PySem.W.findIn K (.ref C) "__class__") (some (some (.builtin "object.__class__"))) && decide (PySem.W.mroIn K C (.type "object") = some true)
def ecB (K : PySem.W.Frag) (x f : Str) : Bool :=
  oxB K (He.ga K x) && (eqB (PySem.W.findIn K (.ref (He.ga K x)) "__setattr__") (some (some (.builtin "object.__setattr__"))) && (decide (PySem.W.typeIn K (.ref (He.ga K x)) = some (.type "type")) && (PySem.W.keepIn K (.ref (He.ga K x)) &&
    (eqB (PySem.W.findIn K (.ref (He.ga K x)) f) (some none) && (eqB (PySem.W.findIn K (.ref (He.ga K x)) "__init__") (some (some (.ref (He.ma K (He.ga K x) "__init__")))) &&
      (decide (PySem.W.typeIn K (.ref (He.ma K (He.ga K x) "__init__")) = some (.type "function")) && (xfB K (He.ga K x) && xcB K (He.ga K x))))))))
/-- the empty tuple that is the fence's default -/
def kwA (K : PySem.W.Frag) : Addr := match K.lookup (He.fAd K ("Plan", some "__init__")) with
  | some ⟨_, _, .func fd, _⟩ => (match fd.kwdefaults with
    | .ref D => (match PySem.W.nsIn K D "fence" with
      | some (some (.ref a)) => a
      | _ => 0)
    | _ => 0)
  | _ => 0
def emB (K : PySem.W.Frag) : Bool := match K.lookup (kwA K) with
  | some ⟨.type c, _, .seq its _, _⟩ => decide (c = "tuple") && its.isEmpty
  | _ => false
/-- a property's getter -/
def gAt (K : PySem.W.Frag) (x : Str) : Addr := match PySem.W.recIn K (He.ma K (He.ga K "Plan") x) "property" with
  | some (.ref g :: _) => g
  | _ => 0
def fnA (K : PySem.W.Frag) (a : Addr) : He.FnW := match K.lookup a with
  | some ⟨_, _, .func fd, _⟩ => some (fd.name, fd.qualname, fd.params, fd.body, fd.scope, fd.globals, fd.closure, fd.builtins)
  | _ => none
def okA (K : PySem.W.Frag) (a : Addr) (qual : Str) : Bool := PySem.W.keepIn K (.ref a) && (match K.lookup a with
  | some ⟨_, _, .func fd, _⟩ => PySem.W.codeIn K fd.code qual && He.dflB K fd.defaults []
  | _ => false)
def prB (K : PySem.W.Frag) (x : Str) : Bool :=
  eqB (PySem.W.findIn K (.ref (He.ga K "Plan")) x) (some (some (.ref (He.ma K (He.ga K "Plan") x)))) && (eqB (PySem.W.specialIn K (.ref (He.ma K (He.ga K "Plan") x)) "__get__") (some (some (.builtin "property.__get__"))) &&
    (decide (PySem.W.takesIn K (.ref (He.ma K (He.ga K "Plan") x)) = some true) && ((match PySem.W.recIn K (He.ma K (He.ga K "Plan") x) "property" with
      | some (.ref _ :: _) => true
      | _ => false) && okA K (gAt K x) ("Plan." ++ x))))
def plB (K : PySem.W.Frag) : Bool :=
  eqB (PySem.W.findIn K (.ref (He.ga K "Plan")) "__class__") (some (some (.builtin "object.__class__"))) && (decide (PySem.W.mroIn K (He.ga K "Plan") (.type "object") = some true) &&
    (decide (PySem.W.kitOne K (.ref (He.ga K "Plan")) (.ref (He.ga K "Plan")) = some true) && (decide (PySem.W.kitOne K (.type "int") (.ref (He.ga K "Plan")) = some false) && (decide (PySem.W.kitOne K (.type "str") (.ref (He.ga K "Plan")) = some false) &&
      (PySem.W.notFirst K (He.ga K "Plan") (.type "int") && (PySem.W.notFirst K (He.ga K "Plan") (.type "str") && (eqB (PySem.W.findIn K (.ref (He.ga K "Plan")) "__eq__") (some (some (.ref (He.ma K (He.ga K "Plan") "__eq__")))) &&
        PySem.W.isFn K (.ref (He.ma K (He.ga K "Plan") "__eq__")))))))))
def props : List Str := ["way", "tries", "window", "stamp", "fence"]
def myB (K : PySem.W.Frag) : Bool := ecB K "BadPlan" "value" && (decide (PySem.W.kitOne K (.ref (He.ga K "BadPlan")) (.ref (He.ga K "BadPlan")) = some true) && (plB K && ((props.all fun x => prB K x) && (He.tupB K "WAYS" [.str "letter", .str "key", .str "all"] && emB K))))
abbrev AlM : Type := He.AlD × (Bool × List He.FnW)
def frM (n : Nat) (g : Addr → Option Obj) : PySem.W.Frag := He.frG g (sysModules :: He.asD g n)
def gets (K : PySem.W.Frag) : List He.FnW := props.map fun x => fnA K (gAt K x)
def getW (x : Str) (st : Stmt) : He.FnW := some (x, "Plan." ++ x, defArgs st, .stmts (defBody st), defScope st, mainGlobals, [], builtinsNs)
def getV : List He.FnW := [getW "way" (meth 1), getW "tries" (meth 2), getW "window" (meth 3), getW "stamp" (meth 4), getW "fence" (meth 5)]
def obM (n : Nat) (fa : List He.Fa) (fn : List He.DefD) (g : Addr → Option Obj) : AlM := (He.obsD fa fn (frM n g), myB (frM n g), gets (frM n g))
def hkM (n : Nat) (fa : List He.Fa) (fn : List He.DefD) : PySem.W.Hook where
  α := AlM
  obs := fun s => obM n fa fn s.heap.get?
  val := fun _ => (He.valD fn, true, getV)
  says := fun _ h => ∃ K : PySem.W.Frag, K.In h ∧ He.SaysD fa fn K ∧ myB K = true ∧ gets K = getV
  of := fun _ _ e => ⟨_, He.frG_in, congrArg (fun z : AlM => z.1) e, congrArg (fun z : AlM => z.2.1) e, congrArg (fun z : AlM => z.2.2) e⟩
  keeps := fun _ _ _ ⟨K, hK, c⟩ k => ⟨K, PySem.W.Frag.In.keeps hK k, c⟩
theorem obM_eq {n : Nat} {fa : List He.Fa} {fn : List He.DefD} {g : Addr → Option Obj} {s : Shared} (h : ∀ a, g a = s.heap.get? a) : obM n fa fn g = (hkM n fa fn).obs s := by
  have e : g = s.heap.get? := funext h
  rw [e] <;> rfl
/-! ### the defs -/
def dfn (x : Str) (st : Stmt) : He.DefD := ⟨(x, none), x, x, defArgs st, defBody st, defScope st, [], []⟩
def fn : List He.DefD := [
  dfn "is_int" (top 4), dfn "is_name" (top 5), dfn "is_one_of" (top 6), dfn "is_count" (top 13), dfn "is_window" (top 14), dfn "are_fenced" (top 15), dfn "is_deed_name" (top 16),
  dfn "_law_spread" (top 18), dfn "_law_open" (top 19), dfn "_law_take" (top 20), dfn "_law_anew" (top 21), dfn "_law_one" (top 22), dfn "_law_is_whole" (top 23), dfn "_law_is_fence" (top 24), dfn "_law_wrong" (top 25), dfn "_law_drawn_parts" (top 26), dfn "_law_plan_of" (top 27), dfn "law" (top 28),
  ⟨("BadPlan", some "__init__"), "__init__", "BadPlan.__init__", defArgs (inner (top 2)), defBody (inner (top 2)), defScope (inner (top 2)), [], []⟩,
  ⟨("Plan", some "__init__"), "__init__", "Plan.__init__", defArgs (meth 0), defBody (meth 0), defScope (meth 0), [], [("tries", .int 1), ("window", .non), ("stamp", .bl false), ("fence", .adr kwA)]⟩,
  ⟨("Plan", some "__eq__"), "__eq__", "Plan.__eq__", defArgs (meth 6), defBody (meth 6), defScope (meth 6), [], []⟩]
def fa : List He.Fa := [
  .glo "is_int", .glo "is_name", .glo "is_one_of", .glo "is_count", .glo "is_window", .glo "are_fenced", .glo "is_deed_name",
  .glo "_law_spread", .glo "_law_open", .glo "_law_take", .glo "_law_anew", .glo "_law_one", .glo "_law_is_whole", .glo "_law_is_fence", .glo "_law_wrong", .glo "_law_drawn_parts", .glo "_law_plan_of", .glo "law",
  .glo "DeskError", .glo "BadPlan", .glo "Plan", .glo "WAYS", .int "MOST_TRIES" 3, .int "MOST_WINDOW" 12, .str "EVER" "ever",
  .free "isinstance", .free "int", .free "bool", .free "str", .free "len", .free "all", .free "zip", .free "list", .free "tuple", .free "enumerate", .free "range", .free "repr",
  .cls "Plan", .noat "Plan" "_way", .noat "Plan" "_tries", .noat "Plan" "_window", .noat "Plan" "_stamp", .noat "Plan" "_fence", .mkr "Plan", .exm "BadPlan" "DeskError" true]
def names : List PySem.Str := [
  "is_int", "is_name", "is_one_of", "DeskError", "BadPlan", "WAYS", "MOST_TRIES", "MOST_WINDOW", "EVER", "Plan", "is_count", "is_window", "are_fenced", "is_deed_name",
  "_law_spread", "_law_open", "_law_take", "_law_anew", "_law_one", "_law_is_whole", "_law_is_fence", "_law_wrong", "_law_drawn_parts", "_law_plan_of"]
abbrev R : PySem.W.OpenRow := PySem.W.OpenLaw.row PySem.Challenge.rw_lateeditions_k42_what_are_plans
abbrev hk : PySem.W.Hook := hkM 5 fa fn
def ob (s : PySem.W.SharedT) : AlM := obM 5 fa fn (HandSHeadRun.getT s)
theorem ob_eq (s : PySem.W.SharedT) : ob s = hk.obs s.abs := obM_eq (HandSHeadRun.getT_eq s)
end Hk
namespace Hk
open PySem PySem.W PySem.Calls PyProof.Rows HandSHeadRun
noncomputable section
abbrev KK (s : SharedT) : Frag := frM 5 (HandSHeadRun.getT s)
theorem tH1 (w : World) (os : OsState) : (endF (stepQ (denQ tabQ) R.prog w) 60000 R.prog w os).map (fun s => (looksF R.prog (boot_heap w.params) s.abs, seenQ (PySem.W.view R.prog [28]) names (importedModules R.prog.main.body) (fun s => xlAt (PySem.W.view R.prog [28]) [] s && recOk R.toRowW.records s) s.abs)) = some (true, PySem.W.openGood (PySem.W.view R.prog [28]) names) := by
  kernel_rfl
theorem tH2 (w : World) (os : OsState) : (endF (stepQ (denQ tabQ) R.prog w) 60000 R.prog w os).map (fun s => ((fa.all fun f => f.ok (KK s)) && fn.all fun d => d.ok (KK s))) = some true := by
  kernel_rfl
theorem tH3 (w : World) (os : OsState) : (endF (stepQ (denQ tabQ) R.prog w) 60000 R.prog w os).map (fun s => (fn.map fun d => He.fnW (KK s) d.at_)) = some (fn.map He.DefD.val) := by
  kernel_rfl
theorem tH4 (w : World) (os : OsState) : (endF (stepQ (denQ tabQ) R.prog w) 60000 R.prog w os).map (fun s => myB (KK s)) = some true := by
  kernel_rfl
theorem tH5 (w : World) (os : OsState) : (endF (stepQ (denQ tabQ) R.prog w) 60000 R.prog w os).map (fun s => gets (KK s)) = some getV := by
  kernel_rfl
end
end Hk
set_option Elab.async false
set_option linter.all false
set_option maxRecDepth 100000
set_option maxHeartbeats 8000000
namespace Hk
open PySem PySem.Spec PyProof.Rows L2 Er Pk
open PySem.ErK (EC tA tB tS)
/-! ### from what was looked at to what is asked -/
theorem cls_hn (K : PySem.W.Frag) : PySem.W.specialIn K (.builtin "object.__class__") "__get__" = some (some (.builtin "getset_descriptor.__get__")) := by
  kernel_rfl
theorem cls_ht (K : PySem.W.Frag) : PySem.W.takesIn K (.builtin "object.__class__") = some true := by
  kernel_rfl
def FnAt (K : PySem.W.Frag) (x f : Str) : Prop := ∃ (oc : Value) (od : Option Addr) (kV doc pm : Value) (an : Option Addr) (cdv ct : Value) (osl : Array (Option Value)) (ql : Str) (p1 p2 q1 q2 q3 q4 : Pos),
  K.lookup (He.ma K (He.ga K x) "__init__") = some ⟨oc, od, .func (PySem.W.fnOf "__init__" ql (tA f p1 p2) (tB f q1 q2 q3 q4) (tS f) .none kV doc pm an cdv ct), osl⟩ ∧ PySem.W.codeIn K cdv ql = true
theorem fnAt_of {K : PySem.W.Frag} {st : Stmt} {x f ql : Str} (F : ∃ fd, FunD K "__init__" ql (defArgs st) (defBody st) (defScope st) [] [] (He.ma K (He.ga K x) "__init__") fd)
    (ha : ∃ p1 p2, defArgs st = tA f p1 p2) (hb : ∃ q1 q2 q3 q4, defBody st = tB f q1 q2 q3 q4) (hs : defScope st = tS f) : FnAt K x f := by
  obtain ⟨fd, F⟩ := F
  obtain ⟨oc, od, dV, kV, doc, pm, an, cdv, ct, osl, rfl, lk, hcd, hD, _⟩ := F.ex
  obtain ⟨p1, p2, ea⟩ := ha
  obtain ⟨q1, q2, q3, q4, eb⟩ := hb
  rcases hD with ⟨_, rfl⟩ | ⟨e, _⟩
  · rw [ea, eb, hs] at lk
    exact ⟨oc, od, kV, doc, pm, an, cdv, ct, osl, ql, p1, p2, q1, q2, q3, q4, lk, hcd⟩
  · exact absurd rfl e
theorem ox_of {K : PySem.W.Frag} {C : Addr} (h : oxB K C = true) : ∃ nm q N bs bm sn sub ab col dd k0 k1 k2 k3 k5, K.lookup C = some (excClassObj nm q C N bs bm true sn sub ab col dd k0 k1 k2 k3 k5 "ValueError.__new__") ∧ PySem.HandSPX.refsVE bm = true := by
  unfold oxB at h
  split at h
  · rename_i dd cd sl ho
    split at h
    · rename_i C' bm k0 k1 k2 k3 n k5 hm hs
      simp only [Bool.and_eq_true, beq_iff_eq, Bool.not_eq_true'] at h
      obtain ⟨⟨⟨⟨rfl, rfl⟩, hdel⟩, hdct⟩, hr⟩ := h
      obtain ⟨nm, bs, mro, ns, qn, hd, sn, sub, ab, col, del⟩ := cd
      dsimp only at hm hdel hdct
      subst hm hdel hdct
      have esl : sl = #[k0, k1, k2, k3, some (.builtin "ValueError.__new__"), k5] := by
        obtain ⟨l⟩ := sl
        simp only at hs
        rw [hs]
      subst esl
      exact ⟨nm, qn, ns, bs, bm, sn, sub, ab, col, dd, k0, k1, k2, k3, k5, ho, hr⟩
    · cases h
  · cases h
theorem ec_of {K : PySem.W.Frag} {x f : Str} (b : ecB K x f = true) (fa : FnAt K x f) (fl : f ∈ PySem.ErK.fields) : EC K x f (He.ga K x) (He.ma K (He.ga K x) "__init__") := by
  unfold ecB eqB at b
  simp only [Bool.and_eq_true, decide_eq_true_eq] at b
  obtain ⟨b1, b2, b3, b4, b5, b6, b7, b8, b9⟩ := b
  have xf := xfB_ok b8
  unfold xcB eqB at b9
  simp only [Bool.and_eq_true, decide_eq_true_eq] at b9
  exact ⟨⟨ox_of b1, b2, xf.exC, b3, b4⟩, b5, b6, b7, xf, ⟨xf.ga, xf.gg, xf.exC, xf.hdC, b9.1, cls_hn K, cls_ht K, b9.2⟩, fl, fa⟩
theorem em_of {K : PySem.W.Frag} (h : emB K = true) (H : Hp) : SqT K H (kwA K) [] := by
  unfold emB at h
  cases q : K.lookup (kwA K) with
  | none =>
    rw [q] at h
    cases h
  | some o =>
    obtain ⟨oc, od, dt, osl⟩ := o
    rw [q] at h
    cases oc with
    | type c =>
      cases dt with
      | seq its n =>
        obtain ⟨h1, h2⟩ := Bool.and_eq_true_iff.mp (show (decide (c = "tuple") && its.isEmpty) = true from h)
        have e : its = #[] := Array.isEmpty_iff.mp h2
        subst e
        exact .inr ⟨_, #[], n, q, congrArg Value.type (of_decide_eq_true h1), rfl, Nat.zero_le _, .nil⟩
      | _ => cases h
    | _ => cases dt <;> cases h
theorem fun_of {K : PySem.W.Frag} {a : Addr} {x qual : Str} {params : Arguments} {body : List Stmt} {scope : Scope} (e : fnA K a = some (x, qual, params, .stmts body, scope, mainGlobals, [], builtinsNs)) (c : okA K a qual = true) : ∃ fd, FunD K x qual params body scope [] [] a fd := by
  obtain ⟨kp, c2⟩ := Bool.and_eq_true_iff.mp c
  unfold fnA at e
  cases q : K.lookup a with
  | none =>
    rw [q] at c2
    cases c2
  | some o =>
    obtain ⟨oc, od, dt, osl⟩ := o
    rw [q] at c2 e
    cases dt with
    | func fd =>
      obtain ⟨n1, n2, n3, n4, n5, n6, n7, n8, n9, n10, n11, n12, n13, n14, n15⟩ := fd
      have e2 := Option.some.inj e
      simp only [Prod.mk.injEq] at e2
      obtain ⟨h1, h2, h3, h4, h5, h6, h7, h8⟩ := e2
      subst h1 h2 h3 h4 h5 h6 h7 h8
      obtain ⟨k1, k2⟩ := Bool.and_eq_true_iff.mp (show (PySem.W.codeIn K n13 n2 && He.dflB K n8 []) = true from c2)
      exact ⟨_, ⟨oc, od, n8, n9, n10, n11, n12, n13, n14, osl, rfl, q, k1, He.dflB_ok k2, .inl rfl⟩, kp⟩
    | _ => cases c2
theorem prop_of {K : PySem.W.Frag} {x : Str} (h : prB K x = true) : PropOf K (He.ga K "Plan") x (He.ma K (He.ga K "Plan") x) (gAt K x) ∧ okA K (gAt K x) ("Plan." ++ x) = true := by
  unfold prB eqB at h
  obtain ⟨h1, h⟩ := Bool.and_eq_true_iff.mp h
  obtain ⟨h2, h⟩ := Bool.and_eq_true_iff.mp h
  obtain ⟨h3, h⟩ := Bool.and_eq_true_iff.mp h
  obtain ⟨h4, h5⟩ := Bool.and_eq_true_iff.mp h
  refine ⟨⟨of_decide_eq_true h1, of_decide_eq_true h2, of_decide_eq_true h3, ?_⟩, h5⟩
  cases q : PySem.W.recIn K (He.ma K (He.ga K "Plan") x) "property" with
  | none =>
    rw [q] at h4
    cases h4
  | some l =>
    rw [q] at h4
    cases l with
    | nil => cases h4
    | cons v r =>
      cases v with
      | ref g =>
        refine ⟨r, ?_⟩
        unfold gAt
        rw [q]
      | _ => cases h4
theorem fns {K : PySem.W.Frag} {h : Heap} {mg : Str → Option Value} (inK : K.In h) (G : h.Ns mainGlobals mg) (c : He.SaysD fa fn K) (b : myB K = true) (gv : gets K = getV) :
    ∃ C CB DE fB fP aW fE dB dP dE kws g1 g2 g3 g4 g5 q1 q2 q3 q4 q5 h1 h2 h3 h4 h5 fI fN fO fC fW fF fD dI dN dO dC dW dF dD fS fOp fT fA fOn fWh fLf fWr fDr fOf dS dOp dT dA dOn dWh dLf dWr dDr dOf, Fns K mg C CB DE fB fP aW fE dB dP dE kws g1 g2 g3 g4 g5 q1 q2 q3 q4 q5 h1 h2 h3 h4 h5 fI fN fO fC fW fF fD dI dN dO dC dW dF dD fS fOp fT fA fOn fWh fLf fWr fDr fOf dS dOp dT dA dOn dWh dLf dWr dDr dOf := by
  obtain ⟨dI, FI⟩ := c.def_ 0 (d := dfn "is_int" (top 4)) rfl
  obtain ⟨dN, FN⟩ := c.def_ 1 (d := dfn "is_name" (top 5)) rfl
  obtain ⟨dO, FO⟩ := c.def_ 2 (d := dfn "is_one_of" (top 6)) rfl
  obtain ⟨dC, FC⟩ := c.def_ 3 (d := dfn "is_count" (top 13)) rfl
  obtain ⟨dW, FW⟩ := c.def_ 4 (d := dfn "is_window" (top 14)) rfl
  obtain ⟨dF, FF⟩ := c.def_ 5 (d := dfn "are_fenced" (top 15)) rfl
  obtain ⟨dD, FD⟩ := c.def_ 6 (d := dfn "is_deed_name" (top 16)) rfl
  obtain ⟨dS, FS⟩ := c.def_ 7 (d := dfn "_law_spread" (top 18)) rfl
  obtain ⟨dOp, FOp⟩ := c.def_ 8 (d := dfn "_law_open" (top 19)) rfl
  obtain ⟨dT, FT⟩ := c.def_ 9 (d := dfn "_law_take" (top 20)) rfl
  obtain ⟨dA, FA⟩ := c.def_ 10 (d := dfn "_law_anew" (top 21)) rfl
  obtain ⟨dOn, FOn⟩ := c.def_ 11 (d := dfn "_law_one" (top 22)) rfl
  obtain ⟨dWh, FWh⟩ := c.def_ 12 (d := dfn "_law_is_whole" (top 23)) rfl
  obtain ⟨dLf, FLf⟩ := c.def_ 13 (d := dfn "_law_is_fence" (top 24)) rfl
  obtain ⟨dWr, FWr⟩ := c.def_ 14 (d := dfn "_law_wrong" (top 25)) rfl
  obtain ⟨dDr, FDr⟩ := c.def_ 15 (d := dfn "_law_drawn_parts" (top 26)) rfl
  obtain ⟨dOf, FOf⟩ := c.def_ 16 (d := dfn "_law_plan_of" (top 27)) rfl
  obtain ⟨dB, FB⟩ := c.def_ 18 (d := ⟨("BadPlan", some "__init__"), "__init__", "BadPlan.__init__", defArgs (inner (top 2)), defBody (inner (top 2)), defScope (inner (top 2)), [], []⟩) rfl
  obtain ⟨dP, FP⟩ := c.def_ 19 (d := ⟨("Plan", some "__init__"), "__init__", "Plan.__init__", defArgs (meth 0), defBody (meth 0), defScope (meth 0), [], [("tries", .int 1), ("window", .non), ("stamp", .bl false), ("fence", .adr kwA)]⟩) rfl
  obtain ⟨dE, FE⟩ := c.def_ 20 (d := ⟨("Plan", some "__eq__"), "__eq__", "Plan.__eq__", defArgs (meth 6), defBody (meth 6), defScope (meth 6), [], []⟩) rfl
  have g : ∀ (i : Nat) (x : Str), fa[i]? = some (.glo x) → mg x = some (.ref (He.ga K x)) := fun i x e => He.glo_ok inK G (c.fact i e)
  have n : ∀ (i : Nat) (x : Str), fa[i]? = some (.free x) → mg x = none := fun i x e => He.free_ok inK G (c.fact i e)
  unfold myB at b
  obtain ⟨b1, b⟩ := Bool.and_eq_true_iff.mp b
  obtain ⟨b2, b⟩ := Bool.and_eq_true_iff.mp b
  obtain ⟨b3, b⟩ := Bool.and_eq_true_iff.mp b
  obtain ⟨b4, b⟩ := Bool.and_eq_true_iff.mp b
  obtain ⟨b5, b6⟩ := Bool.and_eq_true_iff.mp b
  unfold plB eqB at b3
  obtain ⟨p1, b3⟩ := Bool.and_eq_true_iff.mp b3
  obtain ⟨p2, b3⟩ := Bool.and_eq_true_iff.mp b3
  obtain ⟨p3, b3⟩ := Bool.and_eq_true_iff.mp b3
  obtain ⟨p4, b3⟩ := Bool.and_eq_true_iff.mp b3
  obtain ⟨p5, b3⟩ := Bool.and_eq_true_iff.mp b3
  obtain ⟨p6, b3⟩ := Bool.and_eq_true_iff.mp b3
  obtain ⟨p7, b3⟩ := Bool.and_eq_true_iff.mp b3
  obtain ⟨p8, p9⟩ := Bool.and_eq_true_iff.mp b3
  have pr : ∀ x ∈ props, prB K x = true := fun x hx => List.all_eq_true.mp b4 x hx
  obtain ⟨P1, o1⟩ := prop_of (pr "way" (by decide))
  obtain ⟨P2, o2⟩ := prop_of (pr "tries" (by decide))
  obtain ⟨P3, o3⟩ := prop_of (pr "window" (by decide))
  obtain ⟨P4, o4⟩ := prop_of (pr "stamp" (by decide))
  obtain ⟨P5, o5⟩ := prop_of (pr "fence" (by decide))
  have gt : ∀ (i : Nat) (x : Str) (st : Stmt), props[i]? = some x → getV[i]? = some (getW x st) → fnA K (gAt K x) = getW x st := fun i x st e1 e2 => by
    have z : (gets K)[i]? = some (getW x st) := by rw [gv]; exact e2
    unfold gets at z
    rw [List.getElem?_map, e1] at z
    exact Option.some.inj z
  obtain ⟨h1, F1⟩ := fun_of (gt 0 "way" (meth 1) rfl rfl) o1
  obtain ⟨h2, F2⟩ := fun_of (gt 1 "tries" (meth 2) rfl rfl) o2
  obtain ⟨h3, F3⟩ := fun_of (gt 2 "window" (meth 3) rfl rfl) o3
  obtain ⟨h4, F4⟩ := fun_of (gt 3 "stamp" (meth 4) rfl rfl) o4
  obtain ⟨h5, F5⟩ := fun_of (gt 4 "fence" (meth 5) rfl rfl) o5
  have fb : FnAt K "BadPlan" "value" := fnAt_of (st := inner (top 2)) ⟨dB, FB⟩ ⟨_, _, rfl⟩ ⟨_, _, _, _, rfl⟩ rfl
  have ec : EC K "BadPlan" "value" (He.ga K "BadPlan") (He.ma K (He.ga K "BadPlan") "__init__") := ec_of b1 fb (by decide)
  have tW : ∀ H, SqT K H (He.ga K "WAYS") (ways.map V.str) := fun H => He.tupB_ok b5 H
  have pl : PlC K mg (He.ga K "Plan") := ⟨He.cls_ok (c.fact 37 (f := .cls "Plan") rfl), of_decide_eq_true p1, cls_hn K, cls_ht K, of_decide_eq_true p2, of_decide_eq_true p3, of_decide_eq_true p4, of_decide_eq_true p5, p6, p7,
    He.noat_ok (c.fact 38 (f := .noat "Plan" "_way") rfl), He.noat_ok (c.fact 39 (f := .noat "Plan" "_tries") rfl), He.noat_ok (c.fact 40 (f := .noat "Plan" "_window") rfl), He.noat_ok (c.fact 41 (f := .noat "Plan" "_stamp") rfl), He.noat_ok (c.fact 42 (f := .noat "Plan" "_fence") rfl), g 20 _ rfl⟩
  have mk : Mk K (He.ga K "Plan") (He.ma K (He.ga K "Plan") "__init__") := He.mkr_ok (c.fact 43 (f := .mkr "Plan") rfl)
  have te := He.exm_ok (c.fact 44 (f := .exm "BadPlan" "DeskError" true) rfl)
  exact ⟨_, _, _, _, _, _, _, dB, dP, dE, _, _, _, _, _, _, _, _, _, _, _, h1, h2, h3, h4, h5, _, _, _, _, _, _, _, dI, dN, dO, dC, dW, dF, dD, _, _, _, _, _, _, _, _, _, _, dS, dOp, dT, dA, dOn, dWh, dLf, dWr, dDr, dOf,
    { B := ⟨ec, FB, g 19 _ rfl⟩, T := pl, M := mk, FP := FP, FE := FE, eq1 := of_decide_eq_true p8, eq2 := p9, P1 := P1, P2 := P2, P3 := P3, P4 := P4, P5 := P5, F1 := F1, F2 := F2, F3 := F3, F4 := F4, F5 := F5
      gD := g 18 _ rfl, te := te, kB := of_decide_eq_true b2, gW := g 21 _ rfl, tW := tW, mT := He.int_ok inK G (c.fact 22 (f := .int "MOST_TRIES" 3) rfl), mM := He.int_ok inK G (c.fact 23 (f := .int "MOST_WINDOW" 12) rfl), mE := He.str_ok inK G (c.fact 24 (f := .str "EVER" "ever") rfl)
      FI := FI, gI := g 0 _ rfl, FN := FN, gN := g 1 _ rfl, FD := FD, gDn := g 6 _ rfl, cs := ⟨FO, g 2 _ rfl, FC, g 3 _ rfl, FW, g 4 _ rfl, FF, g 5 _ rfl⟩
      FS := FS, gS := g 7 _ rfl, FOp := FOp, gOp := g 8 _ rfl, FT := FT, gT := g 9 _ rfl, FA := FA, gA := g 10 _ rfl, FOn := FOn, gOn := g 11 _ rfl, FWh := FWh, gWh := g 12 _ rfl, FLf := FLf, gLf := g 13 _ rfl, FWr := FWr, gWr := g 14 _ rfl, FDr := FDr, gDr := g 15 _ rfl, FOf := FOf, gOf := g 16 _ rfl
      hk := rfl, kv := ⟨kwA K, rfl, em_of b6⟩
      mi := n 25 _ rfl, mn := n 26 _ rfl, mb := n 27 _ rfl, ms := n 28 _ rfl, ml := n 29 _ rfl, ma := n 30 _ rfl, mz := n 31 _ rfl, mL := n 32 _ rfl, mU := n 33 _ rfl, mN := n 34 _ rfl, mR := n 35 _ rfl, mr := n 36 _ rfl }⟩
end Hk
set_option Elab.async false
set_option linter.all false
set_option maxRecDepth 100000
set_option maxHeartbeats 0
namespace Hk
open PySem PySem.W PySem.Calls PyProof.Rows HandSHeadRun
theorem run (w : World) : RunEq R (PySem.W.view R.prog [28]) hk ob 60000 names w := by
  intro os
  have t1 := tH1 w os
  have t2 := tH2 w os
  have t3 := tH3 w os
  have t4 := tH4 w os
  have t5 := tH5 w os
  cases e : endF (stepQ (denQ tabQ) R.prog w) 60000 R.prog w os with
  | none =>
    rw [e] at t1
    cases t1
  | some s =>
    rw [e] at t1 t2 t3 t4 t5
    have u1 := Option.some.inj t1
    have u2 := Option.some.inj t2
    have u3 := Option.some.inj t3
    have u4 := Option.some.inj t4
    have u5 := Option.some.inj t5
    have v1 := congrArg (fun z => z.1) u1
    have v2 := congrArg (fun z => z.2) u1
    have o : ob s = ((true, fn.map He.DefD.val), true, getV) := Prod.ext (Prod.ext u2 u3) (Prod.ext u4 u5)
    exact congrArg some (Prod.ext v1 (Prod.ext v2 o))
end Hk
open PySem PySem.W PySem.Calls PyProof.Rows
theorem PySem.Challenge.cw_lateeditions_k42_what_are_plans_holds : PySem.Challenge.rw_lateeditions_k42_what_are_plans.Holds := by
  w_on; o_law
  refine HandSHeadRun.head_any (r := OpenLaw.row PySem.Challenge.rw_lateeditions_k42_what_are_plans) (q := view (OpenLaw.row PySem.Challenge.rw_lateeditions_k42_what_are_plans).prog [28]) (H := Hk.hk) (ob := Hk.ob) (M := 60000) (loose := Hk.names) (d := HandSHeadRun.topDef (OpenLaw.row PySem.Challenge.rw_lateeditions_k42_what_are_plans).prog 28) (kwd := []) Hk.ob_eq
    (by kernel_rfl) (fun s => by kernel_rfl) Hk.run (by kernel_rfl) (by kernel_rfl) (by kernel_rfl) (by rfl) (by first | assumption | decide +kernel) (by decide +kernel) ⟨rfl, rfl, rfl, rfl, rfl, by decide +kernel⟩ ?hw ?hc
  case hw => w_witness2
  case hc =>
    refine Att.attach_callB (l := PySem.Challenge.rw_lateeditions_k42_what_are_plans) (n := 63) rfl (by kernel_rfl) fun w s₀ s₁ mg mb fa o pm cd doc a vs ns G Y ho hd hcd hmg hobj hints hlen hbits hg => ?_
    obtain ⟨K, inK, c, b, gv⟩ := Y
    obtain ⟨_, _, _, _, _, _, _, _, _, _, _, _, _, _, _, _, _, _, _, _, _, _, _, _, _, _, _, _, _, _, _, _, _, _, _, _, _, _, _, _, _, _, _, _, _, _, _, _, _, _, _, _, _, _, _, _, _, _, _, _, T⟩ := Hk.fns inK G.T.g c b gv
    obtain ⟨fd, F⟩ := c.def_ 17 (d := Hk.dfn "law" (Pk.top 28)) rfl
    have hmg2 : mg ("law" : PySem.Str) = some (.ref fa) := by
      have e : (HandSHeadRun.topDef (OpenLaw.row PySem.Challenge.rw_lateeditions_k42_what_are_plans).prog 28).name = ("law" : PySem.Str) := by kernel_rfl
      rw [← e]
      exact hmg
    have at_ := hmg2.symm.trans (He.glo_ok inK G.T.g (c.fact 17 (f := .glo "law") rfl))
    cases at_
    have bind := L2.FunD.bindsA (ps := ["_law_script"]) F fun _ _ _ _ _ _ us hl => match us, hl with
      | [_], _ => rfl
    exact Pk.top_call T F (fun s u => bind s [u] rfl) inK G.T.g G.T.b G.T.builtins G.T.nolimit hg hobj hints hlen hbits
