import PyProof.Rows.All
import Wide.All
import OpenK.AllK
import Wide.FinOn
import PyProof.EqAt
import PyProof.EqKinds
import PyProof.TupleCall
import HandS.Base
import HandS.Call
import HandS.List
import HandS.Ends
import HandS.Exc
import HandS.ExcInit
import HandS.Defaults
import HandS.ExcField
import HandS.ExcIs
import HandS.IsInst
import HandS.Words
import HandS.Wide
import HandS.Dict
import KE.KDictLaw
import PyProof.ReprRoads
import PyProof.ReprLen
import KE.KStateDown
import HandS.Head0
import HandS.Head1
import HandS.Head2
import HandS.HeadEnd
import HandS.HeadHook1
import HandS.HeadHook2
import HandS.More
import HandS.WordsList
import HandS.Comp
import HandS.Iter
import HandS.ListEq
import HandS.EndBits
import PySem.Challenge.RW_lateeditions_k00_errors_by_hand
set_option Elab.async false
set_option linter.all false
set_option maxRecDepth 100000
set_option maxHeartbeats 8000000
namespace PySem
namespace ErK
open PySem.W PySem.Calls PyProof.Rows PySem.HandSPX
section
variable {prog : Program} {w : World} {M : Model} {A : Around} {E : Value → Shared → Prop} {R : Result → Shared → Prop} {h : Heap} {g : Array GenState} {d : Drawn} {t : Nat} {os : OsState}
variable {nm q : Str} {C N : Addr} {bs bm bmB : List Value} {hdct : Bool} {sn : List Str} {sub : List Value} {ab : Bool} {col : Option Bool} {dd : Option Addr} {k0 k1 k2 k3 k5 : Option Value} {B nw ini : String}
/-- the check ahead of the class's __new__, with keywords -/
theorem new_seen (F : ExcBaseFacts B nw ini bmB) (hT : ∀ X : String, bm.contains (.type X) = bmB.contains (.type X)) {us : List Value} {kws : List (Str × Value)} {Q : Unit → Shared → Prop}
    (cls : h.get? C = some (excClassObj nm q C N bs bm hdct sn sub ab col dd k0 k1 k2 k3 k5 nw)) (fin : Q () ⟨h, g, d, t, os⟩) :
    wpAny M A (checkBuiltinCall nw ⟨.ref C :: us, kws⟩) Q E ⟨h, g, d, t, os⟩ := by
  have has : (Value.ref C :: bm).contains (.type B) = true := by
    rw [List.contains_cons, hT, F.hasB, Bool.or_true]
  have star := F.noStar
  simp only [checkBuiltinCall, F.newKind, F.newSplit, F.newRow]
  repeat (first
    | refine wpAny_loadPart_at cls ?_
    | (refine wpAny_isSubtype_exc cls ?_
       rw [has])
    | refine wpAny_staticBase_exc cls ?_
    | refine wpAny_madeBy_exc cls ?_
    | simp only [bne_self_eq_false, Bool.false_eq_true, if_false]
    | wp_step)
  exact fin
/-- BaseException.__new__ of such a class, with keywords: they are not looked at -/
theorem new_runs (F : ExcBaseFacts B nw ini bmB) (hT : ∀ X : String, bm.contains (.type X) = bmB.contains (.type X)) {us : List Value} {kws : List (Str × Value)}
    (cls : h.get? C = some (excClassObj nm q C N bs bm hdct sn sub ab col dd k0 k1 k2 k3 k5 nw)) (short : us.length ≤ sizeLine)
    (fin : R (.ok (.ret (.ref (h.objs.size + 1)))) ⟨(h.push (W.kdv_tup us)).push (excO C h.objs.size), g, d, t, os⟩) :
    codeAny (model prog w) A (.builtin nw ⟨.ref C :: us, kws⟩) R ⟨h, g, d, t, os⟩ := by
  have ends := F.ends
  have isB : (Value.ref C :: bm).contains (.type B) = true := by
    rw [List.contains_cons, hT, F.hasB, Bool.or_true]
  have notA : (Value.ref C :: bm).contains (.type "AttributeError") = false := by
    rw [List.contains_cons, hT, F.noAttr]
    rfl
  have notN : (Value.ref C :: bm).contains (.type "NameError") = false := by
    rw [List.contains_cons, hT, F.noName]
    rfl
  refine codeAny_builtinAt F.entry ?_
  unfold Builtin.«BaseException.__new__»
  refine wpAt_bind ?_
  show wpAt _ _ _ (stack >>= _) _ _ _
  refine wpAt_bind (wpAt_stack fun p below => wpAt_of_wpAny ?_)
  wp_walk
  refine wpAt_of_wpAny ?_
  rw [F.owner]
  repeat (first
    | with_reducible refine wpAny_madeHere_exc F.canon cls ?_
    | with_reducible refine wpAny_loadPart_at cls ?_
    | (with_reducible refine wpAny_isSubtype_exc cls ?_
       first
         | rw [isB]
         | rw [notA]
         | rw [notN])
    | wp_step)
  show R _ _
  rw [Heap.size_push]
  exact fin
/-- type.__call__ of such a class, with keywords -/
theorem type_runs (F : ExcBaseFacts B nw ini bmB) (hT : ∀ X : String, bm.contains (.type X) = bmB.contains (.type X)) {us : List Value} {kws : List (Str × Value)} {fI : Addr} {Q : Fin → Shared → Prop}
    (cls : h.get? C = some (excClassObj nm q C N bs bm hdct sn sub ab col dd k0 k1 k2 k3 k5 nw)) (short : us.length ≤ sizeLine)
    (look : W.Looks (model prog w) h (typeLookup (.ref C) "__init__") (some (.ref fI))) (bind : ∀ self, W.Looks (model prog w) h (bindSpecial (.ref fI) self) (.ref fI, [self]))
    (run : codeAny (model prog w) A (.call (.ref fI) ⟨.ref (h.objs.size + 1) :: us, kws⟩)
      (fun r s' => match r with
        | .ok (.ret v) => v = .none ∧ Q (.done (.ret (.ref (h.objs.size + 1)))) s'
        | .ok _ => False
        | .error e => E e s')
      ⟨(h.push (W.kdv_tup us)).push (excO C h.objs.size), g, d, t, os⟩) :
    wpAny (model prog w) A (Builtin.«type.__call__» ⟨.ref C :: us, kws⟩) Q E ⟨h, g, d, t, os⟩ := by
  repeat (first
    | with_reducible refine wpAny_loadPart_at cls ?_
    | with_reducible refine wpAny_madeBy_exc cls ?_
    | wp_step)
  refine codeAny_call_builtin_code (Code.quiet_builtin _ F.quiet) (new_seen F hT cls ?_)
  refine new_runs F hT cls short ?_
  show wpAny _ _ _ _ _ _
  have old : ∀ b o, h.get? b = some o → ((h.push (W.kdv_tup us)).push (excO C h.objs.size)).get? b = some o :=
    fun b o e => Heap.get?_push_of_some _ (Heap.get?_push_of_some _ e)
  have cls1 := old _ _ cls
  have made : ((h.push (W.kdv_tup us)).push (excO C h.objs.size)).get? (h.objs.size + 1) = some (excO C h.objs.size) := by
    heap_get
  have self : (Value.ref C :: bm).contains (.ref C) = true := by simp
  have l1 := look.keeps old
  have l2 := (bind (.ref (h.objs.size + 1))).keeps old
  unfold isInstance
  repeat (first
    | with_reducible refine wpAny_loadPart_at made ?_
    | (with_reducible refine wpAny_isSubtype_exc cls1 ?_
       rw [self])
    | wp_step)
  show wpAny _ _ (typeLookup (.ref C) _) _ _ _
  refine l1.at ?_
  refine wpAny_holding (wpAny_bind (l2.at ?_))
  refine wpAny_bind (wpAny_call (codeAny_mono run fun r s' z => ?_))
  rcases r with e | (v | _ | _ | _) <;> first | exact z | exact z.elim | skip
  obtain ⟨rfl, z⟩ := z
  first
    | exact wpAny_pure (wpAny_pure z)
    | (wp_walk
       exact z)
/-- C(.., k = v): an exception of an own class over ValueError with its own __init__ -/
theorem call_kws (F : ExcBaseFacts B nw ini bmB) (hT : ∀ X : String, bm.contains (.type X) = bmB.contains (.type X)) {us : List Value} {kws : List (Str × Value)} {fI : Addr}
    (cls : h.get? C = some (excClassObj nm q C N bs bm hdct sn sub ab col dd k0 k1 k2 k3 k5 nw)) (short : us.length ≤ sizeLine)
    (look : W.Looks (model prog w) h (typeLookup (.ref C) "__init__") (some (.ref fI))) (bind : ∀ self, W.Looks (model prog w) h (bindSpecial (.ref fI) self) (.ref fI, [self]))
    (run : codeAny (model prog w) (A.under (.builtin "type.__call__" ⟨.ref C :: us, kws⟩)) (.call (.ref fI) ⟨.ref (h.objs.size + 1) :: us, kws⟩) (W.InitBack (h.objs.size + 1) R)
      ⟨(h.push (W.kdv_tup us)).push (excO C h.objs.size), g, d, t, os⟩) :
    codeAny (model prog w) A (.call (.ref C) ⟨us, kws⟩) R ⟨h, g, d, t, os⟩ := by
  have f1 := tc_lookup
  have f2 := tc_bind (.ref C)
  have ty : (⟨h, g, d, t, os⟩ : Shared).TypeIs (.ref C) "type" := ⟨_, cls, rfl⟩
  refine codeAny_of_tree ?_
  show wpAny _ _ (callAny (.ref C) _) _ _ _
  repeat (any_goals (first
    | assumption
    | with_reducible refine wpAny_loadPart_at cls ?_
    | wp_step))
  refine ⟨rfl, ?_⟩
  refine codeAny_call_builtin_at (Code.quiet_builtin _ (by decide +kernel)) entry_typeCall ?_
  refine wpAny_check_type_call_sub cls (type_runs F hT cls short look bind ?_)
  refine codeAny_mono run fun r s' z => ?_
  rcases r with e | (v | _ | _ | _) <;> exact z
end
end ErK
end PySem

namespace PySem
namespace ErK
open PySem.W PySem.Calls PyProof.Rows PySem.HandSPX
/-! ### the text of an error's __init__: self.f = f -/
def tA (f : Str) (p1 p2 : Pos) : Arguments :=
  { posonlyargs := [], args := [{ arg := "self", annotation := none, pos := p1 }, { arg := f, annotation := none, pos := p2 }], vararg := none, kwonlyargs := [], kw_defaults := [], kwarg := none, defaults := [] }
def tB (f : Str) (q1 q2 q3 q4 : Pos) : List Stmt := [.Assign [.Attribute (.Name "self" q1) f q2] (.Name f q3) q4]
def tS (f : Str) : Scope :=
  { kind := .function, names := [(PySem.Str.ofString "self", .local), (f, .local)], isGenerator := false, isCoroutine := false, more := [] }
/-- the fields' names -/
def fields : List Str := ["value", "position", "spot", "limit", "deed", "count", "words"]
/-- what the written part says of an error's class, at C, and of its __init__, at fI -/
structure EC (K : Frag) (x f : Str) (C fI : Addr) : Prop where
  ox : L2.OexC K C
  noN : findIn K (.ref C) f = some none
  iC : findIn K (.ref C) "__init__" = some (some (.ref fI))
  tI : typeIn K (.ref fI) = some (.type "function")
  xf : L2.XfC K C
  xc : L2.ExcC K C
  fl : f ∈ fields
  fn : ∃ (oc : Value) (od : Option Addr) (kV doc pm : Value) (an : Option Addr) (cdv ct : Value) (osl : Array (Option Value)) (ql : Str) (p1 p2 q1 q2 q3 q4 : Pos),
    K.lookup fI = some ⟨oc, od, .func (fnOf "__init__" ql (tA f p1 p2) (tB f q1 q2 q3 q4) (tS f) .none kV doc pm an cdv ct), osl⟩ ∧ codeIn K cdv ql = true
/-- what __init__ leaves of a new exception at x -/
structure Left (h h' : Heap) (x C dx t1 : Addr) (f : Str) (v : Value) : Prop where
  keep : ∀ b o, b ≠ x → h.get? b = some o → h'.get? b = some o
  obj : h'.get? x = some { cls := .ref C, dict := some dx, data := .fields #[.ref t1, .none, .none, .none, .bool false, .none] }
  big : h.objs.size ≤ dx
  ne : dx ≠ x
  ns : h'.Ns1 dx (fun y => if y = f then some v else none)
theorem ld {M : Model} {s : Shared} {name : Str} {scope : Scope} {L a : Addr} {cd : Value} {m : Str → Option Value} {x : Str} {pos : Pos} {v : Value} {Q : Value → Shared → Prop} {A : Around} {E : Value → Shared → Prop}
    (ns : s.heap.Ns L m) (at_ : m x = some v) (fin : Q v s) (kd : scope.kind = .function := by rfl) (lo : (envOfC name scope L a cd).kindOf x = some .local := by rfl) (db : (x == ("__debug__" : Str)) = false := by decide) :
    wpAny M A (eval (.Name x pos) (envOfC name scope L a cd)) Q E s :=
  wpAny_Name (wpAny_loadName_local kd lo ns at_ fin) db
section
variable {prog : Program} {w : World} {A : Around} {R : Result → Shared → Prop} {s : Shared} {K : Frag} {x f : Str} {C fI : Addr}
theorem init_any (T : EC K x f C fI) {e t0 : Addr} {v : Value} {args : Args} (ha : args = ⟨[.ref e, v], []⟩ ∨ args = ⟨[.ref e], [(f, v)]⟩) (X : K.In s.heap) (lim : s.heap.NoLimit) (he : s.heap.get? e = some (excO C t0)) (room : A.depth < recursionLimit)
    (fin : ∀ h' tk dx, Left s.heap h' e C dx t0 f v → R (.ok (.ret .none)) { s with heap := h', toks := tk }) :
    codeAny (model prog w) A (.call (.ref fI) args) R s := by
  obtain ⟨oc, od, kV, doc, pm, an, cdv, ct, osl, ql, p1, p2, q1, q2, q3, q4, ho, hcd⟩ := T.fn
  obtain ⟨nm, q, N, bs, bm, sn, sub, ab, col, dd, k0, k1, k2, k3, k5, hC, hbm⟩ := T.ox.cls
  have hcl : clsIn K C = some { name := nm, bases := bs, mro := .ref C :: bm, ns := N, qualname := q, hasDict := true, slotNames := sn, subclasses := sub, abstract := ab, collection := col, hasDel := false } := by
    unfold clsIn
    rw [hC] <;> rfl
  have noN := T.noN
  have fl := T.fl
  have sa := T.ox.sa
  have step : ∀ {s₁ : Shared} {m : Str → Option Value} {sc : Scope} {cdv : Value} {A' : Around} {E' : Value → Shared → Prop} {Q' : Flow → Shared → Prop} {L : Addr} {ql : Str}, (∀ b o, s.heap.get? b = some o → s₁.heap.get? b = some o) → s₁.heap.Ns L m → s.heap.objs.size ≤ L → sc.kind = .function →
      (envOfC ql sc L fI cdv).kindOf "self" = some .local → (envOfC ql sc L fI cdv).kindOf f = some .local → (f == ("__debug__" : Str)) = false → m "self" = some (.ref e) → m f = some v → (swapsWith (.Name f q3) (some (.Attribute (.Name "self" q1) f q2)) q4.line (envOfC ql sc L fI cdv) = pure false) →
      (∀ (h₂ : Heap) (tk : Nat × Addr), Left s.heap h₂ e C tk.2 t0 f v → Q' .next { s₁ with heap := h₂, toks := tk.1 }) → wpAny (model prog w) A' (execs (tB f q1 q2 q3 q4) (envOfC ql sc L fI cdv)) Q' E' s₁ := by
    intro s₁ m sc cdv A' E' Q' L ql k hn hL kd l1 l2 db m1 m2 sw fin'
    have X₁ : K.In s₁.heap := X.keeps k
    have he₁ := k _ _ he
    refine wpAny_execs_cons (plainObj_wpAny_Assign_Attribute ?_ sw)
    refine ld (v := v) hn m2 (ld (v := .ref e) hn m1 ?_ kd l1) kd l2 db
    refine set_plain X₁ (ox := excO C t0) (od := none) ⟨he₁, rfl, rfl, trivial⟩ sa ?_
    obtain ⟨h₁, g₁, d₁, t₁, o₁⟩ := s₁
    refine exc_osa X₁ he₁ hcl (show refsVE (.ref C :: bm) = true from hbm) rfl noN (fun h₃ tk₃ dx k₃ dn dne hx₃ hn₃ => ?_)
    show wpAny _ _ (execs _ _) _ _ _
    have z : L < h₁.objs.size := hn.lt
    exact wpAny_execs_nil (fin' h₃ (tk₃, dx) ⟨fun b o hb q => k₃ b o hb (k b o q), hx₃, Nat.le_of_lt (Nat.lt_of_le_of_lt hL (Nat.lt_of_lt_of_le z dn)), dne, hn₃⟩)
  simp only [fields, List.mem_cons, List.not_mem_nil, or_false] at fl
  rcases ha with rfl | rfl <;> rcases fl with rfl | rfl | rfl | rfl | rfl | rfl | rfl
  all_goals
    refine Att.call_fn (binds := [("self", .ref e), (_, v)]) X lim ho hcd room (BindsTo.of_eq (by first | rfl | with_unfolding_all rfl)) (by first | rfl | decide | with_unfolding_all rfl) (fun s₁ IC => ?_) rfl rfl rfl
    obtain ⟨h₁, tk₁, rfl⟩ := IC.toInCall.same
    refine step (m := _) IC.toInCall.keep IC.toInCall.ns (Nat.le_refl _) rfl rfl rfl (by decide) (by first | rfl | with_unfolding_all rfl | kernel_rfl) (by first | rfl | with_unfolding_all rfl | kernel_rfl) (by rfl) fun h₂ tk z => fin h₂ tk.1 tk.2 z
end
end ErK
end PySem

namespace Er
open PySem PySem.Spec PyProof.Rows L2
open PySem.ErK (EC)
/-- what stood stands -/
def Sm (H H' : Hp) : Prop := ∀ b o, H b = some o → H' b = some o
theorem Sm.refl (H : Hp) : Sm H H := fun _ _ e => e
theorem Sm.trans {H H1 H2 : Hp} (a : Sm H H1) (b : Sm H1 H2) : Sm H H2 := fun c o e => b c o (a c o e)
theorem Sm.new {H : Hp} {a : Addr} {o : HO} (n : H a = none) : Sm H (upd H a o) := fun b u e => by
  rw [upd_ne (ne_of_none e n)]
  exact e
section
variable {X : Cx} {pins : List (Addr × Obj)} {σ : L2.St} {H : Hp} {s : Shared}
/-- two new objects at once -/
theorem laid2 {h' : Heap} {a d : Addr} {o u : HO} {t' : Nat} (I : Inv X pins σ H s) (k : ∀ b v, s.heap.get? b = some v → h'.get? b = some v) (la : s.heap.objs.size ≤ a) (ld : s.heap.objs.size ≤ d) (ne : d ≠ a)
    (oa : ObjOk X.prog X.w (upd (upd H d u) a o) h' a o) (od : ObjOk X.prog X.w (upd (upd H d u) a o) h' d u) :
    Inv X pins σ (upd (upd H d u) a o) { s with heap := h', toks := t' } := by
  have na := I.hok.fresh la
  have nd := I.hok.fresh ld
  have lt : ∀ {b : Addr} {v : Obj} {c : Addr}, s.heap.get? b = some v → s.heap.objs.size ≤ c → b ≠ c := fun q z => Nat.ne_of_lt (Nat.lt_of_lt_of_le (Heap.lt_size q) z)
  have st : ∀ {b : Addr} {v : HO}, H b = some v → upd (upd H d u) a o b = some v := fun {b v} q => by
    rw [upd_ne (ne_of_none q na), upd_ne (ne_of_none q nd)]
    exact q
  have U : Un X.fs [] H (upd (upd H d u) a o) s.heap h' := {
    keep := fun b v q _ _ _ => k b v q
    slot := fun b v q _ _ _ => ⟨v.slots, k b v q⟩
    free := fun b v q n _ => by
      rw [upd_ne (lt q la), upd_ne (lt q ld)]
      exact n
    there := fun b v q _ => ⟨v, k b v q⟩
    tups := fun b xs q => st q
    frzs := fun b v xs q => st q
    tbls := fun b ps q => ⟨#[], by
      rw [st q]
      simp⟩ }
  refine I.un (t' := t') U fun b v q => ?_
  by_cases hb : b = a
  · subst hb
    rw [upd_same] at q
    cases q
    exact oa
  · rw [upd_ne hb] at q
    by_cases hd : b = d
    · subst hd
      rw [upd_same] at q
      cases q
      exact od
    · rw [upd_ne hd] at q
      exact (I.hok b v q).stay (fun c z _ y => k c z y) (fun c y => st y) fun c xs y => st y
end
/-! ### errors as values -/
/-- v is an error of the class at C, whose only field f holds y -/
def IsE (H : Hp) (v : V) (C : Addr) (f : Str) (y : V) : Prop :=
  ∃ a d : Addr, v = .ref a ∧ H a = some (exo a C (some d)) ∧ H d = some (exd d [(f, y)])
theorem IsE.mono {H H' : Hp} {v : V} {C : Addr} {f : Str} {y : V} (e : IsE H v C f y) (k : Sm H H') : IsE H' v C f y := by
  obtain ⟨a, d, e1, e2, e3⟩ := e
  exact ⟨a, d, e1, k _ _ e2, k _ _ e3⟩
/-- the reading of X(e), X(f = e) -/
def tNew (C : Addr) (f : Str) (te : TE) : TE := fun σ H Q => te σ H fun y H1 => ∀ v H2, Sm H1 H2 → IsE H2 v C f y → Q v H2
theorem rel_one {y : V} {u : Value} (f : Str) (r : RelV y u) (g : Str) : RelO (List.lookup g [(f, y)]) (if g = f then some u else none) := by
  by_cases hw : g = f
  · subst hw
    rw [if_pos rfl]
    have q : List.lookup g [(g, y)] = some y := by simp [List.lookup]
    rw [q]
    exact r
  · rw [if_neg hw]
    have qw : (g == f) = false := by simpa using hw
    have q2 : List.lookup g [(f, y)] = none := by simp [List.lookup, qw]
    rw [q2]
    trivial
section
variable {X : Cx} {x f : Str} {C fI : Addr}
/-- the call itself, whichever way the value is handed in -/
theorem run_new {pins : List (Addr × Obj)} {σ : L2.St} {H : Hp} {s : Shared} {Q : VK} {y : V} {u : Value} {us : List Value} {kw : List (Str × Value)} (T : EC X.K x f C fI) (hr : Room 1 X.A) (I : Inv X pins σ H s) (r : RelV y u)
    (ha : (us = [u] ∧ kw = []) ∨ (us = [] ∧ kw = [(f, u)])) (h : ∀ v H2, Sm H H2 → IsE H2 v C f y → Q v H2) :
    wpAny (model X.prog X.w) X.A (call (.ref C) us kw) (EP X pins σ Q) X.xe s := by
  obtain ⟨nm, q, N, bs, bm, sn, sub, ab, col, dd, k0, k1, k2, k3, k5, hC, hbm⟩ := T.ox.cls
  have hlim := I.nolimit
  have kIn := I.kIn
  obtain ⟨hp, g, dr, tk, os⟩ := s
  have short : us.length ≤ sizeLine := by
    rw [sizeLine_eq]
    rcases ha with ⟨rfl, _⟩ | ⟨rfl, _⟩
    · exact (by decide : 1 ≤ 16777216)
    · exact (by decide : 0 ≤ 16777216)
  have k : ∀ b o, hp.get? b = some o → ((hp.push (PySem.W.kdv_tup us)).push (PySem.HandSPX.excO C hp.objs.size)).get? b = some o :=
    fun b o e => Heap.get?_push_of_some _ (Heap.get?_push_of_some _ e)
  have new : ((hp.push (PySem.W.kdv_tup us)).push (PySem.HandSPX.excO C hp.objs.size)).get? (hp.objs.size + 1) = some (PySem.HandSPX.excO C hp.objs.size) := by
    heap_get
  refine wpAny_call (PySem.ErK.call_kws F.excBase_ValueError (fun Y => PySem.HandSPX.refsVE_contains Y bm hbm) (kIn _ _ hC) short (PySem.W.looks_findIn kIn T.iC) (fun self => PySem.W.bind_fn kIn self T.tI) ?_)
  refine PySem.ErK.init_any (s := ⟨(hp.push (PySem.W.kdv_tup us)).push (PySem.HandSPX.excO C hp.objs.size), g, dr, tk, os⟩) (e := hp.objs.size + 1) (v := u) T ?_ (PySem.W.Frag.In.keeps kIn k) (hlim.keeps k) new ?_ fun h' tk' dx ⟨k', hx, dn, dne, hns⟩ => ?_
  · rcases ha with ⟨rfl, rfl⟩ | ⟨rfl, rfl⟩
    · exact .inl rfl
    · exact .inr rfl
  · have z := hr.dp
    show (X.A.under _).depth < recursionLimit
    rw [make_depth]
    omega
  · have old : ∀ b o, hp.get? b = some o → h'.get? b = some o :=
      fun b o e => k' b o (Nat.ne_of_lt (Nat.lt_succ_of_lt (Heap.lt_size e))) (k b o e)
    have big : hp.objs.size ≤ dx := by
      have z : hp.objs.size + 1 + 1 ≤ dx := by
        first
          | exact dn
          | (have q := dn
             rw [Heap.size_push, Heap.size_push] at q
             exact q)
          | (simpa only [Heap.size_push] using dn)
      exact Nat.le_trans (Nat.le_trans (Nat.le_succ _) (Nat.le_succ _)) z
    have J : Inv X pins σ (upd (upd H dx (exd dx [(f, y)])) (hp.objs.size + 1) (exo (hp.objs.size + 1) C (some dx))) ⟨h', g, dr, tk', os⟩ :=
      laid2 (t' := tk') I old (Nat.le_succ _) big dne (exo_ok hx) (exd_ok hns (rel_one f r))
    have n1 : H (hp.objs.size + 1) = none := I.hok.fresh (Nat.le_succ _)
    have n2 : H dx = none := I.hok.fresh big
    refine ⟨rfl, .ref (hp.objs.size + 1), _, J, rfl, h _ _ (fun b o e => ?_) ⟨_, dx, rfl, upd_same, ?_⟩⟩
    · rw [upd_ne (ne_of_none e n1), upd_ne (ne_of_none e n2)]
      exact e
    · rw [upd_ne dne]
      exact upd_same
/-- X(e) -/
theorem pe_new {e : Expr} {te : TE} {p pos : Pos} (T : EC X.K x f C fI) (hr : Room 1 X.A) (gl : Gl X x) (gC : X.mg x = some (.ref C)) (he : PE X e te) (db : (x == ("__debug__" : Str)) = false := by decide)
    (hs : starEach [e] X.env = (false, eval e X.env) :: starEach [] X.env := by rfl) (hp : (backTo pos (starEach [] X.env)).any (·.1) = false := by rfl) :
    PE X (.Call (.Name x p) [e] [] pos) (tNew C f te) := by
  refine ⟨fun pins s σ H Q I h => ?_⟩
  refine wpAny_Call_Name_kw (ld_glob I gl gC ?_ db)
  refine PySem.W.callWith_K (h₀ := X.base) I.ok.mod.kin T.ox.kC ?_ hs hp
  rw [hs]
  show wpAny _ _ (spliced ((false, eval e X.env) :: backTo pos (starEach [] X.env))) _ _ s
  refine Calls.spliced_cons (thn (he.run pins s σ H _ I h) fun u s1 ⟨y, H1, I1, r1, q1⟩ => ?_)
  refine Calls.spliced_nil ⟨I1.kIn, ?_⟩
  exact run_new T hr I1 r1 (.inl ⟨rfl, rfl⟩) q1
/-- X(f = e) -/
theorem pe_newK {e : Expr} {te : TE} {p pos kp : Pos} (T : EC X.K x f C fI) (hr : Room 1 X.A) (gl : Gl X x) (gC : X.mg x = some (.ref C)) (he : PE X e te) (db : (x == ("__debug__" : Str)) = false := by decide) :
    PE X (.Call (.Name x p) [] [⟨some f, e, kp⟩] pos) (tNew C f te) := by
  refine ⟨fun pins s σ H Q I h => ?_⟩
  refine wpAny_Call_Name_kw (ld_glob I gl gC ?_ db)
  refine PySem.W.callWith_KW0 (h₀ := X.base) I.ok.mod.kin T.ox.kC (by rfl) ?_
  show wpAny _ _ (evalAll [(do
    let v ← eval e X.env
    standAt pos
    pure v)]) _ _ s
  refine wpAny_evalAll_cons (wpAny_bind (thn (he.run pins s σ H _ I h) fun u s1 ⟨y, H1, I1, r1, q1⟩ => wpAny_bind (wpAny_standAt (wpAny_pure ?_))))
  refine wpAny_evalAll_nil ⟨I1.kIn, ?_⟩
  exact run_new T hr I1 r1 (.inr ⟨rfl, rfl⟩) q1
/-- e.f, e an error -/
def tGet (K : PySem.W.Frag) (f : Str) (te : TE) : TE := fun σ H Q => te σ H fun v H1 => ∃ (x : Str) (C fI : Addr) (y : V), EC K x f C fI ∧ IsE H1 v C f y ∧ Q y H1
theorem pe_get {e : Expr} {te : TE} {pos : Pos} (he : PE X e te) (hb : attributeBase e f X.env (eval e X.env) = eval e X.env := by rfl) : PE X (.Attribute e f pos) (tGet X.K f te) := by
  refine ⟨fun pins s σ H Q I h => ?_⟩
  refine attr_of hb (thn (he.run pins s σ H _ I h) fun u s1 hh => ?_)
  obtain ⟨v, H1, I1, rv, x, C, fI, y, T, ⟨a, d, rfl, ea, ed⟩, q⟩ := hh
  obtain rfl : u = Value.ref a := rv
  obtain ⟨t1, ho⟩ := exo_at I1.hok ea
  obtain ⟨mA, hns, hrel⟩ := exd_at I1.hok ed
  obtain ⟨od, hd, hl⟩ := lookIn_ns hns
  have l : List.lookup f [(f, y)] = some y := by simp [List.lookup]
  obtain ⟨u', hu, ru⟩ := RelO.some_of (v := y) (o := mA f) (by
    rw [← l]
    exact hrel f)
  have J : PySem.W.InstAt s1.heap a { cls := .ref C, dict := some d, data := .fields #[.ref t1, .none, .none, .none, .bool false, .none] } C (some od) := ⟨ho, rfl, rfl, hd⟩
  exact HandSPX.exc_get I1.kIn J T.xf.ga T.xf.gg T.xf.exC (PySem.W.findObj_own T.xf.hdC T.noN rfl (by rw [hl, hu])) (handed_of ru) ⟨y, H1, I1.tok _, ru, q⟩
end
end Er

namespace PySem
namespace ErK
open PySem.W PySem.Calls PyProof.Rows PySem.HandSPX PySem.Spec
section
variable {prog : Program} {w : World} {A : Around} {E : Value → Shared → Prop} {s : Shared} {K : Frag} {x D : Addr} {ox : Obj} {od : Option Obj}
theorem found_data {C : Addr} {name : Str} {b g : Value} (c : (clsIn K C).isSome = true) (f : findIn K (.ref C) name = some (some b)) (g1 : specialIn K b "__get__" = some (some g)) (t1 : takesIn K b = some true) :
    findObj K C od name = some (.bind g b) := by
  obtain ⟨cd, c⟩ := Option.isSome_iff_exists.mp c
  unfold findObj
  rw [c, Option.bind_some, f, Option.bind_some]
  simp [g1, t1]
/-- x.__class__, x an error with its dict -/
theorem cls_asked {Q : Option Value → Shared → Prop} (T : L2.ExcC K D) (X : K.In s.heap) (I : InstAt s.heap x ox D od) (fin : Q (some (.ref D)) { s with toks := s.toks + 1 }) :
    wpAny (model prog w) A (getAttr? (.ref x) "__class__") Q E s := by
  have hf : findObj K D od "__class__" = some (.bind (.builtin "getset_descriptor.__get__") (.builtin "object.__class__")) := found_data (by
    obtain ⟨cd, hc, _⟩ := any_some T.hd
    rw [hc]
    rfl) T.ha T.hn T.ht
  obtain ⟨hp, g, d, t, os⟩ := s
  have l0 := I.type (M := model prog w)
  have l1 := looks_findIn (M := model prog w) X T.hg
  have l2 := looks_findIn (M := model prog w) X T.hk
  have l3 := looks_find (M := model prog w) X I hf
  have isB : Looks (model prog w) hp (isInstance (.ref x) (.type "BaseException")) true := l0.andThen (looks_subIn X T.hs)
  have z0 : (false && onTheHeap (Value.builtin "BaseException.__getattribute__")) = false := rfl
  have z2 : (Value.builtin "BaseException.__getattribute__" == Value.builtin "object.__getattribute__") = false := by
    decide +kernel
  have z1 : (onTheHeap (Value.ref D) && Value.builtin "BaseException.__getattribute__" == Value.builtin "object.__getattribute__") = false := by
    rw [z2]
    rfl
  unfold getAttr? getAttrBy? getAttrBy
  refine wpAny_bind (wpAny_mkText (wpAny_bind (wpAny_attempt (wpAny_holding (wpAny_bind (l0.at (wpAny_bind (l1.at ?_))))))))
  show wpAny _ _ (if (onTheHeap (Value.ref D) && Value.builtin "BaseException.__getattribute__" == Value.builtin "object.__getattribute__") = true then _ else _) _ _ _
  rw [z1, if_neg Bool.false_ne_true]
  unfold getAttrByItsOwn hookBefore
  refine wpAny_bind ?_
  rw [if_pos (show onTheHeap (Value.ref D) = true from rfl)]
  refine l2.at ?_
  refine wpAny_bind (wpAny_attempt (wpAny_holding ?_))
  unfold callGetattribute
  rw [z0, if_neg Bool.false_ne_true]
  unfold boundAndCalled
  rw [PySem.F.excAttr_ValueError.ga.bind (.ref x)]
  refine wpAny_bind (wpAny_pure ?_)
  show wpAny _ _ (call (.builtin "BaseException.__getattribute__") [.ref x, .str "__class__" t]) _ _ _
  refine wpAny_call (codeAny_call_builtin PySem.F.excAttr_ValueError.ga.plain PySem.F.entry_bexc_ga ?_)
  refine @check_slot (model prog w) _ _ ⟨hp, g, d, t + 1, os⟩ "BaseException.__getattribute__" "BaseException" "__getattribute__" (.ref x) [.str "__class__" t] [] _ (by decide +kernel) (by decide +kernel) isB (PySem.F.args_bexc_ga (.ref x) (.str "__class__" t)) ?_
  unfold Builtin.«object.__getattribute__»
  refine wpAny_bind (wpAny_of_eq (a := ((Value.ref x : Value), [Value.str "__class__" t])) (by
    first
      | rfl
      | (simp only [slotArgs]
         rfl)) ?_)
  refine wpAny_bind (wpAny_pure (wpAny_bind (l0.at (wpAny_bind (l3.at ?_)))))
  show wpAny _ _ (holding [Value.builtin "object.__class__"] (call (.builtin "getset_descriptor.__get__") [.builtin "object.__class__", .ref x, .ref D]) >>= ret) _ _ _
  refine wpAny_bind (wpAny_holding (wpAny_call (class_get (s := ⟨hp, g, d, t + 1, os⟩) (ox := ox) (od := od) X I T.hm ?_)))
  refine wpAny_pure ?_
  show wpAny _ _ (handedOut (.ref D)) _ _ _
  rw [handedOut_of (v := .ref D) rfl]
  first
    | exact wpAny_pure (wpAny_bind (wpAny_pure (wpAny_pure fin)))
    | exact wpAny_pure (wpAny_pure fin)
    | exact wpAny_pure fin
/-- what isinstance's rules ask of such an error -/
theorem kit_err (T : L2.ExcC K D) : KitX K (.ref x) (.ref D) (fun h => InstAt h x ox D od) where
  ty := fun _ _ _ I => I.type
  it := fun _ _ X _ => by
    obtain ⟨cdD, hcD, _⟩ := any_some T.hd
    unfold clsIn at hcD
    split at hcD
    · rename_i c' d' cd' sl' ho
      intro A' Q' E' s' k q
      unfold isType loadHead
      exact wpAny_bind (wpAny_loadPart (k _ _ (X _ _ ho)) (wpAny_pure q))
    · cases hcD
  ne := fun h tp dd its n sl X at_ => by
    obtain ⟨cdD, hcD, _⟩ := any_some T.hd
    refine Bool.eq_false_iff.mpr fun q => ?_
    have e : D = tp := Value.ref.inj (beq_iff_eq.mp q)
    subst e
    unfold clsIn at hcD
    split at hcD
    · rename_i c' d' cd' sl' ho
      have z := (X _ _ ho).symm.trans at_
      cases z
    · cases hcD
  ca := fun X I fin => cls_asked T X I fin
end
end ErK
end PySem
namespace Er
open PySem PySem.Spec PyProof.Rows L2
open PySem.ErK (EC)
section
variable {X : Cx}
/-- isinstance(e, c), e an error -/
def rIsA (K : PySem.W.Frag) : List V → Hp → VK → Prop := fun xs H Q => ∃ (v c : V) (cu : Value) (x f : Str) (C fI : Addr) (y : V) (b : Bool), xs = [v, c] ∧ ClsV c cu ∧ EC K x f C fI ∧ IsE H v C f y ∧ PySem.W.kitOne K (.ref C) cu = some b ∧ Q (.bl b) H
theorem call_isA : CallR X (.builtin "isinstance") (rIsA X.K) := by
  intro pins s σ H xs us Q I r h
  obtain ⟨v, c, cu, x, f, C, fI, y, b, rfl, k, T, ⟨a, d, rfl, ea, ed⟩, e, q⟩ := h
  obtain ⟨u1, u2, rfl, r1, r2⟩ := vals2 r
  have e2 := k.eq r2
  subst e2
  obtain rfl : u1 = Value.ref a := r1
  obtain ⟨t1, ho⟩ := exo_at I.hok ea
  obtain ⟨mA, hns, hrel⟩ := exd_at I.hok ed
  obtain ⟨od, hd, hl⟩ := lookIn_ns hns
  have J : PySem.W.InstAt s.heap a { cls := .ref C, dict := some d, data := .fields #[.ref t1, .none, .none, .none, .bool false, .none] } C (some od) := ⟨ho, rfl, rfl, hd⟩
  exact PySem.W.kia_one (PySem.ErK.kit_err T.xc) I.kIn J e (fun z => nomatch z) fun tk => ⟨.bl b, H, I.tok tk, rfl, q⟩
end
end Er

namespace Er
open PySem PySem.Spec PyProof.Rows L2
/-! ### ** of a great number -/
def CPw (i j : Int) : Prop := 0 ≤ j ∧ (Builtin.Int.intBits i : Int) * j ≤ 2 ^ 27
theorem op_powB {X : Cx} : OpR X (binaryOp .Pow) (rI CPw fun i j => .int (i ^ j.toNat)) := opI fun _ _ _ _ _ _ _ hc q => pow_int hc.1 hc.2 q
/-! ### repr of a list that holds one thing again and again -/
/-- None, a bool, a number, a text -/
inductive Flat : V → PyData → Prop where
  | non : Flat .non .none
  | bl (b : Bool) : Flat (.bl b) (.bool b)
  | int (i : Int) (h : i.natAbs.log2 < 1920) : Flat (.int i) (.int i)
  | str (x : Str) : Flat (.str x) (.str x)
inductive Flats : List V → List PyData → Prop where
  | nil : Flats [] []
  | cons {v : V} {d : PyData} {vs : List V} {ds : List PyData} (h : Flat v d) (r : Flats vs ds) : Flats (v :: vs) (d :: ds)
/-- a thing: flat, or a list, a tuple, a dict with text keys of flat ones -/
inductive Thing (H : Hp) : V → PyData → Prop where
  | flat {v : V} {d : PyData} (h : Flat v d) : Thing H v d
  | lst {a : Addr} {xs : List V} {ds : List PyData} (e : H a = some (.lst xs)) (h : Flats xs ds) : Thing H (.ref a) (.list ds)
  | tup {a : Addr} {xs : List V} {ds : List PyData} (e : H a = some (.tup xs)) (h : Flats xs ds) : Thing H (.ref a) (.tuple ds)
  | dct {a : Addr} {ks : List Str} {xs : List V} {ds : List PyData} (e : H a = some (.dK ((ks.map Sum.inr).zip xs))) (l : ks.length = xs.length) (h : Flats xs ds) : Thing H (.ref a) (.dict ((ks.map PyData.str).zip ds))
theorem Flats.len {vs : List V} {ds : List PyData} (h : Flats vs ds) : vs.length = ds.length := by
  induction h with
  | nil => rfl
  | cons _ _ ih => simp [ih]
theorem Flat.reads {h : Heap} {v : V} {u : Value} {d : PyData} (f : Flat v d) (r : RelV v u) : Reads h u d [] := by
  cases f with
  | non =>
    cases (show u = Value.none from r)
    exact .none
  | bl b =>
    cases (show u = Value.bool b from r)
    exact .bool b
  | int i _ =>
    obtain ⟨t, q⟩ := (show ∃ t, u = Value.int i t from r)
    cases q
    exact .int i t
  | str x =>
    obtain ⟨t, q⟩ := (show ∃ t, u = Value.str x t from r)
    cases q
    exact .str x t
theorem Flats.reads {h : Heap} {vs : List V} {ds : List PyData} (f : Flats vs ds) : ∀ {us : List Value}, Vals vs us → ReadsAll h us ds [] := by
  induction f with
  | nil =>
    intro us r
    cases r
    exact .nil
  | cons f1 _ ih =>
    intro us r
    cases r with
    | cons r1 r2 => exact ReadsAll.cons (as := []) (bs := []) (f1.reads r1) (ih r2)
theorem Flat.show {v : V} {d : PyData} (f : Flat v d) : d.showable = true ∧ d.depth ≤ 1 := by
  cases f with
  | non => exact ⟨rfl, by decide⟩
  | bl b => exact ⟨rfl, by simp [PyData.depth]⟩
  | int i h => exact ⟨by simpa [PyData.showable] using h, by simp [PyData.depth]⟩
  | str x => exact ⟨rfl, by simp [PyData.depth]⟩
theorem Flats.show {vs : List V} {ds : List PyData} (f : Flats vs ds) : PyData.showableAll ds = true ∧ PyData.depthAll ds ≤ 1 := by
  induction f with
  | nil => exact ⟨by simp [PyData.showableAll], by simp [PyData.depthAll]⟩
  | cons f1 _ ih =>
    have h1 := f1.show
    exact ⟨by simp [PyData.showableAll, h1.1, ih.1], by
      have h2 := h1.2
      have h3 := ih.2
      simp only [PyData.depthAll]
      omega⟩
theorem rep_reads {h : Heap} {u : V} {d : PyData} {as : List Addr} (f : ∀ w, RelV u w → Reads h w d as) : ∀ (n : Nat) {us : List Value}, Vals (List.replicate n u) us → ∃ bs, ReadsAll h us (List.replicate n d) bs ∧ ∀ b ∈ bs, b ∈ as
  | 0, us, r => by
    cases r
    exact ⟨[], .nil, fun b z => nomatch z⟩
  | n + 1, us, r => by
    rw [List.replicate_succ] at r
    cases r with
    | cons r1 r2 =>
      obtain ⟨bs, h1, h2⟩ := rep_reads f n r2
      rw [List.replicate_succ]
      refine ⟨as ++ bs, .cons (f _ r1) h1, fun b z => ?_⟩
      rcases List.mem_append.mp z with z | z
      · exact z
      · exact h2 b z
theorem rep_show {d : PyData} (h : d.showable = true) : ∀ n : Nat, PyData.showableAll (List.replicate n d) = true ∧ PyData.depthAll (List.replicate n d) ≤ d.depth
  | 0 => ⟨by simp [PyData.showableAll], by simp [PyData.depthAll]⟩
  | n + 1 => by
    have ih := rep_show h n
    rw [List.replicate_succ]
    exact ⟨by simp [PyData.showableAll, h, ih.1], by
      have h3 := ih.2
      simp only [PyData.depthAll]
      omega⟩
theorem rep_len (d : PyData) : ∀ n : Nat, ((PyData.shownAll (List.replicate n d)).map (·.length)).sum = n * d.shown.length ∧ (PyData.shownAll (List.replicate n d)).length = n
  | 0 => by simp [PyData.shownAll]
  | n + 1 => by
    have ih := rep_len d n
    rw [List.replicate_succ]
    simp only [PyData.shownAll, List.map_cons, List.sum_cons, List.length_cons]
    rw [ih.1, ih.2, Nat.succ_mul]
    exact ⟨Nat.add_comm _ _, rfl⟩
theorem kvs_show : ∀ {ks : List Str} {ds : List PyData}, PyData.showableAll ds = true → PyData.depthAll ds ≤ 1 → PyData.showableKv ((ks.map PyData.str).zip ds) = true ∧ PyData.depthKv ((ks.map PyData.str).zip ds) ≤ 1
  | [], ds, _, _ => by simp [PyData.showableKv, PyData.depthKv]
  | k :: ks, [], _, _ => by simp [PyData.showableKv, PyData.depthKv]
  | k :: ks, d :: ds, h1, h2 => by
    simp only [PyData.showableAll, Bool.and_eq_true] at h1
    simp only [PyData.depthAll] at h2
    have ih := kvs_show (ks := ks) h1.2 (by omega)
    simp only [List.map_cons, List.zip_cons_cons]
    refine ⟨by simp [PyData.showableKv, PyData.showable, h1.1, ih.1], ?_⟩
    have h3 := ih.2
    simp only [PyData.depthKv, PyData.depth]
    omega
theorem Thing.show {H : Hp} {v : V} {d : PyData} (t : Thing H v d) : d.showable = true ∧ d.depth ≤ 4 := by
  cases t with
  | flat h => exact ⟨h.show.1, Nat.le_trans h.show.2 (by decide)⟩
  | lst e h =>
    have z := h.show
    exact ⟨by simpa [PyData.showable] using z.1, by
      have z2 := z.2
      simp only [PyData.depth]
      omega⟩
  | tup e h =>
    have z := h.show
    exact ⟨by simpa [PyData.showable] using z.1, by
      have z2 := z.2
      simp only [PyData.depth]
      omega⟩
  | @dct a ks xs ds e l h =>
    have z := kvs_show (ks := ks) h.show.1 h.show.2
    exact ⟨by simpa [PyData.showable] using z.1, by
      have z2 := z.2
      simp only [PyData.depth]
      omega⟩
/-- the dict of all modules is the text's own -/
def IsSys (K : PySem.W.Frag) : Prop := ∃ (o : Obj) (es : Array DictEntry) (n : Nat), K.lookup sysModules = some o ∧ o.data = .dict es n
section
variable {X : Cx} {pins : List (Addr × Obj)} {σ : L2.St} {H : Hp} {s : Shared}
theorem not_sys (S : IsSys X.K) (I : Inv X pins σ H s) {a : Addr} {o : Obj} {its : Array Value} {n : Nat} (e : s.heap.get? a = some o) (d : o.data = .seq its n) : a ≠ sysModules := fun z => by
  obtain ⟨o2, es, n2, hk, hd⟩ := S
  have e2 := I.kIn _ _ hk
  rw [z, e2] at e
  cases e
  rw [hd] at d
  cases d
theorem pairs_reads {h : Heap} : ∀ {ks : List Str} {xs : List V} {ds : List PyData} {vs : List (Key × Value)} {es : List DictEntry}, KV ((ks.map Sum.inr).zip xs) vs → Pairs (mixKind X.prog X.w) es vs → ks.length = xs.length → Flats xs ds →
    ReadsAll h (es.map (·.key)) (((ks.map PyData.str).zip ds).map (·.1)) [] ∧ ReadsAll h (es.map (·.val)) (((ks.map PyData.str).zip ds).map (·.2)) []
  | [], [], _, vs, es, r, p, _, f => by
    cases f
    cases r
    cases p
    exact ⟨.nil, .nil⟩
  | k :: ks, x :: xs, _, vs, es, r, p, l, f => by
    cases f with
    | cons f1 f2 =>
      cases r with
      | cons r1 r2 =>
        cases p with
        | @cons e kv es' kvs' p1 p2 p3 =>
          obtain ⟨q1, q2⟩ := r1
          have ih := pairs_reads (h := h) r2 p3 (by simpa using l) f2
          have hk : keyIs (Sum.inr k) e.key = true := by
            have z : (mixKind X.prog X.w).is _ e.key = true := p1
            rw [← q1] at z
            exact z
          rcases keyIs_shape hk with ⟨i, t, z, _⟩ | ⟨y, t, z, w⟩
          · cases z
          · cases z
            refine ⟨ReadsAll.cons (as := []) (bs := []) ?_ ih.1, ReadsAll.cons (as := []) (bs := []) ?_ ih.2⟩
            · show Reads h e.key (PyData.str k) []
              rw [w]
              exact .str _ _
            · show Reads h e.val _ []
              rw [p2]
              exact f1.reads q2
theorem Thing.reads (S : IsSys X.K) (I : Inv X pins σ H s) {v : V} {d : PyData} (t : Thing H v d) : ∃ as : List Addr, (∀ u, RelV v u → Reads s.heap u d as) ∧ sysModules ∉ as := by
  cases t with
  | flat h => exact ⟨[], fun u r => h.reads r, fun z => nomatch z⟩
  | @lst a xs ds e h =>
    obtain ⟨_, its, n, rv, ho⟩ := (show ObjOk X.prog X.w H s.heap a (.lst xs) from I.hok a _ e)
    have ne := not_sys S I ho rfl
    refine ⟨[a], fun u r => ?_, fun z => ne (List.mem_singleton.mp z).symm⟩
    cases (show u = Value.ref a from r)
    exact Reads.list ho rfl rfl (by simpa using h.reads rv)
  | @tup a xs ds e h =>
    obtain ⟨_, its, rv, o, ho, hc, n, hd⟩ := (show ObjOk X.prog X.w H s.heap a (.tup xs) from I.hok a _ e)
    refine ⟨[], fun u r => ?_, fun z => nomatch z⟩
    cases (show u = Value.ref a from r)
    exact Reads.tuple ho hc hd (by simpa using h.reads rv)
  | @dct a ks xs ds e l h =>
    obtain ⟨_, ns, vs, kv, o, es, ep, ho, hx, hd, _, hp, _⟩ := (show ObjOk X.prog X.w H s.heap a (.dK _) from I.hok a _ e)
    have ne : a ≠ sysModules := beq_eq_false_iff_ne.mp ns
    have z := pairs_reads (h := s.heap) kv hp l h
    refine ⟨[a], fun u r => ?_, fun z => ne (List.mem_singleton.mp z).symm⟩
    cases (show u = Value.ref a from r)
    exact Reads.dict (as := []) (bs := []) ho hx.1 hd z.1 z.2
/-- repr of n times one thing -/
def rShw : List V → Hp → VK → Prop := fun xs H Q => ∃ (p : Addr) (n : Nat) (v : V) (d : PyData), xs = [.ref p] ∧ H p = some (.lst (List.replicate n v)) ∧ Thing H v d ∧ n ≤ 1000 ∧ d.shown.length ≤ 1000 ∧ Q (.str (PyData.shown (.list (List.replicate n d)))) H
theorem call_rep (S : IsSys X.K) (hg : X.A.guards = some []) (hu : X.A.units + 64 < cLine) : CallR X (.builtin "repr") rShw := by
  intro pins s σ H xs us Q I r h
  obtain ⟨p, n, v, d, rfl, e, t, hn, hd, q⟩ := h
  cases r with
  | cons rp rr =>
    cases rr
    rename_i u
    obtain rfl : u = Value.ref p := rp
    obtain ⟨_, its, m, rv, ho⟩ := (show ObjOk X.prog X.w H s.heap p (.lst _) from I.hok p _ e)
    have ne := not_sys S I ho rfl
    obtain ⟨as, f, nas⟩ := t.reads S I
    obtain ⟨bs, hr, sub⟩ := rep_reads f n rv
    have hsh := rep_show t.show.1 n
    have rd : Reads s.heap (.ref p) (.list (List.replicate n d)) (p :: bs) := Reads.list ho rfl rfl (by simpa using hr)
    have dp := t.show.2
    have hl := rep_len d n
    have size : (PyData.shown (.list (List.replicate n d))).length ≤ sizeLine := by
      have z := listText_len_le (PyData.shownAll (List.replicate n d))
      rw [hl.1, hl.2] at z
      have m1 : n * d.shown.length ≤ 1000 * 1000 := Nat.mul_le_mul hn hd
      simp only [PyData.shown]
      rw [sizeLine_eq]
      omega
    refine repr_of_reads' rd (by simpa [PyData.showable] using hsh.1) (fun _ z => ?_) hg ?_ (fun _ _ z => z) (fun h' u tk k => ⟨.str _, H, ?_, ⟨u, rfl⟩, q⟩) size
    · rcases List.mem_cons.mp z with z | z
      · exact ne z.symm
      · exact nas (sub _ z)
    · have z := hsh.2
      simp only [PyData.depth]
      omega
    · exact I.kept (t' := tk) k
end
end Er

namespace Hd
open PySem PySem.Spec PyProof.Rows L2
open PySem.ErK (EC tA tB tS)
/-! ### the text -/
def top (i : Nat) : Stmt := PySem.Challenge.pw_lateeditions_k00_errors_by_hand.main.body.getD i (.Pass ⟨0, 0, 0, 0⟩)
/-- the first statement of a class -/
def inner (s : Stmt) : Stmt := match s with
  | .ClassDef _ _ _ (st :: _) .. => st
  | _ => s
def csA : List (Str × Str) := [
  ("BadStandings", "value"), ("BadDeeds", "value"), ("BadSights", "value"), ("BadStanding", "value"),
  ("BadRow", "position"), ("BadProgram", "value"), ("BadValues", "value"), ("NoDeed", "value"),
  ("BadText", "spot"), ("BadEye", "value"), ("TooMany", "limit"), ("BadPlaces", "value"),
  ("BadRows", "value"), ("BadEyes", "value"), ("BadDeed", "value"), ("BadSight", "value"),
  ("BadDesks", "value"), ("BadChanges", "value"), ("BadEdition", "value"), ("BadPlace", "value"),
  ("BadInput", "position"), ("BadChange", "value"), ("BadBook", "value")]
def csB : List (Str × Str) := [
  ("BadNumber", "value"), ("BadLink", "value"), ("TooLong", "deed"), ("BadMap", "value"),
  ("BadVector", "value"), ("BadNotes", "value"), ("BadKeys", "value"), ("BadKey", "value"),
  ("BadPlan", "value"), ("BadFence", "value"), ("NotNow", "value"), ("BadName", "value"),
  ("BadLetter", "value"), ("BadMark", "value"), ("TooFar", "count"), ("BadLog", "position"),
  ("BadChain", "value"), ("BadPlans", "value"), ("BadSeat", "value"), ("BadEvent", "position"),
  ("InvalidCommand", "words"), ("NoHouse", "words"), ("NotFailing", "value")]
/-- the errors' classes, as the text has them, with their fields -/
def cs : List (Str × Str) := csA ++ csB
/-! ### what is looked at behind the top -/
def oxB (K : PySem.W.Frag) (C : Addr) : Bool := match K.lookup C with
  | some ⟨.type "type", _, .cls cd, sl⟩ => (match cd.mro, sl.toList with
    | .ref C' :: bm, [_, _, _, _, some (.builtin n), _] => C' == C && n == "ValueError.__new__" && !cd.hasDel && cd.hasDict && PySem.HandSPX.refsVE bm
    | _, _ => false)
  | _ => false
def eqB (a b : Option (Option Value)) : Bool := decide (a = b)
def xcB (K : PySem.W.Frag) (C : Addr) : Bool :=
  eqB (PySem.W.findIn K (.ref C) "__class__") (some (some (.builtin "object.__class__"))) && decide (PySem.W.mroIn K C (.type "object") = some true)
def xsB : Bool := decide (PySem.W.specialIn [] (.builtin "object.__class__") "__get__" = some (some (.builtin "getset_descriptor.__get__"))) && decide (PySem.W.takesIn [] (.builtin "object.__class__") = some true)
def ecB (K : PySem.W.Frag) (x f : Str) : Bool :=
  oxB K (He.ga K x) && (eqB (PySem.W.findIn K (.ref (He.ga K x)) "__setattr__") (some (some (.builtin "object.__setattr__"))) && (decide (PySem.W.typeIn K (.ref (He.ga K x)) = some (.type "type")) && (PySem.W.keepIn K (.ref (He.ga K x)) &&
    (eqB (PySem.W.findIn K (.ref (He.ga K x)) f) (some none) && (eqB (PySem.W.findIn K (.ref (He.ga K x)) "__init__") (some (some (.ref (He.ma K (He.ga K x) "__init__")))) &&
      (decide (PySem.W.typeIn K (.ref (He.ma K (He.ga K x) "__init__")) = some (.type "function")) && (xfB K (He.ga K x) && xcB K (He.ga K x))))))))
/-- isinstance of the errors of the class x, by all classes -/
def kitB (K : PySem.W.Frag) (x : Str) : Bool := (cs.all fun q => decide (PySem.W.kitOne K (.ref (He.ga K x)) (.ref (He.ga K q.1)) = some (decide (x = q.1)))) &&
  (decide (PySem.W.kitOne K (.ref (He.ga K x)) (.ref (He.ga K "DeskError")) = some true) && decide (PySem.W.kitOne K (.ref (He.ga K x)) (.type "ValueError") = some true))
def isD (o : Option Obj) : Bool := match o with
  | some ⟨.type c, _, .dict _ _, _⟩ => decide (c = "dict")
  | _ => false
def myB (K : PySem.W.Frag) : Bool := (cs.all fun q => ecB K q.1 q.2 && kitB K q.1) && isD (K.lookup sysModules)
abbrev AlM : Type := He.AlD × Bool
def frM (n : Nat) (g : Addr → Option Obj) : PySem.W.Frag := He.frG g (sysModules :: He.asD g n)
def obM (n : Nat) (fa : List He.Fa) (fn : List He.DefD) (g : Addr → Option Obj) : AlM := (He.obsD fa fn (frM n g), myB (frM n g))
def hkM (n : Nat) (fa : List He.Fa) (fn : List He.DefD) : PySem.W.Hook where
  α := AlM
  obs := fun s => obM n fa fn s.heap.get?
  val := fun _ => (He.valD fn, true)
  says := fun _ h => ∃ K : PySem.W.Frag, K.In h ∧ He.SaysD fa fn K ∧ myB K = true
  of := fun _ _ e => ⟨_, He.frG_in, congrArg (fun z : AlM => z.1) e, congrArg (fun z : AlM => z.2) e⟩
  keeps := fun _ _ _ ⟨K, hK, c⟩ k => ⟨K, PySem.W.Frag.In.keeps hK k, c⟩
theorem obM_eq {n : Nat} {fa : List He.Fa} {fn : List He.DefD} {g : Addr → Option Obj} {s : Shared} (h : ∀ a, g a = s.heap.get? a) : obM n fa fn g = (hkM n fa fn).obs s := by
  have e : g = s.heap.get? := funext h
  rw [e] <;> rfl
/-! ### the defs -/
def dfn (x : Str) (st : Stmt) : He.DefD := ⟨(x, none), x, x, defArgs st, defBody st, defScope st, [], []⟩
def din (x : Str) (st : Stmt) : He.DefD := ⟨(x, some "__init__"), "__init__", x ++ ".__init__", defArgs st, defBody st, defScope st, [], []⟩
def fn1 : List He.DefD := [
  dfn "_law_source" (top 49), dfn "_law_draw" (top 50), dfn "_law_by_place" (top 51), dfn "_law_by_name" (top 52),
  dfn "_law_others" (top 53), dfn "_law_kinds" (top 54), dfn "_law_alone" (top 55), dfn "law" (top 56)]
def fn2 : List He.DefD := [
  din "BadStandings" (inner (top 2)), din "BadDeeds" (inner (top 3)), din "BadSights" (inner (top 4)), din "BadStanding" (inner (top 5)),
  din "BadRow" (inner (top 6)), din "BadProgram" (inner (top 7)), din "BadValues" (inner (top 8)), din "NoDeed" (inner (top 9)),
  din "BadText" (inner (top 10)), din "BadEye" (inner (top 11)), din "TooMany" (inner (top 12)), din "BadPlaces" (inner (top 13)),
  din "BadRows" (inner (top 14)), din "BadEyes" (inner (top 15)), din "BadDeed" (inner (top 16)), din "BadSight" (inner (top 17)),
  din "BadDesks" (inner (top 18)), din "BadChanges" (inner (top 19)), din "BadEdition" (inner (top 20)), din "BadPlace" (inner (top 21)),
  din "BadInput" (inner (top 22)), din "BadChange" (inner (top 23)), din "BadBook" (inner (top 24))]
def fn3 : List He.DefD := [
  din "BadNumber" (inner (top 25)), din "BadLink" (inner (top 26)), din "TooLong" (inner (top 27)), din "BadMap" (inner (top 28)),
  din "BadVector" (inner (top 29)), din "BadNotes" (inner (top 30)), din "BadKeys" (inner (top 31)), din "BadKey" (inner (top 32)),
  din "BadPlan" (inner (top 33)), din "BadFence" (inner (top 34)), din "NotNow" (inner (top 35)), din "BadName" (inner (top 36)),
  din "BadLetter" (inner (top 37)), din "BadMark" (inner (top 38)), din "TooFar" (inner (top 39)), din "BadLog" (inner (top 40)),
  din "BadChain" (inner (top 41)), din "BadPlans" (inner (top 42)), din "BadSeat" (inner (top 43)), din "BadEvent" (inner (top 44)),
  din "InvalidCommand" (inner (top 45)), din "NoHouse" (inner (top 46)), din "NotFailing" (inner (top 47))]
def fn : List He.DefD := fn1 ++ (fn2 ++ fn3)
def fa1 : List He.Fa := [
  .glo "_law_source", .glo "_law_draw", .glo "_law_by_place", .glo "_law_by_name", .glo "_law_others", .glo "_law_kinds",
  .glo "_law_alone", .glo "law", .free "int", .free "len", .free "range", .free "max",
  .free "min", .free "isinstance", .free "repr", .free "enumerate", .free "ValueError", .free "list",
  .free "dict", .glo "DeskError", .keep "DeskError"]
def fa2 : List He.Fa := [
  .glo "BadStandings", .glo "BadDeeds", .glo "BadSights", .glo "BadStanding", .glo "BadRow",
  .glo "BadProgram", .glo "BadValues", .glo "NoDeed", .glo "BadText", .glo "BadEye",
  .glo "TooMany", .glo "BadPlaces", .glo "BadRows", .glo "BadEyes", .glo "BadDeed",
  .glo "BadSight", .glo "BadDesks", .glo "BadChanges", .glo "BadEdition", .glo "BadPlace",
  .glo "BadInput", .glo "BadChange", .glo "BadBook"]
def fa3 : List He.Fa := [
  .glo "BadNumber", .glo "BadLink", .glo "TooLong", .glo "BadMap", .glo "BadVector",
  .glo "BadNotes", .glo "BadKeys", .glo "BadKey", .glo "BadPlan", .glo "BadFence",
  .glo "NotNow", .glo "BadName", .glo "BadLetter", .glo "BadMark", .glo "TooFar",
  .glo "BadLog", .glo "BadChain", .glo "BadPlans", .glo "BadSeat", .glo "BadEvent",
  .glo "InvalidCommand", .glo "NoHouse", .glo "NotFailing"]
def fa : List He.Fa := fa1 ++ (fa2 ++ fa3)
def nm1 : List PySem.Str := [
  "DeskError", "BadStandings", "BadDeeds", "BadSights", "BadStanding", "BadRow",
  "BadProgram", "BadValues", "NoDeed", "BadText", "BadEye", "TooMany",
  "BadPlaces", "BadRows", "BadEyes", "BadDeed", "BadSight", "BadDesks",
  "BadChanges", "BadEdition", "BadPlace", "BadInput", "BadChange", "BadBook"]
def nm2 : List PySem.Str := [
  "BadNumber", "BadLink", "TooLong", "BadMap", "BadVector", "BadNotes",
  "BadKeys", "BadKey", "BadPlan", "BadFence", "NotNow", "BadName",
  "BadLetter", "BadMark", "TooFar", "BadLog", "BadChain", "BadPlans",
  "BadSeat", "BadEvent", "InvalidCommand", "NoHouse", "NotFailing", "_law_source",
  "_law_draw", "_law_by_place", "_law_by_name", "_law_others", "_law_kinds", "_law_alone"]
def names : List PySem.Str := nm1 ++ nm2
abbrev R : PySem.W.OpenRow := PySem.W.OpenLaw.row PySem.Challenge.rw_lateeditions_k00_errors_by_hand
abbrev hk : PySem.W.Hook := hkM 5 fa fn
def ob (s : PySem.W.SharedT) : AlM := obM 5 fa fn (HandSHeadRun.getT s)
theorem ob_eq (s : PySem.W.SharedT) : ob s = hk.obs s.abs := obM_eq (HandSHeadRun.getT_eq s)
end Hd

namespace Lw
open PySem PySem.Spec PyProof.Rows L2 Er Hd
abbrev FnP (K : PySem.W.Frag) (x : Str) (st : Stmt) (f : Addr) (fd : FuncData) : Prop := FunD K x x (defArgs st) (defBody st) (defScope st) [] [] f fd
/-! ### numbers -/
theorem bits_lt {z : Int} {n : Nat} (h : Builtin.Int.intBits z ≤ n) : z.natAbs < 2 ^ n := by
  unfold Builtin.Int.intBits at h
  split at h
  · rename_i e
    have e2 : z = 0 := by simpa using e
    rw [e2]
    exact Nat.pow_pos (by decide)
  · exact Nat.lt_of_lt_of_le (Nat.lt_log2_self) (Nat.pow_le_pow_right (by decide) h)
theorem bits_le {z : Int} {n : Nat} (h : z.natAbs < 2 ^ n) : Builtin.Int.intBits z ≤ n := by
  unfold Builtin.Int.intBits
  split
  · exact Nat.zero_le _
  · rename_i e
    have e2 : z.natAbs ≠ 0 := by
      intro q
      have q2 : z = 0 := by omega
      rw [q2] at e
      exact e rfl
    exact (Nat.log2_lt e2).mpr h
theorem bits_sum {m e : Int} {n : Nat} (hm : m.natAbs < 2 ^ 48) (hn : 48 ≤ n) (he : Builtin.Int.intBits e ≤ n) : Builtin.Int.intBits (m + e) ≤ n + 1 := by
  have h1 := bits_lt he
  have h2 : 2 ^ 48 ≤ 2 ^ n := Nat.pow_le_pow_right (by decide) hn
  refine bits_le ?_
  rw [Nat.pow_succ]
  generalize 2 ^ n = P at *
  omega
theorem pow_ok {m e : Int} (hm : 0 ≤ m) (hm2 : m < 2 ^ 32) (he : Builtin.Int.intBits e ≤ 1048576) : CPw (m * 40009 + e) 3 := by
  have h := bits_sum (m := m * 40009) (e := e) (n := 1048576) (by omega) (by omega) he
  refine ⟨by decide, ?_⟩
  have h2 : (2 : Int) ^ 27 = 134217728 := by decide
  rw [h2]
  omega
section
variable {P : Program} {w : World} {K : PySem.W.Frag} {mg : Str → Option Value} {base : Heap} {f : Addr} {fd : FuncData}
theorem pe_i {X : Cx} {e : Expr} {te : TE} {p pos : Pos} (he : PE X e te) (hm : X.mg "int" = none) (hg : Gl X "int" := by rfl) (hs : starEach [e] X.env = (false, eval e X.env) :: starEach [] X.env := by rfl) : PE X (.Call (.Name "int" p) [e] [] pos) (tCB (fun xs H Q => (∃ i, xs = [.int i] ∧ Q (.int i) H) ∨ ∃ k, xs = [.bl k] ∧ Q (.int (if k then 1 else 0)) H) (tCons te tNil)) :=
  pe_callTy call_int1 hg hm PyProof.Rows.boot_int (pa_cons he pa_nil hs) (he := hs)
/-! ### _law_source -/
def spSrc (K : PySem.W.Frag) : Sp := fun vs H Q _ => ∃ (a : Addr) (ns : List Int) (st : Nat), vs = [.ref a, .int st] ∧ SqL K H a (ns.map V.int) ∧ ns.length ≤ 63 ∧ st ≤ 3 ∧ (∀ z ∈ ns, Builtin.Int.intBits z ≤ 1048576) ∧
  ∀ (p : Addr) (own mix : Int), H p = none → 0 ≤ own → 0 ≤ mix → mix < 2 ^ 32 → Q (.ref p) (upd H p (.lst [.int own, .int mix]))
abbrev nSrc : List Str := ["_law_script", "_law_start", "_law_mixed", "_law_entry", "_law_own"]
theorem scSrc : FnScope nSrc ["_law_script", "_law_start"] (defScope (top 49)) := ⟨rfl, rfl, rfl, by decide +kernel, rfl, by decide +kernel, by decide +kernel⟩
theorem ok_src (F : FnP K "_law_source" (top 49) f fd) (mi : mg "int" = none) (ml : mg "len" = none) : FnOk P w K mg base CX0 1 f fd ["_law_script", "_law_start"] (spSrc K) := by
  refine F.ok (CX := CX0) scSrc (fun vs H Q E h => ?_) (fun cdv A outer s H vs Q E hr h => ?_)
  · obtain ⟨a, ns, st, rfl, _⟩ := h
    rfl
  · refine ⟨_, PSs.nox (pss_cons (ps_set (i := 2) scSrc.nd rfl (.inl rfl) (pe_op op_add pe_int (pv 1)))
      (pss_cons (ps_for PassesOwn.never rfl (pi_list (pv 0)) (pg_name (i := 3) scSrc.nd rfl (.inl rfl))
        (pss_one (ps_set (i := 2) scSrc.nd rfl (.inl rfl) (pe_op op_add (pe_op op_mod (pe_i (pe_op op_powB (pe_i (pe_op op_add (pe_op op_mul (pv 2) pe_int) (pe_i (pv 3) mi)) mi) pe_int) mi) pe_int) pe_int))))
      (pss_cons (ps_set (i := 4) scSrc.nd rfl (.inl rfl) pe_int)
      (pss_cons (ps_if (PW.pt (pw_and (pt_cmpR op_lt (pv 1) (pe_callB call_len rfl ml boot_len (pa_cons (pv 0) pa_nil)) (nomark _))
          (pw_and1 (pt_cmpR op_ge (pe_ix ix_list (pv 0) (pv 1) (fun _ _ => rfl)) (pe_op op_pow pe_int pe_int) (nomark _)))))
        (pss_one (ps_set (i := 4) scSrc.nd rfl (.inl rfl) (pe_op op_sub (pe_ix ix_list (pv 0) (pv 1) (fun _ _ => rfl)) (pe_op op_pow pe_int pe_int)))) pss_nil)
      (pss_one (ps_ret (pe_lst (pa_cons (pv 4) (pa_cons (pv 2) pa_nil))))))))), ?_⟩
    obtain ⟨a, ns, st, rfl, hS, hl, hst, hb, q⟩ := h
    refine ⟨_, rfl, _, _, rfl, rfl, _, rfl, a, rfl, ⟨_, hS⟩, for_list (K := K) (a := a) (xs := ns.map V.int) (fun i σ H' => ∃ (m : Int) (v : Option V), σ = [some (.ref a), some (.int st), some (.int m), v, none] ∧ 0 ≤ m ∧ m < 2 ^ 32 ∧ H' = H) ?_ ?_ ?_ ?_⟩
    · exact ⟨97 + st, none, rfl, by omega, by omega, rfl⟩
    · rintro i σ H' _ ⟨m, v, rfl, h0, h1, rfl⟩
      exact hS
    · rintro i y σ H' hi ⟨m, v, rfl, h0, h1, rfl⟩
      obtain ⟨z, hz, rfl⟩ : ∃ z, z ∈ ns ∧ y = V.int z := by
        rw [List.getElem?_map] at hi
        cases e : ns[i]? with
        | none =>
          rw [e] at hi
          cases hi
        | some z =>
          rw [e] at hi
          exact ⟨z, List.mem_of_getElem? e, (Option.some.inj hi).symm⟩
      refine ⟨_, rfl, _, _, rfl, rfl, .inl ⟨by omega, by omega⟩, _, rfl, .inl ⟨_, rfl, _, _, rfl, rfl, .inl ⟨_, rfl, _, _, rfl, rfl, pow_ok h0 h1 (hb z hz), .inl ⟨_, rfl, _, _, rfl, rfl, by show (0 : Int) < 2147483563; decide, _, _, rfl, rfl, ?_⟩⟩⟩⟩
      refine ⟨_, some (.int z), rfl, ?_, ?_, rfl⟩
      · have := Int.emod_nonneg ((m * 40009 + z) ^ (3 : Int).toNat) (show (2147483563 : Int) ≠ 0 by decide)
        omega
      · have := Int.emod_lt_of_pos ((m * 40009 + z) ^ (3 : Int).toNat) (show (0 : Int) < 2147483563 by decide)
        omega
    · rintro σ H' ⟨m, v, rfl, h0, h1, rfl⟩
      refine ⟨_, rfl, _, rfl, _, _, rfl, .inl ⟨_, hS, rfl⟩, _, _, rfl, rfl, _, rfl, ?_⟩
      have fin : ∀ own : Int, 0 ≤ own → ∀ p : Addr, H' p = none → Q (.ref p) (upd H' p (.lst [.int own, .int m])) := fun own ho p hp => q p own m hp ho h0 h1
      have last : ∀ own : Int, 0 ≤ own → (tRet (tLst (tCons (tVar 4) (tCons (tVar 2) tNil)))) { nx := fun _ H' => Q .non H', rt := Q } [some (.ref a), some (.int st), some (.int m), v, some (.int own)] H' := fun own ho =>
        ⟨_, rfl, _, rfl, (by show 2 ≤ sizeLine; decide), fin own ho⟩
      by_cases c : (st : Int) < ((ns.map V.int).length : Nat)
      · rw [decide_eq_true c]
        refine iteT ?_
        have cl : st < ns.length := by
          rw [List.length_map] at c
          omega
        have at_ : atI (ns.map V.int) (st : Int) = some (.int ns[st]) := atI_nat (by
          rw [List.getElem?_map, List.getElem?_eq_getElem cl]
          rfl)
        refine ⟨_, rfl, _, rfl, _, _, _, _, rfl, rfl, hS, at_, _, _, rfl, rfl, ⟨by decide, by decide, by decide⟩, _, _, rfl, rfl, _, rfl, ?_⟩
        by_cases g : (10 : Int) ^ (18 : Int).toNat ≤ ns[st]
        · rw [decide_eq_true g]
          refine iteT ?_
          refine ⟨_, rfl, _, rfl, _, _, _, _, rfl, rfl, hS, at_, _, _, rfl, rfl, ⟨by decide, by decide, by decide⟩, _, _, rfl, rfl, ?_⟩
          exact last _ (by omega)
        · rw [decide_eq_false g]
          refine iteF ?_
          exact last 0 (by decide)
      · rw [decide_eq_false c]
        refine iteF ?_
        refine iteF ?_
        exact last 0 (by decide)
end
end Lw

namespace Lw
open PySem PySem.Spec PyProof.Rows L2 Er Hd
section
variable {P : Program} {w : World} {K : PySem.W.Frag} {mg : Str → Option Value} {base : Heap} {f : Addr} {fd : FuncData}
/-! ### _law_draw -/
def spDraw (K : PySem.W.Frag) : Sp := fun vs H Q _ => ∃ (p : Addr) (own mix : Int) (n : Nat), vs = [.ref p, .int n] ∧ H p = some (.lst [.int own, .int mix]) ∧ 0 < n ∧ n ≤ 1000 ∧ 0 ≤ own ∧ 0 ≤ mix ∧ mix < 2 ^ 32 ∧
  ∀ (k : Nat) (own' mix' : Int), k < n → 0 ≤ own' → 0 ≤ mix' → mix' < 2 ^ 32 → Q (.int k) (upd H p (.lst [.int own', .int mix']))
abbrev nDraw : List Str := ["_law_source_here", "_law_span", "_law_found"]
theorem scDraw : FnScope nDraw ["_law_source_here", "_law_span"] (defScope (top 50)) := ⟨rfl, rfl, rfl, by decide +kernel, rfl, by decide +kernel, by decide +kernel⟩
theorem modN {x : Int} {n : Nat} (h : 0 < n) : ∃ k : Nat, k < n ∧ x % (n : Int) = (k : Int) := by
  have h1 := Int.emod_nonneg x (show (n : Int) ≠ 0 by omega)
  have h2 := Int.emod_lt_of_pos x (show (0 : Int) < n by omega)
  exact ⟨(x % (n : Int)).toNat, by omega, by omega⟩
theorem ok_draw (F : FnP K "_law_draw" (top 50) f fd) (mi : mg "int" = none) : FnOk P w K mg base CX0 1 f fd ["_law_source_here", "_law_span"] (spDraw K) := by
  refine F.ok (CX := CX0) scDraw (fun vs H Q E h => ?_) (fun cdv A outer s H vs Q E hr h => ?_)
  · obtain ⟨p, own, mix, n, rfl, _⟩ := h
    rfl
  · refine ⟨_, PSs.nox (pss_cons (ps_if (pt_cmpR op_ge (pe_ix ix_list (pv 0) pe_int (fun _ _ => rfl)) (pv 1) (nomark _))
        (pss_cons (ps_set (i := 2) scDraw.nd rfl (.inl rfl) (pe_op op_mod (pe_i (pe_ix ix_list (pv 0) pe_int (fun _ _ => rfl)) mi) (pv 1)))
        (pss_cons (ps_asg (pe_op op_fdivN (pe_ix ix_list (pv 0) pe_int (fun _ _ => rfl)) (pv 1)) (pg_sub (pv 0) pe_int set_list))
        (pss_one (ps_ret (pv 2))))) pss_nil)
      (pss_cons (ps_asg (pe_op op_mod (pe_i (pe_op op_add (pe_op op_mul (pe_ix ix_list (pv 0) pe_int (fun _ _ => rfl)) pe_int) pe_int) mi) pe_int) (pg_sub (pv 0) pe_int set_list))
      (pss_one (ps_ret (pe_op op_mod (pe_i (pe_op op_fdivN (pe_op op_mod (pe_i (pe_op op_pow (pe_i (pe_ix ix_list (pv 0) pe_int (fun _ _ => rfl)) mi) pe_int) mi) pe_int) pe_int) mi) (pv 1)))))), ?_⟩
    obtain ⟨p, own, mix, n, rfl, hH, hn, hn2, ho, h0, h1, q⟩ := h
    have S : SqL K H p [.int own, .int mix] := .inl (.inl hH)
    have a0 : atI [V.int own, V.int mix] 0 = some (.int own) := atI_nat (j := 0) rfl
    have a1 : atI [V.int own, V.int mix] 1 = some (.int mix) := atI_nat (j := 1) rfl
    refine ⟨_, rfl, _, _, _, _, rfl, rfl, S, a0, _, rfl, _, _, rfl, rfl, _, rfl, ?_⟩
    by_cases c : (n : Int) ≤ own
    · rw [decide_eq_true c]
      refine iteT ?_
      obtain ⟨k, hk, ek⟩ := modN (x := own) hn
      refine ⟨_, rfl, _, _, _, _, rfl, rfl, S, a0, .inl ⟨_, rfl, _, rfl, _, _, rfl, rfl, by show (0 : Int) < n; omega, ?_⟩⟩
      refine ⟨_, rfl, _, _, _, _, rfl, rfl, S, a0, _, rfl, _, _, rfl, rfl, ⟨by omega, by omega⟩, _, rfl, _, _, _, 0, rfl, rfl, hH, rfl, ?_⟩
      refine ⟨_, rfl, ?_⟩
      show Q (.int (own % (n : Int))) (upd H p (.lst [.int (own.fdiv (n : Int)), .int mix]))
      rw [ek]
      refine q k _ mix hk ?_ h0 h1
      rw [Int.fdiv_eq_ediv_of_nonneg _ (by omega)]
      exact Int.ediv_nonneg ho (by omega)
    · rw [decide_eq_false c]
      refine iteF ?_
      have m0 := Int.emod_nonneg (mix * 69621 + 9137) (show (2147483647 : Int) ≠ 0 by decide)
      have m1 := Int.emod_lt_of_pos (mix * 69621 + 9137) (show (0 : Int) < 2147483647 by decide)
      refine ⟨_, rfl, _, _, _, _, rfl, rfl, S, a1, _, _, rfl, rfl, .inl ⟨by omega, by omega⟩, _, _, rfl, rfl, .inl ⟨_, rfl, _, _, rfl, rfl, by show (0 : Int) < 2147483647; decide, _, rfl, _, _, _, 1, rfl, rfl, hH, rfl, ?_⟩⟩
      have S2 : SqL K (upd H p (.lst [.int own, .int ((mix * 69621 + 9137) % 2147483647)])) p [.int own, .int ((mix * 69621 + 9137) % 2147483647)] := .inl (.inl upd_same)
      have b1 : atI [V.int own, V.int ((mix * 69621 + 9137) % 2147483647)] 1 = some (.int ((mix * 69621 + 9137) % 2147483647)) := atI_nat (j := 1) rfl
      refine ⟨_, rfl, _, _, _, _, rfl, rfl, S2, b1, .inl ⟨_, rfl, _, _, rfl, rfl, ⟨by decide, by decide, by omega⟩, .inl ⟨_, rfl, _, _, rfl, rfl, by show (0 : Int) < 1000000007; decide, _, _, rfl, rfl, ⟨by decide, by decide⟩, .inl ⟨_, rfl, _, rfl, _, _, rfl, rfl, by show (0 : Int) < n; omega, ?_⟩⟩⟩⟩
      obtain ⟨k, hk, ek⟩ := modN (x := (((mix * 69621 + 9137) % 2147483647) ^ (5 : Int).toNat % 1000000007).fdiv 37) hn
      show Q (.int ((((mix * 69621 + 9137) % 2147483647) ^ (5 : Int).toNat % 1000000007).fdiv 37 % (n : Int))) (upd H p (.lst [.int own, .int ((mix * 69621 + 9137) % 2147483647)]))
      rw [ek]
      exact q k own _ hk ho m0 (by omega)
end
end Lw

namespace Lw
open PySem PySem.Spec PyProof.Rows L2 Er Hd
open PySem.ErK (EC)
/-! ### rows of errors -/
/-- vs are errors of the classes ks, one by one, that hold y -/
def AllE (K : PySem.W.Frag) (H : Hp) (y : V) : List V → List (Str × Str) → Prop
  | [], [] => True
  | v :: vs, k :: ks => IsE H v (He.ga K k.1) k.2 y ∧ AllE K H y vs ks
  | _, _ => False
theorem AllE.mono {K : PySem.W.Frag} {H H' : Hp} {y : V} (s : Sm H H') : ∀ {vs : List V} {ks : List (Str × Str)}, AllE K H y vs ks → AllE K H' y vs ks
  | [], [], _ => True.intro
  | v :: vs, k :: ks, h => ⟨h.1.mono s, AllE.mono s h.2⟩
  | [], _ :: _, h => h
  | _ :: _, [], h => h
theorem AllE.append {K : PySem.W.Frag} {H : Hp} {y : V} : ∀ {vs ws : List V} {ks js : List (Str × Str)}, AllE K H y vs ks → AllE K H y ws js → AllE K H y (vs ++ ws) (ks ++ js)
  | [], ws, [], js, _, h => h
  | v :: vs, ws, k :: ks, js, h, h2 => ⟨h.1, AllE.append h.2 h2⟩
  | [], _, _ :: _, _, h, _ => h.elim
  | _ :: _, _, [], _, h, _ => h.elim
theorem AllE.len {K : PySem.W.Frag} {H : Hp} {y : V} : ∀ {vs : List V} {ks : List (Str × Str)}, AllE K H y vs ks → vs.length = ks.length
  | [], [], _ => rfl
  | v :: vs, k :: ks, h => congrArg Nat.succ (AllE.len h.2)
  | [], _ :: _, h => h.elim
  | _ :: _, [], h => h.elim
theorem AllE.at {K : PySem.W.Frag} {H : Hp} {y : V} : ∀ {vs : List V} {ks : List (Str × Str)} {i : Nat} {v : V}, AllE K H y vs ks → vs[i]? = some v → ∃ k, ks[i]? = some k ∧ IsE H v (He.ga K k.1) k.2 y
  | v :: vs, k :: ks, 0, x, h, e => by
    have e2 : v = x := by simpa using e
    subst e2
    exact ⟨k, rfl, h.1⟩
  | v :: vs, k :: ks, i + 1, x, h, e => by
    obtain ⟨j, e1, e2⟩ := AllE.at h.2 (i := i) (v := x) (by simpa using e)
    exact ⟨j, by simpa using e1, e2⟩
  | [], [], i, x, h, e => by simp at e
  | [], _ :: _, _, _, h, _ => h.elim
  | _ :: _, [], _, _, h, _ => h.elim
/-- what is known of the errors' classes -/
def Knows (K : PySem.W.Frag) (mg : Str → Option Value) : Prop := ∀ q ∈ cs, EC K q.1 q.2 (He.ga K q.1) (He.ma K (He.ga K q.1) "__init__") ∧ mg q.1 = some (.ref (He.ga K q.1))
theorem PA.imp {X : Cx} {es : List Expr} {t t' : TA} (h : PA X es t) (i : ∀ σ H Q, t' σ H Q → t σ H Q) : PA X es t' := ⟨fun pos pins s σ H Q I z => h.run pos pins s σ H Q I (i σ H Q z)⟩
/-- the reading of such a row: the thing stands in slot 0 -/
def tNews (K : PySem.W.Frag) (ks : List (Str × Str)) : TA := fun σ H Q => ∃ y, σ[0]? = some (some y) ∧ ∀ vs H', Sm H H' → AllE K H' y vs ks → Q vs H'
theorem pa_all {X : Cx} {ι : Type} (mk : ι → Expr) (nm : ι → Str × Str) (star : ∀ i es, starEach (mk i :: es) X.env = (false, eval (mk i) X.env) :: starEach es X.env) : ∀ (l : List ι), (∀ i ∈ l, PE X (mk i) (tNew (He.ga X.K (nm i).1) (nm i).2 (tVar 0))) → PA X (l.map mk) (tNews X.K (l.map nm))
  | [], _ => PA.imp pa_nil fun σ H Q ⟨y, _, q⟩ => q [] H (Sm.refl H) True.intro
  | i :: l, he => by
    refine PA.imp (pa_cons (he i List.mem_cons_self) (pa_all mk nm star l fun j hj => he j (List.mem_cons_of_mem _ hj)) (star i _)) fun σ H Q ⟨y, e, q⟩ => ?_
    exact ⟨y, e, fun v H1 s1 h1 => ⟨y, e, fun vs H2 s2 h2 => q (v :: vs) H2 (s1.trans s2) ⟨h1.mono s2, h2⟩⟩⟩
abbrev Itm : Type := Str × Str × Pos × Pos × Pos × Pos
def mkP (i : Itm) : Expr := .Call (.Name i.1 i.2.2.1) [.Name "_law_thing" i.2.2.2.1] [] i.2.2.2.2.1
def mkN (i : Itm) : Expr := .Call (.Name i.1 i.2.2.1) [] [⟨some i.2.1, .Name "_law_thing" i.2.2.2.1, i.2.2.2.2.2⟩] i.2.2.2.2.1
def nmI (i : Itm) : Str × Str := (i.1, i.2.1)
def pos0 : Pos := ⟨0, 0, 0, 0⟩
/-- the parts of a written call, read off the text -/
def unI (e : Expr) : Itm := match e with
  | .Call (.Name x p) [.Name _ q] _ r => (x, (cs.lookup x).getD "", p, q, r, pos0)
  | .Call (.Name x p) _ [⟨some f, .Name _ q, kp⟩] r => (x, f, p, q, r, kp)
  | _ => ("", "", pos0, pos0, pos0, pos0)
def els (e : Expr) : List Expr := match e with
  | .List es _ => es
  | _ => []
def good (sc : Scope) (l : List Itm) : Bool := l.all fun i => cs.contains (nmI i) && (decide (sc.names.lookup i.1 = some .globalImplicit) && !(i.1 == ("__debug__" : Str)))
section
variable {X : Cx}
theorem good_at {sc : Scope} {l : List Itm} (g : good sc l = true) {i : Itm} (hi : i ∈ l) : nmI i ∈ cs ∧ sc.names.lookup i.1 = some .globalImplicit ∧ (i.1 == ("__debug__" : Str)) = false := by
  have z := List.all_eq_true.mp g i hi
  simp only [Bool.and_eq_true, decide_eq_true_eq, Bool.not_eq_true'] at z
  exact ⟨List.contains_iff_mem.mp z.1, z.2.1, z.2.2⟩
theorem pa_place (kn : Knows X.K X.mg) (hr : Room 1 X.A) (hp : ∀ p : Pos, PE X (.Name "_law_thing" p) (tVar 0)) (l : List Itm) (g : good X.env.scope l = true) : PA X (l.map mkP) (tNews X.K (l.map nmI)) :=
  pa_all mkP nmI (fun _ _ => rfl) l fun i hi => by
    obtain ⟨m, gl, db⟩ := good_at g hi
    exact pe_new (kn _ m).1 hr gl (kn _ m).2 (hp _) db
theorem pa_names (kn : Knows X.K X.mg) (hr : Room 1 X.A) (hp : ∀ p : Pos, PE X (.Name "_law_thing" p) (tVar 0)) (l : List Itm) (g : good X.env.scope l = true) : PA X (l.map mkN) (tNews X.K (l.map nmI)) :=
  pa_all mkN nmI (fun _ _ => rfl) l fun i hi => by
    obtain ⟨m, gl, db⟩ := good_at g hi
    exact pe_newK (kn _ m).1 hr gl (kn _ m).2 (hp _) db
end
/-- the list that the def's last statement hands back -/
def retE (st : Stmt) : Expr := match (defBody st).getLast? with
  | some (.Return (some e) _) => e
  | _ => .Name "" pos0
def itP : List Itm := (els (retE (top 51))).map unI
def itN : List Itm := (els (retE (top 52))).map unI
/-- the classes whose field is value, in the law's sequence -/
def ks36 : List (Str × Str) := itP.map nmI
theorem ks36_N : itN.map nmI = ks36 := by decide +kernel
/-- what is promised of a row of new errors -/
def spRow (K : PySem.W.Frag) (ks : List (Str × Str)) : Sp := fun vs H Q _ => ∃ y, vs = [y] ∧ ∀ p es H', Sm H H' → H' p = some (.lst es) → AllE K H' y es ks → Q (.ref p) H'
section
variable {P : Program} {w : World} {K : PySem.W.Frag} {mg : Str → Option Value} {base : Heap} {f : Addr} {fd : FuncData}
theorem scP : FnScope ["_law_thing"] ["_law_thing"] (defScope (top 51)) := ⟨rfl, rfl, rfl, by decide +kernel, rfl, by decide +kernel, by decide +kernel⟩
theorem scN : FnScope ["_law_thing"] ["_law_thing"] (defScope (top 52)) := ⟨rfl, rfl, rfl, by decide +kernel, rfl, by decide +kernel, by decide +kernel⟩
theorem bodyP : ∃ p q, defBody (top 51) = [.Return (some (.List (itP.map mkP) p)) q] := ⟨_, _, by rfl⟩
theorem bodyN : ∃ p q, defBody (top 52) = [.Return (some (.List (itN.map mkN) p)) q] := ⟨_, _, by rfl⟩
theorem goodP : good (defScope (top 51)) itP = true := by
  decide +kernel
theorem goodN : good (defScope (top 52)) itN = true := by
  decide +kernel
theorem row_end {ks : List (Str × Str)} {D : Ends} {y : V} {H : Hp} {Q : VK} (hk : ks.length ≤ 100) (q : ∀ p es H', Sm H H' → H' p = some (.lst es) → AllE K H' y es ks → Q (.ref p) H') : tRet (tLst (tNews K ks)) { nx := fun _ H' => Q .non H', rt := Q } [some y] H := by
  refine ⟨y, rfl, fun vs H1 s1 h1 => ⟨?_, fun p hp => ?_⟩⟩
  · rw [h1.len, sizeLine_eq]
    omega
  · exact q p vs _ (s1.trans (Sm.new hp)) upd_same (h1.mono (Sm.new hp))
theorem ok_place (F : FnP K "_law_by_place" (top 51) f fd) (kn : Knows K mg) : FnOk P w K mg base CX0 2 f fd ["_law_thing"] (spRow K ks36) := by
  refine F.ok (CX := CX0) scP (fun vs H Q E h => ?_) (fun cdv A outer s H vs Q E hr h => ?_)
  · obtain ⟨y, rfl, _⟩ := h
    rfl
  · obtain ⟨p, q, e⟩ := bodyP
    rw [e]
    refine ⟨_, PSs.nox (pss_one (ps_ret (pe_lst (pa_place kn hr (fun _ => pv 0) itP goodP)))), ?_⟩
    obtain ⟨y, rfl, q⟩ := h
    exact row_end (D := ⟨fun _ _ => True, fun _ _ => True, fun _ _ => True, fun _ _ => True⟩) (by decide +kernel) q
theorem ok_name (F : FnP K "_law_by_name" (top 52) f fd) (kn : Knows K mg) : FnOk P w K mg base CX0 2 f fd ["_law_thing"] (spRow K ks36) := by
  refine F.ok (CX := CX0) scN (fun vs H Q E h => ?_) (fun cdv A outer s H vs Q E hr h => ?_)
  · obtain ⟨y, rfl, _⟩ := h
    rfl
  · obtain ⟨p, q, e⟩ := bodyN
    rw [e]
    refine ⟨_, PSs.nox (pss_one (ps_ret (pe_lst (pa_names kn hr (fun _ => pv 0) itN goodN)))), ?_⟩
    obtain ⟨y, rfl, q⟩ := h
    rw [ks36_N]
    exact row_end (D := ⟨fun _ _ => True, fun _ _ => True, fun _ _ => True, fun _ _ => True⟩) (by decide +kernel) q
end
end Lw

namespace Lw
open PySem PySem.Spec PyProof.Rows L2 Er Hd
open PySem.ErK (EC)
section
variable {X : Cx}
theorem pa_placeU {es : List Expr} {ks : List (Str × Str)} {sc : Scope} (kn : Knows X.K X.mg) (hr : Room 1 X.A) (hp : ∀ p : Pos, PE X (.Name "_law_thing" p) (tVar 0)) (hs : X.env.scope = sc) (g : good sc (es.map unI) = true) (hk : (es.map unI).map nmI = ks) (e : (es.map unI).map mkP = es) : PA X es (tNews X.K ks) := by
  rw [← e, ← hk]
  exact pa_place kn hr hp _ (by rw [hs]; exact g)
theorem pa_namesU {es : List Expr} {ks : List (Str × Str)} {sc : Scope} (kn : Knows X.K X.mg) (hr : Room 1 X.A) (hp : ∀ p : Pos, PE X (.Name "_law_thing" p) (tVar 0)) (hs : X.env.scope = sc) (g : good sc (es.map unI) = true) (hk : (es.map unI).map nmI = ks) (e : (es.map unI).map mkN = es) : PA X es (tNews X.K ks) := by
  rw [← e, ← hk]
  exact pa_names kn hr hp _ (by rw [hs]; exact g)
end
/-- [error.f for error in ..]: what it reads -/
theorem lc_get {K : PySem.W.Frag} {a : Addr} {xs : List V} {f : Str} {y : V} {σ : L2.St} {i : Nat} {H1 : Hp} {Q : Addr → Hp → Prop} (hS : H1 a = some (.lst xs)) (hx : ∀ (j : Nat) (v : V), xs[j]? = some v → ∃ x C fI, EC K x f C fI ∧ IsE H1 v C f y) (hl : xs.length ≤ 1000)
    (w1 : ∀ v, wipe ((wipe σ [i]).set i (some v)) [i] = wipe σ [i]) (w2 : ∀ v, ((wipe σ [i]).set i (some v))[i]? = some (some v)) (q : ∀ D H', Sm H1 H' → H' D = some (.lst (List.replicate xs.length y)) → Q D H') :
    ∀ D, H1 D = none → ∃ W : Nat → Nat → Hp → Prop, (∃ m, W 0 m (upd H1 D (.lst []))) ∧ ∀ i₁ m H, W i₁ m H →
      ((Itl K a).stop i₁ H ∧ Q D H) ∨ ((Itl K a).go i₁ H ∧ ∃ Nx : Hp → Prop, (∀ H', Nx H' → ∃ m', m' < m ∧ W (i₁ + 1) m' H') ∧ ∀ x H', (Itl K a).yld i₁ H x H' → gName i x (wipe σ [i]) H' fun σ2 H2 => wipe σ2 [i] = wipe σ [i] ∧ tYes σ2 H2 fun b H3 =>
        if b = true then tGet K f (tVar i) σ2 H3 fun y H4 => ∃ acc, H4 D = some (.lst acc) ∧ acc.length < sizeLine ∧ Nx (upd H4 D (.lst (acc ++ [y]))) else Nx H3) := by
  intro D hD
  have neD : ∀ {b : Addr} {o : HO}, H1 b = some o → b ≠ D := fun e => ne_of_none e hD
  refine lc_list (K := K) (a := a) (xs := xs) (g := gName i) (tt := tYes) (te := tGet K f (tVar i)) (vs := [i]) (Qd := fun H => Q D H) (fun j H' => Sm H1 H' ∧ H' D = some (.lst (List.replicate j y))) ⟨Sm.new hD, upd_same⟩ ?_ ?_ ?_
  · intro j H' _ h
    exact .inl (.inl (h.1 _ _ hS))
  · intro j x H' hj h
    refine ⟨w1 x, ?_⟩
    unfold tYes
    dsimp only
    rw [if_pos rfl]
    obtain ⟨n, C, fI, T, hE⟩ := hx j x hj
    have jl : j < xs.length := (List.getElem?_eq_some_iff.mp hj).1
    refine ⟨x, w2 x, n, C, fI, y, T, hE.mono h.1, _, h.2, ?_, ?_, ?_⟩
    · rw [List.length_replicate, sizeLine_eq]
      omega
    · intro b o e
      rw [upd_ne (neD e)]
      exact h.1 _ _ e
    · rw [upd_same, List.replicate_succ']
  · intro H' h
    exact q D H' h.1 h.2
def kA : List (Str × Str) := [("BadRow", "position"), ("BadInput", "position"), ("BadLog", "position"), ("BadEvent", "position"), ("TooFar", "count")]
def kB : List (Str × Str) := [("TooMany", "limit"), ("BadText", "spot"), ("TooLong", "deed"), ("InvalidCommand", "words"), ("NoHouse", "words")]
def kC : List (Str × Str) := [("BadRow", "position"), ("BadInput", "position"), ("BadLog", "position"), ("BadEvent", "position")]
def kD : List (Str × Str) := [("TooFar", "count"), ("TooMany", "limit"), ("BadText", "spot"), ("TooLong", "deed")]
def kE : List (Str × Str) := [("InvalidCommand", "words"), ("NoHouse", "words")]
/-- the ten errors with fields of other names -/
def ks10 : List (Str × Str) := kA ++ kB
/-- one, two, what is stored in them -/
def spOth (K : PySem.W.Frag) : Sp := fun vs H Q _ => ∃ y, vs = [y] ∧ ∀ p a b c e1 e2 H', Sm H H' → H' p = some (.lst [.ref a, .ref b, .ref c]) → H' a = some (.lst e1) → AllE K H' y e1 ks10 → H' b = some (.lst e2) → AllE K H' y e2 ks10 →
  H' c = some (.lst (List.replicate 20 y)) → Q (.ref p) H'
abbrev nO : List Str := ["_law_thing", "_law_one", "_law_two", "_law_stored", "_law_some", "_law_error"]
theorem scO : FnScope nO ["_law_thing"] (defScope (top 53)) := ⟨rfl, rfl, rfl, by decide +kernel, rfl, by decide +kernel, by decide +kernel⟩
section
variable {P : Program} {w : World} {K : PySem.W.Frag} {mg : Str → Option Value} {base : Heap} {f : Addr} {fd : FuncData}
theorem cut4 (xs : List V) (h : 4 ≤ xs.length) : cutV xs none (some 4) = xs.take 4 := by
  unfold cutV
  rw [HT.sIx_none, show HT.sIx xs.length xs.length (some 4) = min 4 xs.length from HT.sIx_nat xs.length xs.length 4]
  rw [show min 4 xs.length = 4 by omega]
  simp
theorem ok_oth (F : FnP K "_law_others" (top 53) f fd) (kn : Knows K mg) : FnOk P w K mg base CX0 2 f fd ["_law_thing"] (spOth K) := by
  refine F.ok (CX := CX0) scO (fun vs H Q E h => ?_) (fun cdv A outer s H vs Q E hr h => ?_)
  · obtain ⟨y, rfl, _⟩ := h
    rfl
  · have pl : ∀ {es : List Expr} {ks : List (Str × Str)} (g : good (defScope (top 53)) (es.map unI) = true) (hk : (es.map unI).map nmI = ks) (e : (es.map unI).map mkP = es), PA (cxOf CX0 P w K mg base nO "_law_others" (defScope (top 53)) f cdv A outer s H E).nox es (tNews K ks) :=
      fun g hk e => pa_placeU (sc := defScope (top 53)) kn hr (fun _ => pv 0) rfl g hk e
    have nl : ∀ {es : List Expr} {ks : List (Str × Str)} (g : good (defScope (top 53)) (es.map unI) = true) (hk : (es.map unI).map nmI = ks) (e : (es.map unI).map mkN = es), PA (cxOf CX0 P w K mg base nO "_law_others" (defScope (top 53)) f cdv A outer s H E).nox es (tNews K ks) :=
      fun g hk e => pa_namesU (sc := defScope (top 53)) kn hr (fun _ => pv 0) rfl g hk e
    refine ⟨_, PSs.nox (pss_cons (ps_set (i := 1) scO.nd rfl (.inl rfl) (pe_lst (pl (ks := kA) (by decide +kernel) (by decide +kernel) (by rfl))))
      (pss_cons (ps_set (i := 1) scO.nd rfl (.inl rfl) (pe_op op_cat (pv 1) (pe_lst (pl (ks := kB) (by decide +kernel) (by decide +kernel) (by rfl)))))
      (pss_cons (ps_set (i := 2) scO.nd rfl (.inl rfl) (pe_lst (nl (ks := kC) (by decide +kernel) (by decide +kernel) (by rfl))))
      (pss_cons (ps_set (i := 2) scO.nd rfl (.inl rfl) (pe_op op_cat (pv 2) (pe_lst (nl (ks := kD) (by decide +kernel) (by decide +kernel) (by rfl)))))
      (pss_cons (ps_set (i := 2) scO.nd rfl (.inl rfl) (pe_op op_cat (pv 2) (pe_lst (nl (ks := kE) (by decide +kernel) (by decide +kernel) (by rfl)))))
      (pss_cons (ps_set (i := 3) scO.nd rfl (.inl rfl) (pe_lst pa_nil))
      (pss_cons (ps_for PassesOwn.never rfl (pi_list (pe_lst (pa_cons (pv 1) (pa_cons (pv 2) pa_nil)))) (pg_name (i := 4) scO.nd rfl (.inl rfl))
        (pss_cons (ps_set (i := 3) scO.nd rfl (.inl rfl) (pe_op op_cat (pv 3) (by exact (pe_lc (own := [("_law_error", 5)]) (g := gName 5) (tt := tYes) (te := tGet K "position" (tVar 5)) rfl scO.nd (pi_list (pe_slice sl_list (pv 4) po_none (po_some pe_int))) (blkOk_by (N := nO) (sc := defScope (top 53)) (by decide +kernel)) (fun _ _ _ _ _ => pg_name (i := 5) scO.nd rfl (Or.inl rfl)) (fun _ _ _ _ _ => pts_nil) (fun _ _ _ _ _ => by exact (pe_get (by exact (pv 5))))))))
        (pss_one (ps_set (i := 3) scO.nd rfl (.inl rfl) (pe_op op_cat (pv 3) (pe_lst (pa_cons (pe_get (by exact (pe_ix ix_list (pv 4) pe_int (fun _ _ => rfl)))) (pa_cons (pe_get (by exact (pe_ix ix_list (pv 4) pe_int (fun _ _ => rfl)))) (pa_cons (pe_get (by exact (pe_ix ix_list (pv 4) pe_int (fun _ _ => rfl))))
          (pa_cons (pe_get (by exact (pe_ix ix_list (pv 4) pe_int (fun _ _ => rfl)))) (pa_cons (pe_get (by exact (pe_ix ix_list (pv 4) pe_int (fun _ _ => rfl)))) (pa_cons (pe_get (by exact (pe_ix ix_list (pv 4) pe_int (fun _ _ => rfl)))) pa_nil))))))))))))
      (pss_one (ps_ret (pe_lst (pa_cons (pv 1) (pa_cons (pv 2) (pa_cons (pv 3) pa_nil))))))))))))), ?_⟩
    obtain ⟨y, rfl, q⟩ := h
    have sz : ∀ n : Nat, n ≤ 1000 → n ≤ sizeLine := fun n z => by
      rw [sizeLine_eq]
      omega
    refine ⟨y, rfl, fun u1 H1 m1 h1 => ⟨sz _ (by rw [h1.len]; decide), fun a1 n1 => ?_⟩⟩
    refine ⟨_, rfl, y, rfl, fun u2 H2 m2 h2 => ⟨sz _ (by rw [h2.len]; decide), fun a2 n2 => ⟨a1, a2, u1, u2, rfl, rfl, Sm.new n2 _ _ (m2 _ _ upd_same), upd_same, sz _ (by rw [h1.len, h2.len]; decide), fun a3 n3 => ?_⟩⟩⟩
    have f1 : Sm H (upd (upd H2 a2 (.lst u2)) a3 (.lst (u1 ++ u2))) := (m1.trans (Sm.new n1)).trans (m2.trans ((Sm.new n2).trans (Sm.new n3)))
    have f2 : upd (upd H2 a2 (.lst u2)) a3 (.lst (u1 ++ u2)) a3 = some (.lst (u1 ++ u2)) := upd_same
    have f3 : AllE K (upd (upd H2 a2 (.lst u2)) a3 (.lst (u1 ++ u2))) y (u1 ++ u2) ks10 := AllE.append (h1.mono ((Sm.new n1).trans (m2.trans ((Sm.new n2).trans (Sm.new n3))))) (h2.mono ((Sm.new n2).trans (Sm.new n3)))
    generalize (upd (upd H2 a2 (.lst u2)) a3 (.lst (u1 ++ u2))) = G1 at f1 f2 f3 ⊢
    generalize (u1 ++ u2) = e1 at f2 f3
    refine ⟨y, rfl, fun u3 H3 m3 h3 => ⟨sz _ (by rw [h3.len]; decide), fun a4 n4 => ?_⟩⟩
    refine ⟨_, rfl, y, rfl, fun u4 H4 m4 h4 => ⟨sz _ (by rw [h4.len]; decide), fun a5 n5 => ⟨a4, a5, u3, u4, rfl, rfl, Sm.new n5 _ _ (m4 _ _ upd_same), upd_same, sz _ (by rw [h3.len, h4.len]; decide), fun a6 n6 => ?_⟩⟩⟩
    refine ⟨_, rfl, y, rfl, fun u5 H5 m5 h5 => ⟨sz _ (by rw [h5.len]; decide), fun a7 n7 => ⟨a6, a7, u3 ++ u4, u5, rfl, rfl, Sm.new n7 _ _ (m5 _ _ upd_same), upd_same, sz _ (by rw [List.length_append, h3.len, h4.len, h5.len]; decide), fun a8 n8 => ?_⟩⟩⟩
    have g0 : Sm H3 (upd (upd H5 a7 (.lst u5)) a8 (.lst (u3 ++ u4 ++ u5))) := (Sm.new n4).trans (m4.trans ((Sm.new n5).trans ((Sm.new n6).trans (m5.trans ((Sm.new n7).trans (Sm.new n8))))))
    have g1 : Sm G1 (upd (upd H5 a7 (.lst u5)) a8 (.lst (u3 ++ u4 ++ u5))) := m3.trans g0
    have g2 : upd (upd H5 a7 (.lst u5)) a8 (.lst (u3 ++ u4 ++ u5)) a8 = some (.lst (u3 ++ u4 ++ u5)) := upd_same
    have g3 : AllE K (upd (upd H5 a7 (.lst u5)) a8 (.lst (u3 ++ u4 ++ u5))) y (u3 ++ u4 ++ u5) ks10 :=
      AllE.append (ks := kC ++ kD) (AllE.append (h3.mono g0) (h4.mono ((Sm.new n5).trans ((Sm.new n6).trans (m5.trans ((Sm.new n7).trans (Sm.new n8))))))) (h5.mono ((Sm.new n7).trans (Sm.new n8)))
    generalize (upd (upd H5 a7 (.lst u5)) a8 (.lst (u3 ++ u4 ++ u5))) = G2 at g0 g1 g2 g3 ⊢
    generalize (u3 ++ u4 ++ u5) = e2 at g2 g3
    have k1 := f3.mono g1
    have k2 := g1 _ _ f2
    have k0 := f1.trans g1
    refine ⟨sz _ (by decide), fun c nc => ?_⟩
    refine ⟨_, rfl, _, rfl, sz _ (by show (2 : Nat) ≤ 1000; decide), fun L nL => ⟨L, rfl, ⟨_, .inl (.inl upd_same)⟩, for_list (K := K) (a := L) (xs := [.ref a3, .ref a8]) (fun i σ G' => ∃ (c : Addr) (v4 : Option V), σ = [some y, some (.ref a3), some (.ref a8), some (.ref c), v4, none] ∧ Sm G2 G' ∧ G' L = some (.lst [.ref a3, .ref a8]) ∧ G' c = some (.lst (List.replicate (10 * i) y))) ?_ ?_ ?_ ?_⟩⟩
    · exact ⟨c, none, rfl, (Sm.new nc).trans (Sm.new nL), upd_same, Sm.new nL _ _ upd_same⟩
    · rintro i σ G' _ ⟨c, v4, rfl, m, l, _⟩
      exact .inl (.inl l)
    · rintro i x σ G' hi ⟨c, v4, rfl, m, l, hc⟩
      have il : i < 2 := (List.getElem?_eq_some_iff.mp hi).1
      obtain ⟨b, es, rfl, hb, hA⟩ : ∃ b es, x = .ref b ∧ G2 b = some (.lst es) ∧ AllE K G2 y es ks10 := by
        match i, il with
        | 0, _ =>
          have e : V.ref a3 = x := by simpa using hi
          exact ⟨a3, e1, e.symm, k2, k1⟩
        | 1, _ =>
          have e : V.ref a8 = x := by simpa using hi
          exact ⟨a8, e2, e.symm, g2, g3⟩
      have el : es.length = 10 := hA.len
      have at4 : ∀ (G3 : Hp), Sm G2 G3 → ∀ (j : Nat) (v : V), (es.take 4)[j]? = some v → ∃ x C fI, EC K x "position" C fI ∧ IsE G3 v C "position" y := fun G3 mm j v hj => by
        have jl : j < 4 := by
          have z := (List.getElem?_eq_some_iff.mp hj).1
          rw [List.length_take] at z
          omega
        rw [List.getElem?_take_of_lt jl] at hj
        obtain ⟨k, e3, e4⟩ := hA.at hj
        have mem : k ∈ cs ∧ k.2 = "position" := by
          match j, jl with
          | 0, _ | 1, _ | 2, _ | 3, _ =>
            cases e3
            exact ⟨by decide +kernel, rfl⟩
        obtain ⟨k1, k2⟩ := k
        obtain ⟨mem, rfl⟩ := mem
        exact ⟨_, _, _, (kn _ mem).1, e4.mono mm⟩
      have at1 : ∀ (G3 : Hp), Sm G2 G3 → ∀ (j : Nat) (f : Str), j < 10 → (∃ x, ks10[j]? = some (x, f) ∧ (x, f) ∈ cs) → ∃ v, es[j]? = some v ∧ ∃ x C fI, EC K x f C fI ∧ IsE G3 v C f y := fun G3 mm j f jl ⟨x, hx, hm⟩ => by
        have z : es[j]? = some (es[j]'(by omega)) := List.getElem?_eq_getElem _
        obtain ⟨k, e3, e4⟩ := hA.at z
        rw [hx] at e3
        cases e3
        exact ⟨_, z, x, _, _, (kn _ hm).1, e4.mono mm⟩
      refine ⟨_, rfl, _, rfl, 4, rfl, b, es, rfl, .inl (.inl (m _ _ hb)), fun p np => ⟨p, rfl, ⟨_, .inl (.inl upd_same)⟩, lc_get (K := K) (a := p) (f := "position") (y := y) (xs := es.take 4) (σ := [some y, some (.ref a3), some (.ref a8), some (.ref c), some (.ref b), none]) (i := 5) ?_ (at4 _ (m.trans (Sm.new np))) (by rw [List.length_take]; omega) (fun _ => rfl) (fun _ => rfl) fun D G3 mD hD => ?_⟩⟩
      · rw [upd_same, cut4 es (by omega)]
      have l4 : (es.take 4).length = 4 := by
        rw [List.length_take]
        omega
      rw [l4] at hD
      have M3 : Sm G' G3 := (Sm.new np).trans mD
      refine ⟨c, D, _, _, rfl, rfl, M3 _ _ hc, hD, sz _ (by rw [List.length_replicate, List.length_replicate]; omega), fun p2 np2 => ?_⟩
      have M4 : Sm G' (upd G3 p2 (.lst (List.replicate (10 * i) y ++ List.replicate 4 y))) := M3.trans (Sm.new np2)
      have hp2 : upd G3 p2 (.lst (List.replicate (10 * i) y ++ List.replicate 4 y)) p2 = some (.lst (List.replicate (10 * i) y ++ List.replicate 4 y)) := upd_same
      generalize (upd G3 p2 (.lst (List.replicate (10 * i) y ++ List.replicate 4 y))) = G4 at M4 hp2 ⊢
      have S4 : SqL K G4 b es := .inl (.inl (M4 _ _ (m _ _ hb)))
      obtain ⟨w4, z4, x4, C4, I4, T4, E4⟩ := at1 G4 (m.trans M4) 4 "count" (by decide) ⟨"TooFar", rfl, by decide +kernel⟩
      obtain ⟨w5, z5, x5, C5, I5, T5, E5⟩ := at1 G4 (m.trans M4) 5 "limit" (by decide) ⟨"TooMany", rfl, by decide +kernel⟩
      obtain ⟨w6, z6, x6, C6, I6, T6, E6⟩ := at1 G4 (m.trans M4) 6 "spot" (by decide) ⟨"BadText", rfl, by decide +kernel⟩
      obtain ⟨w7, z7, x7, C7, I7, T7, E7⟩ := at1 G4 (m.trans M4) 7 "deed" (by decide) ⟨"TooLong", rfl, by decide +kernel⟩
      obtain ⟨w8, z8, x8, C8, I8, T8, E8⟩ := at1 G4 (m.trans M4) 8 "words" (by decide) ⟨"InvalidCommand", rfl, by decide +kernel⟩
      obtain ⟨w9, z9, x9, C9, I9, T9, E9⟩ := at1 G4 (m.trans M4) 9 "words" (by decide) ⟨"NoHouse", rfl, by decide +kernel⟩
      refine ⟨_, rfl, _, rfl, _, _, _, _, rfl, rfl, S4, atI_nat (j := 4) z4, x4, C4, I4, y, T4, E4, ?_⟩
      refine ⟨_, rfl, _, _, _, _, rfl, rfl, S4, atI_nat (j := 5) z5, x5, C5, I5, y, T5, E5, ?_⟩
      refine ⟨_, rfl, _, _, _, _, rfl, rfl, S4, atI_nat (j := 6) z6, x6, C6, I6, y, T6, E6, ?_⟩
      refine ⟨_, rfl, _, _, _, _, rfl, rfl, S4, atI_nat (j := 7) z7, x7, C7, I7, y, T7, E7, ?_⟩
      refine ⟨_, rfl, _, _, _, _, rfl, rfl, S4, atI_nat (j := 8) z8, x8, C8, I8, y, T8, E8, ?_⟩
      refine ⟨_, rfl, _, _, _, _, rfl, rfl, S4, atI_nat (j := 9) z9, x9, C9, I9, y, T9, E9, ?_⟩
      refine ⟨sz _ (by show (6 : Nat) ≤ 1000; decide), fun p5 np5 => ⟨p2, p5, _, _, rfl, rfl, Sm.new np5 _ _ hp2, upd_same, sz _ (by rw [List.length_append, List.length_replicate, List.length_replicate]; show 10 * i + 4 + 6 ≤ 1000; omega), fun p6 np6 => ?_⟩⟩
      refine ⟨p6, some (.ref b), rfl, m.trans (M4.trans ((Sm.new np5).trans (Sm.new np6))), M4.trans ((Sm.new np5).trans (Sm.new np6)) _ _ l, ?_⟩
      rw [upd_same]
      have er : ([y, y, y, y, y, y] : List V) = List.replicate 6 y := rfl
      rw [er, List.append_assoc, List.replicate_append_replicate, List.replicate_append_replicate]
      rfl
    · rintro σ G' ⟨c, v4, rfl, m, l, hc⟩
      refine ⟨_, rfl, _, rfl, _, rfl, sz _ (by show (3 : Nat) ≤ 1000; decide), fun p np => ?_⟩
      have M := m.trans (Sm.new (o := .lst [.ref a3, .ref a8, .ref c]) np)
      exact q p a3 a8 c e1 e2 _ (k0.trans M) upd_same (M _ _ k2) (k1.mono M) (M _ _ g2) (g3.mono M) (Sm.new np _ _ hc)
end
end Lw

namespace Lw
open PySem PySem.Spec PyProof.Rows L2 Er Hd
open PySem.ErK (EC)
/-! ### of which class an error is -/
/-- all that the law asks of the classes -/
structure Kn (K : PySem.W.Frag) (mg : Str → Option Value) : Prop where
  kn : Knows K mg
  kit : ∀ k ∈ cs, ∀ q ∈ cs, PySem.W.kitOne K (.ref (He.ga K k.1)) (.ref (He.ga K q.1)) = some (decide (k.1 = q.1))
  kitD : ∀ k ∈ cs, PySem.W.kitOne K (.ref (He.ga K k.1)) (.ref (He.ga K "DeskError")) = some true
  kitV : ∀ k ∈ cs, PySem.W.kitOne K (.ref (He.ga K k.1)) (.type "ValueError") = some true
  gD : mg "DeskError" = some (.ref (He.ga K "DeskError"))
  fI : mg "isinstance" = none
  fE : mg "enumerate" = none
  fR : mg "range" = none
  fL : mg "len" = none
  fV : mg "ValueError" = none
theorem boot_ve : bootBuiltins "ValueError" = some (.type "ValueError") := by decide +kernel
abbrev ItK : Type := Str × Pos × Pos × Pos × Pos
def mkK (i : ItK) : Expr := .Call (.Name "isinstance" i.2.1) [.Name "_law_error" i.2.2.1, .Name i.1 i.2.2.2.1] [] i.2.2.2.2
def unK (e : Expr) : ItK := match e with
  | .Call (.Name _ p) [.Name _ q, .Name x r] _ s => (x, p, q, r, s)
  | _ => ("", pos0, pos0, pos0, pos0)
def goodK (sc : Scope) (l : List ItK) : Bool := l.all fun i => (cs.map (·.1)).contains i.1 && (decide (sc.names.lookup i.1 = some .globalImplicit) && !(i.1 == ("__debug__" : Str)))
/-- of which of these classes an error of the class k is -/
def bls (k : Str) (l : List Str) : List V := l.map fun x => .bl (decide (k = x))
theorem bls_len (k : Str) (l : List Str) : (bls k l).length = l.length := List.length_map _
theorem bls_app (k : Str) (l m : List Str) : bls k l ++ bls k m = bls k (l ++ m) := List.map_append.symm
/-- what isinstance tells, class by class, of an error of the class k in slot 0 -/
def tIs (K : PySem.W.Frag) (xs : List Str) : TA := fun σ H Q => ∃ v k y, σ[0]? = some (some v) ∧ k ∈ cs ∧ IsE H v (He.ga K k.1) k.2 y ∧ Q (bls k.1 xs) H
section
variable {X : Cx}
theorem pa_kinds (kn : Kn X.K X.mg) (gi : Gl X "isinstance") (hp : ∀ p : Pos, PE X (.Name "_law_error" p) (tVar 0)) : ∀ (l : List ItK), goodK X.env.scope l = true → PA X (l.map mkK) (tIs X.K (l.map (·.1)))
  | [], _ => PA.imp pa_nil fun σ H Q ⟨v, k, y, _, _, _, q⟩ => q
  | i :: l, g => by
    have g2 : ((cs.map (·.1)).contains i.1 && (decide (X.env.scope.names.lookup i.1 = some .globalImplicit) && !(i.1 == ("__debug__" : Str))) && goodK X.env.scope l) = true := g
    simp only [Bool.and_eq_true, decide_eq_true_eq, Bool.not_eq_true'] at g2
    obtain ⟨⟨m, gl, db⟩, gr⟩ := g2
    obtain ⟨j, hj, ej⟩ := List.mem_map.mp (List.contains_iff_mem.mp m)
    have gC : X.mg i.1 = some (.ref (He.ga X.K i.1)) := by
      rw [← ej]
      exact (kn.kn j hj).2
    have one : PE X (mkK i) (tCB (rIsA X.K) (tCons (tVar 0) (tCons (tC (.ref (He.ga X.K i.1))) tNil))) :=
      pe_callB call_isA gi kn.fI PyProof.Rows.boot_isinstance (pa_cons (hp _) (pa_cons (pe_glob gl gC rfl db) pa_nil))
    refine PA.imp (pa_cons one (pa_kinds kn gi hp l gr)) fun σ H Q ⟨v, k, y, e, hk, hE, q⟩ => ?_
    refine ⟨v, e, v, .ref (He.ga X.K i.1), .ref (He.ga X.K i.1), k.1, k.2, He.ga X.K k.1, _, y, decide (k.1 = i.1), rfl, .own _, (kn.kn k hk).1, hE, ?_, v, k, y, e, hk, hE, q⟩
    rw [← ej]
    exact kn.kit k hk j hj
theorem pa_kindsU {es : List Expr} {xs : List Str} {sc : Scope} (kn : Kn X.K X.mg) (gi : Gl X "isinstance") (hp : ∀ p : Pos, PE X (.Name "_law_error" p) (tVar 0)) (hs : X.env.scope = sc) (g : goodK sc (es.map unK) = true) (hk : (es.map unK).map (·.1) = xs) (e : (es.map unK).map mkK = es) : PA X es (tIs X.K xs) := by
  rw [← e, ← hk]
  exact pa_kinds kn gi hp _ (by rw [hs]; exact g)
end
/-- the 46 classes in the law's sequence -/
def ks46 : List (Str × Str) := ks36 ++ ks10
def nm46 : List Str := ks46.map (·.1)
def n36 : List Str := ks36.map (·.1)
def spKinds (K : PySem.W.Frag) : Sp := fun vs H Q _ => ∃ v k y, vs = [v] ∧ k ∈ cs ∧ IsE H v (He.ga K k.1) k.2 y ∧ ∀ p H', Sm H H' → H' p = some (.lst (bls k.1 nm46)) → Q (.ref p) H'
abbrev nK : List Str := ["_law_error", "_law_found"]
theorem scK : FnScope nK ["_law_error"] (defScope (top 54)) := ⟨rfl, rfl, rfl, by decide +kernel, rfl, by decide +kernel, by decide +kernel⟩
section
variable {P : Program} {w : World} {K : PySem.W.Frag} {mg : Str → Option Value} {base : Heap} {f : Addr} {fd : FuncData}
theorem ok_kinds (F : FnP K "_law_kinds" (top 54) f fd) (kn : Kn K mg) : FnOk P w K mg base CX0 1 f fd ["_law_error"] (spKinds K) := by
  refine F.ok (CX := CX0) scK (fun vs H Q E h => ?_) (fun cdv A outer s H vs Q E hr h => ?_)
  · obtain ⟨v, k, y, rfl, _⟩ := h
    rfl
  · have pl : ∀ {es : List Expr} {xs : List Str} (g : goodK (defScope (top 54)) (es.map unK) = true) (hk : (es.map unK).map (·.1) = xs) (e : (es.map unK).map mkK = es), PA (cxOf CX0 P w K mg base nK "_law_kinds" (defScope (top 54)) f cdv A outer s H E).nox es (tIs K xs) :=
      fun g hk e => pa_kindsU (sc := defScope (top 54)) kn rfl (fun _ => pv 0) rfl g hk e
    refine ⟨_, PSs.nox (pss_cons (ps_set (i := 1) scK.nd rfl (.inl rfl) (pe_lst (pl (xs := n36) (by decide +kernel) (by decide +kernel) (by rfl))))
      (pss_cons (ps_set (i := 1) scK.nd rfl (.inl rfl) (pe_op op_cat (pv 1) (pe_lst (pl (xs := ["BadRow", "BadInput", "BadLog"]) (by decide +kernel) (by decide +kernel) (by rfl)))))
      (pss_cons (ps_set (i := 1) scK.nd rfl (.inl rfl) (pe_op op_cat (pv 1) (pe_lst (pl (xs := ["BadEvent", "TooFar", "TooMany"]) (by decide +kernel) (by decide +kernel) (by rfl)))))
      (pss_cons (ps_set (i := 1) scK.nd rfl (.inl rfl) (pe_op op_cat (pv 1) (pe_lst (pl (xs := ["BadText", "TooLong"]) (by decide +kernel) (by decide +kernel) (by rfl)))))
      (pss_cons (ps_set (i := 1) scK.nd rfl (.inl rfl) (pe_op op_cat (pv 1) (pe_lst (pl (xs := ["InvalidCommand", "NoHouse"]) (by decide +kernel) (by decide +kernel) (by rfl)))))
      (pss_one (ps_ret (pv 1)))))))), ?_⟩
    obtain ⟨v, k, y, rfl, hk, hE, q⟩ := h
    have sz : ∀ n : Nat, n ≤ 1000 → n ≤ sizeLine := fun n z => by
      rw [sizeLine_eq]
      omega
    have l36 : n36.length = 36 := by decide +kernel
    refine ⟨v, k, y, rfl, hk, hE, sz _ (by rw [bls_len, l36]; decide), fun p1 m1 => ?_⟩
    have s1 := Sm.new (o := .lst (bls k.1 n36)) m1
    refine ⟨_, rfl, v, k, y, rfl, hk, hE.mono s1, sz _ (by rw [bls_len]; decide), fun p2 m2 => ⟨p1, p2, _, bls k.1 ["BadRow", "BadInput", "BadLog"], rfl, rfl, Sm.new m2 _ _ upd_same, upd_same, sz _ (by simp only [bls_len, l36]; decide), fun p3 m3 => ?_⟩⟩
    have s3 := s1.trans ((Sm.new (o := .lst (bls k.1 ["BadRow", "BadInput", "BadLog"])) m2).trans (Sm.new (o := .lst (bls k.1 n36 ++ bls k.1 ["BadRow", "BadInput", "BadLog"])) m3))
    refine ⟨_, rfl, v, k, y, rfl, hk, hE.mono s3, sz _ (by rw [bls_len]; decide), fun p4 m4 => ⟨p3, p4, _, bls k.1 ["BadEvent", "TooFar", "TooMany"], rfl, rfl, Sm.new m4 _ _ upd_same, upd_same, sz _ (by simp only [List.length_append, bls_len, l36]; decide), fun p5 m5 => ?_⟩⟩
    have s5 := s3.trans ((Sm.new (o := .lst (bls k.1 ["BadEvent", "TooFar", "TooMany"])) m4).trans (Sm.new (o := .lst (bls k.1 n36 ++ bls k.1 ["BadRow", "BadInput", "BadLog"] ++ bls k.1 ["BadEvent", "TooFar", "TooMany"])) m5))
    refine ⟨_, rfl, v, k, y, rfl, hk, hE.mono s5, sz _ (by rw [bls_len]; decide), fun p6 m6 => ⟨p5, p6, _, bls k.1 ["BadText", "TooLong"], rfl, rfl, Sm.new m6 _ _ upd_same, upd_same, sz _ (by simp only [List.length_append, bls_len, l36]; decide), fun p7 m7 => ?_⟩⟩
    have s7 := s5.trans ((Sm.new (o := .lst (bls k.1 ["BadText", "TooLong"])) m6).trans (Sm.new (o := .lst (bls k.1 n36 ++ bls k.1 ["BadRow", "BadInput", "BadLog"] ++ bls k.1 ["BadEvent", "TooFar", "TooMany"] ++ bls k.1 ["BadText", "TooLong"])) m7))
    refine ⟨_, rfl, v, k, y, rfl, hk, hE.mono s7, sz _ (by rw [bls_len]; decide), fun p8 m8 => ⟨p7, p8, _, bls k.1 ["InvalidCommand", "NoHouse"], rfl, rfl, Sm.new m8 _ _ upd_same, upd_same, sz _ (by simp only [List.length_append, bls_len, l36]; decide), fun p9 m9 => ?_⟩⟩
    have s9 := s7.trans ((Sm.new (o := .lst (bls k.1 ["InvalidCommand", "NoHouse"])) m8).trans (Sm.new (o := .lst (bls k.1 n36 ++ bls k.1 ["BadRow", "BadInput", "BadLog"] ++ bls k.1 ["BadEvent", "TooFar", "TooMany"] ++ bls k.1 ["BadText", "TooLong"] ++ bls k.1 ["InvalidCommand", "NoHouse"])) m9))
    refine ⟨_, rfl, q p9 _ s9 ?_⟩
    rw [upd_same, bls_app, bls_app, bls_app, bls_app]
    rfl
end
end Lw

namespace Lw
open PySem PySem.Spec PyProof.Rows L2 Er Hd
open PySem.ErK (EC)
/-! ### lists of bools, compared -/
theorem bools_lay : ∀ bs : List Bool, PyData.canLayAll0 (bs.map PyData.bool) = true ∧ PyData.depthAll (bs.map PyData.bool) ≤ 1
  | [] => ⟨by simp [PyData.canLayAll0], by simp [PyData.depthAll]⟩
  | b :: bs => by
    have ih := bools_lay bs
    refine ⟨by simp [PyData.canLayAll0, PyData.canLay0, ih.1], ?_⟩
    have h := ih.2
    simp only [List.map_cons, PyData.depthAll, PyData.depth]
    omega
theorem bools_dp {K : PySem.W.Frag} {H : Hp} : ∀ bs : List Bool, DpAll K H (bs.map V.bl) (bs.map PyData.bool)
  | [] => .nil
  | b :: bs => .cons (.bl b) (bools_dp bs)
theorem bools_ok (bs : List Bool) : SeqAt.shaped (.list (bs.map PyData.bool)) = true ∧ PyData.eqv (.list (bs.map PyData.bool)) (.list (bs.map PyData.bool)) = true := by
  have h := bools_lay bs
  have c : (PyData.list (bs.map PyData.bool)).canLay0 = true := by simpa [PyData.canLay0] using h.1
  refine ⟨?_, ?_⟩
  · unfold SeqAt.shaped
    rw [c, Bool.true_and]
    refine decide_eq_true ?_
    have z := h.2
    simp only [PyData.depth]
    omega
  · first
      | exact SeqAt.eqv_refl _ c
      | exact eqv_refl _ c
      | exact PyData.eqv_refl _ c
      | exact PyProof.P3.eqv_refl _ c
theorem bls_bl (k : Str) (l : List Str) : bls k l = (l.map fun x => decide (k = x)).map V.bl := by
  unfold bls
  rw [List.map_map]
  rfl
/-- the list that the law makes at the place i -/
def row (i n : Nat) : List V := (List.range n).map fun t => .bl (decide (V.int (0 + ((t : Nat) : Int)) = V.int ((i : Nat) : Int)))
theorem row_more (i n : Nat) : row i (n + 1) = row i n ++ [.bl (decide (V.int (0 + ((n : Nat) : Int)) = V.int ((i : Nat) : Int)))] := by
  unfold row
  rw [List.range_succ, List.map_append]
  rfl
def tabB : Bool := (List.range 46).all fun i => match ks46[i]? with
  | some k => decide (bls k.1 nm46 = row i 46) && cs.contains k
  | none => false
theorem tab_ok : tabB = true := by decide +kernel
theorem tab_at {i : Nat} {k : Str × Str} (e : ks46[i]? = some k) (hi : i < 46) : bls k.1 nm46 = row i 46 ∧ k ∈ cs := by
  have z := List.all_eq_true.mp tab_ok i (List.mem_range.mpr hi)
  rw [e] at z
  simp only [Bool.and_eq_true, decide_eq_true_eq] at z
  exact ⟨z.1, List.contains_iff_mem.mp z.2⟩
/-- for i, x in enumerate(xs) -/
theorem for_en {K : PySem.W.Frag} {a : Addr} {xs : List V} {g : TG} {tb : TS} {D : Ends} {σ : L2.St} {H : Hp} (Pv : Nat → L2.St → Hp → Prop) (h0 : Pv 0 σ H) (hl : ∀ i σ H, Pv i σ H → H a = some (.lst xs))
    (hs : ∀ (i : Nat) (x : V) (T : Addr) σ H, xs[i]? = some x → H T = none → Pv i σ H → g (.ref T) σ (upd H T (.tup [.int (i : Nat), x])) fun σ2 H2 => tb { D with nx := Pv (i + 1), ct := Pv (i + 1), bk := D.nx } σ2 H2) (hd : ∀ σ H, Pv xs.length σ H → D.nx σ H) :
    ∃ W : Nat → Nat → L2.St → Hp → Prop, (∃ m, W 0 m σ H) ∧ ∀ i m σ H, W i m σ H →
      ((Ite K a).stop i H ∧ D.nx σ H) ∨ ((Ite K a).go i H ∧ ∃ N : L2.St → Hp → Prop, (∀ σ' H', N σ' H' → ∃ m', m' < m ∧ W (i + 1) m' σ' H') ∧ ∀ x H', (Ite K a).yld i H x H' → g x σ H' fun σ2 H2 => tb { D with nx := N, ct := N, bk := D.nx } σ2 H2) := by
  refine ⟨fun i m σ H => m = xs.length - i ∧ i ≤ xs.length ∧ Pv i σ H, ⟨xs.length, by simp, Nat.zero_le _, h0⟩, ?_⟩
  rintro i m σ H ⟨rfl, hi, p⟩
  have q : SqL K H a xs := .inl (.inl (hl i σ H p))
  by_cases lt : i < xs.length
  · have at_ : xs[i]? = some xs[i] := List.getElem?_eq_getElem lt
    refine .inr ⟨⟨xs, xs[i], q, at_⟩, Pv (i + 1), fun σ' H' p' => ⟨xs.length - (i + 1), by omega, rfl, lt, p'⟩, fun v H' y => ?_⟩
    obtain ⟨T, x, rfl, n, rfl, e⟩ := y
    exact hs i x T σ H (e xs q) n p
  · have e : i = xs.length := by omega
    subst e
    exact .inl ⟨⟨xs, q, Nat.le_refl _⟩, hd σ H p⟩
/-! ### _law_alone -/
def spAlone (K : PySem.W.Frag) : Sp := fun vs H Q _ => ∃ (a : Addr) (es : List V) (y : V), vs = [.ref a] ∧ H a = some (.lst es) ∧ AllE K H y es ks46 ∧ ∀ H', Sm H H' → Q (.bl true) H'
abbrev nL : List Str := ["_law_errors", "_law_at", "_law_error", "_law_other"]
theorem scL : FnScope nL ["_law_errors"] (defScope (top 55)) := ⟨rfl, rfl, rfl, by decide +kernel, rfl, by decide +kernel, by decide +kernel⟩
section
variable {P : Program} {w : World} {K : PySem.W.Frag} {mg : Str → Option Value} {base : Heap} {f fK : Addr} {fd fdK : FuncData}
theorem ok_alone (F : FnP K "_law_alone" (top 55) f fd) (kn : Kn K mg) (FK : FnP K "_law_kinds" (top 54) fK fdK) (gK : mg "_law_kinds" = some (.ref fK)) : FnOk P w K mg base CX0 2 f fd ["_law_errors"] (spAlone K) := by
  have GK : FnOk P w K mg base CX0 1 fK fdK ["_law_error"] (spKinds K) := ok_kinds FK kn
  have bK : Binds K fdK ["_law_error"] [] := FK.bindsN fun _ _ _ _ _ _ us hl => match us, hl with
    | [_], _ => rfl
  refine F.ok (CX := CX0) scL (fun vs H Q E h => ?_) (fun cdv A outer s H vs Q E hr h => ?_)
  · obtain ⟨a, es, y, rfl, _⟩ := h
    rfl
  · refine ⟨_, PSs.nox (pss_cons (ps_for PassesOwn.never rfl (pi_enum rfl kn.fE (pa_cons (pv 0) pa_nil)) (pg_tup rfl (pgs_cons (pg_name (i := 1) scL.nd rfl (.inr rfl)) (pgs_cons (pg_name (i := 2) scL.nd rfl (.inl rfl)) pgs_nil)))
        (pss_cons (ps_if (PW.pt (pw_or (pt_not (pt_val (pe_callB call_isA rfl kn.fI PyProof.Rows.boot_isinstance (pa_cons (pv 2) (pa_cons (pe_glob rfl kn.gD (v := .ref (He.ga K "DeskError")) rfl) pa_nil)))))
            (pw_or1 (pt_not (pt_val (pe_callB call_isA rfl kn.fI PyProof.Rows.boot_isinstance (pa_cons (pv 2) (pa_cons (pe_bltn rfl kn.fV boot_ve (v := .ty "ValueError") rfl) pa_nil)))))))) (pss_one (ps_ret pe_bl)) pss_nil)
        (pss_one (ps_if (pt_cmpR (op_neD hr.units) (by exact (pe_call GK hr rfl gK FK.kp bK .nil pass0 (pa_cons (pv 2) pa_nil)))
            (by exact (pe_lc (own := [("_law_other", 3)]) (g := gName 3) (tt := tYes) (te := tOp rEq (tVar 3) (tVar 1)) rfl scL.nd (pi_range1 rfl kn.fR (pa_cons (pe_callB call_len rfl kn.fL boot_len (pa_cons (pv 0) pa_nil)) pa_nil)) (blkOk_by (N := nL) (sc := defScope (top 55)) (by decide +kernel))
              (fun _ _ _ _ _ => pg_name (i := 3) scL.nd rfl (Or.inl rfl)) (fun _ _ _ _ _ => pts_nil) (fun _ _ _ _ _ => by exact (pe_cmpR op_eq (pv 3) (pv 1) (nomark _))))) (nomark _)) (pss_one (ps_ret pe_bl)) pss_nil))))
      (pss_one (ps_ret pe_bl))), ?_⟩
    obtain ⟨a, es, y, rfl, hH, hA, q⟩ := h
    have len : es.length = 46 := by
      rw [hA.len]
      decide +kernel
    refine ⟨_, rfl, a, _, rfl, .inl (.inl hH), for_en (K := K) (a := a) (xs := es) (fun i σ H' => ∃ v1 v2 : Option V, σ = [some (.ref a), v1, v2, none] ∧ Sm H H') ⟨none, none, rfl, Sm.refl H⟩ ?_ ?_ ?_⟩
    · rintro i σ H' ⟨v1, v2, rfl, m⟩
      exact m _ _ hH
    · rintro i x T σ H' hx hT ⟨v1, v2, rfl, m⟩
      have il : i < 46 := by
        have z := (List.getElem?_eq_some_iff.mp hx).1
        omega
      obtain ⟨k, ek, hE⟩ := hA.at hx
      obtain ⟨tb, hk⟩ := tab_at ek il
      have m2 : Sm H (upd H' T (.tup [.int (i : Nat), x])) := m.trans (Sm.new hT)
      have hE2 := hE.mono m2
      refine ⟨T, _, rfl, .inl (.inl upd_same), rfl, _, _, rfl, _, _, rfl, rfl, ?_⟩
      generalize (upd H' T (.tup [.int (i : Nat), x])) = G at m2 hE2 ⊢
      refine ⟨_, rfl, x, _, _, k.1, k.2, _, _, y, true, rfl, .own _, (kn.kn k hk).1, hE2, kn.kitD k hk, true, rfl, ?_⟩
      refine iteF ?_
      refine ⟨_, rfl, x, _, _, k.1, k.2, _, _, y, true, rfl, .ty _, (kn.kn k hk).1, hE2, kn.kitV k hk, true, rfl, ?_⟩
      refine iteF ?_
      refine ⟨_, rfl, x, k, y, rfl, hk, hE2, fun p G2 m3 hp => ?_⟩
      have hH2 : G2 a = some (.lst es) := m3 _ _ (m2 _ _ hH)
      refine ⟨_, rfl, _, _, rfl, .inl ⟨_, .inl (.inl hH2), rfl⟩, _, rfl, by omega, by omega, fun D hD => ?_⟩
      refine lc_range (lo := 0) (n := ((es.length : Nat) : Int).toNat) (fun j H2 => Sm G2 H2 ∧ H2 D = some (.lst (row i j))) ⟨Sm.new hD, upd_same⟩ ?_ ?_
      · rintro j H2 hj ⟨s2, d2⟩
        have jl : j < 46 := by omega
        refine ⟨rfl, ?_⟩
        unfold tYes
        dsimp only
        rw [if_pos rfl]
        refine ⟨_, rfl, _, rfl, rfl, _, d2, ?_, ?_, ?_⟩
        · unfold row
          rw [List.length_map, List.length_range, sizeLine_eq]
          omega
        · intro b o e
          rw [upd_ne (ne_of_none e hD)]
          exact s2 _ _ e
        · rw [upd_same, row_more]
      · rintro H2 ⟨s2, d2⟩
        have e46 : ((es.length : Nat) : Int).toNat = 46 := by omega
        rw [e46, ← tb, bls_bl] at d2
        have hp2 := s2 _ _ hp
        rw [bls_bl] at hp2
        have ok := bools_ok (nm46.map fun x => decide (k.1 = x))
        refine ⟨_, _, .lst (.inl (.inl hp2)) (bools_dp _), .lst (.inl (.inl d2)) (bools_dp _), ok.1, ok.1, _, rfl, ?_⟩
        rw [ok.2]
        refine iteF ?_
        exact ⟨_, _, rfl, m2.trans (m3.trans s2)⟩
    · rintro σ H' ⟨v1, v2, rfl, m⟩
      exact q H' m
end
end Lw

namespace Lw
open PySem PySem.Spec PyProof.Rows L2 Er Hd
open PySem.ErK (EC)
/-! ### a, b, c = x, y, z: no tuple is left, stored from the right -/
def tPar3 (i j k : Nat) (ta : TA) : TS := fun D σ H => ta σ H fun vs H1 => ∃ a b c, vs = [a, b, c] ∧ D.nx (((σ.set k (some c)).set j (some b)).set i (some a)) H1
theorem ps_par3 {X : Cx} {i j k : Nat} {x y z : Str} {a b c : Expr} {ta : TA} {px py pz pt pos : Pos} {kt k2 pt2} (hc : X.calm = true) (hN : X.N.Nodup) (hi : X.N[i]? = some x) (hj : X.N[j]? = some y) (hk : X.N[k]? = some z)
    (hx : X.env.scope.names.lookup x = some .local) (hy : X.env.scope.names.lookup y = some .local) (hz : X.env.scope.names.lookup z = some .local) (ha : PA X [a, b, c] ta)
    (hw : swappedStores [.Tuple [.Name x px, .Name y py, .Name z pz] kt pt] (.Tuple [a, b, c] k2 pt2) X.env = pure (some [x, y, z]))
    (hs : swapsWithSole [.Tuple [.Name x px, .Name y py, .Name z pz] kt pt] (.Tuple [a, b, c] k2 pt2) pos.line X.env = pure false := by rfl) :
    PS X (.Assign [.Tuple [.Name x px, .Name y py, .Name z pz] kt pt] (.Tuple [a, b, c] k2 pt2) pos) (tPar3 i j k ta) := by
  refine ⟨fun pins s σ H D I h => ?_⟩
  rw [exec_Assign_arm]
  refine wpAny_bind (wpAny_standAt ?_)
  rw [hs]
  refine wpAny_bind (wpAny_pure ?_)
  rw [if_neg (by decide)]
  refine wpAny_bind (Tuple_ (thn (ha.run _ pins s σ H _ I h) fun us s1 ⟨vs, H1, I1, r1, q1⟩ => ?_))
  obtain ⟨va, vb, vc, e1, q1⟩ := q1
  subst e1
  obtain ⟨u1, u2, u3, rfl, ra, rb, rc⟩ : ∃ u1 u2 u3, us = [u1, u2, u3] ∧ RelV va u1 ∧ RelV vb u2 ∧ RelV vc u3 := by
    cases r1 with
    | cons p q =>
      cases q with
      | cons p' q' =>
        cases q' with
        | cons p2 q2 =>
          cases q2
          exact ⟨_, _, _, rfl, p, p', p2⟩
  refine wpAny_newObj_type ?_ (by show 3 ≤ sizeLine; decide)
  have I2 : Inv X pins σ H1 { s1 with heap := s1.heap.push { cls := .type "tuple", data := .seq [u1, u2, u3].toArray } } :=
    I1.kept (t' := s1.toks) fun b o e => Heap.get?_push_of_some _ e
  rw [hw]
  refine wpAny_bind (wpAny_pure ?_)
  show wpAny (model X.prog X.w) X.A (do rule "assign.swapped-stores"; let items ← unpackItems (.ref s1.heap.objs.size) 3 none; assignInOrder [fun v => bindName X.env z v, fun v => bindName X.env y v, fun v => bindName X.env x v] items.reverse; pure Flow.next) _ _ _
  refine wpAny_bind (wpAny_rule (wpAny_bind (unpackItems_tuple (items := #[u1, u2, u3]) (I.ok.hd hc) (IsTup.new s1.heap _) fun h' kp => ?_)))
  have I3 := I2.kept (h' := h') (t' := s1.toks) fun b o e => kp b o (Nat.ne_of_lt (Heap.lt_size e)) e
  show wpAny _ _ (assignInOrder [fun v => bindName X.env z v, fun v => bindName X.env y v, fun v => bindName X.env x v] [u3, u2, u1] >>= fun _ => pure Flow.next) _ _ _
  refine wpAny_bind (assignInOrder_cons (wpAny_bindName (store_ok I3 hN hk (.inl hz) rc (fun s2 I4 => ?_) (.inr hz))))
  refine assignInOrder_cons (wpAny_bindName (store_ok I4 hN hj (.inl hy) rb (fun s3 I5 => ?_) (.inr hy)))
  refine assignInOrder_cons (wpAny_bindName (store_ok I5 hN hi (.inl hx) ra (fun s4 I6 => assignInOrder_nil (wpAny_pure ?_)) (.inr hx)))
  exact ⟨_, H1, I6, q1⟩
/-! ### the law's last two tests -/
def t7 (K : PySem.W.Frag) : TS := tIfS (tTest (tOp rNe (tCB rShw (tCons (tVar 8) tNil)) (tCB rShw (tCons (tOp rRep (tLst (tCons (tVar 4) tNil)) (tCB (rLen K) (tCons (tVar 8) tNil))) tNil)))) (tRet (tC (.bl false))) tNext
def t8 (K : PySem.W.Frag) : TS := tIfS (tOr (tNot (tB (tCall (spAlone K) [] E0 (tCons (tOp rCat (tVar 5) (tOp (rIxL K) (tVar 7) (tC (.int 0)))) tNil)))) (tNot (tB (tCall (spAlone K) [] E0 (tCons (tOp rCat (tVar 6) (tOp (rIxL K) (tVar 7) (tC (.int 1)))) tNil))))) (tRet (tC (.bl false))) tNext
theorem tail_ok {K : PySem.W.Frag} {D : Ends} {G : Hp} {v0 v1 v2 v3 v9 : Option V} {y : V} {d : PyData} {a5 a6 a7 a8 b1 b2 b3 : Addr} {e1 e2 o1 o2 : List V} (T : Thing G y d) (hd : d.shown.length ≤ 1000)
    (h8 : G a8 = some (.lst (List.replicate 92 y))) (h5 : G a5 = some (.lst e1)) (A5 : AllE K G y e1 ks36) (h6 : G a6 = some (.lst e2)) (A6 : AllE K G y e2 ks36) (h7 : G a7 = some (.lst [.ref b1, .ref b2, .ref b3]))
    (hb1 : G b1 = some (.lst o1)) (B1 : AllE K G y o1 ks10) (hb2 : G b2 = some (.lst o2)) (B2 : AllE K G y o2 ks10)
    (fin : ∀ G', Sm G G' → D.nx [v0, v1, v2, v3, some y, some (.ref a5), some (.ref a6), some (.ref a7), some (.ref a8), v9] G') :
    tSeq (t7 K) (t8 K) D [v0, v1, v2, v3, some y, some (.ref a5), some (.ref a6), some (.ref a7), some (.ref a8), v9] G := by
  have sz : ∀ n : Nat, n ≤ 1000 → n ≤ sizeLine := fun n z => by
    rw [sizeLine_eq]
    omega
  have Tm : ∀ {G' : Hp}, Sm G G' → Thing G' y d := fun {G'} m => by
    cases T with
    | flat h => exact .flat h
    | lst e h => exact .lst (m _ _ e) h
    | tup e h => exact .tup (m _ _ e) h
    | dct e l h => exact .dct (m _ _ e) l h
  have l36 : ks36.length = 36 := by decide +kernel
  have l10 : ks10.length = 10 := by decide +kernel
  refine ⟨_, rfl, a8, 92, y, d, rfl, h8, T, by decide, hd, ?_⟩
  refine ⟨_, rfl, sz _ (by show (1 : Nat) ≤ 1000; decide), fun p np => ⟨_, rfl, _, _, rfl, .inl ⟨_, .inl (.inl (Sm.new np _ _ h8)), rfl⟩, ?_⟩⟩
  rw [List.length_replicate]
  refine ⟨p, _, [y], rfl, rfl, upd_same, by decide, by decide, sz _ (by show 1 * 92 ≤ 1000; decide), fun p2 np2 => ?_⟩
  have m2 : Sm G (upd (upd G p (.lst [y])) p2 (.lst (List.replicate (((92 : Nat) : Int)).toNat [y]).flatten)) := (Sm.new np).trans (Sm.new np2)
  refine ⟨p2, 92, y, d, rfl, upd_same, Tm m2, by decide, hd, ?_⟩
  generalize (upd (upd G p (.lst [y])) p2 (.lst (List.replicate (((92 : Nat) : Int)).toNat [y]).flatten)) = G2 at m2 ⊢
  refine ⟨rfl, _, rfl, ?_⟩
  rw [decide_eq_true rfl]
  refine iteF ?_
  refine ⟨_, rfl, _, rfl, _, _, _, _, rfl, rfl, .inl (.inl (m2 _ _ h7)), atI_nat (j := 0) rfl, a5, b1, e1, o1, rfl, rfl, m2 _ _ h5, m2 _ _ hb1, sz _ (by rw [A5.len, B1.len, l36, l10]; decide), fun p3 np3 => ?_⟩
  have m3 : Sm G (upd G2 p3 (.lst (e1 ++ o1))) := m2.trans (Sm.new np3)
  refine ⟨p3, e1 ++ o1, y, rfl, upd_same, AllE.append (A5.mono m3) (B1.mono m3), fun G3 m4 => ?_⟩
  have m5 := m3.trans m4
  refine ⟨true, rfl, ?_⟩
  refine iteF ?_
  refine ⟨_, rfl, _, rfl, _, _, _, _, rfl, rfl, .inl (.inl (m5 _ _ h7)), atI_nat (j := 1) rfl, a6, b2, e2, o2, rfl, rfl, m5 _ _ h6, m5 _ _ hb2, sz _ (by rw [A6.len, B2.len, l36, l10]; decide), fun p4 np4 => ?_⟩
  have m6 : Sm G (upd G3 p4 (.lst (e2 ++ o2))) := m5.trans (Sm.new np4)
  refine ⟨p4, e2 ++ o2, y, rfl, upd_same, AllE.append (A6.mono m6) (B2.mono m6), fun G4 m7 => ?_⟩
  refine ⟨true, rfl, ?_⟩
  refine iteF ?_
  exact fin G4 (m6.trans m7)
end Lw

namespace Lw
open PySem PySem.Spec PyProof.Rows L2 Er Hd
open PySem.ErK (EC)
/-! ### what is drawn, and what is changed of it -/
/-- frozen things stay -/
def Kf (G G' : Hp) : Prop := ∀ b ob u, G b = some (.frz ob u) → G' b = some (.frz ob u)
theorem Kf.of {G G' : Hp} (m : Sm G G') : Kf G G' := fun b ob u e => m b _ e
theorem Kf.trans {G G1 G2 : Hp} (a : Kf G G1) (b : Kf G1 G2) : Kf G G2 := fun c ob u e => b c ob u (a c ob u e)
/-- all but a stays -/
def Sx (a : Addr) (G G' : Hp) : Prop := ∀ b o, b ≠ a → G b = some o → G' b = some o
theorem Sx.upd {a : Addr} {G : Hp} {o : HO} : Sx a G (upd G a o) := fun b u n e => by
  rw [upd_ne n]
  exact e
theorem Kf.upd {a : Addr} {G : Hp} {o u : HO} (e : G a = some u) (n : ∀ ob v, u ≠ .frz ob v) : Kf G (upd G a o) := fun b ob v z => by
  rw [upd_ne (at_ne e z (fun q => n ob v q))]
  exact z
theorem IsE.sx {a : Addr} {G G' : Hp} {v y : V} {C : Addr} {f : Str} {u : HO} (h : IsE G v C f y) (s : Sx a G G') (e : G a = some u) (n : ∀ φ, u ≠ .ext φ) : IsE G' v C f y := by
  obtain ⟨b, d, e1, e2, e3⟩ := h
  exact ⟨b, d, e1, s _ _ (at_ne e e2 fun q => n _ q) e2, s _ _ (at_ne e e3 fun q => n _ q) e3⟩
theorem AllE.sx {K : PySem.W.Frag} {a : Addr} {G G' : Hp} {y : V} {u : HO} (s : Sx a G G') (e : G a = some u) (n : ∀ φ, u ≠ .ext φ) : ∀ {vs : List V} {ks : List (Str × Str)}, AllE K G y vs ks → AllE K G' y vs ks
  | [], [], _ => True.intro
  | v :: vs, k :: ks, h => ⟨IsE.sx h.1 s e n, AllE.sx s e n h.2⟩
  | [], _ :: _, h => h
  | _ :: _, [], h => h
/-- the kinds of things that are drawn -/
inductive Pre (G : Hp) : V → Prop where
  | flat {v : V} {d : PyData} (h : Flat v d) (s : d.shown.length ≤ 1000) : Pre G v
  | tup {a : Addr} (e : G a = some (.tup [.int 1])) : Pre G (.ref a)
  | l1 {a : Addr} (e : G a = some (.lst [.int 5])) : Pre G (.ref a)
  | l2 {a : Addr} (e : G a = some (.lst [.str "a", .non])) : Pre G (.ref a)
  | dct {a : Addr} (e : G a = some (.dK [(Sum.inr "a", .int 1)])) : Pre G (.ref a)
def t5 (K : PySem.W.Frag) : TS := tIfS (tB (tCB (rIsi K) (tCons (tVar 4) (tCons (tC (.ty "list")) tNil)))) (tDrop (tBM K "list" rAppend (tVar 4) (tCons (tC (.int 0)) tNil))) tNext
def t6 (K : PySem.W.Frag) : TS := tIfS (tB (tCB (rIsi K) (tCons (tVar 4) (tCons (tC (.ty "dict")) tNil)))) (sDPut (tVar 4) (tC (.str "late")) (tC (.int 0))) tNext
section
variable {K : PySem.W.Frag} {D : Ends} {σ : L2.St} {G : Hp} {y : V} {t : String} {u : TS}
theorem t5_no (hy : σ[4]? = some (some y)) (ty : TyX K G y (.type t)) (k : kitB t "list" = some false) (r : u D σ G) : tSeq (t5 K) u D σ G :=
  ⟨y, hy, y, .ty "list", .type t, .type "list", false, rfl, .ty _, ty, kit_ty k, false, rfl, iteF r⟩
theorem t6_no (hy : σ[4]? = some (some y)) (ty : TyX K G y (.type t)) (k : kitB t "dict" = some false) (r : u D σ G) : tSeq (t6 K) u D σ G :=
  ⟨y, hy, y, .ty "dict", .type t, .type "dict", false, rfl, .ty _, ty, kit_ty k, false, rfl, iteF r⟩
theorem t5_yes {a : Addr} {xs : List V} (hy : σ[4]? = some (some (.ref a))) (e : G a = some (.lst xs)) (l : xs.length ≤ 2) (r : u D σ (upd G a (.lst (xs ++ [.int 0])))) : tSeq (t5 K) u D σ G :=
  ⟨.ref a, hy, .ref a, .ty "list", .type "list", .type "list", true, rfl, .ty _, .base (.lst e), kit_ty (by decide +kernel), true, rfl, iteT ⟨.ref a, hy, .inl ⟨rfl, _, .inl (.inl e)⟩, a, xs, .int 0, rfl, rfl, e, (by rw [sizeLine_eq]; omega), r⟩⟩
theorem t6_yes {a : Addr} (hy : σ[4]? = some (some (.ref a))) (e : G a = some (.dK [(Sum.inr "a", .int 1)])) (r : u D σ (upd G a (.dK (putK [(Sum.inr "a", .int 1)] (Sum.inr "late") (.int 0))))) : tSeq (t6 K) u D σ G :=
  ⟨.ref a, hy, .ref a, .ty "dict", .type "dict", .type "dict", true, rfl, .ty _, .base (.dK e), kit_ty (by decide +kernel), true, rfl, iteT ⟨.ref a, hy, a, _, rfl, DPut.k (k := Sum.inr "late") e (by rw [sizeLine_eq]; decide), r⟩⟩
end
theorem mid_ok {K : PySem.W.Frag} {D : Ends} {G : Hp} {v0 v1 v2 v3 v9 : Option V} {y : V} {a5 a6 a7 a8 b1 b2 b3 : Addr} {e1 e2 o1 o2 : List V} (Z : Pre G y)
    (h8 : G a8 = some (.lst (List.replicate 92 y))) (h5 : G a5 = some (.lst e1)) (A5 : AllE K G y e1 ks36) (h6 : G a6 = some (.lst e2)) (A6 : AllE K G y e2 ks36) (h7 : G a7 = some (.lst [.ref b1, .ref b2, .ref b3]))
    (hb1 : G b1 = some (.lst o1)) (B1 : AllE K G y o1 ks10) (hb2 : G b2 = some (.lst o2)) (B2 : AllE K G y o2 ks10)
    (fin : ∀ G', Kf G G' → D.nx [v0, v1, v2, v3, some y, some (.ref a5), some (.ref a6), some (.ref a7), some (.ref a8), v9] G') :
    tSeq (t5 K) (tSeq (t6 K) (tSeq (t7 K) (t8 K))) D [v0, v1, v2, v3, some y, some (.ref a5), some (.ref a6), some (.ref a7), some (.ref a8), v9] G := by
  have l36 : ks36.length = 36 := by decide +kernel
  have l10 : ks10.length = 10 := by decide +kernel
  -- a list of at most two things, one more behind it
  have lists : ∀ {a : Addr} {xs : List V} {ds : List PyData}, y = .ref a → G a = some (.lst xs) → xs.length ≤ 2 → Flats (xs ++ [.int 0]) ds → (PyData.list ds).shown.length ≤ 1000 →
      tSeq (t5 K) (tSeq (t6 K) (tSeq (t7 K) (t8 K))) D [v0, v1, v2, v3, some y, some (.ref a5), some (.ref a6), some (.ref a7), some (.ref a8), v9] G := by
    intro a xs ds ey e lx fl sh
    subst ey
    have far : ∀ {b : Addr} {zs : List V}, G b = some (.lst zs) → 2 < zs.length → b ≠ a := fun {b zs} eb lz => at_ne e eb fun q => by
      have q2 : xs = zs := HO.lst.inj q
      rw [← q2] at lz
      omega
    have s : Sx a G (upd G a (.lst (xs ++ [.int 0]))) := Sx.upd
    have ne : ∀ φ, HO.lst xs ≠ .ext φ := fun φ z => by cases z
    refine t5_yes rfl e lx (t6_no rfl (.base (.lst upd_same)) (by decide +kernel) (tail_ok (.lst upd_same fl) sh (s _ _ (far h8 (by rw [List.length_replicate]; decide)) h8) (s _ _ (far h5 (by rw [A5.len, l36]; decide)) h5) (AllE.sx s e ne A5)
      (s _ _ (far h6 (by rw [A6.len, l36]; decide)) h6) (AllE.sx s e ne A6) (s _ _ (far h7 (by show (2 : Nat) < 3; decide)) h7) (s _ _ (far hb1 (by rw [B1.len, l10]; decide)) hb1) (AllE.sx s e ne B1) (s _ _ (far hb2 (by rw [B2.len, l10]; decide)) hb2) (AllE.sx s e ne B2) fun G' m => ?_))
    exact fin G' ((Kf.upd e fun ob v z => by cases z).trans (Kf.of m))
  have same : ∀ {d : PyData}, Thing G y d → d.shown.length ≤ 1000 → tSeq (t7 K) (t8 K) D [v0, v1, v2, v3, some y, some (.ref a5), some (.ref a6), some (.ref a7), some (.ref a8), v9] G :=
    fun T sh => tail_ok T sh h8 h5 A5 h6 A6 h7 hb1 B1 hb2 B2 fun G' m => fin G' (Kf.of m)
  cases Z with
  | flat h sh =>
    have go := same (.flat h) sh
    cases h with
    | non => exact t5_no rfl (.base .non) (by decide +kernel) (t6_no rfl (.base .non) (by decide +kernel) go)
    | bl b => exact t5_no rfl (.base (.bl b)) (by decide +kernel) (t6_no rfl (.base (.bl b)) (by decide +kernel) go)
    | int i _ => exact t5_no rfl (.base (.int i)) (by decide +kernel) (t6_no rfl (.base (.int i)) (by decide +kernel) go)
    | str x => exact t5_no rfl (.base (.str x)) (by decide +kernel) (t6_no rfl (.base (.str x)) (by decide +kernel) go)
  | tup e =>
    have one : Flats [V.int 1] [PyData.int 1] := .cons (.int 1 (by decide +kernel)) .nil
    exact t5_no rfl (.base (.tup e)) (by decide +kernel) (t6_no rfl (.base (.tup e)) (by decide +kernel) (same (.tup e one) (by decide +kernel)))
  | l1 e => exact lists (ds := [.int 5, .int 0]) rfl e (by decide) (.cons (.int 5 (by decide +kernel)) (.cons (.int 0 (by decide +kernel)) .nil)) (by decide +kernel)
  | l2 e => exact lists (ds := [.str "a", .none, .int 0]) rfl e (by decide) (.cons (.str "a") (.cons .non (.cons (.int 0 (by decide +kernel)) .nil))) (by decide +kernel)
  | @dct a e =>
    have far : ∀ {b : Addr} {zs : List V}, G b = some (.lst zs) → b ≠ a := fun {b zs} eb => at_ne e eb fun q => by cases q
    have s : Sx a G (upd G a (.dK (putK [(Sum.inr "a", .int 1)] (Sum.inr "late") (.int 0)))) := Sx.upd
    have ne : ∀ φ, HO.dK [(Sum.inr "a", V.int 1)] ≠ .ext φ := fun φ z => by cases z
    have two : Flats [V.int 1, V.int 0] [PyData.int 1, PyData.int 0] := .cons (.int 1 (by decide +kernel)) (.cons (.int 0 (by decide +kernel)) .nil)
    have put : (putK [(Sum.inr "a", V.int 1)] (Sum.inr "late") (V.int 0) : List (Key × V)) = ((["a", "late"] : List Str).map Sum.inr).zip [V.int 1, V.int 0] := by decide +kernel
    refine t5_no rfl (.base (.dK e)) (by decide +kernel) (t6_yes rfl e (tail_ok (d := .dict (((["a", "late"] : List Str).map PyData.str).zip [.int 1, .int 0])) (.dct (ks := ["a", "late"]) (xs := [.int 1, .int 0]) ?_ rfl two) (by decide +kernel) (s _ _ (far h8) h8) (s _ _ (far h5) h5) (AllE.sx s e ne A5)
      (s _ _ (far h6) h6) (AllE.sx s e ne A6) (s _ _ (far h7) h7) (s _ _ (far hb1) hb1) (AllE.sx s e ne B1) (s _ _ (far hb2) hb2) (AllE.sx s e ne B2) fun G' m => ?_))
    · rw [upd_same, put]
    · exact fin G' ((Kf.upd e fun ob v z => by cases z).trans (Kf.of m))
end Lw

namespace Lw
open PySem PySem.Spec PyProof.Rows L2 Er Hd
open PySem.ErK (EC)
/-- what stands behind the top -/
structure Fns (K : PySem.W.Frag) (mg : Str → Option Value) (fS fD fP fN fO fK fA : Addr) (dS dD dP dN dO dK dA : FuncData) : Prop where
  kn : Kn K mg
  sys : IsSys K
  FS : FnP K "_law_source" (top 49) fS dS
  FD : FnP K "_law_draw" (top 50) fD dD
  FP : FnP K "_law_by_place" (top 51) fP dP
  FN : FnP K "_law_by_name" (top 52) fN dN
  FO : FnP K "_law_others" (top 53) fO dO
  FK : FnP K "_law_kinds" (top 54) fK dK
  FA : FnP K "_law_alone" (top 55) fA dA
  gS : mg "_law_source" = some (.ref fS)
  gD : mg "_law_draw" = some (.ref fD)
  gP : mg "_law_by_place" = some (.ref fP)
  gN : mg "_law_by_name" = some (.ref fN)
  gO : mg "_law_others" = some (.ref fO)
  gK : mg "_law_kinds" = some (.ref fK)
  gA : mg "_law_alone" = some (.ref fA)
  mi : mg "int" = none
  mx : mg "max" = none
  mn : mg "min" = none
  ml : mg "list" = none
  md : mg "dict" = none
  mr : mg "repr" = none
def spLaw (K : PySem.W.Frag) : Sp := fun vs H Q _ => ∃ (a : Addr) (ns : List Int), vs = [.ref a] ∧ Only H ∧ SqL K H a (ns.map V.int) ∧ ns.length ≤ 63 ∧ (∀ z ∈ ns, Builtin.Int.intBits z ≤ 1048576) ∧ ∀ H', Q (.bl true) H'
abbrev nW : List Str := ["_law_script", "_law_start", "_law_source_here", "_law_some", "_law_thing", "_law_one", "_law_two", "_law_rest", "_law_stored", "_law_error"]
theorem scW : FnScope nW ["_law_script"] (defScope (top 56)) := ⟨rfl, rfl, rfl, by decide +kernel, rfl, by decide +kernel, by decide +kernel⟩
/-- the script stands: read, not written -/
def Sc (K : PySem.W.Frag) (a : Addr) (ns : List Int) (H : Hp) : Prop := (∃ ob, H a = some (.frz ob (.lst (ns.map V.int)))) ∨
  ∃ (o : Obj) (its : Array Value) (n : Nat), K.lookup a = some o ∧ o.cls = .type "list" ∧ o.dict = none ∧ o.data = .seq its n ∧ its.size ≤ sizeLine ∧ Vals (ns.map V.int) its.toList
theorem Sc.sq {K : PySem.W.Frag} {a : Addr} {ns : List Int} {H : Hp} (h : Sc K a ns H) : SqL K H a (ns.map V.int) := by
  rcases h with ⟨o, e⟩ | k
  · exact .inl (.inr ⟨o, e⟩)
  · exact .inr k
theorem Sc.kf {K : PySem.W.Frag} {a : Addr} {ns : List Int} {H H' : Hp} (h : Sc K a ns H) (k : Kf H H') : Sc K a ns H' := by
  rcases h with ⟨o, e⟩ | z
  · exact .inl ⟨o, k _ _ _ e⟩
  · exact .inr z
theorem Pre.mono {G G' : Hp} {y : V} (h : Pre G y) (m : Sm G G') : Pre G' y := by
  cases h with
  | flat f s => exact .flat f s
  | tup e => exact .tup (m _ _ e)
  | l1 e => exact .l1 (m _ _ e)
  | l2 e => exact .l2 (m _ _ e)
  | dct e => exact .dct (m _ _ e)
theorem val36B : ((ks36 ++ ks36).all fun k => cs.contains k && decide (k.2 = "value")) = true := by decide +kernel
theorem val36 {k1 k2 : Str} (h : (k1, k2) ∈ ks36 ++ ks36) : (k1, k2) ∈ cs ∧ k2 = "value" := by
  have z := List.all_eq_true.mp val36B _ h
  simp only [Bool.and_eq_true, decide_eq_true_eq] at z
  exact ⟨List.contains_iff_mem.mp z.1, z.2⟩
section
variable {P : Program} {w : World} {K : PySem.W.Frag} {mg : Str → Option Value} {base : Heap} {f fS fD fP fN fO fK fA : Addr} {dS dD dP dN dO dK dA : FuncData}
theorem law_body (T : Fns K mg fS fD fP fN fO fK fA dS dD dP dN dO dK dA) {cdv : Value} {A : Around} {outer : List Env} {s : Shared} {H : Hp} {vs : List V} {Q : VK} {E : XK} (hg : A.guards = some []) (hr : Room 2 (A.deeper (envOfC "law" (defScope (top 56)) s.heap.objs.size f cdv))) (h : spLaw K vs H Q E) :
    ∃ t, PSs (cxOf CX0 P w K mg base nW "law" (defScope (top 56)) f cdv A outer s H E) (defBody (top 56)) t ∧ t { nx := fun _ H' => Q .non H', rt := Q } (start nW vs) H := by
  have GS : FnOk P w K mg base CX0 1 fS dS ["_law_script", "_law_start"] (spSrc K) := ok_src T.FS T.mi T.kn.fL
  have GD : FnOk P w K mg base CX0 1 fD dD ["_law_source_here", "_law_span"] (spDraw K) := ok_draw T.FD T.mi
  have GP : FnOk P w K mg base CX0 2 fP dP ["_law_thing"] (spRow K ks36) := ok_place T.FP T.kn.kn
  have GN : FnOk P w K mg base CX0 2 fN dN ["_law_thing"] (spRow K ks36) := ok_name T.FN T.kn.kn
  have GO : FnOk P w K mg base CX0 2 fO dO ["_law_thing"] (spOth K) := ok_oth T.FO T.kn.kn
  have GA : FnOk P w K mg base CX0 2 fA dA ["_law_errors"] (spAlone K) := ok_alone T.FA T.kn T.FK T.gK
  have bS : Binds K dS ["_law_script", "_law_start"] [] := T.FS.bindsN fun _ _ _ _ _ _ us hl => match us, hl with
    | [_, _], _ => rfl
  have bD : Binds K dD ["_law_source_here", "_law_span"] [] := T.FD.bindsN fun _ _ _ _ _ _ us hl => match us, hl with
    | [_, _], _ => rfl
  have bP : Binds K dP ["_law_thing"] [] := T.FP.bindsN fun _ _ _ _ _ _ us hl => match us, hl with
    | [_], _ => rfl
  have bN : Binds K dN ["_law_thing"] [] := T.FN.bindsN fun _ _ _ _ _ _ us hl => match us, hl with
    | [_], _ => rfl
  have bO : Binds K dO ["_law_thing"] [] := T.FO.bindsN fun _ _ _ _ _ _ us hl => match us, hl with
    | [_], _ => rfl
  have bA : Binds K dA ["_law_errors"] [] := T.FA.bindsN fun _ _ _ _ _ _ us hl => match us, hl with
    | [_], _ => rfl
  have hr1 := hr.mono (show 1 ≤ 2 by decide)
  have rep : CallR (cxOf CX0 P w K mg base nW "law" (defScope (top 56)) f cdv A outer s H E).nox (.builtin "repr") rShw := call_rep T.sys hg hr.units
  refine ⟨_, PSs.nox (pss_cons (ps_for PassesOwn.never rfl (pi_range1 rfl T.kn.fR (pa_cons (pe_callB (call_max2 rfl) rfl T.mx PyProof.Rows.boot_max (pa_cons pe_int (pa_cons (pe_callB (call_min2 rfl) rfl T.mn PyProof.Rows.boot_min (pa_cons pe_int (pa_cons (pe_callB call_len rfl T.kn.fL boot_len (pa_cons (pv 0) pa_nil)) pa_nil))) pa_nil))) pa_nil)) (pg_name (i := 1) scW.nd rfl (.inl rfl))
      (pss_cons (ps_set (i := 2) scW.nd rfl (.inl rfl) (by exact (pe_call GS hr1 rfl T.gS T.FS.kp bS .nil pass0 (pa_cons (pv 0) (pa_cons (pv 1) pa_nil)))))
      (pss_cons (ps_set (i := 3) scW.nd rfl (.inl rfl) (pe_lst (pa_cons (pe_lst (pa_cons pe_int pa_nil)) (pa_cons (pe_lst (pa_cons pe_str (pa_cons pe_non pa_nil))) (pa_cons (pe_disp (pps_cons pe_str pe_int pps_nil) (by rfl) (by rfl) (fun z => by cases z) (by decide))
        (pa_cons pe_non (pa_cons pe_str (pa_cons (pe_tup (pa_cons pe_int pa_nil)) (pa_cons pe_bl (pa_cons (pe_op op_sub pe_int pe_int) (pa_cons (by exact (pe_call GD hr1 rfl T.gD T.FD.kp bD .nil pass0 (pa_cons (pv 2) (pa_cons pe_int pa_nil)))) pa_nil)))))))))))
      (pss_cons (ps_set (i := 4) scW.nd rfl (.inl rfl) (pe_ix ix_list (pv 3) (by exact (pe_call GD hr1 rfl T.gD T.FD.kp bD .nil pass0 (pa_cons (pv 2) (pa_cons (pe_callB call_len rfl T.kn.fL boot_len (pa_cons (pv 3) pa_nil)) pa_nil)))) (fun _ _ => rfl)))
      (pss_cons (ps_par3 (i := 5) (j := 6) (k := 7) rfl scW.nd rfl rfl rfl rfl rfl rfl (pa_cons (by exact (pe_call GP hr rfl T.gP T.FP.kp bP .nil pass0 (pa_cons (pv 4) pa_nil))) (pa_cons (by exact (pe_call GN hr rfl T.gN T.FN.kp bN .nil pass0 (pa_cons (pv 4) pa_nil))) (pa_cons (by exact (pe_call GO hr rfl T.gO T.FO.kp bO .nil pass0 (pa_cons (pv 4) pa_nil))) pa_nil))) (by rfl))
      (pss_cons (ps_set (i := 8) scW.nd rfl (.inl rfl) (pe_op op_cat (by exact (pe_lc (own := [("_law_error", 9)]) (g := gName 9) (tt := tYes) (te := tGet K "value" (tVar 9)) rfl scW.nd (pi_list (pe_op op_cat (pv 5) (pv 6))) (blkOk_by (N := nW) (sc := defScope (top 56)) (by decide +kernel)) (fun _ _ _ _ _ => pg_name (i := 9) scW.nd rfl (Or.inl rfl)) (fun _ _ _ _ _ => pts_nil) (fun _ _ _ _ _ => by exact (pe_get (by exact (pv 9)))))) (pe_ix ix_list (pv 7) pe_int (fun _ _ => rfl))))
      (pss_cons (ps_if (pt_val (pe_callB call_isi rfl T.kn.fI PyProof.Rows.boot_isinstance (pa_cons (pv 4) (pa_cons (pe_bltn rfl T.ml PyProof.Rows.boot_list (v := .ty "list") rfl) pa_nil)))) (pss_one (ps_expr (pe_bm PySem.F.plainAttrs_list PySem.F.slot_list_append PySem.F.type_list_append mt_append (pv 4) (pa_cons pe_int pa_nil)))) pss_nil)
      (pss_cons (ps_if (pt_val (pe_callB call_isi rfl T.kn.fI PyProof.Rows.boot_isinstance (pa_cons (pv 4) (pa_cons (pe_bltn rfl T.md PyProof.Rows.boot_dict (v := .ty "dict") rfl) pa_nil)))) (pss_one (ps_dput (hu_of hr) (pv 4) pe_str pe_int (by rfl))) pss_nil)
      (pss_cons (ps_if (pt_cmpR op_ne (pe_callB rep rfl T.mr PyProof.Rows.boot_repr (pa_cons (pv 8) pa_nil)) (pe_callB rep rfl T.mr PyProof.Rows.boot_repr (pa_cons (pe_op op_rep (pe_lst (pa_cons (pv 4) pa_nil)) (pe_callB call_len rfl T.kn.fL boot_len (pa_cons (pv 8) pa_nil))) pa_nil)) (nomark _)) (pss_one (ps_ret pe_bl)) pss_nil)
      (pss_one (ps_if (PW.pt (pw_or (pt_not (pt_val (by exact (pe_call GA hr rfl T.gA T.FA.kp bA .nil pass0 (pa_cons (pe_op op_cat (pv 5) (pe_ix ix_list (pv 7) pe_int (fun _ _ => rfl))) pa_nil)))))
        (pw_or1 (pt_not (pt_val (by exact (pe_call GA hr rfl T.gA T.FA.kp bA .nil pass0 (pa_cons (pe_op op_cat (pv 6) (pe_ix ix_list (pv 7) pe_int (fun _ _ => rfl))) pa_nil)))))))) (pss_one (ps_ret pe_bl)) pss_nil)))))))))))
    (pss_one (ps_ret pe_bl))), ?_⟩
  obtain ⟨a, ns, rfl, hO, hS, hl, hb, q⟩ := h
  have sz : ∀ n : Nat, n ≤ 1000 → n ≤ sizeLine := fun n z => by
    rw [sizeLine_eq]
    omega
  have sc0 : Sc K a ns H := by
    rcases hS with (e | ⟨o, e⟩) | k
    · rcases hO a with z | ⟨o, xs, z⟩
      · rw [e] at z
        cases z
      · rw [e] at z
        cases z
    · exact .inl ⟨o, e⟩
    · exact .inr k
  have l36 : ks36.length = 36 := by decide +kernel
  refine ⟨_, rfl, _, _, rfl, .inl ⟨_, hS, rfl⟩, _, _, rfl, _, _, rfl, _, rfl, ?_, ?_, for_range (lo := 0) (fun i σ H' => ∃ v1 v2 v3 v4 v5 v6 v7 v8 : Option V, σ = [some (.ref a), v1, v2, v3, v4, v5, v6, v7, v8, none] ∧ Sc K a ns H') ⟨none, none, none, none, none, none, none, none, rfl, sc0⟩ ?_ ?_⟩
  · split <;> (try split) <;> omega
  · split <;> (try split) <;> omega
  · rintro i σ H' hi ⟨v1, v2, v3, v4, v5, v6, v7, v8, rfl, sc⟩
    have i3 : i ≤ 3 := by
      revert hi
      split <;> (try split) <;> intro hi <;> omega
    clear hi
    refine ⟨_, rfl, _, rfl, a, ns, i, by simp, sc.sq, hl, i3, hb, fun p own mix np w0 w1 w2 => ?_⟩
    refine ⟨sz _ (by decide), fun p1 n1 => ⟨sz _ (by decide), fun p2 n2 => ?_⟩⟩
    intro p3 n3
    refine ⟨upd_same, [(Sum.inr "a", .int 1)], rfl, by decide, ?_⟩
    rw [upd_upd]
    refine ⟨sz _ (by decide), fun p4 n4 => ?_⟩
    have c0 : Kf H' (upd H' p (.lst [.int own, .int mix])) := Kf.of (Sm.new np)
    have f0 : upd H' p (.lst [.int own, .int mix]) p = some (.lst [.int own, .int mix]) := upd_same
    generalize (upd H' p (.lst [.int own, .int mix])) = H0 at c0 f0 n1 n2 n3 n4 ⊢
    have s1 : Sm H0 (upd H0 p1 (.lst [.int 5])) := Sm.new n1
    have f1 : upd H0 p1 (.lst [.int 5]) p1 = some (.lst [.int 5]) := upd_same
    have d1 : p ≠ p1 := ne_of_none f0 n1
    generalize (upd H0 p1 (.lst [.int 5])) = H1 at s1 f1 n2 n3 n4 ⊢
    have s2 : Sm H1 (upd H1 p2 (.lst [.str "a", .non])) := Sm.new n2
    have f2 : upd H1 p2 (.lst [.str "a", .non]) p2 = some (.lst [.str "a", .non]) := upd_same
    have d2 : p ≠ p2 := ne_of_none (s1 _ _ f0) n2
    generalize (upd H1 p2 (.lst [.str "a", .non])) = H2 at s2 f2 n3 n4 ⊢
    have s3 : Sm H2 (upd H2 p3 (.dK (mergeK [] [(Sum.inr "a", .int 1)]))) := Sm.new n3
    have f3 : upd H2 p3 (.dK (mergeK [] [(Sum.inr "a", .int 1)])) p3 = some (.dK [(Sum.inr "a", .int 1)]) := by
      rw [upd_same]
      rfl
    have d3 : p ≠ p3 := ne_of_none (s2 _ _ (s1 _ _ f0)) n3
    generalize (upd H2 p3 (.dK (mergeK [] [(Sum.inr "a", .int 1)]))) = H3 at s3 f3 n4 ⊢
    have s4 : Sm H3 (upd H3 p4 (.tup [.int 1])) := Sm.new n4
    have f4 : upd H3 p4 (.tup [.int 1]) p4 = some (.tup [.int 1]) := upd_same
    have d4 : p ≠ p4 := ne_of_none (s3 _ _ (s2 _ _ (s1 _ _ f0))) n4
    generalize (upd H3 p4 (.tup [.int 1])) = H4 at s4 f4 ⊢
    have s04 : Sm H0 H4 := s1.trans (s2.trans (s3.trans s4))
    have g1 := s4 _ _ (s3 _ _ (s2 _ _ f1))
    have g2 := s4 _ _ (s3 _ _ f2)
    have g3 := s4 _ _ f3
    have c4 : Kf H' H4 := c0.trans (Kf.of s04)
    have g0 := s04 _ _ f0
    clear s1 s2 s3 s4 f1 f2 f3 f0 n1 n2 n3 n4 s04 c0
    refine ⟨_, _, rfl, rfl, ?_⟩
    refine ⟨_, rfl, p, own, mix, 60, rfl, g0, by decide, by decide, w0, w1, w2, fun k own' mix' hk w3 w4 w5 => ?_⟩
    have x5 : Sx p H4 (upd H4 p (.lst [.int own', .int mix'])) := Sx.upd
    have c5 : Kf H' (upd H4 p (.lst [.int own', .int mix'])) := c4.trans (Kf.upd g0 fun ob v z => by cases z)
    have f5 : upd H4 p (.lst [.int own', .int mix']) p = some (.lst [.int own', .int mix']) := upd_same
    generalize (upd H4 p (.lst [.int own', .int mix'])) = H5 at x5 c5 f5 ⊢
    have g1 := x5 _ _ (Ne.symm d1) g1
    have g2 := x5 _ _ (Ne.symm d2) g2
    have g3 := x5 _ _ (Ne.symm d3) g3
    have g4 := x5 _ _ (Ne.symm d4) f4
    refine ⟨sz _ (by show (9 : Nat) ≤ 1000; decide), fun pL nL => ?_⟩
    have s6 : Sm H5 (upd H5 pL (.lst [.ref p1, .ref p2, .ref p3, .non, .str "x", .ref p4, .bl true, .int (0 - 3), .int k])) := Sm.new nL
    have f6 : upd H5 pL (.lst [.ref p1, .ref p2, .ref p3, .non, .str "x", .ref p4, .bl true, .int (0 - 3), .int k]) pL = some (.lst [.ref p1, .ref p2, .ref p3, .non, .str "x", .ref p4, .bl true, .int (0 - 3), .int k]) := upd_same
    have dL : p ≠ pL := ne_of_none f5 nL
    refine ⟨_, rfl, _, rfl, _, rfl, _, _, rfl, .inl ⟨_, .inl (.inl f6), rfl⟩, p, own', mix', 9, rfl, s6 _ _ f5, by decide, by decide, w3, w4, w5, fun k2 own2 mix2 hk2 w6 w7 w8 => ?_⟩
    have x7 : Sx p (upd H5 pL (.lst [.ref p1, .ref p2, .ref p3, .non, .str "x", .ref p4, .bl true, .int (0 - 3), .int k])) (upd (upd H5 pL (.lst [.ref p1, .ref p2, .ref p3, .non, .str "x", .ref p4, .bl true, .int (0 - 3), .int k])) p (.lst [.int own2, .int mix2])) := Sx.upd
    have c7 : Kf H' (upd (upd H5 pL (.lst [.ref p1, .ref p2, .ref p3, .non, .str "x", .ref p4, .bl true, .int (0 - 3), .int k])) p (.lst [.int own2, .int mix2])) := c5.trans ((Kf.of s6).trans (Kf.upd (s6 _ _ f5) fun ob v z => by cases z))
    generalize (upd (upd H5 pL (.lst [.ref p1, .ref p2, .ref p3, .non, .str "x", .ref p4, .bl true, .int (0 - 3), .int k])) p (.lst [.int own2, .int mix2])) = H7 at x7 c7 ⊢
    have g1 := x7 _ _ (Ne.symm d1) (s6 _ _ g1)
    have g2 := x7 _ _ (Ne.symm d2) (s6 _ _ g2)
    have g3 := x7 _ _ (Ne.symm d3) (s6 _ _ g3)
    have g4 := x7 _ _ (Ne.symm d4) (s6 _ _ g4)
    have gL := x7 _ _ (Ne.symm dL) f6
    obtain ⟨y, hy, Z⟩ : ∃ y, ([.ref p1, .ref p2, .ref p3, .non, .str "x", .ref p4, .bl true, .int (0 - 3), .int k] : List V)[k2]? = some y ∧ Pre H7 y := by
      match k2, hk2 with
      | 0, _ => exact ⟨_, rfl, .l1 g1⟩
      | 1, _ => exact ⟨_, rfl, .l2 g2⟩
      | 2, _ => exact ⟨_, rfl, .dct g3⟩
      | 3, _ => exact ⟨_, rfl, .flat .non (by decide +kernel)⟩
      | 4, _ => exact ⟨_, rfl, .flat (.str "x") (by decide +kernel)⟩
      | 5, _ => exact ⟨_, rfl, .tup g4⟩
      | 6, _ => exact ⟨_, rfl, .flat (.bl true) (by decide +kernel)⟩
      | 7, _ => exact ⟨_, rfl, .flat (.int (0 - 3) (by decide +kernel)) (by decide +kernel)⟩
      | 8, _ =>
        refine ⟨_, rfl, .flat (.int k ?_) ?_⟩
        · have z : ((k : Nat) : Int).natAbs = k := by simp
          rw [z]
          have z2 := Nat.log2_le_self k
          omega
        · exact Nat.le_trans (PyData.shown_int_le (i := k) (by
            have z : ((k : Nat) : Int).natAbs = k := by simp
            rw [z]
            omega)) (by decide)
    refine ⟨pL, _, _, _, rfl, rfl, .inl (.inl gL), atI_nat hy, ?_⟩
    refine ⟨y, rfl, y, rfl, fun a5 e1 G1 m1 h5 A5 => ⟨y, rfl, y, rfl, fun a6 e2 G2 m2 h6 A6 => ⟨y, rfl, y, rfl, fun a7 b1 b2 b3 o1 o2 G3 m3 h7 hb1 B1 hb2 B2 hb3 => ⟨_, _, _, rfl, ?_⟩⟩⟩⟩
    have h5 := m3 _ _ (m2 _ _ h5)
    have h6 := m3 _ _ h6
    have A5 := A5.mono (m2.trans m3)
    have A6 := A6.mono m3
    have AA : AllE K G3 y (e1 ++ e2) (ks36 ++ ks36) := AllE.append A5 A6
    have c9 : Kf H' G3 := c7.trans (Kf.of (m1.trans (m2.trans m3)))
    have Z3 : Pre G3 y := Z.mono (m1.trans (m2.trans m3))
    refine ⟨_, rfl, _, rfl, a5, a6, e1, e2, rfl, rfl, h5, h6, sz _ (by rw [A5.len, A6.len, l36]; decide), fun pc npc => ⟨pc, rfl, ⟨_, .inl (.inl upd_same)⟩, lc_get (K := K) (a := pc) (f := "value") (y := y) (xs := e1 ++ e2)
      (σ := [some (.ref a), some (.int (0 + (i : Int))), some (.ref p), some (.ref pL), some y, some (.ref a5), some (.ref a6), some (.ref a7), v8, none]) (i := 9) upd_same ?_ (by rw [List.length_append, A5.len, A6.len, l36]; decide) (fun _ => rfl) (fun _ => rfl) fun D G5 mD hD => ?_⟩⟩
    · intro j v hj
      obtain ⟨k, e3, e4⟩ := AA.at hj
      obtain ⟨k1, k2⟩ := k
      obtain ⟨mem, rfl⟩ := val36 (List.mem_of_getElem? e3)
      exact ⟨_, _, _, (T.kn.kn _ mem).1, e4.mono (Sm.new npc)⟩
    · have m8 : Sm G3 G5 := (Sm.new npc).trans mD
      refine ⟨_, rfl, _, _, _, _, rfl, rfl, .inl (.inl (m8 _ _ h7)), atI_nat (j := 2) rfl, D, b3, _, _, rfl, rfl, hD, m8 _ _ hb3, sz _ (by rw [List.length_replicate, List.length_replicate, List.length_append, A5.len, A6.len, l36]; decide), fun p8 np8 => ?_⟩
      have m9 : Sm G3 (upd G5 p8 (.lst (List.replicate (e1 ++ e2).length y ++ List.replicate 20 y))) := m8.trans (Sm.new np8)
      have h8 : upd G5 p8 (.lst (List.replicate (e1 ++ e2).length y ++ List.replicate 20 y)) p8 = some (.lst (List.replicate 92 y)) := by
        rw [upd_same, List.replicate_append_replicate, List.length_append, A5.len, A6.len, l36]
      exact mid_ok (Z3.mono m9) h8 (m9 _ _ h5) (A5.mono m9) (m9 _ _ h6) (A6.mono m9) (m9 _ _ h7) (m9 _ _ hb1) (B1.mono m9) (m9 _ _ hb2) (B2.mono m9) fun G' kf => ⟨_, _, _, _, _, _, _, _, rfl, sc.kf (c9.trans ((Kf.of m9).trans kf))⟩
  · rintro σ H' ⟨v1, v2, v3, v4, v5, v6, v7, v8, rfl, sc⟩
    exact q H'
end
end Lw

namespace Lw
open PySem PySem.Spec PyProof.Rows L2 Er Hd
open PySem.ErK (EC)
section
variable {P : Program} {w : World} {K : PySem.W.Frag} {mg : Str → Option Value} {base : Heap} {f fS fD fP fN fO fK fA : Addr} {fd dS dD dP dN dO dK dA : FuncData}
abbrev pW : List Str := ["_law_script"]
/-- the law's def is called where no repr runs -/
theorem run_at (T : Fns K mg fS fD fP fN fO fK fA dS dD dP dN dO dK dA) (FW : FnP K "law" (top 56) f fd) {A : Around} {outer : List Env} {s : Shared} {H : Hp} {args : Args} {us : List Value} {vs : List V} {Q : VK} {E : XK} (hg : A.guards = some []) (hr : Room 3 A)
    (e0 : Env0 P w K mg base A outer s H) (hb : BindsTo s fd args (pW.zip us)) (r : Vals vs us) (hsp : spLaw K vs H Q E) : codeAny (model P w) A (.call (.ref f) args) (CR CX0 outer P w H s Q E) s := by
  obtain ⟨oc, od, dV, kV, doc, pm, an, cdv, ct, osl, rfl, lk, hcd, _, _⟩ := FW.ex
  have len1 : vs.length = pW.length := by
    obtain ⟨a, ns, rfl, _⟩ := hsp
    rfl
  have inK : K.In s.heap := PySem.W.Frag.In.keeps e0.mod.kin fun b o e => (e0.bs b o e).1
  have free : s.heap.NoLimit := e0.mod.nolimit.keeps fun b o e => (e0.bs b o e).1
  have kinds : ∀ y ∈ pW.zip us, (defScope (top 56)).names.lookup y.1 = some .local ∨ ((defScope (top 56)).names.lookup y.1 = some .cell ∧ ((cellsFrom (s.heap.objs.size + 1) (defScope (top 56)).names []).lookup y.1).isSome = true) := fun y hy => by
    obtain ⟨n, v⟩ := y
    have z := (List.of_mem_zip hy).1
    rcases scW.par n z with e | e
    · exact .inl e
    · exact .inr ⟨e, PySem.W.cellsFrom_some _ _ _ (.inl e)⟩
  refine codeAny_call_function hr.depth (inK _ _ lk) rfl scW.co scW.gen rfl (PySem.W.codeRec_of inK hcd) (hb _ _ _ _ ?_)
  refine wpAny_newFunctionEnv_cells scW.kind kinds fun env he s1 x => ?_
  subst he
  refine ⟨free.keeps x.toInCall.keep, codeAny_func ?_⟩
  obtain ⟨t, ht, hq⟩ := law_body (P := P) (w := w) (base := base) (f := f) (cdv := cdv) (outer := outer) (s := s) (E := E) T hg (hr.deeper _) hsp
  have I := inv_start (CX := CX0) (P := P) (w := w) (K := K) (mg := mg) (base := base) (E := E) scW hr.hd e0 len1 r x
  refine wpAny_mono (ht.run [] s1 (start nW vs) H _ I hq) (fun fl s' hs => ?_) fun e s' z => z
  cases fl with
  | ret u =>
    obtain ⟨v, σ', H', J, rv, q⟩ := hs
    exact ⟨v, H', J.os, J.bare, J.base, J.hok, rv, q⟩
  | next =>
    obtain ⟨σ', H', J, q⟩ := hs
    exact ⟨V.non, H', J.os, J.bare, J.base, J.hok, rfl, q⟩
  | brk =>
    obtain ⟨_, _, _, q⟩ := hs
    exact q.elim
  | cont =>
    obtain ⟨_, _, _, q⟩ := hs
    exact q.elim
/-- the law, called by the claim -/
theorem top_call {mb : Str → Option Value} {a : Addr} {s₁ : Shared} {vs : List Value} {ns : List Int} (T : Fns K mg fS fD fP fN fO fK fA dS dD dP dN dO dK dA) (FW : FnP K "law" (top 56) f fd) (bind : ∀ (s : Shared) (u : Value), BindsTo s fd ⟨[u], []⟩ [("_law_script", u)])
    (inK : K.In s₁.heap) (glob : s₁.heap.Ns mainGlobals mg) (blt : s₁.heap.Ns builtinsNs mb) (blt2 : ∀ x : Str, x ≠ "__name__" → mb x = bootBuiltins x) (lim : s₁.heap.NoLimit) (gens : s₁.gens = #[])
    (at_ : s₁.heap.get? a = some { cls := .type "list", data := .seq vs.toArray }) (ar : IntsAre vs ns) (few : ns.length ≤ 63) (bits : ∀ z ∈ ns, Builtin.Int.intBits z ≤ 1048576) :
    codeAny (model P w) callerA (.call (.ref f) ⟨[.ref a], []⟩) (fun r s' => r = .ok (.ret (.bool true)) ∧ OldK s₁.heap s'.heap ∧ s'.os = s₁.os ∧ AllBare s'.gens) s₁ := by
  have rel := vals_ints ar
  have lenV := ar.length
  have small : ns.length ≤ sizeLine := by
    rw [sizeLine_eq]
    omega
  have main : ∀ H : Hp, Only H → SqL K H a (ns.map V.int) → HOk P w H s₁.heap → (∀ b, H b ≠ none → b = a) → (H a ≠ none → K.lookup a = none) →
      codeAny (model P w) callerA (.call (.ref f) ⟨[.ref a], []⟩) (fun r s' => r = .ok (.ret (.bool true)) ∧ OldK s₁.heap s'.heap ∧ s'.os = s₁.os ∧ AllBare s'.gens) s₁ := by
    intro H only sq hok alone notK
    have there : ∀ {b : Addr}, H b ≠ none → b = a := fun {b} z => alone b z
    have nsOf : ∀ {b : Addr} {m : Str → Option Value}, s₁.heap.Ns b m → (hidT s₁.heap H).Ns b m := fun {b m} ⟨o, es, ep, e, d, z⟩ => by
      have free : H b = none := by
        cases c : H b with
        | none => rfl
        | some u =>
          have e2 := there (b := b) (by rw [c]; simp)
          subst e2
          rw [at_] at e
          cases e
          have d2 : Data.seq vs.toArray _ = Data.dict es ep := d
          cases d2
      exact ⟨o, es, ep, hidT_get e free, d, z⟩
    have inB : K.In (hidT s₁.heap H) := fun b o e => hidT_get (inK b o e) (by
      cases c : H b with
      | none => rfl
      | some u =>
        have e2 := there (b := b) (by rw [c]; simp)
        subst e2
        have z := notK (by rw [c]; simp)
        rw [z] at e
        cases e)
    have modOk : Mod K mg (hidT s₁.heap H) := ⟨inB, nsOf glob, ⟨mb, nsOf blt, blt2⟩, by
      obtain ⟨mc, z1, z2⟩ := lim
      exact ⟨mc, nsOf z1, z2⟩⟩
    have e0 : Env0 P w K mg (hidT s₁.heap H) callerA [] s₁ H :=
      ⟨rfl, modOk, fun b o e => of_hidT e, Nat.le_of_eq (hidT_size _ _), trivial, fun b z => absurd (show b ∈ ([] : List Addr) from z) (by simp), hok, .of_eq gens⟩
    have room : Room 3 callerA := ⟨rfl, by decide, by decide⟩
    refine codeAny_mono (run_at (us := [.ref a]) (vs := [.ref a]) (Q := fun v _ => v = .bl true) (E := fun _ _ _ => False) T FW rfl room e0 (bind s₁ (.ref a)) (.cons rfl .nil) ⟨a, ns, rfl, only, sq, few, bits, fun _ => rfl⟩) fun r s' z => ?_
    cases r with
    | error e => exact z.elim
    | ok fl =>
      cases fl with
      | next => exact z.elim
      | brk => exact z.elim
      | cont => exact z.elim
      | ret u =>
        obtain ⟨v, H', eos, bare, un, hok', rv, ev⟩ := z
        have ev2 : v = .bl true := ev
        subst ev2
        obtain rfl : u = Value.bool true := rv
        refine ⟨rfl, OldK.of_keep fun b o e => ?_, eos, bare⟩
        cases c : H b with
        | none => exact un.keep b o e c (fun z2 => absurd (show b ∈ ([] : List Addr) from z2) (by simp)) (by simp)
        | some u =>
          rcases only b with z2 | ⟨ob, xs, z2⟩
          · rw [c] at z2
            cases z2
          · obtain ⟨x1, _⟩ := hok b _ z2
            obtain ⟨x2, _⟩ := hok' b _ (un.frzs b ob _ z2)
            rw [e] at x1
            cases x1
            exact x2
  cases known : K.lookup a with
  | some o =>
    have e := inK a o known
    rw [at_] at e
    cases e
    refine main (fun _ => none) (fun _ => .inl rfl) (.inr ⟨_, vs.toArray, _, known, rfl, rfl, rfl, ?_, by simpa using rel⟩) (fun b u z => by cases z) (fun b z => absurd rfl z) fun z => absurd rfl z
    rw [List.size_toArray, lenV]
    exact small
  | none =>
    refine main (fun b => if b = a then some (.frz { cls := .type "list", data := .seq vs.toArray } (.lst (ns.map V.int))) else none) (fun b => ?_) (.inl (.inr ⟨{ cls := .type "list", data := .seq vs.toArray }, if_pos rfl⟩)) (fun b u z => ?_) (fun b z => ?_) fun _ => known
    · by_cases c : b = a
      · exact .inr ⟨_, _, if_pos c⟩
      · exact .inl (if_neg c)
    · by_cases c : b = a
      · have z2 := (if_pos c).symm.trans z
        cases z2
        subst c
        exact ⟨at_, by rw [List.length_map]; exact small, vs, _, rel, at_⟩
      · have z2 := (if_neg c).symm.trans z
        cases z2
    · by_cases c : b = a
      · exact c
      · exact absurd (if_neg c) z
end
end Lw

namespace Lw
open PySem PySem.Spec PyProof.Rows L2 Er Hd
open PySem.ErK (EC tA tB tS)
/-! ### from what was looked at to what is asked -/
theorem cls_hn (K : PySem.W.Frag) : PySem.W.specialIn K (.builtin "object.__class__") "__get__" = some (some (.builtin "getset_descriptor.__get__")) := by
  kernel_rfl
theorem cls_ht (K : PySem.W.Frag) : PySem.W.takesIn K (.builtin "object.__class__") = some true := by
  kernel_rfl
def FnAt (K : PySem.W.Frag) (x f : Str) : Prop := ∃ (oc : Value) (od : Option Addr) (kV doc pm : Value) (an : Option Addr) (cdv ct : Value) (osl : Array (Option Value)) (ql : Str) (p1 p2 q1 q2 q3 q4 : Pos),
  K.lookup (He.ma K (He.ga K x) "__init__") = some ⟨oc, od, .func (PySem.W.fnOf "__init__" ql (tA f p1 p2) (tB f q1 q2 q3 q4) (tS f) .none kV doc pm an cdv ct), osl⟩ ∧ PySem.W.codeIn K cdv ql = true
theorem fnAt_of {K : PySem.W.Frag} {st : Stmt} {x f ql : Str} (F : ∃ fd, FunD K "__init__" ql (defArgs st) (defBody st) (defScope st) [] [] (He.ma K (He.ga K x) "__init__") fd)
    (ha : ∃ p1 p2, defArgs st = tA f p1 p2) (hb : ∃ q1 q2 q3 q4, defBody st = tB f q1 q2 q3 q4) (hs : defScope st = tS f) : FnAt K x f := by
  obtain ⟨fd, F⟩ := F
  obtain ⟨oc, od, dV, kV, doc, pm, an, cdv, ct, osl, rfl, lk, hcd, hD, _⟩ := F.ex
  obtain ⟨p1, p2, ea⟩ := ha
  obtain ⟨q1, q2, q3, q4, eb⟩ := hb
  rcases hD with ⟨_, rfl⟩ | ⟨e, _⟩
  · rw [ea, eb, hs] at lk
    exact ⟨oc, od, kV, doc, pm, an, cdv, ct, osl, ql, p1, p2, q1, q2, q3, q4, lk, hcd⟩
  · exact absurd rfl e
theorem all_cons {p : Str × Str → Prop} {a : Str × Str} {l : List (Str × Str)} (h : p a) (t : ∀ q ∈ l, p q) : ∀ q ∈ a :: l, p q := fun q hq => by
  rcases List.mem_cons.mp hq with e | e
  · rw [e]
    exact h
  · exact t q e
theorem all_nil {p : Str × Str → Prop} : ∀ q ∈ ([] : List (Str × Str)), p q := fun q hq => nomatch hq
section
variable {K : PySem.W.Frag} (c : He.SaysD fa fn K)
include c
theorem inits_A : ∀ q ∈ csA, FnAt K q.1 q.2 :=
  all_cons (fnAt_of (st := inner (top 2)) (c.def_ 8 (d := din "BadStandings" (inner (top 2))) rfl) ⟨_, _, rfl⟩ ⟨_, _, _, _, rfl⟩ rfl) <|
  all_cons (fnAt_of (st := inner (top 3)) (c.def_ 9 (d := din "BadDeeds" (inner (top 3))) rfl) ⟨_, _, rfl⟩ ⟨_, _, _, _, rfl⟩ rfl) <|
  all_cons (fnAt_of (st := inner (top 4)) (c.def_ 10 (d := din "BadSights" (inner (top 4))) rfl) ⟨_, _, rfl⟩ ⟨_, _, _, _, rfl⟩ rfl) <|
  all_cons (fnAt_of (st := inner (top 5)) (c.def_ 11 (d := din "BadStanding" (inner (top 5))) rfl) ⟨_, _, rfl⟩ ⟨_, _, _, _, rfl⟩ rfl) <|
  all_cons (fnAt_of (st := inner (top 6)) (c.def_ 12 (d := din "BadRow" (inner (top 6))) rfl) ⟨_, _, rfl⟩ ⟨_, _, _, _, rfl⟩ rfl) <|
  all_cons (fnAt_of (st := inner (top 7)) (c.def_ 13 (d := din "BadProgram" (inner (top 7))) rfl) ⟨_, _, rfl⟩ ⟨_, _, _, _, rfl⟩ rfl) <|
  all_cons (fnAt_of (st := inner (top 8)) (c.def_ 14 (d := din "BadValues" (inner (top 8))) rfl) ⟨_, _, rfl⟩ ⟨_, _, _, _, rfl⟩ rfl) <|
  all_cons (fnAt_of (st := inner (top 9)) (c.def_ 15 (d := din "NoDeed" (inner (top 9))) rfl) ⟨_, _, rfl⟩ ⟨_, _, _, _, rfl⟩ rfl) <|
  all_cons (fnAt_of (st := inner (top 10)) (c.def_ 16 (d := din "BadText" (inner (top 10))) rfl) ⟨_, _, rfl⟩ ⟨_, _, _, _, rfl⟩ rfl) <|
  all_cons (fnAt_of (st := inner (top 11)) (c.def_ 17 (d := din "BadEye" (inner (top 11))) rfl) ⟨_, _, rfl⟩ ⟨_, _, _, _, rfl⟩ rfl) <|
  all_cons (fnAt_of (st := inner (top 12)) (c.def_ 18 (d := din "TooMany" (inner (top 12))) rfl) ⟨_, _, rfl⟩ ⟨_, _, _, _, rfl⟩ rfl) <|
  all_cons (fnAt_of (st := inner (top 13)) (c.def_ 19 (d := din "BadPlaces" (inner (top 13))) rfl) ⟨_, _, rfl⟩ ⟨_, _, _, _, rfl⟩ rfl) <|
  all_cons (fnAt_of (st := inner (top 14)) (c.def_ 20 (d := din "BadRows" (inner (top 14))) rfl) ⟨_, _, rfl⟩ ⟨_, _, _, _, rfl⟩ rfl) <|
  all_cons (fnAt_of (st := inner (top 15)) (c.def_ 21 (d := din "BadEyes" (inner (top 15))) rfl) ⟨_, _, rfl⟩ ⟨_, _, _, _, rfl⟩ rfl) <|
  all_cons (fnAt_of (st := inner (top 16)) (c.def_ 22 (d := din "BadDeed" (inner (top 16))) rfl) ⟨_, _, rfl⟩ ⟨_, _, _, _, rfl⟩ rfl) <|
  all_cons (fnAt_of (st := inner (top 17)) (c.def_ 23 (d := din "BadSight" (inner (top 17))) rfl) ⟨_, _, rfl⟩ ⟨_, _, _, _, rfl⟩ rfl) <|
  all_cons (fnAt_of (st := inner (top 18)) (c.def_ 24 (d := din "BadDesks" (inner (top 18))) rfl) ⟨_, _, rfl⟩ ⟨_, _, _, _, rfl⟩ rfl) <|
  all_cons (fnAt_of (st := inner (top 19)) (c.def_ 25 (d := din "BadChanges" (inner (top 19))) rfl) ⟨_, _, rfl⟩ ⟨_, _, _, _, rfl⟩ rfl) <|
  all_cons (fnAt_of (st := inner (top 20)) (c.def_ 26 (d := din "BadEdition" (inner (top 20))) rfl) ⟨_, _, rfl⟩ ⟨_, _, _, _, rfl⟩ rfl) <|
  all_cons (fnAt_of (st := inner (top 21)) (c.def_ 27 (d := din "BadPlace" (inner (top 21))) rfl) ⟨_, _, rfl⟩ ⟨_, _, _, _, rfl⟩ rfl) <|
  all_cons (fnAt_of (st := inner (top 22)) (c.def_ 28 (d := din "BadInput" (inner (top 22))) rfl) ⟨_, _, rfl⟩ ⟨_, _, _, _, rfl⟩ rfl) <|
  all_cons (fnAt_of (st := inner (top 23)) (c.def_ 29 (d := din "BadChange" (inner (top 23))) rfl) ⟨_, _, rfl⟩ ⟨_, _, _, _, rfl⟩ rfl) <|
  all_cons (fnAt_of (st := inner (top 24)) (c.def_ 30 (d := din "BadBook" (inner (top 24))) rfl) ⟨_, _, rfl⟩ ⟨_, _, _, _, rfl⟩ rfl) <|
  all_nil
theorem inits_B : ∀ q ∈ csB, FnAt K q.1 q.2 :=
  all_cons (fnAt_of (st := inner (top 25)) (c.def_ 31 (d := din "BadNumber" (inner (top 25))) rfl) ⟨_, _, rfl⟩ ⟨_, _, _, _, rfl⟩ rfl) <|
  all_cons (fnAt_of (st := inner (top 26)) (c.def_ 32 (d := din "BadLink" (inner (top 26))) rfl) ⟨_, _, rfl⟩ ⟨_, _, _, _, rfl⟩ rfl) <|
  all_cons (fnAt_of (st := inner (top 27)) (c.def_ 33 (d := din "TooLong" (inner (top 27))) rfl) ⟨_, _, rfl⟩ ⟨_, _, _, _, rfl⟩ rfl) <|
  all_cons (fnAt_of (st := inner (top 28)) (c.def_ 34 (d := din "BadMap" (inner (top 28))) rfl) ⟨_, _, rfl⟩ ⟨_, _, _, _, rfl⟩ rfl) <|
  all_cons (fnAt_of (st := inner (top 29)) (c.def_ 35 (d := din "BadVector" (inner (top 29))) rfl) ⟨_, _, rfl⟩ ⟨_, _, _, _, rfl⟩ rfl) <|
  all_cons (fnAt_of (st := inner (top 30)) (c.def_ 36 (d := din "BadNotes" (inner (top 30))) rfl) ⟨_, _, rfl⟩ ⟨_, _, _, _, rfl⟩ rfl) <|
  all_cons (fnAt_of (st := inner (top 31)) (c.def_ 37 (d := din "BadKeys" (inner (top 31))) rfl) ⟨_, _, rfl⟩ ⟨_, _, _, _, rfl⟩ rfl) <|
  all_cons (fnAt_of (st := inner (top 32)) (c.def_ 38 (d := din "BadKey" (inner (top 32))) rfl) ⟨_, _, rfl⟩ ⟨_, _, _, _, rfl⟩ rfl) <|
  all_cons (fnAt_of (st := inner (top 33)) (c.def_ 39 (d := din "BadPlan" (inner (top 33))) rfl) ⟨_, _, rfl⟩ ⟨_, _, _, _, rfl⟩ rfl) <|
  all_cons (fnAt_of (st := inner (top 34)) (c.def_ 40 (d := din "BadFence" (inner (top 34))) rfl) ⟨_, _, rfl⟩ ⟨_, _, _, _, rfl⟩ rfl) <|
  all_cons (fnAt_of (st := inner (top 35)) (c.def_ 41 (d := din "NotNow" (inner (top 35))) rfl) ⟨_, _, rfl⟩ ⟨_, _, _, _, rfl⟩ rfl) <|
  all_cons (fnAt_of (st := inner (top 36)) (c.def_ 42 (d := din "BadName" (inner (top 36))) rfl) ⟨_, _, rfl⟩ ⟨_, _, _, _, rfl⟩ rfl) <|
  all_cons (fnAt_of (st := inner (top 37)) (c.def_ 43 (d := din "BadLetter" (inner (top 37))) rfl) ⟨_, _, rfl⟩ ⟨_, _, _, _, rfl⟩ rfl) <|
  all_cons (fnAt_of (st := inner (top 38)) (c.def_ 44 (d := din "BadMark" (inner (top 38))) rfl) ⟨_, _, rfl⟩ ⟨_, _, _, _, rfl⟩ rfl) <|
  all_cons (fnAt_of (st := inner (top 39)) (c.def_ 45 (d := din "TooFar" (inner (top 39))) rfl) ⟨_, _, rfl⟩ ⟨_, _, _, _, rfl⟩ rfl) <|
  all_cons (fnAt_of (st := inner (top 40)) (c.def_ 46 (d := din "BadLog" (inner (top 40))) rfl) ⟨_, _, rfl⟩ ⟨_, _, _, _, rfl⟩ rfl) <|
  all_cons (fnAt_of (st := inner (top 41)) (c.def_ 47 (d := din "BadChain" (inner (top 41))) rfl) ⟨_, _, rfl⟩ ⟨_, _, _, _, rfl⟩ rfl) <|
  all_cons (fnAt_of (st := inner (top 42)) (c.def_ 48 (d := din "BadPlans" (inner (top 42))) rfl) ⟨_, _, rfl⟩ ⟨_, _, _, _, rfl⟩ rfl) <|
  all_cons (fnAt_of (st := inner (top 43)) (c.def_ 49 (d := din "BadSeat" (inner (top 43))) rfl) ⟨_, _, rfl⟩ ⟨_, _, _, _, rfl⟩ rfl) <|
  all_cons (fnAt_of (st := inner (top 44)) (c.def_ 50 (d := din "BadEvent" (inner (top 44))) rfl) ⟨_, _, rfl⟩ ⟨_, _, _, _, rfl⟩ rfl) <|
  all_cons (fnAt_of (st := inner (top 45)) (c.def_ 51 (d := din "InvalidCommand" (inner (top 45))) rfl) ⟨_, _, rfl⟩ ⟨_, _, _, _, rfl⟩ rfl) <|
  all_cons (fnAt_of (st := inner (top 46)) (c.def_ 52 (d := din "NoHouse" (inner (top 46))) rfl) ⟨_, _, rfl⟩ ⟨_, _, _, _, rfl⟩ rfl) <|
  all_cons (fnAt_of (st := inner (top 47)) (c.def_ 53 (d := din "NotFailing" (inner (top 47))) rfl) ⟨_, _, rfl⟩ ⟨_, _, _, _, rfl⟩ rfl) <|
  all_nil
theorem inits : ∀ q ∈ cs, FnAt K q.1 q.2 := fun q hq => by
  rcases List.mem_append.mp hq with e | e
  · exact inits_A c q e
  · exact inits_B c q e
end
theorem ox_of {K : PySem.W.Frag} {C : Addr} (h : oxB K C = true) : ∃ nm q N bs bm sn sub ab col dd k0 k1 k2 k3 k5, K.lookup C = some (excClassObj nm q C N bs bm true sn sub ab col dd k0 k1 k2 k3 k5 "ValueError.__new__") ∧ PySem.HandSPX.refsVE bm = true := by
  unfold oxB at h
  split at h
  · rename_i dd cd sl ho
    split at h
    · rename_i C' bm k0 k1 k2 k3 n k5 hm hs
      simp only [Bool.and_eq_true, beq_iff_eq, Bool.not_eq_true'] at h
      obtain ⟨⟨⟨⟨rfl, rfl⟩, hdel⟩, hdct⟩, hr⟩ := h
      obtain ⟨nm, bs, mro, ns, qn, hd, sn, sub, ab, col, del⟩ := cd
      dsimp only at hm hdel hdct
      subst hm hdel hdct
      have esl : sl = #[k0, k1, k2, k3, some (.builtin "ValueError.__new__"), k5] := by
        obtain ⟨l⟩ := sl
        simp only at hs
        rw [hs]
      subst esl
      exact ⟨nm, qn, ns, bs, bm, sn, sub, ab, col, dd, k0, k1, k2, k3, k5, ho, hr⟩
    · cases h
  · cases h
theorem ec_of {K : PySem.W.Frag} {x f : Str} (b : ecB K x f = true) (fa : FnAt K x f) (fl : f ∈ PySem.ErK.fields) : EC K x f (He.ga K x) (He.ma K (He.ga K x) "__init__") := by
  unfold ecB eqB at b
  simp only [Bool.and_eq_true, decide_eq_true_eq] at b
  obtain ⟨b1, b2, b3, b4, b5, b6, b7, b8, b9⟩ := b
  have xf := xfB_ok b8
  unfold xcB eqB at b9
  simp only [Bool.and_eq_true, decide_eq_true_eq] at b9
  exact ⟨⟨ox_of b1, b2, xf.exC, b3, b4⟩, b5, b6, b7, xf, ⟨xf.ga, xf.gg, xf.exC, xf.hdC, b9.1, cls_hn K, cls_ht K, b9.2⟩, fl, fa⟩
theorem flds : (cs.all fun q => PySem.ErK.fields.contains q.2) = true := by decide +kernel
theorem gloB : (cs.all fun q => fa.any fun g => match g with
  | .glo x => decide (x = q.1)
  | _ => false) = true := by decide +kernel
theorem isSys_of {K : PySem.W.Frag} (h : isD (K.lookup sysModules) = true) : IsSys K := by
  cases e : K.lookup sysModules with
  | none =>
    rw [e] at h
    cases h
  | some o =>
    rw [e] at h
    obtain ⟨oc, od, dt, sl⟩ := o
    unfold isD at h
    split at h
    · rename_i heq
      cases heq
      exact ⟨_, _, _, e, rfl⟩
    · cases h
theorem fns {K : PySem.W.Frag} {h : Heap} {mg : Str → Option Value} (inK : K.In h) (G : h.Ns mainGlobals mg) (c : He.SaysD fa fn K) (b : myB K = true) :
    ∃ fS fD fP fN fO fK fA dS dD dP dN dO dK dA, Fns K mg fS fD fP fN fO fK fA dS dD dP dN dO dK dA := by
  obtain ⟨dS, FS⟩ := c.def_ 0 (d := dfn "_law_source" (top 49)) rfl
  obtain ⟨dD, FD⟩ := c.def_ 1 (d := dfn "_law_draw" (top 50)) rfl
  obtain ⟨dP, FP⟩ := c.def_ 2 (d := dfn "_law_by_place" (top 51)) rfl
  obtain ⟨dN, FN⟩ := c.def_ 3 (d := dfn "_law_by_name" (top 52)) rfl
  obtain ⟨dO, FO⟩ := c.def_ 4 (d := dfn "_law_others" (top 53)) rfl
  obtain ⟨dK, FK⟩ := c.def_ 5 (d := dfn "_law_kinds" (top 54)) rfl
  obtain ⟨dA, FA⟩ := c.def_ 6 (d := dfn "_law_alone" (top 55)) rfl
  have g : ∀ (i : Nat) (x : Str), fa[i]? = some (.glo x) → mg x = some (.ref (He.ga K x)) := fun i x e => He.glo_ok inK G (c.fact i e)
  have n : ∀ (i : Nat) (x : Str), fa[i]? = some (.free x) → mg x = none := fun i x e => He.free_ok inK G (c.fact i e)
  unfold myB at b
  obtain ⟨b1, b2⟩ := Bool.and_eq_true_iff.mp b
  have each : ∀ q ∈ cs, ecB K q.1 q.2 = true ∧ kitB K q.1 = true := fun q hq => Bool.and_eq_true_iff.mp (List.all_eq_true.mp b1 q hq)
  have kit : ∀ q ∈ cs, (∀ r ∈ cs, PySem.W.kitOne K (.ref (He.ga K q.1)) (.ref (He.ga K r.1)) = some (decide (q.1 = r.1))) ∧ PySem.W.kitOne K (.ref (He.ga K q.1)) (.ref (He.ga K "DeskError")) = some true ∧ PySem.W.kitOne K (.ref (He.ga K q.1)) (.type "ValueError") = some true := fun q hq => by
    have z := (each q hq).2
    unfold Hd.kitB at z
    simp only [Bool.and_eq_true, decide_eq_true_eq] at z
    exact ⟨fun r hr => of_decide_eq_true (List.all_eq_true.mp z.1 r hr), z.2.1, z.2.2⟩
  have known : Knows K mg := fun q hq => by
    refine ⟨ec_of (each q hq).1 (inits c q hq) (List.contains_iff_mem.mp (List.all_eq_true.mp flds q hq)), ?_⟩
    obtain ⟨y, hy, e⟩ := List.any_eq_true.mp (List.all_eq_true.mp gloB q hq)
    obtain ⟨i, hi, ei⟩ := List.getElem_of_mem hy
    cases y with
    | glo x =>
      have ex : x = q.1 := of_decide_eq_true e
      subst ex
      exact g i _ (by rw [List.getElem?_eq_getElem hi, ei])
    | _ => cases e
  exact ⟨_, _, _, _, _, _, _, dS, dD, dP, dN, dO, dK, dA, ⟨⟨known, fun k hk r hr => (kit k hk).1 r hr, fun k hk => (kit k hk).2.1, fun k hk => (kit k hk).2.2, g 19 "DeskError" rfl, n 13 "isinstance" rfl, n 15 "enumerate" rfl, n 10 "range" rfl, n 9 "len" rfl, n 16 "ValueError" rfl⟩,
    isSys_of b2, FS, FD, FP, FN, FO, FK, FA, g 0 _ rfl, g 1 _ rfl, g 2 _ rfl, g 3 _ rfl, g 4 _ rfl, g 5 _ rfl, g 6 _ rfl, n 8 _ rfl, n 11 _ rfl, n 12 _ rfl, n 17 _ rfl, n 18 _ rfl, n 14 _ rfl⟩⟩
end Lw

namespace Hd
open PySem PySem.W PySem.Calls PyProof.Rows HandSHeadRun
noncomputable section
abbrev KK (s : SharedT) : Frag := frM 5 (HandSHeadRun.getT s)
set_option maxHeartbeats 0 in
theorem tH1 (w : World) (os : OsState) : (endF (stepQ (denQ tabQ) R.prog w) 60000 R.prog w os).map (fun s => (looksF R.prog (boot_heap w.params) s.abs, seenQ (PySem.W.view R.prog [56]) names (importedModules R.prog.main.body) (fun s => xlAt (PySem.W.view R.prog [56]) [] s && recOk R.toRowW.records s) s.abs)) = some (true, PySem.W.openGood (PySem.W.view R.prog [56]) names) := by
  kernel_rfl
set_option maxHeartbeats 0 in
theorem tH2 (w : World) (os : OsState) : (endF (stepQ (denQ tabQ) R.prog w) 60000 R.prog w os).map (fun s => ((fa.all fun f => f.ok (KK s)) && fn.all fun d => d.ok (KK s))) = some true := by
  kernel_rfl
set_option maxHeartbeats 0 in
theorem tH3 (w : World) (os : OsState) : (endF (stepQ (denQ tabQ) R.prog w) 60000 R.prog w os).map (fun s => (fn.map fun d => He.fnW (KK s) d.at_)) = some (fn.map He.DefD.val) := by
  kernel_rfl
set_option maxHeartbeats 0 in
theorem tH4 (w : World) (os : OsState) : (endF (stepQ (denQ tabQ) R.prog w) 60000 R.prog w os).map (fun s => (cs.all fun q => ecB (KK s) q.1 q.2)) = some true := by
  kernel_rfl
set_option maxHeartbeats 0 in
theorem tH5 (w : World) (os : OsState) : (endF (stepQ (denQ tabQ) R.prog w) 60000 R.prog w os).map (fun s => ((cs.all fun q => kitB (KK s) q.1) && isD ((KK s).lookup sysModules))) = some true := by
  kernel_rfl
end
end Hd

namespace Hd
open PySem PySem.W PySem.Calls PyProof.Rows HandSHeadRun
theorem run (w : World) : RunEq R (PySem.W.view R.prog [56]) hk ob 60000 names w := by
  intro os
  have t1 := tH1 w os
  have t2 := tH2 w os
  have t3 := tH3 w os
  have t4 := tH4 w os
  have t5 := tH5 w os
  cases e : endF (stepQ (denQ tabQ) R.prog w) 60000 R.prog w os with
  | none =>
    rw [e] at t1
    cases t1
  | some s =>
    rw [e] at t1 t2 t3 t4 t5
    have u1 := Option.some.inj t1
    have u2 := Option.some.inj t2
    have u3 := Option.some.inj t3
    have u4 := Option.some.inj t4
    have u5 := Option.some.inj t5
    have v1 := congrArg (fun z => z.1) u1
    have v2 := congrArg (fun z => z.2) u1
    have m : myB (KK s) = true := by
      obtain ⟨x1, x2⟩ := Bool.and_eq_true_iff.mp u5
      unfold myB
      refine Bool.and_eq_true_iff.mpr ⟨List.all_eq_true.mpr fun q hq => Bool.and_eq_true_iff.mpr ⟨List.all_eq_true.mp u4 q hq, List.all_eq_true.mp x1 q hq⟩, x2⟩
    have o : ob s = ((true, fn.map He.DefD.val), true) := by
      exact Prod.ext (Prod.ext u2 u3) m
    exact congrArg some (Prod.ext v1 (Prod.ext v2 o))
end Hd
open PySem PySem.W PySem.Calls PyProof.Rows
set_option maxHeartbeats 0 in
theorem PySem.Challenge.cw_lateeditions_k00_errors_by_hand_holds : PySem.Challenge.rw_lateeditions_k00_errors_by_hand.Holds := by
  w_on; o_law
  refine HandSHeadRun.head_any (r := OpenLaw.row PySem.Challenge.rw_lateeditions_k00_errors_by_hand) (q := view (OpenLaw.row PySem.Challenge.rw_lateeditions_k00_errors_by_hand).prog [56]) (H := Hd.hk) (ob := Hd.ob) (M := 60000) (loose := Hd.names) (d := HandSHeadRun.topDef (OpenLaw.row PySem.Challenge.rw_lateeditions_k00_errors_by_hand).prog 56) (kwd := []) Hd.ob_eq
    (by kernel_rfl) (fun s => by kernel_rfl) Hd.run (by kernel_rfl) (by kernel_rfl) (by kernel_rfl) (by rfl) (by first | assumption | decide +kernel) (by decide +kernel) ⟨rfl, rfl, rfl, rfl, rfl, by decide +kernel⟩ ?hw ?hc
  case hw => w_witness2
  case hc =>
    refine Att.attach_callB (l := PySem.Challenge.rw_lateeditions_k00_errors_by_hand) (n := 63) rfl (by kernel_rfl) fun w s₀ s₁ mg mb fa o pm cd doc a vs ns G Y ho hd hcd hmg hobj hints hlen hbits hg => ?_
    obtain ⟨K, inK, c, b⟩ := Y
    obtain ⟨_, _, _, _, _, _, _, _, _, _, _, _, _, _, T⟩ := Lw.fns inK G.T.g c b
    obtain ⟨fd, F⟩ := c.def_ 7 (d := Hd.dfn "law" (Hd.top 56)) rfl
    have hmg2 : mg ("law" : PySem.Str) = some (.ref fa) := by
      have e : (HandSHeadRun.topDef (OpenLaw.row PySem.Challenge.rw_lateeditions_k00_errors_by_hand).prog 56).name = ("law" : PySem.Str) := by kernel_rfl
      rw [← e]
      exact hmg
    have at_ := hmg2.symm.trans (He.glo_ok inK G.T.g (c.fact 7 (f := .glo "law") rfl))
    cases at_
    have bind := L2.FunD.bindsA (ps := ["_law_script"]) F fun _ _ _ _ _ _ us hl => match us, hl with
      | [_], _ => rfl
    exact Lw.top_call T F (fun s u => bind s [u] rfl) inK G.T.g G.T.b G.T.builtins G.T.nolimit hg hobj hints hlen hbits

