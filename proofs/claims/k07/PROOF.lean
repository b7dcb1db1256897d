import PyProof.Rows.All
import Wide.All
import OpenK.AllK
import Wide.FinOn
import PyProof.EqAt
import PyProof.EqKinds
import PyProof.TupleCall
import HandS.Base
import HandS.Call
import HandS.List
import HandS.Ends
import HandS.Exc
import HandS.ExcInit
import HandS.Defaults
import HandS.ExcField
import HandS.ExcIs
import HandS.IsInst
import HandS.Words
import HandS.Wide
import HandS.Dict
import KE.KDictLaw
import PyProof.ReprRoads
import PyProof.ReprLen
import HandS.WordsList
import HandS.More
import HandS.Comp
import HandS.Iter
import HandS.Text
import HandS.Flow
import HandS.ForMost
import HandS.Conv
import HandS.Style
import HandS.ListItems
import HandS.Strs
import HandS.Walk
import HandS.WordsDict
import HandS.DictComp
import HandS.ExcOwn
import HandS.CallSlots
import HandS.DictEq
import KE.KDictList
import HandS.Lambda
import HandS.Nested
import KE.KOwnCellsLaws
import HandS.Sort
import HandS.SetKeys
import HandS.TupLen
import HandS.Zip
import PyProof.DictMoreH
import HandS.Property
import HandS.SetBool
import HandS.SetFor
import KE.KFmtOwn
import HandS.SlotsOwn
import HandS.EndBits
import KE.KStateDown
import HandS.Head0
import HandS.Head1
import HandS.Head2
import HandS.HeadEnd
import HandS.HeadHook1
import HandS.HeadHook2
import HandS.HeadHook3
import HandS.HeadHook4
import PySem.Challenge.RW_lateeditions_k07_sure_rows
set_option Elab.async false
set_option linter.all false
set_option maxRecDepth 100000
set_option maxHeartbeats 4000000
namespace PySem
namespace ErK
open PySem.W PySem.Calls PyProof.Rows PySem.HandSPX
section
variable {prog : Program} {w : World} {M : Model} {A : Around} {E : Value → Shared → Prop} {R : Result → Shared → Prop} {h : Heap} {g : Array GenState} {d : Drawn} {t : Nat} {os : OsState}
variable {nm q : Str} {C N : Addr} {bs bm bmB : List Value} {hdct : Bool} {sn : List Str} {sub : List Value} {ab : Bool} {col : Option Bool} {dd : Option Addr} {k0 k1 k2 k3 k5 : Option Value} {B nw ini : String}
/-- the check ahead of the class's __new__, with keywords -/
theorem new_seen (F : ExcBaseFacts B nw ini bmB) (hT : ∀ X : String, bm.contains (.type X) = bmB.contains (.type X)) {us : List Value} {kws : List (Str × Value)} {Q : Unit → Shared → Prop}
    (cls : h.get? C = some (excClassObj nm q C N bs bm hdct sn sub ab col dd k0 k1 k2 k3 k5 nw)) (fin : Q () ⟨h, g, d, t, os⟩) :
    wpAny M A (checkBuiltinCall nw ⟨.ref C :: us, kws⟩) Q E ⟨h, g, d, t, os⟩ := by
  have has : (Value.ref C :: bm).contains (.type B) = true := by
    rw [List.contains_cons, hT, F.hasB, Bool.or_true]
  have star := F.noStar
  simp only [checkBuiltinCall, F.newKind, F.newSplit, F.newRow]
  repeat (first
    | refine wpAny_loadPart_at cls ?_
    | (refine wpAny_isSubtype_exc cls ?_
       rw [has])
    | refine wpAny_staticBase_exc cls ?_
    | refine wpAny_madeBy_exc cls ?_
    | simp only [bne_self_eq_false, Bool.false_eq_true, if_false]
    | wp_step)
  exact fin
/-- BaseException.__new__ of such a class, with keywords: they are not looked at -/
theorem new_runs (F : ExcBaseFacts B nw ini bmB) (hT : ∀ X : String, bm.contains (.type X) = bmB.contains (.type X)) {us : List Value} {kws : List (Str × Value)}
    (cls : h.get? C = some (excClassObj nm q C N bs bm hdct sn sub ab col dd k0 k1 k2 k3 k5 nw)) (short : us.length ≤ sizeLine)
    (fin : R (.ok (.ret (.ref (h.objs.size + 1)))) ⟨(h.push (W.kdv_tup us)).push (excO C h.objs.size), g, d, t, os⟩) :
    codeAny (model prog w) A (.builtin nw ⟨.ref C :: us, kws⟩) R ⟨h, g, d, t, os⟩ := by
  have ends := F.ends
  have isB : (Value.ref C :: bm).contains (.type B) = true := by
    rw [List.contains_cons, hT, F.hasB, Bool.or_true]
  have notA : (Value.ref C :: bm).contains (.type "AttributeError") = false := by
    rw [List.contains_cons, hT, F.noAttr]
    rfl
  have notN : (Value.ref C :: bm).contains (.type "NameError") = false := by
    rw [List.contains_cons, hT, F.noName]
    rfl
  refine codeAny_builtinAt F.entry ?_
  unfold Builtin.«BaseException.__new__»
  refine wpAt_bind ?_
  show wpAt _ _ _ (stack >>= _) _ _ _
  refine wpAt_bind (wpAt_stack fun p below => wpAt_of_wpAny ?_)
  wp_walk
  refine wpAt_of_wpAny ?_
  rw [F.owner]
  repeat (first
    | with_reducible refine wpAny_madeHere_exc F.canon cls ?_
    | with_reducible refine wpAny_loadPart_at cls ?_
    | (with_reducible refine wpAny_isSubtype_exc cls ?_
       first
         | rw [isB]
         | rw [notA]
         | rw [notN])
    | wp_step)
  show R _ _
  rw [Heap.size_push]
  exact fin
/-- type.__call__ of such a class, with keywords -/
theorem type_runs (F : ExcBaseFacts B nw ini bmB) (hT : ∀ X : String, bm.contains (.type X) = bmB.contains (.type X)) {us : List Value} {kws : List (Str × Value)} {fI : Addr} {Q : Fin → Shared → Prop}
    (cls : h.get? C = some (excClassObj nm q C N bs bm hdct sn sub ab col dd k0 k1 k2 k3 k5 nw)) (short : us.length ≤ sizeLine)
    (look : W.Looks (model prog w) h (typeLookup (.ref C) "__init__") (some (.ref fI))) (bind : ∀ self, W.Looks (model prog w) h (bindSpecial (.ref fI) self) (.ref fI, [self]))
    (run : codeAny (model prog w) A (.call (.ref fI) ⟨.ref (h.objs.size + 1) :: us, kws⟩)
      (fun r s' => match r with
        | .ok (.ret v) => v = .none ∧ Q (.done (.ret (.ref (h.objs.size + 1)))) s'
        | .ok _ => False
        | .error e => E e s')
      ⟨(h.push (W.kdv_tup us)).push (excO C h.objs.size), g, d, t, os⟩) :
    wpAny (model prog w) A (Builtin.«type.__call__» ⟨.ref C :: us, kws⟩) Q E ⟨h, g, d, t, os⟩ := by
  repeat (first
    | with_reducible refine wpAny_loadPart_at cls ?_
    | with_reducible refine wpAny_madeBy_exc cls ?_
    | wp_step)
  refine codeAny_call_builtin_code (Code.quiet_builtin _ F.quiet) (new_seen F hT cls ?_)
  refine new_runs F hT cls short ?_
  show wpAny _ _ _ _ _ _
  have old : ∀ b o, h.get? b = some o → ((h.push (W.kdv_tup us)).push (excO C h.objs.size)).get? b = some o :=
    fun b o e => Heap.get?_push_of_some _ (Heap.get?_push_of_some _ e)
  have cls1 := old _ _ cls
  have made : ((h.push (W.kdv_tup us)).push (excO C h.objs.size)).get? (h.objs.size + 1) = some (excO C h.objs.size) := by
    heap_get
  have self : (Value.ref C :: bm).contains (.ref C) = true := by simp
  have l1 := look.keeps old
  have l2 := (bind (.ref (h.objs.size + 1))).keeps old
  unfold isInstance
  repeat (first
    | with_reducible refine wpAny_loadPart_at made ?_
    | (with_reducible refine wpAny_isSubtype_exc cls1 ?_
       rw [self])
    | wp_step)
  show wpAny _ _ (typeLookup (.ref C) _) _ _ _
  refine l1.at ?_
  refine wpAny_holding (wpAny_bind (l2.at ?_))
  refine wpAny_bind (wpAny_call (codeAny_mono run fun r s' z => ?_))
  rcases r with e | (v | _ | _ | _) <;> first | exact z | exact z.elim | skip
  obtain ⟨rfl, z⟩ := z
  first
    | exact wpAny_pure (wpAny_pure z)
    | (wp_walk
       exact z)
/-- C(.., k = v): an exception of an own class over ValueError with its own __init__ -/
theorem call_kws (F : ExcBaseFacts B nw ini bmB) (hT : ∀ X : String, bm.contains (.type X) = bmB.contains (.type X)) {us : List Value} {kws : List (Str × Value)} {fI : Addr}
    (cls : h.get? C = some (excClassObj nm q C N bs bm hdct sn sub ab col dd k0 k1 k2 k3 k5 nw)) (short : us.length ≤ sizeLine)
    (look : W.Looks (model prog w) h (typeLookup (.ref C) "__init__") (some (.ref fI))) (bind : ∀ self, W.Looks (model prog w) h (bindSpecial (.ref fI) self) (.ref fI, [self]))
    (run : codeAny (model prog w) (A.under (.builtin "type.__call__" ⟨.ref C :: us, kws⟩)) (.call (.ref fI) ⟨.ref (h.objs.size + 1) :: us, kws⟩) (W.InitBack (h.objs.size + 1) R)
      ⟨(h.push (W.kdv_tup us)).push (excO C h.objs.size), g, d, t, os⟩) :
    codeAny (model prog w) A (.call (.ref C) ⟨us, kws⟩) R ⟨h, g, d, t, os⟩ := by
  have f1 := tc_lookup
  have f2 := tc_bind (.ref C)
  have ty : (⟨h, g, d, t, os⟩ : Shared).TypeIs (.ref C) "type" := ⟨_, cls, rfl⟩
  refine codeAny_of_tree ?_
  show wpAny _ _ (callAny (.ref C) _) _ _ _
  repeat (any_goals (first
    | assumption
    | with_reducible refine wpAny_loadPart_at cls ?_
    | wp_step))
  refine ⟨rfl, ?_⟩
  refine codeAny_call_builtin_at (Code.quiet_builtin _ (by decide +kernel)) entry_typeCall ?_
  refine wpAny_check_type_call_sub cls (type_runs F hT cls short look bind ?_)
  refine codeAny_mono run fun r s' z => ?_
  rcases r with e | (v | _ | _ | _) <;> exact z
end
end ErK
end PySem
set_option Elab.async false
set_option linter.all false
set_option maxRecDepth 100000
set_option maxHeartbeats 4000000
namespace PySem
namespace ErK
open PySem.W PySem.Calls PyProof.Rows PySem.HandSPX
/-! ### the text of an error's __init__: self.f = f -/
def tA (f : Str) (p1 p2 : Pos) : Arguments :=
  { posonlyargs := [], args := [{ arg := "self", annotation := none, pos := p1 }, { arg := f, annotation := none, pos := p2 }], vararg := none, kwonlyargs := [], kw_defaults := [], kwarg := none, defaults := [] }
def tB (f : Str) (q1 q2 q3 q4 : Pos) : List Stmt := [.Assign [.Attribute (.Name "self" q1) f q2] (.Name f q3) q4]
def tS (f : Str) : Scope :=
  { kind := .function, names := [(PySem.Str.ofString "self", .local), (f, .local)], isGenerator := false, isCoroutine := false, more := [] }
/-- the fields' names -/
def fields : List Str := ["value", "position", "spot", "limit", "deed", "count", "words"]
/-- what the written part says of an error's class, at C, and of its __init__, at fI -/
structure EC (K : Frag) (x f : Str) (C fI : Addr) : Prop where
  ox : L2.OexC K C
  noN : findIn K (.ref C) f = some none
  iC : findIn K (.ref C) "__init__" = some (some (.ref fI))
  tI : typeIn K (.ref fI) = some (.type "function")
  xf : L2.XfC K C
  xc : L2.ExcC K C
  fl : f ∈ fields
  fn : ∃ (oc : Value) (od : Option Addr) (kV doc pm : Value) (an : Option Addr) (cdv ct : Value) (osl : Array (Option Value)) (ql : Str) (p1 p2 q1 q2 q3 q4 : Pos),
    K.lookup fI = some ⟨oc, od, .func (fnOf "__init__" ql (tA f p1 p2) (tB f q1 q2 q3 q4) (tS f) .none kV doc pm an cdv ct), osl⟩ ∧ codeIn K cdv ql = true
/-- what __init__ leaves of a new exception at x -/
structure Left (h h' : Heap) (x C dx t1 : Addr) (f : Str) (v : Value) : Prop where
  keep : ∀ b o, b ≠ x → h.get? b = some o → h'.get? b = some o
  obj : h'.get? x = some { cls := .ref C, dict := some dx, data := .fields #[.ref t1, .none, .none, .none, .bool false, .none] }
  big : h.objs.size ≤ dx
  ne : dx ≠ x
  ns : h'.Ns1 dx (fun y => if y = f then some v else none)
theorem ld {M : Model} {s : Shared} {name : Str} {scope : Scope} {L a : Addr} {cd : Value} {m : Str → Option Value} {x : Str} {pos : Pos} {v : Value} {Q : Value → Shared → Prop} {A : Around} {E : Value → Shared → Prop}
    (ns : s.heap.Ns L m) (at_ : m x = some v) (fin : Q v s) (kd : scope.kind = .function := by rfl) (lo : (envOfC name scope L a cd).kindOf x = some .local := by rfl) (db : (x == ("__debug__" : Str)) = false := by decide) :
    wpAny M A (eval (.Name x pos) (envOfC name scope L a cd)) Q E s :=
  wpAny_Name (wpAny_loadName_local kd lo ns at_ fin) db
section
variable {prog : Program} {w : World} {A : Around} {R : Result → Shared → Prop} {s : Shared} {K : Frag} {x f : Str} {C fI : Addr}
theorem init_any (T : EC K x f C fI) {e t0 : Addr} {v : Value} {args : Args} (ha : args = ⟨[.ref e, v], []⟩ ∨ args = ⟨[.ref e], [(f, v)]⟩) (X : K.In s.heap) (lim : s.heap.NoLimit) (he : s.heap.get? e = some (excO C t0)) (room : A.depth < recursionLimit)
    (fin : ∀ h' tk dx, Left s.heap h' e C dx t0 f v → R (.ok (.ret .none)) { s with heap := h', toks := tk }) :
    codeAny (model prog w) A (.call (.ref fI) args) R s := by
  obtain ⟨oc, od, kV, doc, pm, an, cdv, ct, osl, ql, p1, p2, q1, q2, q3, q4, ho, hcd⟩ := T.fn
  obtain ⟨nm, q, N, bs, bm, sn, sub, ab, col, dd, k0, k1, k2, k3, k5, hC, hbm⟩ := T.ox.cls
  have hcl : clsIn K C = some { name := nm, bases := bs, mro := .ref C :: bm, ns := N, qualname := q, hasDict := true, slotNames := sn, subclasses := sub, abstract := ab, collection := col, hasDel := false } := by
    unfold clsIn
    rw [hC] <;> rfl
  have noN := T.noN
  have fl := T.fl
  have sa := T.ox.sa
  have step : ∀ {s₁ : Shared} {m : Str → Option Value} {sc : Scope} {cdv : Value} {A' : Around} {E' : Value → Shared → Prop} {Q' : Flow → Shared → Prop} {L : Addr} {ql : Str}, (∀ b o, s.heap.get? b = some o → s₁.heap.get? b = some o) → s₁.heap.Ns L m → s.heap.objs.size ≤ L → sc.kind = .function →
      (envOfC ql sc L fI cdv).kindOf "self" = some .local → (envOfC ql sc L fI cdv).kindOf f = some .local → (f == ("__debug__" : Str)) = false → m "self" = some (.ref e) → m f = some v → (swapsWith (.Name f q3) (some (.Attribute (.Name "self" q1) f q2)) q4.line (envOfC ql sc L fI cdv) = pure false) →
      (∀ (h₂ : Heap) (tk : Nat × Addr), Left s.heap h₂ e C tk.2 t0 f v → Q' .next { s₁ with heap := h₂, toks := tk.1 }) → wpAny (model prog w) A' (execs (tB f q1 q2 q3 q4) (envOfC ql sc L fI cdv)) Q' E' s₁ := by
    intro s₁ m sc cdv A' E' Q' L ql k hn hL kd l1 l2 db m1 m2 sw fin'
    have X₁ : K.In s₁.heap := X.keeps k
    have he₁ := k _ _ he
    refine wpAny_execs_cons (plainObj_wpAny_Assign_Attribute ?_ sw)
    refine ld (v := v) hn m2 (ld (v := .ref e) hn m1 ?_ kd l1) kd l2 db
    refine set_plain X₁ (ox := excO C t0) (od := none) ⟨he₁, rfl, rfl, trivial⟩ sa ?_
    obtain ⟨h₁, g₁, d₁, t₁, o₁⟩ := s₁
    refine exc_osa X₁ he₁ hcl (show refsVE (.ref C :: bm) = true from hbm) rfl noN (fun h₃ tk₃ dx k₃ dn dne hx₃ hn₃ => ?_)
    show wpAny _ _ (execs _ _) _ _ _
    have z : L < h₁.objs.size := hn.lt
    exact wpAny_execs_nil (fin' h₃ (tk₃, dx) ⟨fun b o hb q => k₃ b o hb (k b o q), hx₃, Nat.le_of_lt (Nat.lt_of_le_of_lt hL (Nat.lt_of_lt_of_le z dn)), dne, hn₃⟩)
  simp only [fields, List.mem_cons, List.not_mem_nil, or_false] at fl
  rcases ha with rfl | rfl <;> rcases fl with rfl | rfl | rfl | rfl | rfl | rfl | rfl
  all_goals
    refine Att.call_fn (binds := [("self", .ref e), (_, v)]) X lim ho hcd room (BindsTo.of_eq (by first | rfl | with_unfolding_all rfl)) (by first | rfl | decide | with_unfolding_all rfl) (fun s₁ IC => ?_) rfl rfl rfl
    obtain ⟨h₁, tk₁, rfl⟩ := IC.toInCall.same
    refine step (m := _) IC.toInCall.keep IC.toInCall.ns (Nat.le_refl _) rfl rfl rfl (by decide) (by first | rfl | with_unfolding_all rfl | kernel_rfl) (by first | rfl | with_unfolding_all rfl | kernel_rfl) (by rfl) fun h₂ tk z => fin h₂ tk.1 tk.2 z
end
end ErK
end PySem
set_option Elab.async false
set_option linter.all false
set_option maxRecDepth 100000
set_option maxHeartbeats 4000000
namespace Er
open PySem PySem.Spec PyProof.Rows L2
open PySem.ErK (EC)
/-- what stood stands -/
def Sm (H H' : Hp) : Prop := ∀ b o, H b = some o → H' b = some o
theorem Sm.refl (H : Hp) : Sm H H := fun _ _ e => e
theorem Sm.trans {H H1 H2 : Hp} (a : Sm H H1) (b : Sm H1 H2) : Sm H H2 := fun c o e => b c o (a c o e)
theorem Sm.new {H : Hp} {a : Addr} {o : HO} (n : H a = none) : Sm H (upd H a o) := fun b u e => by
  rw [upd_ne (ne_of_none e n)]
  exact e
section
variable {X : Cx} {pins : List (Addr × Obj)} {σ : L2.St} {H : Hp} {s : Shared}
/-- two new objects at once -/
theorem laid2 {h' : Heap} {a d : Addr} {o u : HO} {t' : Nat} (I : Inv X pins σ H s) (k : ∀ b v, s.heap.get? b = some v → h'.get? b = some v) (la : s.heap.objs.size ≤ a) (ld : s.heap.objs.size ≤ d) (ne : d ≠ a)
    (oa : ObjOk X.prog X.w (upd (upd H d u) a o) h' a o) (od : ObjOk X.prog X.w (upd (upd H d u) a o) h' d u) :
    Inv X pins σ (upd (upd H d u) a o) { s with heap := h', toks := t' } := by
  have na := I.hok.fresh la
  have nd := I.hok.fresh ld
  have lt : ∀ {b : Addr} {v : Obj} {c : Addr}, s.heap.get? b = some v → s.heap.objs.size ≤ c → b ≠ c := fun q z => Nat.ne_of_lt (Nat.lt_of_lt_of_le (Heap.lt_size q) z)
  have st : ∀ {b : Addr} {v : HO}, H b = some v → upd (upd H d u) a o b = some v := fun {b v} q => by
    rw [upd_ne (ne_of_none q na), upd_ne (ne_of_none q nd)]
    exact q
  have U : Un X.fs [] H (upd (upd H d u) a o) s.heap h' := {
    keep := fun b v q _ _ _ => k b v q
    slot := fun b v q _ _ _ => ⟨v.slots, k b v q⟩
    free := fun b v q n _ => by
      rw [upd_ne (lt q la), upd_ne (lt q ld)]
      exact n
    there := fun b v q _ => ⟨v, k b v q⟩
    tups := fun b xs q => st q
    frzs := fun b v xs q => st q
    tbls := fun b ps q => ⟨#[], by
      rw [st q]
      simp⟩ }
  refine I.un (t' := t') U fun b v q => ?_
  by_cases hb : b = a
  · subst hb
    rw [upd_same] at q
    cases q
    exact oa
  · rw [upd_ne hb] at q
    by_cases hd : b = d
    · subst hd
      rw [upd_same] at q
      cases q
      exact od
    · rw [upd_ne hd] at q
      exact (I.hok b v q).stay (fun c z _ y => k c z y) (fun c y => st y) fun c xs y => st y
end
/-! ### errors as values -/
/-- v is an error of the class at C, whose only field f holds y -/
def IsE (H : Hp) (v : V) (C : Addr) (f : Str) (y : V) : Prop :=
  ∃ a d : Addr, v = .ref a ∧ H a = some (exo a C (some d)) ∧ H d = some (exd d [(f, y)])
theorem IsE.mono {H H' : Hp} {v : V} {C : Addr} {f : Str} {y : V} (e : IsE H v C f y) (k : Sm H H') : IsE H' v C f y := by
  obtain ⟨a, d, e1, e2, e3⟩ := e
  exact ⟨a, d, e1, k _ _ e2, k _ _ e3⟩
/-- the reading of X(e), X(f = e) -/
def tNew (C : Addr) (f : Str) (te : TE) : TE := fun σ H Q => te σ H fun y H1 => ∀ v H2, Sm H1 H2 → IsE H2 v C f y → Q v H2
theorem rel_one {y : V} {u : Value} (f : Str) (r : RelV y u) (g : Str) : RelO (List.lookup g [(f, y)]) (if g = f then some u else none) := by
  by_cases hw : g = f
  · subst hw
    rw [if_pos rfl]
    have q : List.lookup g [(g, y)] = some y := by simp [List.lookup]
    rw [q]
    exact r
  · rw [if_neg hw]
    have qw : (g == f) = false := by simpa using hw
    have q2 : List.lookup g [(f, y)] = none := by simp [List.lookup, qw]
    rw [q2]
    trivial
section
variable {X : Cx} {x f : Str} {C fI : Addr}
/-- the call itself, whichever way the value is handed in -/
theorem run_new {pins : List (Addr × Obj)} {σ : L2.St} {H : Hp} {s : Shared} {Q : VK} {y : V} {u : Value} {us : List Value} {kw : List (Str × Value)} (T : EC X.K x f C fI) (hr : Room 1 X.A) (I : Inv X pins σ H s) (r : RelV y u)
    (ha : (us = [u] ∧ kw = []) ∨ (us = [] ∧ kw = [(f, u)])) (h : ∀ v H2, Sm H H2 → IsE H2 v C f y → Q v H2) :
    wpAny (model X.prog X.w) X.A (call (.ref C) us kw) (EP X pins σ Q) X.xe s := by
  obtain ⟨nm, q, N, bs, bm, sn, sub, ab, col, dd, k0, k1, k2, k3, k5, hC, hbm⟩ := T.ox.cls
  have hlim := I.nolimit
  have kIn := I.kIn
  obtain ⟨hp, g, dr, tk, os⟩ := s
  have short : us.length ≤ sizeLine := by
    rw [sizeLine_eq]
    rcases ha with ⟨rfl, _⟩ | ⟨rfl, _⟩
    · exact (by decide : 1 ≤ 16777216)
    · exact (by decide : 0 ≤ 16777216)
  have k : ∀ b o, hp.get? b = some o → ((hp.push (PySem.W.kdv_tup us)).push (PySem.HandSPX.excO C hp.objs.size)).get? b = some o :=
    fun b o e => Heap.get?_push_of_some _ (Heap.get?_push_of_some _ e)
  have new : ((hp.push (PySem.W.kdv_tup us)).push (PySem.HandSPX.excO C hp.objs.size)).get? (hp.objs.size + 1) = some (PySem.HandSPX.excO C hp.objs.size) := by
    heap_get
  refine wpAny_call (PySem.ErK.call_kws F.excBase_ValueError (fun Y => PySem.HandSPX.refsVE_contains Y bm hbm) (kIn _ _ hC) short (PySem.W.looks_findIn kIn T.iC) (fun self => PySem.W.bind_fn kIn self T.tI) ?_)
  refine PySem.ErK.init_any (s := ⟨(hp.push (PySem.W.kdv_tup us)).push (PySem.HandSPX.excO C hp.objs.size), g, dr, tk, os⟩) (e := hp.objs.size + 1) (v := u) T ?_ (PySem.W.Frag.In.keeps kIn k) (hlim.keeps k) new ?_ fun h' tk' dx ⟨k', hx, dn, dne, hns⟩ => ?_
  · rcases ha with ⟨rfl, rfl⟩ | ⟨rfl, rfl⟩
    · exact .inl rfl
    · exact .inr rfl
  · have z := hr.dp
    show (X.A.under _).depth < recursionLimit
    rw [make_depth]
    omega
  · have old : ∀ b o, hp.get? b = some o → h'.get? b = some o :=
      fun b o e => k' b o (Nat.ne_of_lt (Nat.lt_succ_of_lt (Heap.lt_size e))) (k b o e)
    have big : hp.objs.size ≤ dx := by
      have z : hp.objs.size + 1 + 1 ≤ dx := by
        first
          | exact dn
          | (have q := dn
             rw [Heap.size_push, Heap.size_push] at q
             exact q)
          | (simpa only [Heap.size_push] using dn)
      exact Nat.le_trans (Nat.le_trans (Nat.le_succ _) (Nat.le_succ _)) z
    have J : Inv X pins σ (upd (upd H dx (exd dx [(f, y)])) (hp.objs.size + 1) (exo (hp.objs.size + 1) C (some dx))) ⟨h', g, dr, tk', os⟩ :=
      laid2 (t' := tk') I old (Nat.le_succ _) big dne (exo_ok hx) (exd_ok hns (rel_one f r))
    have n1 : H (hp.objs.size + 1) = none := I.hok.fresh (Nat.le_succ _)
    have n2 : H dx = none := I.hok.fresh big
    refine ⟨rfl, .ref (hp.objs.size + 1), _, J, rfl, h _ _ (fun b o e => ?_) ⟨_, dx, rfl, upd_same, ?_⟩⟩
    · rw [upd_ne (ne_of_none e n1), upd_ne (ne_of_none e n2)]
      exact e
    · rw [upd_ne dne]
      exact upd_same
/-- X(e) -/
theorem pe_new {e : Expr} {te : TE} {p pos : Pos} (T : EC X.K x f C fI) (hr : Room 1 X.A) (gl : Gl X x) (gC : X.mg x = some (.ref C)) (he : PE X e te) (db : (x == ("__debug__" : Str)) = false := by decide)
    (hs : starEach [e] X.env = (false, eval e X.env) :: starEach [] X.env := by rfl) (hp : (backTo pos (starEach [] X.env)).any (·.1) = false := by rfl) :
    PE X (.Call (.Name x p) [e] [] pos) (tNew C f te) := by
  refine ⟨fun pins s σ H Q I h => ?_⟩
  refine wpAny_Call_Name_kw (ld_glob I gl gC ?_ db)
  refine PySem.W.callWith_K (h₀ := X.base) I.ok.mod.kin T.ox.kC ?_ hs hp
  rw [hs]
  show wpAny _ _ (spliced ((false, eval e X.env) :: backTo pos (starEach [] X.env))) _ _ s
  refine Calls.spliced_cons (thn (he.run pins s σ H _ I h) fun u s1 ⟨y, H1, I1, r1, q1⟩ => ?_)
  refine Calls.spliced_nil ⟨I1.kIn, ?_⟩
  exact run_new T hr I1 r1 (.inl ⟨rfl, rfl⟩) q1
/-- X(f = e) -/
theorem pe_newK {e : Expr} {te : TE} {p pos kp : Pos} (T : EC X.K x f C fI) (hr : Room 1 X.A) (gl : Gl X x) (gC : X.mg x = some (.ref C)) (he : PE X e te) (db : (x == ("__debug__" : Str)) = false := by decide) :
    PE X (.Call (.Name x p) [] [⟨some f, e, kp⟩] pos) (tNew C f te) := by
  refine ⟨fun pins s σ H Q I h => ?_⟩
  refine wpAny_Call_Name_kw (ld_glob I gl gC ?_ db)
  refine PySem.W.callWith_KW0 (h₀ := X.base) I.ok.mod.kin T.ox.kC (by rfl) ?_
  show wpAny _ _ (evalAll [(do
    let v ← eval e X.env
    standAt pos
    pure v)]) _ _ s
  refine wpAny_evalAll_cons (wpAny_bind (thn (he.run pins s σ H _ I h) fun u s1 ⟨y, H1, I1, r1, q1⟩ => wpAny_bind (wpAny_standAt (wpAny_pure ?_))))
  refine wpAny_evalAll_nil ⟨I1.kIn, ?_⟩
  exact run_new T hr I1 r1 (.inr ⟨rfl, rfl⟩) q1
/-- e.f, e an error -/
def tGet (K : PySem.W.Frag) (f : Str) (te : TE) : TE := fun σ H Q => te σ H fun v H1 => ∃ (x : Str) (C fI : Addr) (y : V), EC K x f C fI ∧ IsE H1 v C f y ∧ Q y H1
theorem pe_get {e : Expr} {te : TE} {pos : Pos} (he : PE X e te) (hb : attributeBase e f X.env (eval e X.env) = eval e X.env := by rfl) : PE X (.Attribute e f pos) (tGet X.K f te) := by
  refine ⟨fun pins s σ H Q I h => ?_⟩
  refine attr_of hb (thn (he.run pins s σ H _ I h) fun u s1 hh => ?_)
  obtain ⟨v, H1, I1, rv, x, C, fI, y, T, ⟨a, d, rfl, ea, ed⟩, q⟩ := hh
  obtain rfl : u = Value.ref a := rv
  obtain ⟨t1, ho⟩ := exo_at I1.hok ea
  obtain ⟨mA, hns, hrel⟩ := exd_at I1.hok ed
  obtain ⟨od, hd, hl⟩ := lookIn_ns hns
  have l : List.lookup f [(f, y)] = some y := by simp [List.lookup]
  obtain ⟨u', hu, ru⟩ := RelO.some_of (v := y) (o := mA f) (by
    rw [← l]
    exact hrel f)
  have J : PySem.W.InstAt s1.heap a { cls := .ref C, dict := some d, data := .fields #[.ref t1, .none, .none, .none, .bool false, .none] } C (some od) := ⟨ho, rfl, rfl, hd⟩
  exact HandSPX.exc_get I1.kIn J T.xf.ga T.xf.gg T.xf.exC (PySem.W.findObj_own T.xf.hdC T.noN rfl (by rw [hl, hu])) (handed_of ru) ⟨y, H1, I1.tok _, ru, q⟩
end
end Er
set_option Elab.async false
set_option linter.all false
set_option maxRecDepth 100000
set_option maxHeartbeats 4000000
namespace PySem
namespace ErK
open PySem.W PySem.Calls PyProof.Rows PySem.HandSPX PySem.Spec
section
variable {prog : Program} {w : World} {A : Around} {E : Value → Shared → Prop} {s : Shared} {K : Frag} {x D : Addr} {ox : Obj} {od : Option Obj}
theorem found_data {C : Addr} {name : Str} {b g : Value} (c : (clsIn K C).isSome = true) (f : findIn K (.ref C) name = some (some b)) (g1 : specialIn K b "__get__" = some (some g)) (t1 : takesIn K b = some true) :
    findObj K C od name = some (.bind g b) := by
  obtain ⟨cd, c⟩ := Option.isSome_iff_exists.mp c
  unfold findObj
  rw [c, Option.bind_some, f, Option.bind_some]
  simp [g1, t1]
/-- x.__class__, x an error with its dict -/
theorem cls_asked {Q : Option Value → Shared → Prop} (T : L2.ExcC K D) (X : K.In s.heap) (I : InstAt s.heap x ox D od) (fin : Q (some (.ref D)) { s with toks := s.toks + 1 }) :
    wpAny (model prog w) A (getAttr? (.ref x) "__class__") Q E s := by
  have hf : findObj K D od "__class__" = some (.bind (.builtin "getset_descriptor.__get__") (.builtin "object.__class__")) := found_data (by
    obtain ⟨cd, hc, _⟩ := any_some T.hd
    rw [hc]
    rfl) T.ha T.hn T.ht
  obtain ⟨hp, g, d, t, os⟩ := s
  have l0 := I.type (M := model prog w)
  have l1 := looks_findIn (M := model prog w) X T.hg
  have l2 := looks_findIn (M := model prog w) X T.hk
  have l3 := looks_find (M := model prog w) X I hf
  have isB : Looks (model prog w) hp (isInstance (.ref x) (.type "BaseException")) true := l0.andThen (looks_subIn X T.hs)
  have z0 : (false && onTheHeap (Value.builtin "BaseException.__getattribute__")) = false := rfl
  have z2 : (Value.builtin "BaseException.__getattribute__" == Value.builtin "object.__getattribute__") = false := by
    decide +kernel
  have z1 : (onTheHeap (Value.ref D) && Value.builtin "BaseException.__getattribute__" == Value.builtin "object.__getattribute__") = false := by
    rw [z2]
    rfl
  unfold getAttr? getAttrBy? getAttrBy
  refine wpAny_bind (wpAny_mkText (wpAny_bind (wpAny_attempt (wpAny_holding (wpAny_bind (l0.at (wpAny_bind (l1.at ?_))))))))
  show wpAny _ _ (if (onTheHeap (Value.ref D) && Value.builtin "BaseException.__getattribute__" == Value.builtin "object.__getattribute__") = true then _ else _) _ _ _
  rw [z1, if_neg Bool.false_ne_true]
  unfold getAttrByItsOwn hookBefore
  refine wpAny_bind ?_
  rw [if_pos (show onTheHeap (Value.ref D) = true from rfl)]
  refine l2.at ?_
  refine wpAny_bind (wpAny_attempt (wpAny_holding ?_))
  unfold callGetattribute
  rw [z0, if_neg Bool.false_ne_true]
  unfold boundAndCalled
  rw [PySem.F.excAttr_ValueError.ga.bind (.ref x)]
  refine wpAny_bind (wpAny_pure ?_)
  show wpAny _ _ (call (.builtin "BaseException.__getattribute__") [.ref x, .str "__class__" t]) _ _ _
  refine wpAny_call (codeAny_call_builtin PySem.F.excAttr_ValueError.ga.plain PySem.F.entry_bexc_ga ?_)
  refine @check_slot (model prog w) _ _ ⟨hp, g, d, t + 1, os⟩ "BaseException.__getattribute__" "BaseException" "__getattribute__" (.ref x) [.str "__class__" t] [] _ (by decide +kernel) (by decide +kernel) isB (PySem.F.args_bexc_ga (.ref x) (.str "__class__" t)) ?_
  unfold Builtin.«object.__getattribute__»
  refine wpAny_bind (wpAny_of_eq (a := ((Value.ref x : Value), [Value.str "__class__" t])) (by
    first
      | rfl
      | (simp only [slotArgs]
         rfl)) ?_)
  refine wpAny_bind (wpAny_pure (wpAny_bind (l0.at (wpAny_bind (l3.at ?_)))))
  show wpAny _ _ (holding [Value.builtin "object.__class__"] (call (.builtin "getset_descriptor.__get__") [.builtin "object.__class__", .ref x, .ref D]) >>= ret) _ _ _
  refine wpAny_bind (wpAny_holding (wpAny_call (class_get (s := ⟨hp, g, d, t + 1, os⟩) (ox := ox) (od := od) X I T.hm ?_)))
  refine wpAny_pure ?_
  show wpAny _ _ (handedOut (.ref D)) _ _ _
  rw [handedOut_of (v := .ref D) rfl]
  first
    | exact wpAny_pure (wpAny_bind (wpAny_pure (wpAny_pure fin)))
    | exact wpAny_pure (wpAny_pure fin)
    | exact wpAny_pure fin
/-- what isinstance's rules ask of such an error -/
theorem kit_err (T : L2.ExcC K D) : KitX K (.ref x) (.ref D) (fun h => InstAt h x ox D od) where
  ty := fun _ _ _ I => I.type
  it := fun _ _ X _ => by
    obtain ⟨cdD, hcD, _⟩ := any_some T.hd
    unfold clsIn at hcD
    split at hcD
    · rename_i c' d' cd' sl' ho
      intro A' Q' E' s' k q
      unfold isType loadHead
      exact wpAny_bind (wpAny_loadPart (k _ _ (X _ _ ho)) (wpAny_pure q))
    · cases hcD
  ne := fun h tp dd its n sl X at_ => by
    obtain ⟨cdD, hcD, _⟩ := any_some T.hd
    refine Bool.eq_false_iff.mpr fun q => ?_
    have e : D = tp := Value.ref.inj (beq_iff_eq.mp q)
    subst e
    unfold clsIn at hcD
    split at hcD
    · rename_i c' d' cd' sl' ho
      have z := (X _ _ ho).symm.trans at_
      cases z
    · cases hcD
  ca := fun X I fin => cls_asked T X I fin
end
end ErK
end PySem
namespace Er
open PySem PySem.Spec PyProof.Rows L2
open PySem.ErK (EC)
section
variable {X : Cx}
/-- isinstance(e, c), e an error -/
def rIsA (K : PySem.W.Frag) : List V → Hp → VK → Prop := fun xs H Q => ∃ (v c : V) (cu : Value) (x f : Str) (C fI : Addr) (y : V) (b : Bool), xs = [v, c] ∧ ClsV c cu ∧ EC K x f C fI ∧ IsE H v C f y ∧ PySem.W.kitOne K (.ref C) cu = some b ∧ Q (.bl b) H
theorem call_isA : CallR X (.builtin "isinstance") (rIsA X.K) := by
  intro pins s σ H xs us Q I r h
  obtain ⟨v, c, cu, x, f, C, fI, y, b, rfl, k, T, ⟨a, d, rfl, ea, ed⟩, e, q⟩ := h
  obtain ⟨u1, u2, rfl, r1, r2⟩ := vals2 r
  have e2 := k.eq r2
  subst e2
  obtain rfl : u1 = Value.ref a := r1
  obtain ⟨t1, ho⟩ := exo_at I.hok ea
  obtain ⟨mA, hns, hrel⟩ := exd_at I.hok ed
  obtain ⟨od, hd, hl⟩ := lookIn_ns hns
  have J : PySem.W.InstAt s.heap a { cls := .ref C, dict := some d, data := .fields #[.ref t1, .none, .none, .none, .bool false, .none] } C (some od) := ⟨ho, rfl, rfl, hd⟩
  exact PySem.W.kia_one (PySem.ErK.kit_err T.xc) I.kIn J e (fun z => nomatch z) fun tk => ⟨.bl b, H, I.tok tk, rfl, q⟩
end
end Er
set_option Elab.async false
set_option linter.all false
set_option maxRecDepth 100000
set_option maxHeartbeats 4000000
namespace Er
open PySem PySem.Spec PyProof.Rows L2
/-! ### ** of a great number -/
def CPw (i j : Int) : Prop := 0 ≤ j ∧ (Builtin.Int.intBits i : Int) * j ≤ 2 ^ 27
theorem op_powB {X : Cx} : OpR X (binaryOp .Pow) (rI CPw fun i j => .int (i ^ j.toNat)) := opI fun _ _ _ _ _ _ _ hc q => pow_int hc.1 hc.2 q
/-! ### repr of a list that holds one thing again and again -/
/-- None, a bool, a number, a text -/
inductive Flat : V → PyData → Prop where
  | non : Flat .non .none
  | bl (b : Bool) : Flat (.bl b) (.bool b)
  | int (i : Int) (h : i.natAbs.log2 < 1920) : Flat (.int i) (.int i)
  | str (x : Str) : Flat (.str x) (.str x)
inductive Flats : List V → List PyData → Prop where
  | nil : Flats [] []
  | cons {v : V} {d : PyData} {vs : List V} {ds : List PyData} (h : Flat v d) (r : Flats vs ds) : Flats (v :: vs) (d :: ds)
/-- a thing: flat, or a list, a tuple, a dict with text keys of flat ones -/
inductive Thing (H : Hp) : V → PyData → Prop where
  | flat {v : V} {d : PyData} (h : Flat v d) : Thing H v d
  | lst {a : Addr} {xs : List V} {ds : List PyData} (e : H a = some (.lst xs)) (h : Flats xs ds) : Thing H (.ref a) (.list ds)
  | tup {a : Addr} {xs : List V} {ds : List PyData} (e : H a = some (.tup xs)) (h : Flats xs ds) : Thing H (.ref a) (.tuple ds)
  | dct {a : Addr} {ks : List Str} {xs : List V} {ds : List PyData} (e : H a = some (.dK ((ks.map Sum.inr).zip xs))) (l : ks.length = xs.length) (h : Flats xs ds) : Thing H (.ref a) (.dict ((ks.map PyData.str).zip ds))
theorem Flats.len {vs : List V} {ds : List PyData} (h : Flats vs ds) : vs.length = ds.length := by
  induction h with
  | nil => rfl
  | cons _ _ ih => simp [ih]
theorem Flat.reads {h : Heap} {v : V} {u : Value} {d : PyData} (f : Flat v d) (r : RelV v u) : Reads h u d [] := by
  cases f with
  | non =>
    cases (show u = Value.none from r)
    exact .none
  | bl b =>
    cases (show u = Value.bool b from r)
    exact .bool b
  | int i _ =>
    obtain ⟨t, q⟩ := (show ∃ t, u = Value.int i t from r)
    cases q
    exact .int i t
  | str x =>
    obtain ⟨t, q⟩ := (show ∃ t, u = Value.str x t from r)
    cases q
    exact .str x t
theorem Flats.reads {h : Heap} {vs : List V} {ds : List PyData} (f : Flats vs ds) : ∀ {us : List Value}, Vals vs us → ReadsAll h us ds [] := by
  induction f with
  | nil =>
    intro us r
    cases r
    exact .nil
  | cons f1 _ ih =>
    intro us r
    cases r with
    | cons r1 r2 => exact ReadsAll.cons (as := []) (bs := []) (f1.reads r1) (ih r2)
theorem Flat.show {v : V} {d : PyData} (f : Flat v d) : d.showable = true ∧ d.depth ≤ 1 := by
  cases f with
  | non => exact ⟨rfl, by decide⟩
  | bl b => exact ⟨rfl, by simp [PyData.depth]⟩
  | int i h => exact ⟨by simpa [PyData.showable] using h, by simp [PyData.depth]⟩
  | str x => exact ⟨rfl, by simp [PyData.depth]⟩
theorem Flats.show {vs : List V} {ds : List PyData} (f : Flats vs ds) : PyData.showableAll ds = true ∧ PyData.depthAll ds ≤ 1 := by
  induction f with
  | nil => exact ⟨by simp [PyData.showableAll], by simp [PyData.depthAll]⟩
  | cons f1 _ ih =>
    have h1 := f1.show
    exact ⟨by simp [PyData.showableAll, h1.1, ih.1], by
      have h2 := h1.2
      have h3 := ih.2
      simp only [PyData.depthAll]
      omega⟩
theorem rep_reads {h : Heap} {u : V} {d : PyData} {as : List Addr} (f : ∀ w, RelV u w → Reads h w d as) : ∀ (n : Nat) {us : List Value}, Vals (List.replicate n u) us → ∃ bs, ReadsAll h us (List.replicate n d) bs ∧ ∀ b ∈ bs, b ∈ as
  | 0, us, r => by
    cases r
    exact ⟨[], .nil, fun b z => nomatch z⟩
  | n + 1, us, r => by
    rw [List.replicate_succ] at r
    cases r with
    | cons r1 r2 =>
      obtain ⟨bs, h1, h2⟩ := rep_reads f n r2
      rw [List.replicate_succ]
      refine ⟨as ++ bs, .cons (f _ r1) h1, fun b z => ?_⟩
      rcases List.mem_append.mp z with z | z
      · exact z
      · exact h2 b z
theorem rep_show {d : PyData} (h : d.showable = true) : ∀ n : Nat, PyData.showableAll (List.replicate n d) = true ∧ PyData.depthAll (List.replicate n d) ≤ d.depth
  | 0 => ⟨by simp [PyData.showableAll], by simp [PyData.depthAll]⟩
  | n + 1 => by
    have ih := rep_show h n
    rw [List.replicate_succ]
    exact ⟨by simp [PyData.showableAll, h, ih.1], by
      have h3 := ih.2
      simp only [PyData.depthAll]
      omega⟩
theorem rep_len (d : PyData) : ∀ n : Nat, ((PyData.shownAll (List.replicate n d)).map (·.length)).sum = n * d.shown.length ∧ (PyData.shownAll (List.replicate n d)).length = n
  | 0 => by simp [PyData.shownAll]
  | n + 1 => by
    have ih := rep_len d n
    rw [List.replicate_succ]
    simp only [PyData.shownAll, List.map_cons, List.sum_cons, List.length_cons]
    rw [ih.1, ih.2, Nat.succ_mul]
    exact ⟨Nat.add_comm _ _, rfl⟩
theorem kvs_show : ∀ {ks : List Str} {ds : List PyData}, PyData.showableAll ds = true → PyData.depthAll ds ≤ 1 → PyData.showableKv ((ks.map PyData.str).zip ds) = true ∧ PyData.depthKv ((ks.map PyData.str).zip ds) ≤ 1
  | [], ds, _, _ => by simp [PyData.showableKv, PyData.depthKv]
  | k :: ks, [], _, _ => by simp [PyData.showableKv, PyData.depthKv]
  | k :: ks, d :: ds, h1, h2 => by
    simp only [PyData.showableAll, Bool.and_eq_true] at h1
    simp only [PyData.depthAll] at h2
    have ih := kvs_show (ks := ks) h1.2 (by omega)
    simp only [List.map_cons, List.zip_cons_cons]
    refine ⟨by simp [PyData.showableKv, PyData.showable, h1.1, ih.1], ?_⟩
    have h3 := ih.2
    simp only [PyData.depthKv, PyData.depth]
    omega
theorem Thing.show {H : Hp} {v : V} {d : PyData} (t : Thing H v d) : d.showable = true ∧ d.depth ≤ 4 := by
  cases t with
  | flat h => exact ⟨h.show.1, Nat.le_trans h.show.2 (by decide)⟩
  | lst e h =>
    have z := h.show
    exact ⟨by simpa [PyData.showable] using z.1, by
      have z2 := z.2
      simp only [PyData.depth]
      omega⟩
  | tup e h =>
    have z := h.show
    exact ⟨by simpa [PyData.showable] using z.1, by
      have z2 := z.2
      simp only [PyData.depth]
      omega⟩
  | @dct a ks xs ds e l h =>
    have z := kvs_show (ks := ks) h.show.1 h.show.2
    exact ⟨by simpa [PyData.showable] using z.1, by
      have z2 := z.2
      simp only [PyData.depth]
      omega⟩
/-- the dict of all modules is the text's own -/
def IsSys (K : PySem.W.Frag) : Prop := ∃ (o : Obj) (es : Array DictEntry) (n : Nat), K.lookup sysModules = some o ∧ o.data = .dict es n
section
variable {X : Cx} {pins : List (Addr × Obj)} {σ : L2.St} {H : Hp} {s : Shared}
theorem not_sys (S : IsSys X.K) (I : Inv X pins σ H s) {a : Addr} {o : Obj} {its : Array Value} {n : Nat} (e : s.heap.get? a = some o) (d : o.data = .seq its n) : a ≠ sysModules := fun z => by
  obtain ⟨o2, es, n2, hk, hd⟩ := S
  have e2 := I.kIn _ _ hk
  rw [z, e2] at e
  cases e
  rw [hd] at d
  cases d
theorem pairs_reads {h : Heap} : ∀ {ks : List Str} {xs : List V} {ds : List PyData} {vs : List (Key × Value)} {es : List DictEntry}, KV ((ks.map Sum.inr).zip xs) vs → Pairs (mixKind X.prog X.w) es vs → ks.length = xs.length → Flats xs ds →
    ReadsAll h (es.map (·.key)) (((ks.map PyData.str).zip ds).map (·.1)) [] ∧ ReadsAll h (es.map (·.val)) (((ks.map PyData.str).zip ds).map (·.2)) []
  | [], [], _, vs, es, r, p, _, f => by
    cases f
    cases r
    cases p
    exact ⟨.nil, .nil⟩
  | k :: ks, x :: xs, _, vs, es, r, p, l, f => by
    cases f with
    | cons f1 f2 =>
      cases r with
      | cons r1 r2 =>
        cases p with
        | @cons e kv es' kvs' p1 p2 p3 =>
          obtain ⟨q1, q2⟩ := r1
          have ih := pairs_reads (h := h) r2 p3 (by simpa using l) f2
          have hk : keyIs (Sum.inr k) e.key = true := by
            have z : (mixKind X.prog X.w).is _ e.key = true := p1
            rw [← q1] at z
            exact z
          rcases keyIs_shape hk with ⟨i, t, z, _⟩ | ⟨y, t, z, w⟩
          · cases z
          · cases z
            refine ⟨ReadsAll.cons (as := []) (bs := []) ?_ ih.1, ReadsAll.cons (as := []) (bs := []) ?_ ih.2⟩
            · show Reads h e.key (PyData.str k) []
              rw [w]
              exact .str _ _
            · show Reads h e.val _ []
              rw [p2]
              exact f1.reads q2
theorem Thing.reads (S : IsSys X.K) (I : Inv X pins σ H s) {v : V} {d : PyData} (t : Thing H v d) : ∃ as : List Addr, (∀ u, RelV v u → Reads s.heap u d as) ∧ sysModules ∉ as := by
  cases t with
  | flat h => exact ⟨[], fun u r => h.reads r, fun z => nomatch z⟩
  | @lst a xs ds e h =>
    obtain ⟨_, its, n, rv, ho⟩ := (show ObjOk X.prog X.w H s.heap a (.lst xs) from I.hok a _ e)
    have ne := not_sys S I ho rfl
    refine ⟨[a], fun u r => ?_, fun z => ne (List.mem_singleton.mp z).symm⟩
    cases (show u = Value.ref a from r)
    exact Reads.list ho rfl rfl (by simpa using h.reads rv)
  | @tup a xs ds e h =>
    obtain ⟨_, its, rv, o, ho, hc, n, hd⟩ := (show ObjOk X.prog X.w H s.heap a (.tup xs) from I.hok a _ e)
    refine ⟨[], fun u r => ?_, fun z => nomatch z⟩
    cases (show u = Value.ref a from r)
    exact Reads.tuple ho hc hd (by simpa using h.reads rv)
  | @dct a ks xs ds e l h =>
    obtain ⟨_, ns, vs, kv, o, es, ep, ho, hx, hd, _, hp, _⟩ := (show ObjOk X.prog X.w H s.heap a (.dK _) from I.hok a _ e)
    have ne : a ≠ sysModules := beq_eq_false_iff_ne.mp ns
    have z := pairs_reads (h := s.heap) kv hp l h
    refine ⟨[a], fun u r => ?_, fun z => ne (List.mem_singleton.mp z).symm⟩
    cases (show u = Value.ref a from r)
    exact Reads.dict (as := []) (bs := []) ho hx.1 hd z.1 z.2
/-- repr of n times one thing -/
def rShw : List V → Hp → VK → Prop := fun xs H Q => ∃ (p : Addr) (n : Nat) (v : V) (d : PyData), xs = [.ref p] ∧ H p = some (.lst (List.replicate n v)) ∧ Thing H v d ∧ n ≤ 1000 ∧ d.shown.length ≤ 1000 ∧ Q (.str (PyData.shown (.list (List.replicate n d)))) H
theorem call_rep (S : IsSys X.K) (hg : X.A.guards = some []) (hu : X.A.units + 64 < cLine) : CallR X (.builtin "repr") rShw := by
  intro pins s σ H xs us Q I r h
  obtain ⟨p, n, v, d, rfl, e, t, hn, hd, q⟩ := h
  cases r with
  | cons rp rr =>
    cases rr
    rename_i u
    obtain rfl : u = Value.ref p := rp
    obtain ⟨_, its, m, rv, ho⟩ := (show ObjOk X.prog X.w H s.heap p (.lst _) from I.hok p _ e)
    have ne := not_sys S I ho rfl
    obtain ⟨as, f, nas⟩ := t.reads S I
    obtain ⟨bs, hr, sub⟩ := rep_reads f n rv
    have hsh := rep_show t.show.1 n
    have rd : Reads s.heap (.ref p) (.list (List.replicate n d)) (p :: bs) := Reads.list ho rfl rfl (by simpa using hr)
    have dp := t.show.2
    have hl := rep_len d n
    have size : (PyData.shown (.list (List.replicate n d))).length ≤ sizeLine := by
      have z := listText_len_le (PyData.shownAll (List.replicate n d))
      rw [hl.1, hl.2] at z
      have m1 : n * d.shown.length ≤ 1000 * 1000 := Nat.mul_le_mul hn hd
      simp only [PyData.shown]
      rw [sizeLine_eq]
      omega
    refine repr_of_reads' rd (by simpa [PyData.showable] using hsh.1) (fun _ z => ?_) hg ?_ (fun _ _ z => z) (fun h' u tk k => ⟨.str _, H, ?_, ⟨u, rfl⟩, q⟩) size
    · rcases List.mem_cons.mp z with z | z
      · exact ne z.symm
      · exact nas (sub _ z)
    · have z := hsh.2
      simp only [PyData.depth]
      omega
    · exact I.kept (t' := tk) k
end
end Er
set_option Elab.async false
set_option linter.all false
set_option maxRecDepth 100000
set_option maxHeartbeats 4000000
namespace Dk
open PySem PySem.Spec PyProof.Rows L2 Er
def top (i : Nat) : Stmt := PySem.Challenge.pw_lateeditions_k07_sure_rows.main.body.getD i (.Pass ⟨0, 0, 0, 0⟩)
abbrev FnP (K : PySem.W.Frag) (x : Str) (st : Stmt) (f : Addr) (fd : FuncData) : Prop := FunD K x x (defArgs st) (defBody st) (defScope st) [] [] f fd
/-! ### numbers -/
theorem bits_lt {z : Int} {n : Nat} (h : Builtin.Int.intBits z ≤ n) : z.natAbs < 2 ^ n := by
  unfold Builtin.Int.intBits at h
  split at h
  · rename_i e
    have e2 : z = 0 := by simpa using e
    rw [e2]
    exact Nat.pow_pos (by decide)
  · exact Nat.lt_of_lt_of_le (Nat.lt_log2_self) (Nat.pow_le_pow_right (by decide) h)
theorem bits_le {z : Int} {n : Nat} (h : z.natAbs < 2 ^ n) : Builtin.Int.intBits z ≤ n := by
  unfold Builtin.Int.intBits
  split
  · exact Nat.zero_le _
  · rename_i e
    have e2 : z.natAbs ≠ 0 := by
      intro q
      have q2 : z = 0 := by omega
      rw [q2] at e
      exact e rfl
    exact (Nat.log2_lt e2).mpr h
theorem bits_sum {m e : Int} {n : Nat} (hm : m.natAbs < 2 ^ 49) (hn : 49 ≤ n) (he : Builtin.Int.intBits e ≤ n) : Builtin.Int.intBits (m + e) ≤ n + 1 := by
  have h1 := bits_lt he
  have h2 : 2 ^ 49 ≤ 2 ^ n := Nat.pow_le_pow_right (by decide) hn
  refine bits_le ?_
  rw [Nat.pow_succ]
  generalize 2 ^ n = P at *
  omega
theorem pow_ok {m e : Int} (hm : 0 ≤ m) (hm2 : m < 2 ^ 32) (he : Builtin.Int.intBits e ≤ 1048576) : CPw (m * 70001 + e) 3 := by
  have h := bits_sum (m := m * 70001) (e := e) (n := 1048576) (by omega) (by omega) he
  refine ⟨by decide, ?_⟩
  have h2 : (2 : Int) ^ 27 = 134217728 := by decide
  rw [h2]
  omega
section
variable {P : Program} {w : World} {K : PySem.W.Frag} {mg : Str → Option Value} {base : Heap} {f : Addr} {fd : FuncData}
theorem pe_i {X : Cx} {e : Expr} {te : TE} {p pos : Pos} (he : PE X e te) (hm : X.mg "int" = none) (hg : Gl X "int" := by rfl) (hs : starEach [e] X.env = (false, eval e X.env) :: starEach [] X.env := by rfl) : PE X (.Call (.Name "int" p) [e] [] pos) (tCB (fun xs H Q => (∃ i, xs = [.int i] ∧ Q (.int i) H) ∨ ∃ k, xs = [.bl k] ∧ Q (.int (if k then 1 else 0)) H) (tCons te tNil)) :=
  pe_callTy call_int1 hg hm PyProof.Rows.boot_int (pa_cons he pa_nil hs) (he := hs)
/-! ### _law_source -/
def spSrc (K : PySem.W.Frag) : Sp := fun vs H Q _ => ∃ (a : Addr) (ns : List Int) (st : Nat), vs = [.ref a, .int st] ∧ SqL K H a (ns.map V.int) ∧ ns.length ≤ 63 ∧ st ≤ 3 ∧ (∀ z ∈ ns, Builtin.Int.intBits z ≤ 1048576) ∧
  ∀ (p : Addr) (own mix : Int), H p = none → 0 ≤ own → 0 ≤ mix → mix < 2 ^ 32 → Q (.ref p) (upd H p (.lst [.int own, .int mix]))
abbrev nSrc : List Str := ["_law_script", "_law_start", "_law_mixed_here", "_law_cell", "_law_own"]
theorem scSrc : FnScope nSrc ["_law_script", "_law_start"] (defScope (top 37)) := ⟨rfl, rfl, rfl, by decide +kernel, rfl, by decide +kernel, by decide +kernel⟩
theorem ok_src (F : FnP K "_law_source" (top 37) f fd) (mi : mg "int" = none) (ml : mg "len" = none) : FnOk P w K mg base CX0 1 f fd ["_law_script", "_law_start"] (spSrc K) := by
  refine F.ok (CX := CX0) scSrc (fun vs H Q E h => ?_) (fun cdv A outer s H vs Q E hr h => ?_)
  · obtain ⟨a, ns, st, rfl, _⟩ := h
    rfl
  · refine ⟨_, PSs.nox (pss_cons (ps_set (i := 2) scSrc.nd rfl (.inl rfl) (pe_op op_add pe_int (pv 1)))
      (pss_cons (ps_for PassesOwn.never rfl (pi_list (pv 0)) (pg_name (i := 3) scSrc.nd rfl (.inl rfl))
        (pss_one (ps_set (i := 2) scSrc.nd rfl (.inl rfl) (pe_op op_add (pe_op op_mod (pe_i (pe_op op_powB (pe_i (pe_op op_add (pe_op op_mul (pv 2) pe_int) (pe_i (pv 3) mi)) mi) pe_int) mi) pe_int) pe_int))))
      (pss_cons (ps_set (i := 4) scSrc.nd rfl (.inl rfl) pe_int)
      (pss_cons (ps_if (PW.pt (pw_and (pt_cmpR op_lt (pv 1) (pe_callB call_len rfl ml boot_len (pa_cons (pv 0) pa_nil)) (nomark _))
          (pw_and1 (pt_cmpR op_ge (pe_ix ix_list (pv 0) (pv 1) (fun _ _ => rfl)) (pe_op op_pow pe_int pe_int) (nomark _)))))
        (pss_one (ps_set (i := 4) scSrc.nd rfl (.inl rfl) (pe_op op_sub (pe_ix ix_list (pv 0) (pv 1) (fun _ _ => rfl)) (pe_op op_pow pe_int pe_int)))) pss_nil)
      (pss_one (ps_ret (pe_lst (pa_cons (pv 4) (pa_cons (pv 2) pa_nil))))))))), ?_⟩
    obtain ⟨a, ns, st, rfl, hS, hl, hst, hb, q⟩ := h
    refine ⟨_, rfl, _, _, rfl, rfl, _, rfl, a, rfl, ⟨_, hS⟩, for_list (K := K) (a := a) (xs := ns.map V.int) (fun i σ H' => ∃ (m : Int) (v : Option V), σ = [some (.ref a), some (.int st), some (.int m), v, none] ∧ 0 ≤ m ∧ m < 2 ^ 32 ∧ H' = H) ?_ ?_ ?_ ?_⟩
    · exact ⟨91 + st, none, rfl, by omega, by omega, rfl⟩
    · rintro i σ H' _ ⟨m, v, rfl, h0, h1, rfl⟩
      exact hS
    · rintro i y σ H' hi ⟨m, v, rfl, h0, h1, rfl⟩
      obtain ⟨z, hz, rfl⟩ : ∃ z, z ∈ ns ∧ y = V.int z := by
        rw [List.getElem?_map] at hi
        cases e : ns[i]? with
        | none =>
          rw [e] at hi
          cases hi
        | some z =>
          rw [e] at hi
          exact ⟨z, List.mem_of_getElem? e, (Option.some.inj hi).symm⟩
      refine ⟨_, rfl, _, _, rfl, rfl, .inl ⟨by omega, by omega⟩, _, rfl, .inl ⟨_, rfl, _, _, rfl, rfl, .inl ⟨_, rfl, _, _, rfl, rfl, pow_ok h0 h1 (hb z hz), .inl ⟨_, rfl, _, _, rfl, rfl, by show (0 : Int) < 2147483563; decide, _, _, rfl, rfl, ?_⟩⟩⟩⟩
      refine ⟨_, some (.int z), rfl, ?_, ?_, rfl⟩
      · have := Int.emod_nonneg ((m * 70001 + z) ^ (3 : Int).toNat) (show (2147483563 : Int) ≠ 0 by decide)
        omega
      · have := Int.emod_lt_of_pos ((m * 70001 + z) ^ (3 : Int).toNat) (show (0 : Int) < 2147483563 by decide)
        omega
    · rintro σ H' ⟨m, v, rfl, h0, h1, rfl⟩
      refine ⟨_, rfl, _, rfl, _, _, rfl, .inl ⟨_, hS, rfl⟩, _, _, rfl, rfl, _, rfl, ?_⟩
      have fin : ∀ own : Int, 0 ≤ own → ∀ p : Addr, H' p = none → Q (.ref p) (upd H' p (.lst [.int own, .int m])) := fun own ho p hp => q p own m hp ho h0 h1
      have last : ∀ own : Int, 0 ≤ own → (tRet (tLst (tCons (tVar 4) (tCons (tVar 2) tNil)))) { nx := fun _ H' => Q .non H', rt := Q } [some (.ref a), some (.int st), some (.int m), v, some (.int own)] H' := fun own ho =>
        ⟨_, rfl, _, rfl, (by show 2 ≤ sizeLine; decide), fin own ho⟩
      by_cases c : (st : Int) < ((ns.map V.int).length : Nat)
      · rw [decide_eq_true c]
        refine iteT ?_
        have cl : st < ns.length := by
          rw [List.length_map] at c
          omega
        have at_ : atI (ns.map V.int) (st : Int) = some (.int ns[st]) := atI_nat (by
          rw [List.getElem?_map, List.getElem?_eq_getElem cl]
          rfl)
        refine ⟨_, rfl, _, rfl, _, _, _, _, rfl, rfl, hS, at_, _, _, rfl, rfl, ⟨by decide, by decide, by decide⟩, _, _, rfl, rfl, _, rfl, ?_⟩
        by_cases g : (10 : Int) ^ (18 : Int).toNat ≤ ns[st]
        · rw [decide_eq_true g]
          refine iteT ?_
          refine ⟨_, rfl, _, rfl, _, _, _, _, rfl, rfl, hS, at_, _, _, rfl, rfl, ⟨by decide, by decide, by decide⟩, _, _, rfl, rfl, ?_⟩
          exact last _ (by omega)
        · rw [decide_eq_false g]
          refine iteF ?_
          exact last 0 (by decide)
      · rw [decide_eq_false c]
        refine iteF ?_
        refine iteF ?_
        exact last 0 (by decide)
/-! ### _law_draw -/
def spDraw (K : PySem.W.Frag) : Sp := fun vs H Q _ => ∃ (p : Addr) (own mix : Int) (n : Nat), vs = [.ref p, .int n] ∧ H p = some (.lst [.int own, .int mix]) ∧ 0 < n ∧ n ≤ 1000 ∧ 0 ≤ own ∧ 0 ≤ mix ∧ mix < 2 ^ 32 ∧
  ∀ (k : Nat) (own' mix' : Int), k < n → 0 ≤ own' → 0 ≤ mix' → mix' < 2 ^ 32 → Q (.int k) (upd H p (.lst [.int own', .int mix']))
abbrev nDraw : List Str := ["_law_source_here", "_law_span", "_law_found"]
theorem scDraw : FnScope nDraw ["_law_source_here", "_law_span"] (defScope (top 38)) := ⟨rfl, rfl, rfl, by decide +kernel, rfl, by decide +kernel, by decide +kernel⟩
theorem modN {x : Int} {n : Nat} (h : 0 < n) : ∃ k : Nat, k < n ∧ x % (n : Int) = (k : Int) := by
  have h1 := Int.emod_nonneg x (show (n : Int) ≠ 0 by omega)
  have h2 := Int.emod_lt_of_pos x (show (0 : Int) < n by omega)
  exact ⟨(x % (n : Int)).toNat, by omega, by omega⟩
theorem ok_draw (F : FnP K "_law_draw" (top 38) f fd) (mi : mg "int" = none) : FnOk P w K mg base CX0 1 f fd ["_law_source_here", "_law_span"] (spDraw K) := by
  refine F.ok (CX := CX0) scDraw (fun vs H Q E h => ?_) (fun cdv A outer s H vs Q E hr h => ?_)
  · obtain ⟨p, own, mix, n, rfl, _⟩ := h
    rfl
  · refine ⟨_, PSs.nox (pss_cons (ps_if (pt_cmpR op_ge (pe_ix ix_list (pv 0) pe_int (fun _ _ => rfl)) (pv 1) (nomark _))
        (pss_cons (ps_set (i := 2) scDraw.nd rfl (.inl rfl) (pe_op op_mod (pe_i (pe_ix ix_list (pv 0) pe_int (fun _ _ => rfl)) mi) (pv 1)))
        (pss_cons (ps_asg (pe_op op_fdivN (pe_ix ix_list (pv 0) pe_int (fun _ _ => rfl)) (pv 1)) (pg_sub (pv 0) pe_int set_list))
        (pss_one (ps_ret (pv 2))))) pss_nil)
      (pss_cons (ps_asg (pe_op op_mod (pe_i (pe_op op_add (pe_op op_mul (pe_ix ix_list (pv 0) pe_int (fun _ _ => rfl)) pe_int) pe_int) mi) pe_int) (pg_sub (pv 0) pe_int set_list))
      (pss_one (ps_ret (pe_op op_mod (pe_i (pe_op op_fdivN (pe_op op_mod (pe_i (pe_op op_pow (pe_i (pe_ix ix_list (pv 0) pe_int (fun _ _ => rfl)) mi) pe_int) mi) pe_int) pe_int) mi) (pv 1)))))), ?_⟩
    obtain ⟨p, own, mix, n, rfl, hH, hn, hn2, ho, h0, h1, q⟩ := h
    have S : SqL K H p [.int own, .int mix] := .inl (.inl hH)
    have a0 : atI [V.int own, V.int mix] 0 = some (.int own) := atI_nat (j := 0) rfl
    have a1 : atI [V.int own, V.int mix] 1 = some (.int mix) := atI_nat (j := 1) rfl
    refine ⟨_, rfl, _, _, _, _, rfl, rfl, S, a0, _, rfl, _, _, rfl, rfl, _, rfl, ?_⟩
    by_cases c : (n : Int) ≤ own
    · rw [decide_eq_true c]
      refine iteT ?_
      obtain ⟨k, hk, ek⟩ := modN (x := own) hn
      refine ⟨_, rfl, _, _, _, _, rfl, rfl, S, a0, .inl ⟨_, rfl, _, rfl, _, _, rfl, rfl, by show (0 : Int) < n; omega, ?_⟩⟩
      refine ⟨_, rfl, _, _, _, _, rfl, rfl, S, a0, _, rfl, _, _, rfl, rfl, ⟨by omega, by omega⟩, _, rfl, _, _, _, 0, rfl, rfl, hH, rfl, ?_⟩
      refine ⟨_, rfl, ?_⟩
      show Q (.int (own % (n : Int))) (upd H p (.lst [.int (own.fdiv (n : Int)), .int mix]))
      rw [ek]
      refine q k _ mix hk ?_ h0 h1
      rw [Int.fdiv_eq_ediv_of_nonneg _ (by omega)]
      exact Int.ediv_nonneg ho (by omega)
    · rw [decide_eq_false c]
      refine iteF ?_
      have m0 := Int.emod_nonneg (mix * 48271 + 6113) (show (2147483647 : Int) ≠ 0 by decide)
      have m1 := Int.emod_lt_of_pos (mix * 48271 + 6113) (show (0 : Int) < 2147483647 by decide)
      refine ⟨_, rfl, _, _, _, _, rfl, rfl, S, a1, _, _, rfl, rfl, .inl ⟨by omega, by omega⟩, _, _, rfl, rfl, .inl ⟨_, rfl, _, _, rfl, rfl, by show (0 : Int) < 2147483647; decide, _, rfl, _, _, _, 1, rfl, rfl, hH, rfl, ?_⟩⟩
      have S2 : SqL K (upd H p (.lst [.int own, .int ((mix * 48271 + 6113) % 2147483647)])) p [.int own, .int ((mix * 48271 + 6113) % 2147483647)] := .inl (.inl upd_same)
      have b1 : atI [V.int own, V.int ((mix * 48271 + 6113) % 2147483647)] 1 = some (.int ((mix * 48271 + 6113) % 2147483647)) := atI_nat (j := 1) rfl
      refine ⟨_, rfl, _, _, _, _, rfl, rfl, S2, b1, .inl ⟨_, rfl, _, _, rfl, rfl, ⟨by decide, by decide, by omega⟩, .inl ⟨_, rfl, _, _, rfl, rfl, by show (0 : Int) < 1000000007; decide, _, _, rfl, rfl, ⟨by decide, by decide⟩, .inl ⟨_, rfl, _, rfl, _, _, rfl, rfl, by show (0 : Int) < n; omega, ?_⟩⟩⟩⟩
      obtain ⟨k, hk, ek⟩ := modN (x := (((mix * 48271 + 6113) % 2147483647) ^ (5 : Int).toNat % 1000000007).fdiv 29) hn
      show Q (.int ((((mix * 48271 + 6113) % 2147483647) ^ (5 : Int).toNat % 1000000007).fdiv 29 % (n : Int))) (upd H p (.lst [.int own, .int ((mix * 48271 + 6113) % 2147483647)]))
      rw [ek]
      exact q k own _ hk ho m0 (by omega)
end
end Dk
set_option Elab.async false
set_option linter.all false
set_option maxRecDepth 100000
set_option maxHeartbeats 4000000
namespace Dk
open PySem PySem.Spec PyProof.Rows L2 Er
/-! ### the source of draws -/
/-- at p: the numbers from which is drawn -/
def Src (H : Hp) (p : Addr) : Prop := ∃ own mix : Int, H p = some (.lst [.int own, .int mix]) ∧ 0 ≤ own ∧ 0 ≤ mix ∧ mix < 2 ^ 32
/-- all but p stands -/
def Sx (p : Addr) (H H' : Hp) : Prop := ∀ b o, b ≠ p → H b = some o → H' b = some o
theorem Sx.refl (p : Addr) (H : Hp) : Sx p H H := fun _ _ _ e => e
theorem Sx.trans {p : Addr} {H H1 H2 : Hp} (a : Sx p H H1) (b : Sx p H1 H2) : Sx p H H2 := fun c o n e => b c o n (a c o n e)
theorem Sx.of {p : Addr} {H H' : Hp} (m : Sm H H') : Sx p H H' := fun b o _ e => m b o e
theorem Sx.upd {p : Addr} {H : Hp} {o : HO} : Sx p H (upd H p o) := fun b u n e => by
  rw [upd_ne n]
  exact e
theorem Src.new {H : Hp} {p a : Addr} {o : HO} (h : Src H p) (n : H a = none) : Src (upd H a o) p := by
  obtain ⟨own, mix, e, r⟩ := h
  exact ⟨own, mix, Sm.new n _ _ e, r⟩
theorem Src.sm {H H' : Hp} {p : Addr} (h : Src H p) (m : Sm H H') : Src H' p := by
  obtain ⟨own, mix, e, r⟩ := h
  exact ⟨own, mix, m _ _ e, r⟩
theorem Src.ne {H : Hp} {p a : Addr} (h : Src H p) (n : H a = none) : a ≠ p := by
  obtain ⟨own, mix, e, r⟩ := h
  exact fun z => by
    rw [z, e] at n
    cases n
/-- the draw, told by its source -/
def spD : Sp := fun vs H Q _ => ∃ (p : Addr) (n : Nat), vs = [.ref p, .int n] ∧ Src H p ∧ 0 < n ∧ n ≤ 1000 ∧ ∀ (k : Nat) H', k < n → Sx p H H' → Src H' p → (∀ b, H b = none → H' b = none) → Q (.int k) H'
section
variable {P : Program} {w : World} {K : PySem.W.Frag} {mg : Str → Option Value} {base : Heap} {f fD fP fM fW fN : Addr} {fd dD dP dM dW dN : FuncData}
theorem ok_d (F : FnP K "_law_draw" (top 38) f fd) (mi : mg "int" = none) : FnOk P w K mg base CX0 1 f fd ["_law_source_here", "_law_span"] spD :=
  (ok_draw F mi).imp fun vs H Q E ⟨p, n, e, ⟨own, mix, h, h0, h1, h2⟩, n0, n1, q⟩ => ⟨p, own, mix, n, e, h, n0, n1, h0, h1, h2, fun k own' mix' hk w0 w1 w2 => q k _ hk Sx.upd ⟨own', mix', upd_same, w0, w1, w2⟩ fun b hb => by
    rw [upd_ne (fun z => by rw [z, h] at hb; cases hb)]
    exact hb⟩
theorem bD (F : FnP K "_law_draw" (top 38) fD dD) : Binds K dD ["_law_source_here", "_law_span"] [] := F.bindsN fun _ _ _ _ _ _ us hl => match us, hl with
  | [_, _], _ => rfl
/-! ### _law_pick -/
/-- of a list, or of a text -/
def spPick (K : PySem.W.Frag) : Sp := fun vs H Q _ => ∃ (p : Addr) (x : V), vs = [.ref p, x] ∧ Src H p ∧
  ((∃ (l : Addr) (xs : List V), x = .ref l ∧ l ≠ p ∧ SqL K H l xs ∧ 0 < xs.length ∧ xs.length ≤ 1000 ∧ ∀ (k : Nat) v H', xs[k]? = some v → Sx p H H' → Src H' p → (∀ b, H b = none → H' b = none) → Q v H') ∨
    (∃ z : Str, x = .str z ∧ 0 < z.length ∧ z.length ≤ 1000 ∧ ∀ (k : Nat) c H', z.cps.toList[k]? = some c → Sx p H H' → Src H' p → (∀ b, H b = none → H' b = none) → Q (.str ⟨#[c]⟩) H'))
abbrev nPick : List Str := ["_law_source_here", "_law_things"]
theorem scPick : FnScope nPick nPick (defScope (top 39)) := ⟨rfl, rfl, rfl, by decide +kernel, rfl, by decide +kernel, by decide +kernel⟩
theorem sq_sx {p l : Addr} {xs : List V} {H H' : Hp} (h : SqL K H l xs) (m : Sx p H H') (n : l ≠ p) : SqL K H' l xs := by
  rcases h with (e | ⟨o, e⟩) | k
  · exact .inl (.inl (m _ _ n e))
  · exact .inl (.inr ⟨o, m _ _ n e⟩)
  · exact .inr k
theorem ok_pick (F : FnP K "_law_pick" (top 39) f fd) (ml : mg "len" = none) (mi : mg "int" = none) (FD : FnP K "_law_draw" (top 38) fD dD) (gD : mg "_law_draw" = some (.ref fD)) : FnOk P w K mg base CX0 2 f fd nPick (spPick K) := by
  have GD : FnOk P w K mg base CX0 1 fD dD ["_law_source_here", "_law_span"] spD := ok_d FD mi
  refine F.ok (CX := CX0) scPick (fun vs H Q E h => ?_) (fun cdv A outer s H vs Q E hr h => ?_)
  · obtain ⟨p, x, rfl, _⟩ := h
    rfl
  · refine ⟨_, PSs.nox (pss_one (ps_ret (pe_ix ix_seq (pv 1) (by exact (pe_call GD hr rfl gD FD.kp (bD FD) .nil pass0 (pa_cons (pv 0) (pa_cons (pe_callB call_len rfl ml boot_len (pa_cons (pv 1) pa_nil)) pa_nil)))) (fun _ _ => rfl)))), ?_⟩
    obtain ⟨p, x, rfl, hs, h⟩ := h
    rcases h with ⟨l, xs, rfl, ne, sq, l0, l1, q⟩ | ⟨z, rfl, l0, l1, q⟩
    · refine ⟨_, rfl, _, rfl, _, rfl, _, _, rfl, .inl ⟨_, sq, rfl⟩, p, xs.length, rfl, hs, l0, l1, fun k H' hk m s2 fr => .inl ⟨l, xs, k, xs[k], rfl, rfl, sq_sx sq m ne, atI_nat (List.getElem?_eq_getElem hk), ?_⟩⟩
      exact q k _ H' (List.getElem?_eq_getElem hk) m s2 fr
    · have hz : z.length ≤ sizeLine := by
        rw [sizeLine_eq]
        omega
      refine ⟨_, rfl, _, rfl, _, rfl, _, _, rfl, ⟨hz, rfl⟩, p, z.length, rfl, hs, l0, l1, fun k H' hk m s2 fr => .inr (.inr ?_)⟩
      have hk2 : k < z.cps.toList.length := by
        have e : z.length = z.cps.size := rfl
        rw [e] at hk
        simpa using hk
      exact ⟨z, k, z.cps.toList[k], rfl, rfl, hz, atI_nat (List.getElem?_eq_getElem hk2), q k _ H' (List.getElem?_eq_getElem hk2) m s2 fr⟩
theorem bP (F : FnP K "_law_pick" (top 39) fP dP) : Binds K dP nPick [] := F.bindsN fun _ _ _ _ _ _ us hl => match us, hl with
  | [_, _], _ => rfl
end
end Dk
set_option Elab.async false
set_option linter.all false
set_option maxRecDepth 100000
set_option maxHeartbeats 4000000
namespace Dk
open PySem PySem.Spec PyProof.Rows L2 Er
/-! ### _law_mixed -/
/-- a number or a text -/
inductive Fl : V → PyData → Prop where
  | int (i : Int) : Fl (.int i) (.int i)
  | str (x : Str) (h : PyData.strOk x = true) : Fl (.str x) (.str x)
theorem fl_dp {K : PySem.W.Frag} {H : Hp} : ∀ {xs : List V}, (∀ x ∈ xs, ∃ d, Fl x d) → ∃ ds, DpAll K H xs ds ∧ PyData.canLayAll0 ds = true ∧ PyData.depthAll ds ≤ 1 ∧ ds.length = xs.length
  | [], _ => ⟨[], .nil, by simp [PyData.canLayAll0], by simp [PyData.depthAll], rfl⟩
  | x :: xs, h => by
    obtain ⟨d, hd⟩ := h x List.mem_cons_self
    obtain ⟨ds, h1, h2, h3, h4⟩ := fl_dp (K := K) (H := H) (xs := xs) fun y hy => h y (List.mem_cons_of_mem _ hy)
    cases hd with
    | int i => exact ⟨_, .cons (.int i) h1, by simp [PyData.canLayAll0, PyData.canLay0, h2], by simp only [PyData.depthAll, PyData.depth]; omega, by simp [h4]⟩
    | str z hz => exact ⟨_, .cons (.str z) h1, by simp [PyData.canLayAll0, PyData.canLay0, h2, hz], by simp only [PyData.depthAll, PyData.depth]; omega, by simp [h4]⟩
theorem shaped_of {ds : List PyData} (h1 : PyData.canLayAll0 ds = true) (h2 : PyData.depthAll ds ≤ 1) : SeqAt.shaped (.list ds) = true := by
  unfold SeqAt.shaped
  have c : (PyData.list ds).canLay0 = true := by simpa [PyData.canLay0] using h1
  rw [c, Bool.true_and]
  refine decide_eq_true ?_
  simp only [PyData.depth]
  omega
theorem eqv_nil (ds : List PyData) : PyData.eqv (.list ds) (.list []) = ds.isEmpty := by
  cases ds with
  | nil => simp [PyData.eqv, PyData.eqvAll]
  | cons d ds => simp [PyData.eqv, PyData.eqvAll]
def spMixed (K : PySem.W.Frag) : Sp := fun vs H Q _ => ∃ (p l : Addr) (xs : List V), vs = [.ref p, .ref l] ∧ Src H p ∧ SqL K H l xs ∧ xs.length ≤ 1000 ∧ (∀ x ∈ xs, ∃ d, Fl x d) ∧
  ∀ (q : Addr) (ys : List V) H', Sx p H H' → Src H' p → H q = none → H' q = some (.lst ys) → ys.Perm xs → Q (.ref q) H'
abbrev nMixed : List Str := ["_law_source_here", "_law_things", "_law_lot", "_law_found"]
theorem scMixed : FnScope nMixed ["_law_source_here", "_law_things"] (defScope (top 40)) := ⟨rfl, rfl, rfl, by decide +kernel, rfl, by decide +kernel, by decide +kernel⟩
theorem cons_erase {α : Type} : ∀ (l : List α) (i : Nat) (h : i < l.length), (l[i] :: l.eraseIdx i).Perm l
  | x :: l, 0, _ => .refl _
  | x :: l, i + 1, h => (List.Perm.swap x (l[i]'(by simpa using h)) (l.eraseIdx i)).trans ((cons_erase l i (by simpa using h)).cons x)
theorem pop_perm {acc rem : List V} {k : Nat} (h : k < rem.length) : (acc ++ [rem[k]] ++ rem.eraseIdx k).Perm (acc ++ rem) := by
  rw [List.append_assoc]
  exact List.Perm.append_left acc (cons_erase rem k h)
section
variable {P : Program} {w : World} {K : PySem.W.Frag} {mg : Str → Option Value} {base : Heap} {f fD : Addr} {fd dD : FuncData}
theorem ok_mixed (F : FnP K "_law_mixed" (top 40) f fd) (ml : mg "len" = none) (mi : mg "int" = none) (mt : mg "list" = none) (FD : FnP K "_law_draw" (top 38) fD dD) (gD : mg "_law_draw" = some (.ref fD)) :
    FnOk P w K mg base CX0 2 f fd ["_law_source_here", "_law_things"] (spMixed K) := by
  have GD : FnOk P w K mg base CX0 1 fD dD ["_law_source_here", "_law_span"] spD := ok_d FD mi
  refine F.ok (CX := CX0) scMixed (fun vs H Q E h => ?_) (fun cdv A outer s H vs Q E hr h => ?_)
  · obtain ⟨p, l, xs, rfl, _⟩ := h
    rfl
  · refine ⟨_, PSs.nox (pss_cons (ps_par (i := 2) (j := 3) rfl scMixed.nd rfl rfl (by decide) rfl rfl (pa_cons (pe_callTy call_list_of rfl mt PyProof.Rows.boot_list (pa_cons (pv 1) pa_nil)) (pa_cons (pe_lst pa_nil) pa_nil)) (by rfl))
      (pss_cons (ps_while PassesOwn.never (pt_cmpR (op_neD hr.units) (pv 2) (pe_lst pa_nil) (nomark _))
        (pss_one (ps_expr (pe_bm PySem.F.plainAttrs_list PySem.F.slot_list_append PySem.F.type_list_append mt_append (pv 3) (pa_cons (pe_bm PySem.F.plainAttrs_list PySem.F.slot_list_pop PySem.F.type_list_pop mt_popAt (pv 2)
          (pa_cons (by exact (pe_call GD hr rfl gD FD.kp (bD FD) .nil pass0 (pa_cons (pv 0) (pa_cons (pe_callB call_len rfl ml boot_len (pa_cons (pv 2) pa_nil)) pa_nil)))) pa_nil)) pa_nil)))))
      (pss_one (ps_ret (pv 3))))), ?_⟩
    obtain ⟨p, l, xs, rfl, hs, sq, hx, fl, q⟩ := h
    have sz : ∀ n : Nat, n ≤ 1000 → n ≤ sizeLine := fun n z => by
      rw [sizeLine_eq]
      omega
    refine ⟨_, rfl, l, xs, rfl, .inl sq, fun a1 n1 => ⟨sz _ (by decide), fun a2 n2 => ⟨_, _, rfl, ?_⟩⟩⟩
    have m1 : Sm H (upd H a1 (.lst xs)) := Sm.new n1
    have g1 : upd H a1 (.lst xs) a1 = some (.lst xs) := upd_same
    have m2 : Sm H (upd (upd H a1 (.lst xs)) a2 (.lst [])) := m1.trans (Sm.new n2)
    have e1 : upd (upd H a1 (.lst xs)) a2 (.lst []) a1 = some (.lst xs) := Sm.new n2 _ _ g1
    have e2 : upd (upd H a1 (.lst xs)) a2 (.lst []) a2 = some (.lst []) := upd_same
    have d12 : a1 ≠ a2 := ne_of_none g1 n2
    have p1 : a1 ≠ p := hs.ne n1
    have p2 : a2 ≠ p := (hs.new n1).ne n2
    have h2 : H a2 = none := by
      have z := n2
      rw [upd_ne (Ne.symm d12)] at z
      exact z
    have s2 := hs.sm m2
    generalize (upd (upd H a1 (.lst xs)) a2 (.lst [])) = G at m2 e1 e2 s2 ⊢
    refine while_by (fun σ H' => ∃ rem acc : List V, σ = [some (.ref p), some (.ref l), some (.ref a1), some (.ref a2)] ∧ Sx p H H' ∧ Src H' p ∧ H' a1 = some (.lst rem) ∧ H' a2 = some (.lst acc) ∧ (acc ++ rem).Perm xs)
      (fun _ H' => match H' a1 with
        | some (.lst rem) => rem.length
        | _ => 0) ⟨xs, [], rfl, Sx.of m2, s2, e1, e2, .refl _⟩ ?_ ?_
    · rintro σ H' ⟨rem, acc, rfl, m, src, f1, f2, pm⟩
      have flr : ∀ x ∈ rem, ∃ d, Fl x d := fun x hx => fl x (pm.subset (List.mem_append_right _ hx))
      have lr : acc.length + rem.length = xs.length := by
        rw [← List.length_append]
        exact pm.length_eq
      refine ⟨_, rfl, sz _ (by decide), fun e ne => ?_⟩
      have f1' := Sm.new (o := .lst []) ne _ _ f1
      have f2' := Sm.new (o := .lst []) ne _ _ f2
      have m' : Sx p H (upd H' e (.lst [])) := m.trans (Sx.of (Sm.new ne))
      have src' := src.new (o := .lst []) ne
      have e3 : upd H' e (.lst []) e = some (.lst []) := upd_same
      obtain ⟨ds, k1, k2, k3, k4⟩ := fl_dp (K := K) (H := upd H' e (.lst [])) flr
      have mu : (match (upd H' e (.lst [])) a1 with
        | some (.lst rem) => rem.length
        | _ => 0) = rem.length := by rw [f1']
      have mu0 : (match H' a1 with
        | some (.lst rem) => rem.length
        | _ => 0) = rem.length := by rw [f1]
      refine ⟨_, _, .lst (.inl (.inl f1')) k1, .lst (.inl (.inl e3)) .nil, shaped_of k2 k3, shaped_of (ds := []) (by simp [PyData.canLayAll0]) (by simp [PyData.depthAll]), _, rfl, ?_⟩
      rw [eqv_nil]
      cases rem with
      | nil =>
        have z : ds = [] := List.length_eq_zero_iff.mp k4
        rw [z]
        refine iteF ?_
        refine ⟨_, rfl, q a2 acc _ m' src' h2 f2' ?_⟩
        simpa using pm
      | cons x rem =>
        have z : ds.isEmpty = false := by
          cases ds with
          | nil => simp at k4
          | cons _ _ => rfl
        rw [z]
        refine iteT ?_
        generalize (upd H' e (.lst [])) = G2 at f1' f2' m' src' mu ⊢
        refine ⟨_, rfl, .inl ⟨rfl, _, .inl (.inl f2')⟩, _, rfl, .inl ⟨rfl, _, .inl (.inl f1')⟩, _, rfl, _, rfl, _, _, rfl, .inl ⟨_, .inl (.inl f1'), rfl⟩, p, _, rfl, src', ?_, ?_, fun k G3 hk x3 s3 fr => ?_⟩
        · simp
        · simp only [List.length_cons] at lr ⊢
          omega
        have g1 := x3 _ _ p1 f1'
        have g2 := x3 _ _ p2 f2'
        refine ⟨a1, _, k, k, (x :: rem)[k], rfl, rfl, g1, by omega, by omega, ?_, List.getElem?_eq_getElem hk, ?_⟩
        · exact seqIndex_of (by omega) (by omega)
        have x4 : Sx p H (upd G3 a1 (.lst ((x :: rem).eraseIdx k))) := fun b o nb e => by
          have z := m'.trans x3 b o nb e
          rw [upd_ne (fun w => by rw [w, n1] at e; cases e)]
          exact z
        have g3 : upd G3 a1 (.lst ((x :: rem).eraseIdx k)) a2 = some (.lst acc) := by
          rw [upd_ne (Ne.symm d12)]
          exact g2
        have s4 : Src (upd G3 a1 (.lst ((x :: rem).eraseIdx k))) p := by
          obtain ⟨own, mix, e, r⟩ := s3
          refine ⟨own, mix, ?_, r⟩
          rw [upd_ne (Ne.symm p1)]
          exact e
        refine ⟨a2, acc, _, rfl, rfl, g3, ?_, ?_⟩
        · rw [sizeLine_eq]
          omega
        refine ⟨⟨(x :: rem).eraseIdx k, acc ++ [(x :: rem)[k]], rfl, ?_, ?_, ?_, upd_same, (pop_perm hk).trans pm⟩, ?_⟩
        · intro b o nb e
          rw [upd_ne (fun w => by rw [w, h2] at e; cases e)]
          exact x4 b o nb e
        · obtain ⟨own, mix, e, r⟩ := s4
          refine ⟨own, mix, ?_, r⟩
          rw [upd_ne (Ne.symm p2)]
          exact e
        · rw [upd_ne d12, upd_same]
        · rw [upd_ne d12, upd_same, mu0]
          dsimp only
          rw [List.length_eraseIdx_of_lt hk]
          simp
    · rintro σ H' Q1 Q2 hq ⟨v, e, z, w⟩
      refine ⟨v, e, z, fun p hp => ?_⟩
      obtain ⟨d1, d2, k1, k2, k3, k4, k, ek, r⟩ := w p hp
      exact ⟨d1, d2, k1, k2, k3, k4, k, ek, hq _ _ r⟩
end
end Dk
set_option Elab.async false
set_option linter.all false
set_option maxRecDepth 100000
set_option maxHeartbeats 4000000
namespace Dk
open PySem PySem.Spec PyProof.Rows L2 Er
/-! ### _law_word, _law_names -/
/-- a name: one to eight letters a to z -/
def IsWord (z : Str) : Prop := 1 ≤ z.length ∧ z.length ≤ 8 ∧ ∀ c ∈ z.cps.toList, 97 ≤ c ∧ c ≤ 122
def wordB (z : Str) : Bool := decide (1 ≤ z.length) && (decide (z.length ≤ 8) && z.cps.toList.all fun c => decide (97 ≤ c) && decide (c ≤ 122))
theorem word_of {z : Str} (h : wordB z = true) : IsWord z := by
  unfold wordB at h
  simp only [Bool.and_eq_true, decide_eq_true_eq, List.all_eq_true] at h
  exact ⟨h.1, h.2.1, fun c hc => h.2.2 c hc⟩
theorem IsWord.ok {z : Str} (h : IsWord z) : PyData.strOk z = true := by
  unfold PyData.strOk
  rw [← Array.all_toList]
  refine List.all_eq_true.mpr fun c hc => decide_eq_true ?_
  have := (h.2.2 c hc).2
  omega
def spWord : Sp := fun vs H Q _ => ∃ p : Addr, vs = [.ref p] ∧ Src H p ∧ ∀ (z : Str) H', IsWord z → Sx p H H' → Src H' p → (∀ b, H b = none → H' b = none) → Q (.str z) H'
abbrev nWord : List Str := ["_law_source_here", "_law_word_here", "_law_turn"]
theorem scWord : FnScope nWord ["_law_source_here"] (defScope (top 41)) := ⟨rfl, rfl, rfl, by decide +kernel, rfl, by decide +kernel, by decide +kernel⟩
def abc : Str := "abcdefghijklmnopqrstuvwxyz"
theorem abc_ok : (abc.cps.toList.all fun c => decide (97 ≤ c) && decide (c ≤ 122)) = true := by decide +kernel
section
variable {P : Program} {w : World} {K : PySem.W.Frag} {mg : Str → Option Value} {base : Heap} {f fD fP fM fW : Addr} {fd dD dP dM dW : FuncData}
theorem ok_word (F : FnP K "_law_word" (top 41) f fd) (ml : mg "len" = none) (mi : mg "int" = none) (mr : mg "range" = none) (FD : FnP K "_law_draw" (top 38) fD dD) (gD : mg "_law_draw" = some (.ref fD))
    (FP : FnP K "_law_pick" (top 39) fP dP) (gP : mg "_law_pick" = some (.ref fP)) : FnOk P w K mg base CX0 3 f fd ["_law_source_here"] spWord := by
  have GD : FnOk P w K mg base CX0 1 fD dD ["_law_source_here", "_law_span"] spD := ok_d FD mi
  have GP : FnOk P w K mg base CX0 2 fP dP nPick (spPick K) := ok_pick FP ml mi FD gD
  refine F.ok (CX := CX0) scWord (fun vs H Q E h => ?_) (fun cdv A outer s H vs Q E hr h => ?_)
  · obtain ⟨p, rfl, _⟩ := h
    rfl
  · have hr1 := hr.mono (show 1 ≤ 2 by decide)
    refine ⟨_, PSs.nox (pss_cons (ps_set (i := 1) scWord.nd rfl (.inl rfl) pe_str)
      (pss_cons (ps_for PassesOwn.never rfl (pi_range1 rfl mr (pa_cons (pe_op op_add pe_int (by exact (pe_call GD hr1 rfl gD FD.kp (bD FD) .nil pass0 (pa_cons (pv 0) (pa_cons pe_int pa_nil))))) pa_nil)) (pg_name (i := 2) scWord.nd rfl (.inl rfl))
        (pss_one (ps_set (i := 1) scWord.nd rfl (.inl rfl) (pe_op op_add_str (pv 1) (by exact (pe_call GP hr rfl gP FP.kp (bP FP) .nil pass0 (pa_cons (pv 0) (pa_cons pe_str pa_nil))))))))
      (pss_one (ps_ret (pv 1))))), ?_⟩
    obtain ⟨p, rfl, hs, q⟩ := h
    refine ⟨_, rfl, p, 8, rfl, hs, by decide, by decide, fun k H1 hk m1 s1 fr1 => ⟨_, _, rfl, rfl, _, rfl, by omega, by omega, ?_⟩⟩
    have en : ((1 : Int) + ((k : Nat) : Int)).toNat = k + 1 := by omega
    rw [en]
    refine for_range (lo := 0) (n := k + 1) (fun i σ H' => ∃ (z : Str) (v : Option V), σ = [some (.ref p), some (.str z), v] ∧ z.length = i ∧ (∀ c ∈ z.cps.toList, 97 ≤ c ∧ c ≤ 122) ∧ Sx p H H' ∧ Src H' p ∧ ∀ b, H b = none → H' b = none) ?_ ?_ ?_
    · exact ⟨_, none, rfl, by decide +kernel, fun c hc => absurd hc (by decide +kernel +revert), m1, s1, fr1⟩
    · rintro i σ H' hi ⟨z, v, rfl, zl, zc, m, src, fr⟩
      refine ⟨_, rfl, _, rfl, p, .str abc, rfl, src, .inr ⟨abc, rfl, by decide +kernel, by decide +kernel, fun j c H2 hj m2 s2 fr2 => ⟨z, _, rfl, rfl, ?_, ?_⟩⟩⟩
      · rw [sizeLine_eq, zl]
        show i + 1 ≤ 16777216
        omega
      · refine ⟨_, _, rfl, ?_, ?_, m.trans m2, s2, fun b hb => fr2 b (fr b hb)⟩
        · rw [Str.length_append, zl]
          rfl
        · intro d hd
          rw [Str.cps_append, Array.toList_append] at hd
          rcases List.mem_append.mp hd with e | e
          · exact zc d e
          · have e2 : d = c := by simpa using e
            rw [e2]
            have y := List.all_eq_true.mp abc_ok c (List.mem_of_getElem? hj)
            simpa using y
    · rintro σ H' ⟨z, v, rfl, zl, zc, m, src, fr⟩
      exact ⟨_, rfl, q z H' ⟨by omega, by omega, zc⟩ m src fr⟩
theorem bW (F : FnP K "_law_word" (top 41) fW dW) : Binds K dW ["_law_source_here"] [] := F.bindsN fun _ _ _ _ _ _ us hl => match us, hl with
  | [_], _ => rfl
theorem bM (F : FnP K "_law_mixed" (top 40) fM dM) : Binds K dM ["_law_source_here", "_law_things"] [] := F.bindsN fun _ _ _ _ _ _ us hl => match us, hl with
  | [_, _], _ => rfl
end
theorem none_back {p : Addr} {H G : Hp} (m : Sx p H G) (s : Src G p) {r : Addr} (n : G r = none) : H r = none := by
  cases e : H r with
  | none => rfl
  | some o =>
    have z := m r o (s.ne n) e
    rw [n] at z
    cases z
theorem cut_to (xs : List V) (n : Nat) (h : n ≤ xs.length) : cutV xs none (some (n : Int)) = xs.take n := by
  unfold cutV
  rw [HT.sIx_none, HT.sIx_nat, show min n xs.length = n by omega]
  simp
theorem ix_n {n k : Nat} (h : k < n) : ixN n (k : Int) = some k := by
  unfold ixN
  rw [if_pos (by omega), if_pos (by omega)]
  simp
def spNames : Sp := fun vs H Q _ => ∃ (p : Addr) (n : Nat), vs = [.ref p, .int n] ∧ Src H p ∧ 1 ≤ n ∧ n ≤ 10 ∧
  ∀ (q : Addr) (ws : List Str) H', Sx p H H' → Src H' p → H q = none → H' q = some (.lst (ws.map V.str)) → ws.length = n → ws.Nodup → (∀ z ∈ ws, IsWord z) → Q (.ref q) H'
abbrev nNames : List Str := ["_law_source_here", "_law_many_here", "_law_some", "_law_word_here"]
theorem scNames : FnScope nNames ["_law_source_here", "_law_many_here"] (defScope (top 42)) := ⟨rfl, rfl, rfl, by decide +kernel, rfl, by decide +kernel, by decide +kernel⟩
def ten : List Str := ["a", "b", "ab", "carry", "on", "off", "press", "abcdefgh", "abcdefgi", "z"]
theorem ten_nd : ten.Nodup := by decide +kernel
theorem ten_ok : (ten.all wordB) = true := by decide +kernel
theorem strs_of : ∀ {ys : List V}, (∀ y ∈ ys, ∃ z, y = .str z) → ∃ ws : List Str, ys = ws.map V.str
  | [], _ => ⟨[], rfl⟩
  | y :: ys, h => by
    obtain ⟨z, e⟩ := h y List.mem_cons_self
    obtain ⟨ws, e2⟩ := strs_of (ys := ys) fun x hx => h x (List.mem_cons_of_mem _ hx)
    exact ⟨z :: ws, by rw [e, e2]; rfl⟩
theorem map_perm : ∀ {ws vs : List Str}, (ws.map V.str).Perm (vs.map V.str) → ws.Perm vs := fun {ws vs} h => by
  have z := h.map (fun v : V => match v with
    | .str x => x
    | _ => Str.empty)
  rw [List.map_map, List.map_map] at z
  have e : ((fun v : V => match v with
    | .str x => x
    | _ => Str.empty) ∘ V.str) = id := rfl
  rw [e, List.map_id, List.map_id] at z
  exact z
theorem nodup_set {α : Type} : ∀ {l : List α} {k : Nat} {x : α}, l.Nodup → x ∉ l → (l.set k x).Nodup
  | [], _, _, _, _ => by simp
  | a :: l, 0, x, h, hx => by
    have h2 := List.nodup_cons.mp h
    exact List.nodup_cons.mpr ⟨fun z => hx (List.mem_cons_of_mem _ z), h2.2⟩
  | a :: l, k + 1, x, h, hx => by
    have h2 := List.nodup_cons.mp h
    refine List.nodup_cons.mpr ⟨fun z => ?_, nodup_set h2.2 fun z => hx (List.mem_cons_of_mem _ z)⟩
    rcases List.mem_or_eq_of_mem_set z with e | e
    · exact h2.1 e
    · exact hx (by rw [e]; exact List.mem_cons_self)
theorem inV_str {x : Str} : ∀ {ws : List Str}, inV (.str x) (ws.map V.str) = false → x ∉ ws := fun {ws} h hx => by
  unfold inV at h
  have z := List.any_eq_false.mp h (.str x) (List.mem_map_of_mem hx)
  exact z (by simp [eqV])
theorem all_flat (ws : List Str) : (ws.map V.str).all flatV = true := by
  refine List.all_eq_true.mpr fun x hx => ?_
  obtain ⟨z, _, rfl⟩ := List.mem_map.mp hx
  rfl
section
variable {P : Program} {w : World} {K : PySem.W.Frag} {mg : Str → Option Value} {base : Heap} {f fD fP fM fW : Addr} {fd dD dP dM dW : FuncData}
theorem ok_names (F : FnP K "_law_names" (top 42) f fd) (ml : mg "len" = none) (mi : mg "int" = none) (mr : mg "range" = none) (mt : mg "list" = none) (FD : FnP K "_law_draw" (top 38) fD dD) (gD : mg "_law_draw" = some (.ref fD))
    (FP : FnP K "_law_pick" (top 39) fP dP) (gP : mg "_law_pick" = some (.ref fP)) (FM : FnP K "_law_mixed" (top 40) fM dM) (gM : mg "_law_mixed" = some (.ref fM)) (FW : FnP K "_law_word" (top 41) fW dW) (gW : mg "_law_word" = some (.ref fW)) :
    FnOk P w K mg base CX0 4 f fd ["_law_source_here", "_law_many_here"] spNames := by
  have GD : FnOk P w K mg base CX0 1 fD dD ["_law_source_here", "_law_span"] spD := ok_d FD mi
  have GM : FnOk P w K mg base CX0 2 fM dM ["_law_source_here", "_law_things"] (spMixed K) := ok_mixed FM ml mi mt FD gD
  have GW : FnOk P w K mg base CX0 3 fW dW ["_law_source_here"] spWord := ok_word FW ml mi mr FD gD FP gP
  refine F.ok (CX := CX0) scNames (fun vs H Q E h => ?_) (fun cdv A outer s H vs Q E hr h => ?_)
  · obtain ⟨p, n, rfl, _⟩ := h
    rfl
  · have hr1 := hr.mono (show 1 ≤ 3 by decide)
    have hr2 := hr.mono (show 2 ≤ 3 by decide)
    refine ⟨_, PSs.nox (pss_cons (ps_set (i := 2) scNames.nd rfl (.inl rfl) (by exact (pe_call GM hr2 rfl gM FM.kp (bM FM) .nil pass0 (pa_cons (pv 0) (pa_cons (pe_lst (pa_cons pe_str (pa_cons pe_str (pa_cons pe_str (pa_cons pe_str (pa_cons pe_str (pa_cons pe_str (pa_cons pe_str (pa_cons pe_str (pa_cons pe_str (pa_cons pe_str pa_nil))))))))))) pa_nil)))))
      (pss_cons (ps_set (i := 3) scNames.nd rfl (.inl rfl) (by exact (pe_call GW hr rfl gW FW.kp (bW FW) .nil pass0 (pa_cons (pv 0) pa_nil))))
      (pss_cons (ps_if (pt_cmpR op_notIn_seq (pv 3) (pv 2) rfl) (pss_one (ps_asg (pv 3) (pg_sub (pv 2) (by exact (pe_call GD hr1 rfl gD FD.kp (bD FD) .nil pass0 (pa_cons (pv 0) (pa_cons (pv 1) pa_nil)))) set_list))) pss_nil)
      (pss_one (ps_ret (pe_slice sl_list (pv 2) po_none (po_some (pv 1)))))))), ?_⟩
    obtain ⟨p, n, rfl, hs, n0, n1, q⟩ := h
    have sz : ∀ n : Nat, n ≤ 1000 → n ≤ sizeLine := fun n z => by
      rw [sizeLine_eq]
      omega
    refine ⟨_, rfl, sz _ (by decide), fun l nl => ⟨p, l, ten.map V.str, rfl, hs.new nl, .inl (.inl upd_same), by decide, fun x hx => ?_, fun q1 ys H1 m1 s1 nq1 e1 pm => ?_⟩⟩
    · obtain ⟨z, hz, rfl⟩ := List.mem_map.mp hx
      exact ⟨_, .str z (word_of (List.all_eq_true.mp ten_ok z hz)).ok⟩
    obtain ⟨ws, rfl⟩ := strs_of (ys := ys) fun y hy => by
      obtain ⟨z, _, e⟩ := List.mem_map.mp (pm.subset hy)
      exact ⟨z, e.symm⟩
    have pm := map_perm pm
    have wl : ws.length = 10 := pm.length_eq
    have wn : ws.Nodup := pm.symm.nodup ten_nd
    have ww : ∀ z ∈ ws, IsWord z := fun z hz => word_of (List.all_eq_true.mp ten_ok z (pm.subset hz))
    have m1 : Sx p H H1 := (Sx.of (Sm.new nl)).trans m1
    refine ⟨_, rfl, p, rfl, s1, fun z H2 hz m2 s2 fr2 => ?_⟩
    have qp : q1 ≠ p := (hs.new nl).ne nq1
    have hq1 : H q1 = none := none_back (Sx.of (Sm.new nl)) (hs.new nl) nq1
    have e2 := m2 _ _ qp e1
    have m2 := m1.trans m2
    have last : ∀ (vs : List Str) (G : Hp) (v3 : Option V), Sx p H G → Src G p → G q1 = some (.lst (vs.map V.str)) → vs.length = 10 → vs.Nodup → (∀ z ∈ vs, IsWord z) →
        (tRet (tSl (rSlL K) (tVar 2) tNoPart (tPart (tVar 1)))) { nx := fun _ H' => Q .non H', rt := Q } [some (.ref p), some (.int n), some (.ref q1), v3] G := fun vs G v3 m sG e l nd wd => by
      refine ⟨_, rfl, _, rfl, n, rfl, q1, vs.map V.str, rfl, .inl (.inl e), fun r nr => ?_⟩
      rw [cut_to _ _ (by rw [List.length_map, l]; exact n1), ← List.map_take]
      refine q r (vs.take n) _ (m.trans (Sx.of (Sm.new nr))) (sG.new nr) (none_back m sG nr) upd_same ?_ (nd.sublist (List.take_sublist _ _)) fun y hy => wd y (List.mem_of_mem_take hy)
      rw [List.length_take, l]
      omega
    refine ⟨_, rfl, _, rfl, q1, ws.map V.str, rfl, .inl (.inl (.inl e2)), rfl, all_flat ws, _, rfl, ?_⟩
    show if (!inV (.str z) (ws.map V.str)) = true then _ else _
    cases hi : inV (.str z) (ws.map V.str) with
    | true =>
      refine iteF ?_
      exact last ws H2 _ m2 s2 e2 wl wn ww
    | false =>
      refine iteT ?_
      refine ⟨_, rfl, _, rfl, _, rfl, _, rfl, p, n, rfl, s2, n0, by omega, fun k H3 hk m3 s3 fr3 => ?_⟩
      have e3 := m3 _ _ qp e2
      refine ⟨q1, ws.map V.str, k, k, rfl, rfl, e3, ix_n (by rw [List.length_map, wl]; omega), ?_⟩
      have x4 : Sx p H (upd H3 q1 (.lst ((ws.map V.str).set k (.str z)))) := fun b o nb e => by
        have y := m2.trans m3 b o nb e
        rw [upd_ne (fun w => by rw [w, hq1] at e; cases e)]
        exact y
      have s4 : Src (upd H3 q1 (.lst ((ws.map V.str).set k (.str z)))) p := by
        obtain ⟨own, mix, e, r⟩ := s3
        refine ⟨own, mix, ?_, r⟩
        rw [upd_ne (Ne.symm qp)]
        exact e
      refine last (ws.set k z) _ _ x4 s4 ?_ (by rw [List.length_set, wl]) (nodup_set wn (inV_str hi)) fun y hy => ?_
      · rw [upd_same, List.map_set]
      · rcases List.mem_or_eq_of_mem_set hy with e | e
        · exact ww y e
        · rw [e]
          exact hz
end
end Dk
set_option Elab.async false
set_option linter.all false
set_option maxRecDepth 100000
set_option maxHeartbeats 4000000
namespace Dk
open PySem PySem.Spec PyProof.Rows L2 Er
/-! ### _law_twins -/
/-- natural numbers as the program has them -/
def nats (ts : List Nat) : List V := ts.map fun t => V.int ((t : Nat) : Int)
theorem nats_len (ts : List Nat) : (nats ts).length = ts.length := List.length_map _
theorem nats_at {ts : List Nat} {j t : Nat} (h : ts[j]? = some t) : (nats ts)[j]? = some (.int (t : Nat)) := by
  unfold nats
  rw [List.getElem?_map, h]
  rfl
theorem nats_more (ts : List Nat) (t : Nat) : nats (ts ++ [t]) = nats ts ++ [.int (t : Nat)] := by
  unfold nats
  rw [List.map_append]
  rfl
def spTwins : Sp := fun vs H Q _ => ∃ (p : Addr) (n : Nat), vs = [.ref p, .int n] ∧ Src H p ∧ 1 ≤ n ∧ n ≤ 10 ∧
  ∀ (q : Addr) (ts : List Nat) H', Sx p H H' → Src H' p → H q = none → H' q = some (.lst (nats ts)) → ts.length = n → (∀ j t : Nat, ts[j]? = some t → t ≤ j) → Q (.ref q) H'
abbrev nTwins : List Str := ["_law_source_here", "_law_many_here", "_law_found", "_law_some", "_law_at"]
theorem scTwins : FnScope nTwins ["_law_source_here", "_law_many_here"] (defScope (top 43)) := ⟨rfl, rfl, rfl, by decide +kernel, rfl, by decide +kernel, by decide +kernel⟩
theorem up_ts {ts : List Nat} {t : Nat} (h : ∀ j u : Nat, ts[j]? = some u → u ≤ j) (ht : t ≤ ts.length) : ∀ j u : Nat, (ts ++ [t])[j]? = some u → u ≤ j := fun j u e => by
  by_cases c : j < ts.length
  · rw [List.getElem?_append_left c] at e
    exact h j u e
  · rw [List.getElem?_append_right (by omega)] at e
    have z : j - ts.length = 0 := by
      by_cases z : j - ts.length = 0
      · exact z
      · rw [List.getElem?_eq_none (by simp; omega)] at e
        cases e
    rw [z] at e
    have e2 : t = u := by simpa using e
    omega
section
variable {P : Program} {w : World} {K : PySem.W.Frag} {mg : Str → Option Value} {base : Heap} {f fD : Addr} {fd dD : FuncData}
theorem ok_twins (F : FnP K "_law_twins" (top 43) f fd) (mi : mg "int" = none) (mr : mg "range" = none) (FD : FnP K "_law_draw" (top 38) fD dD) (gD : mg "_law_draw" = some (.ref fD)) :
    FnOk P w K mg base CX0 2 f fd ["_law_source_here", "_law_many_here"] spTwins := by
  have GD : FnOk P w K mg base CX0 1 fD dD ["_law_source_here", "_law_span"] spD := ok_d FD mi
  refine F.ok (CX := CX0) scTwins (fun vs H Q E h => ?_) (fun cdv A outer s H vs Q E hr h => ?_)
  · obtain ⟨p, n, rfl, _⟩ := h
    rfl
  · refine ⟨_, PSs.nox (pss_cons (ps_par (i := 2) (j := 3) rfl scTwins.nd rfl rfl (by decide) rfl rfl (pa_cons (pe_lst pa_nil) (pa_cons (by exact (pe_call GD hr rfl gD FD.kp (bD FD) .nil pass0 (pa_cons (pv 0) (pa_cons pe_int pa_nil)))) pa_nil)) (by rfl))
      (pss_cons (ps_for PassesOwn.never rfl (pi_range1 rfl mr (pa_cons (pv 1) pa_nil)) (pg_name (i := 4) scTwins.nd rfl (.inl rfl))
        (pss_one (ps_if (PW.pt (pw_and (pt_cmpR op_gt (pv 4) pe_int (nomark _)) (pw_and (pt_cmpR op_eq (pv 3) pe_int (nomark _)) (pw_and1 (pt_cmpR op_gt (by exact (pe_call GD hr rfl gD FD.kp (bD FD) .nil pass0 (pa_cons (pv 0) (pa_cons pe_int pa_nil)))) pe_int (nomark _))))))
          (pss_one (ps_expr (pe_bm PySem.F.plainAttrs_list PySem.F.slot_list_append PySem.F.type_list_append mt_append (pv 2) (pa_cons (pe_ix ix_list (pv 2) (by exact (pe_call GD hr rfl gD FD.kp (bD FD) .nil pass0 (pa_cons (pv 0) (pa_cons (pv 4) pa_nil)))) (fun _ _ => rfl)) pa_nil))))
          (pss_one (ps_expr (pe_bm PySem.F.plainAttrs_list PySem.F.slot_list_append PySem.F.type_list_append mt_append (pv 2) (pa_cons (pv 4) pa_nil)))))))
      (pss_one (ps_ret (pv 2))))), ?_⟩
    obtain ⟨p, n, rfl, hs, n0, n1, q⟩ := h
    have sz : ∀ n : Nat, n ≤ 1000 → n ≤ sizeLine := fun n z => by
      rw [sizeLine_eq]
      omega
    refine ⟨sz _ (by decide), fun a na => ⟨_, rfl, p, 2, rfl, hs.new na, by decide, by decide, fun k0 H1 hk0 m1 s1 fr1 => ⟨_, _, rfl, ?_⟩⟩⟩
    have ap : a ≠ p := hs.ne na
    have e1 : H1 a = some (.lst (nats [])) := m1 _ _ ap upd_same
    have m1 : Sx p H H1 := (Sx.of (Sm.new na)).trans m1
    refine ⟨_, rfl, n, rfl, by omega, by omega, ?_⟩
    have en : (((n : Nat) : Int)).toNat = n := by omega
    rw [en]
    refine for_range (lo := 0) (n := n) (fun i σ H' => ∃ (ts : List Nat) (v : Option V), σ = [some (.ref p), some (.int n), some (.ref a), some (.int k0), v] ∧ ts.length = i ∧ (∀ j t : Nat, ts[j]? = some t → t ≤ j) ∧ H' a = some (.lst (nats ts)) ∧ Sx p H H' ∧ Src H' p) ?_ ?_ ?_
    · exact ⟨[], none, rfl, rfl, fun j t e => by simp at e, e1, m1, s1⟩
    · rintro i σ H' hi ⟨ts, v, rfl, tl, tu, e, m, src⟩
      have ez : (0 : Int) + ((i : Nat) : Int) = i := Int.zero_add _
      rw [ez]
      -- what is put behind the list
      have add : ∀ (D : Ends) (G : Hp) (t : Nat), Sx p H G → Src G p → G a = some (.lst (nats ts)) → t ≤ i → (∀ σ G', (∃ (ts : List Nat) (v : Option V), σ = [some (.ref p), some (.int n), some (.ref a), some (.int k0), v] ∧ ts.length = i + 1 ∧ (∀ j t : Nat, ts[j]? = some t → t ≤ j) ∧ G' a = some (.lst (nats ts)) ∧ Sx p H G' ∧ Src G' p) → D.nx σ G') →
          rAppend (.ref a) [.int (t : Nat)] G fun _ H1 => D.nx [some (.ref p), some (.int n), some (.ref a), some (.int k0), some (.int (i : Nat))] H1 := fun D G t mG sG eG ht fin => by
        refine ⟨a, nats ts, .int (t : Nat), rfl, rfl, eG, by rw [nats_len, sizeLine_eq]; omega, fin _ _ ⟨ts ++ [t], some (.int (i : Nat)), rfl, by rw [List.length_append, tl]; rfl, up_ts tu (by omega), ?_, ?_, ?_⟩⟩
        · rw [upd_same, nats_more]
        · intro b o nb eb
          rw [upd_ne (fun w => by rw [w, na] at eb; cases eb)]
          exact mG b o nb eb
        · obtain ⟨own, mix, ee, r⟩ := sG
          exact ⟨own, mix, by rw [upd_ne (Ne.symm ap)]; exact ee, r⟩
      have els : ∀ (D : Ends) (G : Hp), Sx p H G → Src G p → G a = some (.lst (nats ts)) → (∀ σ G', (∃ (ts : List Nat) (v : Option V), σ = [some (.ref p), some (.int n), some (.ref a), some (.int k0), v] ∧ ts.length = i + 1 ∧ (∀ j t : Nat, ts[j]? = some t → t ≤ j) ∧ G' a = some (.lst (nats ts)) ∧ Sx p H G' ∧ Src G' p) → D.nx σ G') →
          tDrop (tBM K "list" rAppend (tVar 2) (tCons (tVar 4) tNil)) D [some (.ref p), some (.int n), some (.ref a), some (.int k0), some (.int (i : Nat))] G := fun D G mG sG eG fin =>
        ⟨_, rfl, .inl ⟨rfl, _, .inl (.inl eG)⟩, _, rfl, add D G i mG sG eG (Nat.le_refl _) fin⟩
      refine ⟨_, rfl, _, _, rfl, rfl, _, rfl, ?_⟩
      by_cases c1 : (0 : Int) < (i : Nat)
      · rw [decide_eq_true c1]
        refine iteT ?_
        refine ⟨_, rfl, rfl, _, rfl, ?_⟩
        by_cases c2 : V.int ((k0 : Nat) : Int) = V.int 1
        · rw [decide_eq_true c2]
          refine iteT ?_
          refine ⟨_, rfl, p, 3, rfl, src, by decide, by decide, fun k H2 hk m2 s2 fr2 => ⟨_, _, rfl, rfl, _, rfl, ?_⟩⟩
          have e2 := m2 _ _ ap e
          have m2 := m.trans m2
          by_cases c3 : (0 : Int) < (k : Nat)
          · rw [decide_eq_true c3]
            refine iteT ?_
            refine ⟨_, rfl, .inl ⟨rfl, _, .inl (.inl e2)⟩, _, rfl, _, rfl, _, rfl, p, i, rfl, s2, by omega, by omega, fun j H3 hj m3 s3 fr3 => ?_⟩
            have e3 := m3 _ _ ap e2
            have hj2 : ts[j]? = some (ts[j]'(by omega)) := List.getElem?_eq_getElem _
            have hle := tu j _ hj2
            refine ⟨a, nats ts, j, .int ((ts[j]'(by omega) : Nat) : Int), rfl, rfl, .inl (.inl e3), atI_nat (nats_at hj2), ?_⟩
            exact add _ H3 _ (m2.trans m3) s3 e3 (by omega) fun _ _ z => z
          · rw [decide_eq_false c3]
            refine iteF ?_
            exact els _ H2 m2 s2 e2 fun _ _ z => z
        · rw [decide_eq_false c2]
          refine iteF ?_
          refine iteF ?_
          exact els _ H' m src e fun _ _ z => z
      · rw [decide_eq_false c1]
        refine iteF ?_
        refine iteF ?_
        exact els _ H' m src e fun _ _ z => z
    · rintro σ H' ⟨ts, v, rfl, tl, tu, e, m, src⟩
      exact ⟨_, rfl, q a ts H' m src na e tl tu⟩
end
end Dk
set_option Elab.async false
set_option linter.all false
set_option maxRecDepth 100000
set_option maxHeartbeats 4000000
namespace Dk
open PySem PySem.Spec PyProof.Rows L2 Er
/-! ### _law_leads -/
def spLeads : Sp := fun vs H Q _ => ∃ (p t : Addr) (ts : List Nat), vs = [.ref p, .ref t] ∧ Src H p ∧ t ≠ p ∧ H t = some (.lst (nats ts)) ∧ 1 ≤ ts.length ∧ ts.length ≤ 10 ∧ (∀ x ∈ ts, x < ts.length) ∧
  ∀ (q : Addr) (ls : List Nat) H', Sx p H H' → Src H' p → H q = none → H' q = some (.lst (nats ls)) → ls.length = ts.length → (∀ x ∈ ls, x < ts.length) → Q (.ref q) H'
abbrev nLeads : List Str := ["_law_source_here", "_law_twins_here", "_law_many_here", "_law_kind", "_law_to", "_law_found", "_law_some", "_law_at", "_law_first", "_law_aims", "_law_like", "_law_one"]
theorem scLeads : FnScope nLeads ["_law_source_here", "_law_twins_here"] (defScope (top 44)) := ⟨rfl, rfl, rfl, by decide +kernel, rfl, by decide +kernel, by decide +kernel⟩
theorem nats_of : ∀ {ys : List V} {n : Nat}, (∀ y ∈ ys, ∃ t : Nat, t < n ∧ y = .int (t : Nat)) → ∃ ms : List Nat, ys = nats ms ∧ ∀ x ∈ ms, x < n
  | [], _, _ => ⟨[], rfl, fun x hx => nomatch hx⟩
  | y :: ys, n, h => by
    obtain ⟨t, ht, e⟩ := h y List.mem_cons_self
    obtain ⟨ms, e2, h2⟩ := nats_of (ys := ys) (n := n) fun x hx => h x (List.mem_cons_of_mem _ hx)
    refine ⟨t :: ms, by rw [e, e2]; rfl, fun x hx => ?_⟩
    rcases List.mem_cons.mp hx with z | z
    · rw [z]
      exact ht
    · exact h2 x z
section
variable {P : Program} {w : World} {K : PySem.W.Frag} {mg : Str → Option Value} {base : Heap} {f fD fP fM : Addr} {fd dD dP dM : FuncData}
theorem ok_leads (F : FnP K "_law_leads" (top 44) f fd) (ml : mg "len" = none) (mi : mg "int" = none) (mr : mg "range" = none) (mt : mg "list" = none) (mx : mg "max" = none) (FD : FnP K "_law_draw" (top 38) fD dD) (gD : mg "_law_draw" = some (.ref fD))
    (FP : FnP K "_law_pick" (top 39) fP dP) (gP : mg "_law_pick" = some (.ref fP)) (FM : FnP K "_law_mixed" (top 40) fM dM) (gM : mg "_law_mixed" = some (.ref fM)) : FnOk P w K mg base CX0 3 f fd ["_law_source_here", "_law_twins_here"] spLeads := by
  have GD : FnOk P w K mg base CX0 1 fD dD ["_law_source_here", "_law_span"] spD := ok_d FD mi
  have GP : FnOk P w K mg base CX0 2 fP dP nPick (spPick K) := ok_pick FP ml mi FD gD
  have GM : FnOk P w K mg base CX0 2 fM dM ["_law_source_here", "_law_things"] (spMixed K) := ok_mixed FM ml mi mt FD gD
  refine F.ok (CX := CX0) scLeads (fun vs H Q E h => ?_) (fun cdv A outer s H vs Q E hr h => ?_)
  · obtain ⟨p, t, ts, rfl, _⟩ := h
    rfl
  · have hr1 := hr.mono (show 1 ≤ 2 by decide)
    refine ⟨_, PSs.nox (pss_cons (ps_asg (pe_tup (pa_cons (pe_callB call_len rfl ml boot_len (pa_cons (pv 1) pa_nil)) (pa_cons (by exact (pe_call GD hr1 rfl gD FD.kp (bD FD) .nil pass0 (pa_cons (pv 0) (pa_cons pe_int pa_nil)))) pa_nil))) (pg_tup rfl (pgs_cons (pg_name (i := 2) scLeads.nd rfl (.inl rfl)) (pgs_cons (pg_name (i := 3) scLeads.nd rfl (.inr rfl)) pgs_nil))))
      (pss_cons (ps_par (i := 4) (j := 5) rfl scLeads.nd rfl rfl (by decide) rfl rfl (pa_cons (by exact (pe_call GD hr1 rfl gD FD.kp (bD FD) .nil pass0 (pa_cons (pv 0) (pa_cons (pv 2) pa_nil)))) (pa_cons (pe_lst pa_nil) pa_nil)) (by rfl))
      (pss_cons (ps_set (i := 6) scLeads.nd rfl (.inl rfl) (by exact (pe_call GM hr rfl gM FM.kp (bM FM) .nil pass0 (pa_cons (pv 0) (pa_cons (pe_listRg rfl rfl mt (prg_1 rfl mr (pv 2))) pa_nil)))))
      (pss_cons (ps_for PassesOwn.never rfl (pi_range1 rfl mr (pa_cons (pv 2) pa_nil)) (pg_name (i := 7) scLeads.nd rfl (.inl rfl))
        (pss_cons (ps_set (i := 8) scLeads.nd rfl (.inl rfl) (pe_ix ix_list (pv 1) (pv 7) (fun _ _ => rfl)))
        (pss_cons (ps_set (i := 9) scLeads.nd rfl (.inr rfl) (pe_lst (pa_cons (pv 4) (pa_cons (pe_ix ix_list (pv 6) (pv 8) (fun _ _ => rfl)) (pa_cons (pe_callB (call_max2 rfl) rfl mx PyProof.Rows.boot_max (pa_cons (pv 8) (pa_cons (pv 4) pa_nil)))
          (pa_cons (pe_op op_mod (pe_op op_add (pv 8) pe_int) (pv 2)) (pa_cons (pe_ix ix_list (pv 6) (pe_op op_mod (pe_i (pe_op op_add (pe_op op_mul (pe_ix ix_list (pv 6) (pv 8) (fun _ _ => rfl)) pe_int) (pv 4)) mi) (pv 2)) (fun _ _ => rfl)) (pa_cons (pv 8) pa_nil))))))))
        (pss_cons (by exact (ps_setLc (i := 10) (own := [("_law_one", 11)]) (g := gName 11) (tt := tTest (tOp rEq (tOp (rIxL K) (tVar 1) (tVar 11)) (tOp (rIxL K) (tVar 1) (tOp (rIxL K) (tVar 9) (tVar 3))))) (te := tVar 11) (by rfl) scLeads.nd rfl rfl (sw_true rfl rfl rfl (by decide +kernel)) (pi_range1 rfl mr (pa_cons (pv 2) pa_nil))
          (blkOk_by (N := nLeads) (sc := defScope (top 44)) (by decide +kernel)) (fun _ _ _ _ _ => pg_name (i := 11) scLeads.nd rfl (Or.inl rfl)) (fun _ _ _ _ _ => pts_one (by exact (pt_cmpR op_eq (by exact (pe_ix ix_list (pv 1) (pv 11) (fun _ _ => rfl))) (by exact (pe_ix ix_list (pv 1) (by exact (pe_ix ix_list (pv 9) (pv 3) (fun _ _ => rfl))) (fun _ _ => rfl))) (nomark _)))) (fun _ _ _ _ _ => by exact (pv 11))))
        (pss_one (ps_expr (pe_bm PySem.F.plainAttrs_list PySem.F.slot_list_append PySem.F.type_list_append mt_append (pv 5) (pa_cons (by exact (pe_call GP hr rfl gP FP.kp (bP FP) .nil pass0 (pa_cons (pv 0) (pa_cons (pv 10) pa_nil)))) pa_nil))))))))
      (pss_one (ps_ret (pv 5))))))), ?_⟩
    obtain ⟨p, t, ts, rfl, hs, tp, ht, n0, n1, tl, q⟩ := h
    have sz : ∀ n : Nat, n ≤ 1000 → n ≤ sizeLine := fun n z => by
      rw [sizeLine_eq]
      omega
    refine ⟨_, rfl, _, _, rfl, .inl ⟨_, .inl (.inl ht), rfl⟩, _, rfl, p, 6, rfl, hs, by decide, by decide, fun kd H1 hkd m1 s1 fr1 => ⟨sz _ (by show (2 : Nat) ≤ 1000; decide), fun u nu => ⟨u, _, rfl, .inl (.inl upd_same), rfl, _, _, rfl, _, _, rfl, rfl, ?_⟩⟩⟩
    rw [nats_len]
    have m1 : Sx p H (upd H1 u (.tup [.int ((ts.length : Nat) : Int), .int ((kd : Nat) : Int)])) := m1.trans (Sx.of (Sm.new nu))
    have s1 := s1.new (o := .tup [.int ((ts.length : Nat) : Int), .int ((kd : Nat) : Int)]) nu
    generalize (upd H1 u (.tup [.int ((ts.length : Nat) : Int), .int ((kd : Nat) : Int)])) = G1 at m1 s1 ⊢
    clear fr1 nu
    refine ⟨_, rfl, _, rfl, p, ts.length, rfl, s1, n0, by omega, fun to H2 hto m2 s2 fr2 => ⟨sz _ (by decide), fun fo nfo => ⟨_, _, rfl, ?_⟩⟩⟩
    have m2 := m1.trans m2
    have fp : fo ≠ p := s2.ne nfo
    have fH : H fo = none := none_back m2 s2 nfo
    have m3 : Sx p H (upd H2 fo (.lst [])) := m2.trans (Sx.of (Sm.new nfo))
    have s3 := s2.new (o := .lst []) nfo
    have e3 : upd H2 fo (.lst []) fo = some (.lst (nats [])) := upd_same
    generalize (upd H2 fo (.lst [])) = G3 at m3 s3 e3 ⊢
    refine ⟨_, rfl, _, rfl, (ts.length : Nat), rfl, RgOk.of_le (by omega) (by omega) (by omega) (by omega), fun r nr => ⟨p, r, rgV 0 ((ts.length : Nat) : Int), rfl, s3.new nr, .inl (.inl upd_same), ?_, ?_, fun sm ys H4 m4 s4 nsm e4 pm => ?_⟩⟩
    · rw [rgV_length]
      omega
    · intro x hx
      obtain ⟨j, _, rfl⟩ := List.mem_map.mp hx
      exact ⟨_, .int _⟩
    have ylen : ys.length = ts.length := by
      rw [pm.length_eq, rgV_length]
      omega
    obtain ⟨ms, rfl, hms⟩ := nats_of (ys := ys) (n := ts.length) fun y hy => by
      obtain ⟨j, hj, e⟩ := List.mem_map.mp (pm.subset hy)
      have hj2 := List.mem_range.mp hj
      exact ⟨j, by omega, by rw [← e, Int.zero_add]⟩
    rw [nats_len] at ylen
    have m5 : Sx p (upd G3 r (.lst (rgV 0 ((ts.length : Nat) : Int)))) H4 := m4
    have m4 : Sx p H H4 := m3.trans ((Sx.of (Sm.new nr)).trans m4)
    have e5 : H4 fo = some (.lst (nats [])) := m5 _ _ fp (Sm.new nr _ _ e3)
    have smp : sm ≠ p := (s3.new nr).ne nsm
    have smf : sm ≠ fo := fun z => by
      have y := Sm.new (o := .lst (rgV 0 ((ts.length : Nat) : Int))) nr _ _ e3
      rw [← z, nsm] at y
      cases y
    clear m5 nsm
    refine ⟨_, rfl, _, rfl, by omega, by omega, ?_⟩
    have en : (((ts.length : Nat) : Int)).toNat = ts.length := by omega
    rw [en]
    refine for_range (lo := 0) (n := ts.length) (fun i σ H' => ∃ (ls : List Nat) (v7 v8 v9 v10 : Option V), σ = [some (.ref p), some (.ref t), some (.int (ts.length : Nat)), some (.int kd), some (.int to), some (.ref fo), some (.ref sm), v7, v8, v9, v10, none] ∧ ls.length = i ∧ (∀ x ∈ ls, x < ts.length) ∧
      H' fo = some (.lst (nats ls)) ∧ H' sm = some (.lst (nats ms)) ∧ Sx p H H' ∧ Src H' p) ?_ ?_ ?_
    · exact ⟨[], none, none, none, none, rfl, rfl, (fun x hx => nomatch hx), e5, e4, m4, s4⟩
    · rintro i σ H' hi ⟨ls, v7, v8, v9, v10, rfl, ll, lb, e, es, m, src⟩
      have ez : (0 : Int) + ((i : Nat) : Int) = i := Int.zero_add _
      rw [ez]
      have eT := m _ _ tp ht
      have ST : SqL K H' t (nats ts) := .inl (.inl eT)
      have SS : SqL K H' sm (nats ms) := .inl (.inl es)
      have ti : ts[i]? = some (ts[i]'(by omega)) := List.getElem?_eq_getElem _
      have fl : ts[i]'(by omega) < ts.length := tl _ (List.getElem_mem _)
      refine ⟨_, rfl, _, rfl, t, nats ts, i, .int ((ts[i]'(by omega) : Nat) : Int), rfl, rfl, ST, atI_nat (nats_at ti), ?_⟩
      generalize (ts[i]'(by omega)) = fi at fl
      have mf : ms[fi]? = some (ms[fi]'(by omega)) := List.getElem?_eq_getElem _
      have mb : ms[fi]'(by omega) < ts.length := hms _ (List.getElem_mem _)
      refine ⟨_, rfl, _, rfl, _, rfl, sm, nats ms, fi, .int ((ms[fi]'(by omega) : Nat) : Int), rfl, rfl, SS, atI_nat (nats_at mf), _, rfl, _, rfl, _, _, rfl, _, rfl, _, _, rfl, rfl, _, rfl, _, _, rfl, rfl, by show (0 : Int) < (ts.length : Nat); omega, ?_⟩
      refine ⟨_, rfl, _, rfl, _, rfl, sm, nats ms, fi, .int ((ms[fi]'(by omega) : Nat) : Int), rfl, rfl, SS, atI_nat (nats_at mf), _, _, rfl, rfl, .inl ⟨by omega, by omega⟩, _, rfl, _, _, rfl, rfl, .inl ⟨_, rfl, _, rfl, _, _, rfl, rfl, by show (0 : Int) < (ts.length : Nat); omega, ?_⟩⟩
      generalize (ms[fi]'(by omega)) = g at mb
      obtain ⟨k1, hk1, ek1⟩ := modN (x := ((g : Nat) : Int) * 3 + ((to : Nat) : Int)) (n := ts.length) (by omega)
      obtain ⟨k2, hk2, ek2⟩ := modN (x := ((fi : Nat) : Int) + 1) (n := ts.length) (by omega)
      have mk : ms[k1]? = some (ms[k1]'(by omega)) := List.getElem?_eq_getElem _
      have kb : ms[k1]'(by omega) < ts.length := hms _ (List.getElem_mem _)
      refine ⟨sm, nats ms, _, .int ((ms[k1]'(by omega) : Nat) : Int), rfl, rfl, SS, ?_, _, rfl, sz _ (by show (6 : Nat) ≤ 1000; decide), fun pa npa => ?_⟩
      · show atI (nats ms) ((((g : Nat) : Int) * 3 + ((to : Nat) : Int)) % ((ts.length : Nat) : Int)) = _
        rw [ek1]
        exact atI_nat (nats_at mk)
      generalize (ms[k1]'(by omega)) = h5 at kb
      have six : ([.int ((to : Nat) : Int), .int ((g : Nat) : Int), .int (if ((to : Nat) : Int) > ((fi : Nat) : Int) then ((to : Nat) : Int) else ((fi : Nat) : Int)), .int ((((fi : Nat) : Int) + 1) % ((ts.length : Nat) : Int)), .int ((h5 : Nat) : Int), .int ((fi : Nat) : Int)] : List V) =
          nats [to, g, if to > fi then to else fi, k2, h5, fi] := by
        rw [ek2]
        have z : (if ((to : Nat) : Int) > ((fi : Nat) : Int) then ((to : Nat) : Int) else ((fi : Nat) : Int)) = (((if to > fi then to else fi) : Nat) : Int) := by
          by_cases c : to > fi
          · rw [if_pos c, if_pos (by omega)]
          · rw [if_neg c, if_neg (by omega)]
        rw [z]
        rfl
      have sixb : ∀ x ∈ [to, g, if to > fi then to else fi, k2, h5, fi], x < ts.length := by
        intro x hx
        simp only [List.mem_cons, List.not_mem_nil, or_false] at hx
        rcases hx with rfl | rfl | rfl | rfl | rfl | rfl <;> first | assumption | (split <;> assumption)
      have six6 : [to, g, if to > fi then to else fi, k2, h5, fi].length = 6 := rfl
      have npa' := npa
      have ea : upd H' pa (.lst [.int ((to : Nat) : Int), .int ((g : Nat) : Int), .int (if ((to : Nat) : Int) > ((fi : Nat) : Int) then ((to : Nat) : Int) else ((fi : Nat) : Int)), .int ((((fi : Nat) : Int) + 1) % ((ts.length : Nat) : Int)), .int ((h5 : Nat) : Int), .int ((fi : Nat) : Int)]) pa = some (.lst (nats [to, g, if to > fi then to else fi, k2, h5, fi])) := by
        rw [upd_same, six]
      have sa := Sm.new (o := .lst [.int ((to : Nat) : Int), .int ((g : Nat) : Int), .int (if ((to : Nat) : Int) > ((fi : Nat) : Int) then ((to : Nat) : Int) else ((fi : Nat) : Int)), .int ((((fi : Nat) : Int) + 1) % ((ts.length : Nat) : Int)), .int ((h5 : Nat) : Int), .int ((fi : Nat) : Int)]) npa
      generalize (upd H' pa (.lst [.int ((to : Nat) : Int), .int ((g : Nat) : Int), .int (if ((to : Nat) : Int) > ((fi : Nat) : Int) then ((to : Nat) : Int) else ((fi : Nat) : Int)), .int ((((fi : Nat) : Int) + 1) % ((ts.length : Nat) : Int)), .int ((h5 : Nat) : Int), .int ((fi : Nat) : Int)])) = G at ea sa ⊢
      generalize [to, g, if to > fi then to else fi, k2, h5, fi] = aims at sixb six6 ea
      have eT := sa _ _ eT
      have ST : SqL K G t (nats ts) := .inl (.inl eT)
      have SA : SqL K G pa (nats aims) := .inl (.inl ea)
      have ck : aims[kd]? = some (aims[kd]'(by omega)) := List.getElem?_eq_getElem _
      have cb : aims[kd]'(by omega) < ts.length := sixb _ (List.getElem_mem _)
      generalize (aims[kd]'(by omega)) = c at ck cb
      have tc : ts[c]? = some (ts[c]'(by omega)) := List.getElem?_eq_getElem _
      have e := sa _ _ e
      have es := sa _ _ es
      have m := m.trans (Sx.of sa)
      have src := src.sm sa
      refine ⟨_, rfl, _, rfl, by omega, by omega, fun D nD => ?_⟩
      rw [en]
      refine lc_range (lo := 0) (n := ts.length) (fun j H2 => ∃ acc : List Nat, H2 D = some (.lst (nats acc)) ∧ (∀ x ∈ acc, x < ts.length) ∧ acc.length ≤ j ∧ (c < j → acc ≠ []) ∧ Sm G H2) ⟨[], upd_same, (fun x hx => nomatch hx), by simp, (fun z => by omega), Sm.new nD⟩ ?_ ?_
      · rintro j H2 hj ⟨acc, ed, ab, al, an, sg⟩
        have ez : (0 : Int) + ((j : Nat) : Int) = j := Int.zero_add _
        rw [ez]
        have tj : ts[j]? = some (ts[j]'(by omega)) := List.getElem?_eq_getElem _
        have ST2 : SqL K H2 t (nats ts) := .inl (.inl (sg _ _ eT))
        have SA2 : SqL K H2 pa (nats aims) := .inl (.inl (sg _ _ ea))
        refine ⟨rfl, _, rfl, _, rfl, t, nats ts, j, .int ((ts[j]'(by omega) : Nat) : Int), rfl, rfl, ST2, atI_nat (nats_at tj), _, rfl, _, rfl, _, rfl, pa, nats aims, kd, .int ((c : Nat) : Int), rfl, rfl, SA2, atI_nat (nats_at ck), t, nats ts, c, .int ((ts[c]'(by omega) : Nat) : Int), rfl, rfl, ST2, atI_nat (nats_at tc), rfl, _, rfl, ?_⟩
        by_cases eq : V.int ((ts[j]'(by omega) : Nat) : Int) = V.int ((ts[c]'(by omega) : Nat) : Int)
        · rw [decide_eq_true eq]
          refine iteT ?_
          refine ⟨_, rfl, _, ed, by rw [nats_len, sizeLine_eq]; omega, acc ++ [j], ?_, ?_, ?_, ?_, ?_⟩
          · rw [upd_same, nats_more]
          · intro x hx
            rcases List.mem_append.mp hx with z | z
            · exact ab x z
            · have z2 : x = j := by simpa using z
              omega
          · rw [List.length_append]
            show acc.length + 1 ≤ j + 1
            omega
          · intro _
            simp
          · intro b o eb
            rw [upd_ne (ne_of_none eb nD)]
            exact sg _ _ eb
        · rw [decide_eq_false eq]
          refine iteF ?_
          refine ⟨acc, ed, ab, by omega, fun z => an ?_, sg⟩
          by_cases cj : c = j
          · subst cj
            exact absurd rfl eq
          · omega
      · rintro H2 ⟨acc, ed, ab, al, an, sg⟩
        have ne : acc ≠ [] := an cb
        have dp : D ≠ p := src.ne nD
        have e := sg _ _ e
        have es := sg _ _ es
        have m := m.trans (Sx.of sg)
        have src := src.sm sg
        refine ⟨_, rfl, .inl ⟨rfl, _, .inl (.inl e)⟩, _, rfl, _, rfl, p, .ref D, rfl, src, .inl ⟨D, nats acc, rfl, dp, .inl (.inl ed), by rw [nats_len]; exact List.length_pos_iff.mpr ne, by rw [nats_len]; omega, fun k v H3 hv m3 s3 fr3 => ?_⟩⟩
        have e3 := m3 _ _ fp e
        have es3 := m3 _ _ smp es
        have m3 := m.trans m3
        obtain ⟨x, hx, rfl⟩ : ∃ x : Nat, x < ts.length ∧ v = .int (x : Nat) := by
          have z := List.mem_of_getElem? hv
          obtain ⟨x, hx, ex⟩ := List.mem_map.mp z
          exact ⟨x, ab x hx, ex.symm⟩
        refine ⟨fo, nats ls, .int (x : Nat), rfl, rfl, e3, by rw [nats_len, sizeLine_eq]; omega, ls ++ [x], _, _, _, _, rfl, ?_, ?_, ?_, ?_, ?_, ?_⟩
        · rw [List.length_append, ll]
          rfl
        · intro z hz
          rcases List.mem_append.mp hz with y | y
          · exact lb z y
          · have y2 : z = x := by simpa using y
            omega
        · rw [upd_same, nats_more]
        · rw [upd_ne smf]
          exact es3
        · intro b o nb eb
          rw [upd_ne (fun w => by rw [w, fH] at eb; cases eb)]
          exact m3 b o nb eb
        · obtain ⟨own, mix, ee, r⟩ := s3
          exact ⟨own, mix, by rw [upd_ne (Ne.symm fp)]; exact ee, r⟩
    · rintro σ H' ⟨ls, v7, v8, v9, v10, rfl, ll, lb, e, es, m, src⟩
      exact ⟨_, rfl, q fo ls H' m src fH e ll lb⟩
end
end Dk
set_option Elab.async false
set_option linter.all false
set_option maxRecDepth 100000
set_option maxHeartbeats 4000000
namespace Dk
open PySem PySem.Spec PyProof.Rows L2 Er
/-! ### dicts of texts -/
/-- the pairs of a dict with the keys ws -/
def dkv (ws : List Str) (vs : List V) : List (Key × V) := (ws.map (Sum.inr : Str → Key)).zip vs
theorem put_new {acc : List (Key × V)} {k : Key} {v : V} (h : k ∉ acc.map (·.1)) : putK acc k v = acc ++ [(k, v)] := by
  unfold putK
  rw [if_neg]
  intro z
  obtain ⟨q, hq, e⟩ := List.any_eq_true.mp z
  exact h (List.mem_map.mpr ⟨q, hq, of_decide_eq_true e⟩)
theorem merge_new : ∀ (more acc : List (Key × V)), ((acc ++ more).map (·.1)).Nodup → mergeK acc more = acc ++ more
  | [], acc, _ => by
    rw [List.append_nil]
    rfl
  | q :: more, acc, h => by
    have h2 : q.1 ∉ acc.map (·.1) := by
      rw [List.map_append, List.map_cons] at h
      intro z
      exact (List.nodup_append.mp h).2.2 q.1 z q.1 List.mem_cons_self rfl
    show mergeK (putK acc q.1 q.2) more = acc ++ q :: more
    rw [put_new h2, merge_new more (acc ++ [(q.1, q.2)]) (by rw [List.append_assoc]; exact h), List.append_assoc]
    rfl
theorem dkv_keys : ∀ {ws : List Str} {vs : List V}, ws.length = vs.length → (dkv ws vs).map (·.1) = ws.map Sum.inr
  | [], _, _ => rfl
  | w :: ws, [], h => by simp at h
  | w :: ws, v :: vs, h => by
    have ih := dkv_keys (ws := ws) (vs := vs) (by simpa using h)
    show Sum.inr w :: (dkv ws vs).map (·.1) = _
    rw [ih]
    rfl
theorem dkv_merge {ws : List Str} {vs : List V} (h : ws.length = vs.length) (nd : ws.Nodup) : mergeK [] (dkv ws vs) = dkv ws vs := by
  refine merge_new _ [] ?_
  rw [List.nil_append, dkv_keys h]
  exact List.Pairwise.map _ (fun a b n z => n (Sum.inr.inj z)) nd
theorem paired_of {α β : Type} {F : α → β → Prop} : ∀ {ps : List α} {qs : List β}, ps.length = qs.length → (∀ (j : Nat) (p : α) (q : β), ps[j]? = some p → qs[j]? = some q → F p q) → Paired F ps qs
  | [], [], _, _ => .nil
  | [], _ :: _, h, _ => by simp at h
  | _ :: _, [], h, _ => by simp at h
  | p :: ps, q :: qs, h, f => .cons (f 0 p q rfl rfl) (paired_of (by simpa using h) fun j a b e1 e2 => f (j + 1) a b (by simpa using e1) (by simpa using e2))
/-- [(e1, e2) for at in range(n)] -/
theorem lc_pairs {n : Nat} {fk fv : Nat → V} {t1 t2 : TE} {σ : L2.St} {i : Nat} {H1 : Hp} {Q : Addr → Hp → Prop} (hn : n ≤ 1000) (w1 : ∀ v, wipe ((wipe σ [i]).set i (some v)) [i] = wipe σ [i])
    (ev : ∀ (j : Nat) (G : Hp) (Q : List V → Hp → Prop), j < n → Sm H1 G → Q [fk j, fv j] G → (tCons t1 (tCons t2 tNil)) ((wipe σ [i]).set i (some (.int ((j : Nat) : Int)))) G Q)
    (q : ∀ (D : Addr) (ps : List Addr) (H' : Hp), Sm H1 H' → H1 D = none → H' D = some (.lst (ps.map V.ref)) → ps.length = n → (∀ (k : Nat) (p : Addr), ps[k]? = some p → H' p = some (.tup [fk k, fv k])) → Q D H') :
    ∀ D, H1 D = none → ∃ W : Nat → Nat → Hp → Prop, (∃ m, W 0 m (upd H1 D (.lst []))) ∧ ∀ i₁ m H, W i₁ m H →
      ((Itr 0 n).stop i₁ H ∧ Q D H) ∨ ((Itr 0 n).go i₁ H ∧ ∃ Nx : Hp → Prop, (∀ H', Nx H' → ∃ m', m' < m ∧ W (i₁ + 1) m' H') ∧ ∀ x H', (Itr 0 n).yld i₁ H x H' → gName i x (wipe σ [i]) H' fun σ2 H2 => wipe σ2 [i] = wipe σ [i] ∧ tYes σ2 H2 fun b H3 =>
        if b = true then (tTup (tCons t1 (tCons t2 tNil))) σ2 H3 fun y H4 => ∃ acc, H4 D = some (.lst acc) ∧ acc.length < sizeLine ∧ Nx (upd H4 D (.lst (acc ++ [y]))) else Nx H3) := by
  intro D hD
  refine lc_range (lo := 0) (n := n) (g := gName i) (tt := tYes) (te := tTup (tCons t1 (tCons t2 tNil))) (vs := [i]) (Qd := fun H => Q D H)
    (fun j H2 => ∃ ps : List Addr, H2 D = some (.lst (ps.map V.ref)) ∧ ps.length = j ∧ (∀ (k : Nat) (p : Addr), ps[k]? = some p → H2 p = some (.tup [fk k, fv k])) ∧ Sm H1 H2) ⟨[], upd_same, rfl, fun k p e => by simp at e, Sm.new hD⟩ ?_ ?_
  · rintro j G hj ⟨ps, ed, pl, pt, sg⟩
    have ez : (0 : Int) + ((j : Nat) : Int) = j := Int.zero_add _
    rw [ez]
    refine ⟨w1 _, ?_⟩
    unfold tYes
    dsimp only
    rw [if_pos rfl]
    refine ev j G _ hj sg ⟨by show 2 ≤ sizeLine; rw [sizeLine_eq]; decide, fun p np => ?_⟩
    have dp : D ≠ p := ne_of_none ed np
    refine ⟨ps.map V.ref, by rw [upd_ne dp]; exact ed, by rw [List.length_map, sizeLine_eq]; omega, ps ++ [p], ?_, by rw [List.length_append, pl]; rfl, ?_, ?_⟩
    · rw [upd_same, List.map_append]
      rfl
    · intro k r er
      by_cases c : k < ps.length
      · rw [List.getElem?_append_left c] at er
        have z := pt k r er
        have rD : r ≠ D := fun w => by
          rw [w, ed] at z
          cases z
        rw [upd_ne rD, upd_ne (ne_of_none z np)]
        exact z
      · rw [List.getElem?_append_right (by omega)] at er
        have z : k - ps.length = 0 := by
          by_cases z : k - ps.length = 0
          · exact z
          · rw [List.getElem?_eq_none (by simp; omega)] at er
            cases er
        rw [z] at er
        have e2 : p = r := by simpa using er
        have ek : k = j := by omega
        subst e2 ek
        rw [upd_ne (Ne.symm dp), upd_same]
    · intro b o eb
      rw [upd_ne (ne_of_none eb hD)]
      exact Sm.new np _ _ (sg _ _ eb)
  · rintro G ⟨ps, ed, pl, pt, sg⟩
    exact q D ps G sg hD ed pl pt
/-! ### _law_sights -/
def spSights : Sp := fun vs H Q _ => ∃ (p : Addr) (n : Nat), vs = [.ref p, .int n] ∧ Src H p ∧ 1 ≤ n ∧ n ≤ 10 ∧
  ∀ (q : Addr) (ws : List Str) H', Sx p H H' → Src H' p → H q = none → H' q = some (.lst (ws.map V.str)) → ws.length = n → (∀ z ∈ ws, IsWord z) → Q (.ref q) H'
abbrev nSights : List Str := ["_law_source_here", "_law_many_here", "_law_kind", "_law_some", "_law_at", "_law_one"]
theorem scSights : FnScope nSights ["_law_source_here", "_law_many_here"] (defScope (top 45)) := ⟨rfl, rfl, rfl, by decide +kernel, rfl, by decide +kernel, by decide +kernel⟩
/-- int(x) of a number, a bool -/
def rInt1 : List V → Hp → VK → Prop := fun xs H Q => (∃ i, xs = [.int i] ∧ Q (.int i) H) ∨ ∃ k, xs = [.bl k] ∧ Q (.int (if k then 1 else 0)) H
section
variable {P : Program} {w : World} {K : PySem.W.Frag} {mg : Str → Option Value} {base : Heap} {f fD fP fM fW fN : Addr} {fd dD dP dM dW dN : FuncData}
theorem bN (F : FnP K "_law_names" (top 42) fN dN) : Binds K dN ["_law_source_here", "_law_many_here"] [] := F.bindsN fun _ _ _ _ _ _ us hl => match us, hl with
  | [_, _], _ => rfl
theorem ok_sights (F : FnP K "_law_sights" (top 45) f fd) (ml : mg "len" = none) (mi : mg "int" = none) (mr : mg "range" = none) (GD : FnOk P w K mg base CX0 1 fD dD ["_law_source_here", "_law_span"] spD) (FD : FnP K "_law_draw" (top 38) fD dD) (gD : mg "_law_draw" = some (.ref fD))
    (GP : FnOk P w K mg base CX0 2 fP dP nPick (spPick K)) (FP : FnP K "_law_pick" (top 39) fP dP) (gP : mg "_law_pick" = some (.ref fP)) (GN : FnOk P w K mg base CX0 4 fN dN ["_law_source_here", "_law_many_here"] spNames) (FN : FnP K "_law_names" (top 42) fN dN) (gN : mg "_law_names" = some (.ref fN)) :
    FnOk P w K mg base CX0 5 f fd ["_law_source_here", "_law_many_here"] spSights := by
  refine F.ok (CX := CX0) scSights (fun vs H Q E h => ?_) (fun cdv A outer s H vs Q E hr h => ?_)
  · obtain ⟨p, n, rfl, _⟩ := h
    rfl
  · have hr1 := hr.mono (show 1 ≤ 4 by decide)
    have hr2 := hr.mono (show 2 ≤ 4 by decide)
    refine ⟨_, PSs.nox (pss_cons (ps_asg (pe_tup (pa_cons (by exact (pe_call GD hr1 rfl gD FD.kp (bD FD) .nil pass0 (pa_cons (pv 0) (pa_cons pe_int pa_nil)))) (pa_cons (by exact (pe_call GN hr rfl gN FN.kp (bN FN) .nil pass0 (pa_cons (pv 0) (pa_cons pe_int pa_nil))))
        (pa_cons (by exact (pe_call GD hr1 rfl gD FD.kp (bD FD) .nil pass0 (pa_cons (pv 0) (pa_cons (pv 1) pa_nil)))) pa_nil)))) (pg_tup rfl (pgs_cons (pg_name (i := 2) scSights.nd rfl (.inr rfl)) (pgs_cons (pg_name (i := 3) scSights.nd rfl (.inr rfl)) (pgs_cons (pg_name (i := 4) scSights.nd rfl (.inr rfl)) pgs_nil)))))
      (pss_cons (ps_if (pt_cmpR op_eq (pv 2) pe_int (nomark _)) (pss_one (ps_ret (by exact (pe_call GN hr rfl gN FN.kp (bN FN) .nil pass0 (pa_cons (pv 0) (pa_cons (pv 1) pa_nil)))))) pss_nil)
      (pss_cons (ps_if (pt_cmpR op_lt (pv 2) pe_int (nomark _)) (pss_one (ps_ret (by exact (pe_lc (own := [("_law_one", 5)]) (g := gName 5) (tt := tYes) (te := tOp (rIxL K) (tVar 3) (tCB rInt1 (tCons (tOp rEq (tVar 5) (tVar 4)) tNil))) rfl scSights.nd (pi_range1 rfl mr (pa_cons (pv 1) pa_nil))
          (blkOk_by (N := nSights) (sc := defScope (top 45)) (by decide +kernel)) (fun _ _ _ _ _ => pg_name (i := 5) scSights.nd rfl (Or.inl rfl)) (fun _ _ _ _ _ => pts_nil) (fun _ _ _ _ _ => by exact (pe_ix ix_list (by exact (pv 3)) (by exact (pe_callTy call_int1 rfl mi PyProof.Rows.boot_int (pa_cons (by exact (pe_cmpR op_eq (pv 5) (pv 4) (nomark _))) pa_nil))) (fun _ _ => rfl))))))) pss_nil)
      (pss_one (ps_ret (by exact (pe_lc (own := [("_law_one", 5)]) (g := gName 5) (tt := tYes) (te := tCall (spPick K) [] E0 (tCons (tVar 0) (tCons (tSl (rSlL K) (tVar 3) tNoPart (tPart (tOp (rI0 fun i j => .int (i - j)) (tVar 2) (tC (.int 2))))) tNil))) rfl scSights.nd (pi_range1 rfl mr (pa_cons (pv 1) pa_nil))
          (blkOk_by (N := nSights) (sc := defScope (top 45)) (by decide +kernel)) (fun _ _ _ _ _ => pg_name (i := 5) scSights.nd rfl (Or.inl rfl)) (fun _ _ _ _ _ => pts_nil) (fun _ _ _ _ _ => by exact (pe_call GP hr2 rfl gP FP.kp (bP FP) .nil pass0 (pa_cons (pv 0) (pa_cons (by exact (pe_slice sl_list (pv 3) po_none (po_some (pe_op op_sub (pv 2) pe_int)))) pa_nil))))))))))), ?_⟩
    obtain ⟨p, n, rfl, hs, n0, n1, q⟩ := h
    have sz : ∀ n : Nat, n ≤ 1000 → n ≤ sizeLine := fun n z => by
      rw [sizeLine_eq]
      omega
    refine ⟨_, rfl, p, 6, rfl, hs, by decide, by decide, fun kd H1 hkd m1 s1 fr1 => ⟨_, rfl, p, 4, rfl, s1, by decide, by decide, fun so ws H2 m2 s2 nso e2 wl wn ww => ⟨_, rfl, _, rfl, p, n, rfl, s2, n0, by omega, fun at_ H3 hat m3 s3 fr3 =>
      ⟨sz _ (by show (3 : Nat) ≤ 1000; decide), fun u nu => ⟨u, _, rfl, .inl (.inl upd_same), rfl, _, _, rfl, _, _, rfl, _, _, rfl, rfl, ?_⟩⟩⟩⟩⟩
    have sp : so ≠ p := s1.ne nso
    have m : Sx p H (upd H3 u (.tup [.int ((kd : Nat) : Int), .ref so, .int ((at_ : Nat) : Int)])) := m1.trans (m2.trans (m3.trans (Sx.of (Sm.new nu))))
    have src := s3.new (o := .tup [.int ((kd : Nat) : Int), .ref so, .int ((at_ : Nat) : Int)]) nu
    have e := Sm.new (o := .tup [.int ((kd : Nat) : Int), .ref so, .int ((at_ : Nat) : Int)]) nu _ _ (m3 _ _ sp e2)
    generalize (upd H3 u (.tup [.int ((kd : Nat) : Int), .ref so, .int ((at_ : Nat) : Int)])) = G at m src e ⊢
    refine ⟨_, rfl, rfl, _, rfl, ?_⟩
    by_cases c : V.int ((kd : Nat) : Int) = V.int 0
    · rw [decide_eq_true c]
      refine iteT ?_
      exact ⟨_, rfl, _, rfl, p, n, rfl, src, n0, n1, fun a ws H4 m4 s4 na e4 wl wn ww => q a ws H4 (m.trans m4) s4 (none_back m src na) e4 wl ww⟩
    · rw [decide_eq_false c]
      refine iteF ?_
      have c0 : kd ≠ 0 := fun z => c (by rw [z]; rfl)
      have en : (((n : Nat) : Int)).toNat = n := by omega
      refine ⟨_, rfl, _, _, rfl, rfl, _, rfl, ?_⟩
      by_cases c2 : ((kd : Nat) : Int) < 3
      · rw [decide_eq_true c2]
        refine iteT ?_
        refine ⟨_, rfl, _, rfl, by omega, by omega, fun D nD => ?_⟩
        rw [en]
        refine lc_range (lo := 0) (n := n) (fun j G2 => ∃ acc : List Str, G2 D = some (.lst (acc.map V.str)) ∧ acc.length = j ∧ (∀ z ∈ acc, IsWord z) ∧ Sm G G2) ⟨[], upd_same, rfl, (fun z hz => nomatch hz), Sm.new nD⟩ ?_ ?_
        · rintro j G2 hj ⟨acc, ed, al, aw, sg⟩
          refine ⟨rfl, ?_⟩
          unfold tYes
          dsimp only
          rw [if_pos rfl]
          refine ⟨_, rfl, _, rfl, _, rfl, rfl, .inr ⟨_, rfl, ?_⟩⟩
          have fin : ∀ (k : Nat), k < 4 → rIxL K (.ref so) (.int ((k : Nat) : Int)) G2 fun y H4 => ∃ acc, H4 D = some (.lst acc) ∧ acc.length < sizeLine ∧ ∃ acc2 : List Str, upd H4 D (.lst (acc ++ [y])) D = some (.lst (acc2.map V.str)) ∧ acc2.length = j + 1 ∧ (∀ z ∈ acc2, IsWord z) ∧ Sm G (upd H4 D (.lst (acc ++ [y]))) := fun k hk => by
            have hw : ws[k]? = some (ws[k]'(by omega)) := List.getElem?_eq_getElem _
            refine ⟨so, ws.map V.str, k, .str (ws[k]'(by omega)), rfl, rfl, .inl (.inl (sg _ _ e)), atI_nat (by rw [List.getElem?_map, hw]; rfl), _, ed, by rw [List.length_map, sizeLine_eq]; omega, acc ++ [ws[k]'(by omega)], ?_, by rw [List.length_append, al]; rfl, ?_, ?_⟩
            · rw [upd_same, List.map_append]
              rfl
            · intro z hz
              rcases List.mem_append.mp hz with y | y
              · exact aw z y
              · have y2 : z = ws[k]'(by omega) := by simpa using y
                rw [y2]
                exact ww _ (List.getElem_mem _)
            · intro b o eb
              rw [upd_ne (ne_of_none eb nD)]
              exact sg _ _ eb
          by_cases dd : V.int (0 + ((j : Nat) : Int)) = V.int ((at_ : Nat) : Int)
          · rw [decide_eq_true dd]
            exact fin 1 (by decide)
          · rw [decide_eq_false dd]
            exact fin 0 (by decide)
        · rintro G2 ⟨acc, ed, al, aw, sg⟩
          exact q D acc G2 (m.trans (Sx.of sg)) (src.sm sg) (none_back m src nD) ed al aw
      · rw [decide_eq_false c2]
        refine iteF ?_
        have dp : ∀ {D : Addr}, G D = none → D ≠ p := fun z => src.ne z
        refine ⟨_, rfl, _, rfl, by omega, by omega, fun D nD => ?_⟩
        rw [en]
        refine lc_range (lo := 0) (n := n) (fun j G2 => ∃ acc : List Str, G2 D = some (.lst (acc.map V.str)) ∧ acc.length = j ∧ (∀ z ∈ acc, IsWord z) ∧ Sx p G G2 ∧ Src G2 p) ⟨[], upd_same, rfl, (fun z hz => nomatch hz), Sx.of (Sm.new nD), src.new nD⟩ ?_ ?_
        · rintro j G2 hj ⟨acc, ed, al, aw, sg, sr⟩
          refine ⟨rfl, ?_⟩
          unfold tYes
          dsimp only
          rw [if_pos rfl]
          have e4 := sg _ _ sp e
          refine ⟨_, rfl, _, rfl, _, rfl, _, _, rfl, rfl, _, rfl, so, ws.map V.str, rfl, .inl (.inl e4), fun r nr => ?_⟩
          have ek : ((kd : Nat) : Int) - 2 = ((kd - 2 : Nat) : Int) := by omega
          rw [ek, cut_to _ _ (by rw [List.length_map, wl]; omega), ← List.map_take]
          have ed2 := Sm.new (o := .lst ((ws.take (kd - 2)).map V.str)) nr _ _ ed
          refine ⟨p, .ref r, rfl, sr.new nr, .inl ⟨r, (ws.take (kd - 2)).map V.str, rfl, sr.ne nr, .inl (.inl upd_same), by rw [List.length_map, List.length_take, wl]; omega, by rw [List.length_map, List.length_take, wl]; omega, fun k v H4 hv m4 s4 fr4 => ?_⟩⟩
          obtain ⟨z, hz, rfl⟩ := List.mem_map.mp (List.mem_of_getElem? hv)
          have zw := ww z (List.mem_of_mem_take hz)
          have dpp := dp nD
          refine ⟨_, m4 _ _ dpp ed2, by rw [List.length_map, sizeLine_eq]; omega, acc ++ [z], ?_, by rw [List.length_append, al]; rfl, ?_, ?_, ?_⟩
          · rw [upd_same, List.map_append]
            rfl
          · intro x hx
            rcases List.mem_append.mp hx with y | y
            · exact aw x y
            · have y2 : x = z := by simpa using y
              rw [y2]
              exact zw
          · intro b o nb eb
            rw [upd_ne (ne_of_none eb nD)]
            exact m4 _ _ nb (Sm.new nr _ _ (sg _ _ nb eb))
          · obtain ⟨own, mix, ee, rr⟩ := s4
            exact ⟨own, mix, by rw [upd_ne (Ne.symm dpp)]; exact ee, rr⟩
        · rintro G2 ⟨acc, ed, al, aw, sg, sr⟩
          exact q D acc G2 (m.trans sg) sr (none_back m src nD) ed al aw
end
end Dk
set_option Elab.async false
set_option linter.all false
set_option maxRecDepth 100000
set_option maxHeartbeats 4000000
namespace Dk
open PySem PySem.Spec PyProof.Rows L2 Er
/-! ### a drawn desk -/
theorem pair_dkv {K : PySem.W.Frag} {H : Hp} {ps : List Addr} {ws : List Str} {vs : List V} (e1 : ps.length = ws.length) (e2 : ws.length = vs.length) (h : ∀ (k : Nat) (p : Addr), ps[k]? = some p → H p = some (.tup [.str (ws.getD k ⟨#[]⟩), vs.getD k .non])) :
    Paired (fun p (kv : Key × V) => SqT K H p [kV kv.1, kv.2]) ps (dkv ws vs) :=
  paired_of (by unfold dkv; rw [List.length_zip, List.length_map]; omega) fun j p q ep eq => by
    obtain ⟨a, b⟩ := List.getElem?_zip_eq_some.mp eq
    rw [List.getElem?_map] at a
    cases ew : ws[j]? with
    | none =>
      rw [ew] at a
      cases a
    | some wd =>
      rw [ew] at a
      have a2 : Sum.inr wd = q.1 := Option.some.inj a
      have z := h j p ep
      rw [List.getD_eq_getElem?_getD, List.getD_eq_getElem?_getD, ew, b] at z
      exact .inl (.inl (by rw [z, ← a2]; rfl))
/-- the desk at u: standings, for each deed a dict, sights -/
def DkAt (H : Hp) (u nm dd sg : Addr) (ws ds : List Str) (as : List Addr) (tb : List (List Str)) (ls : List Str) : Prop :=
  H u = some (.tup [.ref nm, .ref dd, .ref sg]) ∧ H nm = some (.lst (ws.map V.str)) ∧ H dd = some (.dK (dkv ds (as.map V.ref))) ∧ H sg = some (.dK (dkv ws (ls.map V.str))) ∧ Paired (fun a vs => H a = some (.dK (dkv ws (vs.map V.str)))) as tb
/-- what such a desk holds -/
structure DkIs (m : Nat) (ws ds : List Str) (tb : List (List Str)) (ls : List Str) : Prop where
  some : 1 ≤ ws.length
  most : ws.length ≤ m
  nd : ws.Nodup
  word : ∀ z ∈ ws, IsWord z
  dsome : 1 ≤ ds.length
  dmost : ds.length ≤ 4
  dnd : ds.Nodup
  dword : ∀ z ∈ ds, IsWord z
  rows : tb.length = ds.length
  row : ∀ vs ∈ tb, vs.length = ws.length ∧ ∀ z ∈ vs, z ∈ ws
  looks : ls.length = ws.length
  look : ∀ z ∈ ls, IsWord z
def spDesk : Sp := fun vs H Q _ => ∃ (p : Addr) (m : Nat), vs = [.ref p, .int m] ∧ Src H p ∧ 1 ≤ m ∧ m ≤ 9 ∧
  ∀ (u nm dd sg : Addr) (ws ds : List Str) (as : List Addr) (tb : List (List Str)) (ls : List Str) H', Sx p H H' → Src H' p → H u = none → nm ≠ p → dd ≠ p → sg ≠ p → (∀ a ∈ as, a ≠ p) → DkAt H' u nm dd sg ws ds as tb ls → DkIs m ws ds tb ls → Q (.ref u) H'
abbrev nDesk : List Str := ["_law_source_here", "_law_most", "_law_many_here", "_law_deeds", "_law_names_here", "_law_twins_here", "_law_deed", "_law_aims", "_law_looks", "_law_at"]
theorem scDesk : FnScope nDesk ["_law_source_here", "_law_most"] (defScope (top 46)) := ⟨rfl, rfl, rfl, by decide +kernel, rfl, by decide +kernel, by decide +kernel⟩
theorem put_dkv {ds : List Str} {as : List Addr} {d : Str} {a : Addr} (e : as.length = ds.length) (nd : (ds ++ [d]).Nodup) : putK (dkv ds (as.map V.ref)) (.inr d) (.ref a) = dkv (ds ++ [d]) ((as ++ [a]).map V.ref) := by
  rw [put_new]
  · unfold dkv
    rw [List.map_append, List.map_append, List.zip_append (by rw [List.length_map, List.length_map, e])]
    rfl
  · rw [dkv_keys (by rw [List.length_map, e])]
    intro z
    obtain ⟨x, hx, ex⟩ := List.mem_map.mp z
    have ex2 : x = d := Sum.inr.inj ex
    exact (List.nodup_append.mp nd).2.2 x hx d List.mem_cons_self ex2
theorem dkv_len {ds : List Str} {vs : List V} (e : vs.length = ds.length) : (dkv ds vs).length = ds.length := by
  unfold dkv
  rw [List.length_zip, List.length_map]
  omega
theorem pair_more {α β : Type} {F : α → β → Prop} {ps : List α} {qs : List β} {p : α} {q : β} (h : Paired F ps qs) (f : F p q) : Paired F (ps ++ [p]) (qs ++ [q]) := by
  induction h with
  | nil => exact .cons f .nil
  | cons a _ ih => exact .cons a ih
theorem pair_mono {α β : Type} {F G : α → β → Prop} {ps : List α} {qs : List β} (h : Paired F ps qs) (f : ∀ p ∈ ps, ∀ q, F p q → G p q) : Paired G ps qs := by
  induction h with
  | nil => exact .nil
  | cons a _ ih => exact .cons (f _ List.mem_cons_self _ a) (ih fun p hp => f p (List.mem_cons_of_mem _ hp))
/-- the things at some places -/
def tgt (ws : List Str) (ls : List Nat) : List Str := ls.map fun l => ws.getD l ⟨#[]⟩
theorem tgt_len {ws : List Str} {ls : List Nat} : (tgt ws ls).length = ls.length := List.length_map _
theorem tgt_in {ws : List Str} {ls : List Nat} (h : ∀ x ∈ ls, x < ws.length) : ∀ z ∈ tgt ws ls, z ∈ ws := fun z hz => by
  obtain ⟨l, hl, rfl⟩ := List.mem_map.mp hz
  have hl := h l hl
  rw [List.getD_eq_getElem?_getD, List.getElem?_eq_getElem hl]
  exact List.getElem_mem _
theorem gd {xs : List Str} {j : Nat} (h : j < xs.length) : (xs.map V.str)[j]? = some (.str (xs.getD j ⟨#[]⟩)) := by
  rw [List.getElem?_map, List.getD_eq_getElem?_getD, List.getElem?_eq_getElem h]
  rfl
theorem tgt_at {ws : List Str} {ls : List Nat} {j : Nat} (h : j < ls.length) : ((tgt ws ls).map V.str).getD j .non = .str (ws.getD (ls[j]'h) ⟨#[]⟩) := by
  unfold tgt
  rw [List.getD_eq_getElem?_getD, List.getElem?_map, List.getElem?_map, List.getElem?_eq_getElem h]
  rfl
/-- [(xs[at], ys[zs[at]]) for at ..], one entry of it -/
theorem ev_pair {K : PySem.W.Frag} {a b c i : Nat} {xa ya za : Addr} {xs ys : List Str} {zs : List Nat} {σ : L2.St} {G : Hp} {j : Nat} {Q : List V → Hp → Prop}
    (s1 : σ[a]? = some (some (.ref xa))) (s2 : σ[b]? = some (some (.ref ya))) (s3 : σ[c]? = some (some (.ref za))) (s4 : σ[i]? = some (some (.int (j : Nat))))
    (e1 : G xa = some (.lst (xs.map V.str))) (e2 : G ya = some (.lst (ys.map V.str))) (e3 : G za = some (.lst (nats zs))) (h1 : j < xs.length) (h2 : j < zs.length) (h3 : ∀ x ∈ zs, x < ys.length)
    (q : Q [.str (xs.getD j ⟨#[]⟩), ((tgt ys zs).map V.str).getD j .non] G) :
    (tCons (tOp (rIxL K) (tVar a) (tVar i)) (tCons (tOp (rIxL K) (tVar b) (tOp (rIxL K) (tVar c) (tVar i))) tNil)) σ G Q := by
  rw [tgt_at h2] at q
  exact ⟨_, s1, _, s4, xa, xs.map V.str, j, _, rfl, rfl, .inl (.inl e1), atI_nat (gd h1), _, s2, _, s3, _, s4, za, nats zs, j, _, rfl, rfl, .inl (.inl e3), atI_nat (nats_at (List.getElem?_eq_getElem h2)),
    ya, ys.map V.str, _, _, rfl, rfl, .inl (.inl e2), atI_nat (gd (h3 _ (List.getElem_mem _))), q⟩
section
variable {P : Program} {w : World} {K : PySem.W.Frag} {mg : Str → Option Value} {base : Heap} {f fD fN fT fL fS : Addr} {fd dD dN dT dL dS : FuncData}
theorem bT (F : FnP K "_law_twins" (top 43) fT dT) : Binds K dT ["_law_source_here", "_law_many_here"] [] := F.bindsN fun _ _ _ _ _ _ us hl => match us, hl with
  | [_, _], _ => rfl
theorem bL (F : FnP K "_law_leads" (top 44) fL dL) : Binds K dL ["_law_source_here", "_law_twins_here"] [] := F.bindsN fun _ _ _ _ _ _ us hl => match us, hl with
  | [_, _], _ => rfl
theorem bS (F : FnP K "_law_sights" (top 45) fS dS) : Binds K dS ["_law_source_here", "_law_many_here"] [] := F.bindsN fun _ _ _ _ _ _ us hl => match us, hl with
  | [_, _], _ => rfl
theorem ok_desk (F : FnP K "_law_desk" (top 46) f fd) (mr : mg "range" = none) (md : mg "dict" = none) (GD : FnOk P w K mg base CX0 1 fD dD ["_law_source_here", "_law_span"] spD) (FD : FnP K "_law_draw" (top 38) fD dD) (gD : mg "_law_draw" = some (.ref fD))
    (GN : FnOk P w K mg base CX0 4 fN dN ["_law_source_here", "_law_many_here"] spNames) (FN : FnP K "_law_names" (top 42) fN dN) (gN : mg "_law_names" = some (.ref fN))
    (GT : FnOk P w K mg base CX0 2 fT dT ["_law_source_here", "_law_many_here"] spTwins) (FT : FnP K "_law_twins" (top 43) fT dT) (gT : mg "_law_twins" = some (.ref fT))
    (GL : FnOk P w K mg base CX0 3 fL dL ["_law_source_here", "_law_twins_here"] spLeads) (FL : FnP K "_law_leads" (top 44) fL dL) (gL : mg "_law_leads" = some (.ref fL))
    (GS : FnOk P w K mg base CX0 5 fS dS ["_law_source_here", "_law_many_here"] spSights) (FS : FnP K "_law_sights" (top 45) fS dS) (gS : mg "_law_sights" = some (.ref fS)) :
    FnOk P w K mg base CX0 6 f fd ["_law_source_here", "_law_most"] spDesk := by
  refine F.ok (CX := CX0) scDesk (fun vs H Q E h => ?_) (fun cdv A outer s H vs Q E hr h => ?_)
  · obtain ⟨p, n, rfl, _⟩ := h
    rfl
  · have hr1 := hr.mono (show 1 ≤ 5 by decide)
    have hr2 := hr.mono (show 2 ≤ 5 by decide)
    have hr3 := hr.mono (show 3 ≤ 5 by decide)
    have hr4 := hr.mono (show 4 ≤ 5 by decide)
    refine ⟨_, PSs.nox (pss_cons (ps_par (i := 2) (j := 3) rfl scDesk.nd rfl rfl (by decide) rfl rfl (pa_cons (by exact (pe_op op_add pe_int (by exact (pe_call GD hr1 rfl gD FD.kp (bD FD) .nil pass0 (pa_cons (pv 0) (pa_cons (pv 1) pa_nil)))))) (pa_cons pe_dnewK pa_nil)) (by rfl))
      (pss_cons (ps_asg (pe_tup (pa_cons (by exact (pe_call GN hr4 rfl gN FN.kp (bN FN) .nil pass0 (pa_cons (pv 0) (pa_cons (pv 2) pa_nil)))) (pa_cons (by exact (pe_call GT hr2 rfl gT FT.kp (bT FT) .nil pass0 (pa_cons (pv 0) (pa_cons (pv 2) pa_nil)))) pa_nil)))
        (pg_tup rfl (pgs_cons (pg_name (i := 4) scDesk.nd rfl (.inr rfl)) (pgs_cons (pg_name (i := 5) scDesk.nd rfl (.inr rfl)) pgs_nil))))
      (pss_cons (ps_for PassesOwn.never rfl (pi_list (by exact (pe_call GN hr4 rfl gN FN.kp (bN FN) .nil pass0 (pa_cons (pv 0) (pa_cons (pe_op op_add pe_int (by exact (pe_call GD hr1 rfl gD FD.kp (bD FD) .nil pass0 (pa_cons (pv 0) (pa_cons pe_int pa_nil))))) pa_nil))))) (pg_name (i := 6) scDesk.nd rfl (.inl rfl))
        (pss_cons (ps_set (i := 7) scDesk.nd rfl (.inr rfl) (by exact (pe_call GL hr3 rfl gL FL.kp (bL FL) .nil pass0 (pa_cons (pv 0) (pa_cons (pv 5) pa_nil)))))
        (pss_one (ps_dput (hu_of hr) (pv 3) (pv 6) (by exact (pe_callTy (call_dictP rfl) rfl md PyProof.Rows.boot_dict (pa_cons (by exact (pe_lc (own := [("_law_at", 9)]) (g := gName 9) (tt := tYes) (te := tTup (tCons (tOp (rIxL K) (tVar 4) (tVar 9)) (tCons (tOp (rIxL K) (tVar 4) (tOp (rIxL K) (tVar 7) (tVar 9))) tNil))) rfl scDesk.nd (pi_range1 rfl mr (pa_cons (pv 2) pa_nil))
          (blkOk_by (N := nDesk) (sc := defScope (top 46)) (by decide +kernel)) (fun _ _ _ _ _ => pg_name (i := 9) scDesk.nd rfl (Or.inl rfl)) (fun _ _ _ _ _ => pts_nil) (fun _ _ _ _ _ => by exact (pe_tup (pa_cons (by exact (pe_ix ix_list (by exact (pv 4)) (by exact (pv 9)) (fun _ _ => rfl))) (pa_cons (by exact (pe_ix ix_list (by exact (pv 4)) (by exact (pe_ix ix_list (by exact (pv 7)) (by exact (pv 9)) (fun _ _ => rfl))) (fun _ _ => rfl))) pa_nil)))))) pa_nil))) (by rfl)))))
      (pss_cons (ps_set (i := 8) scDesk.nd rfl (.inr rfl) (by exact (pe_call GS hr rfl gS FS.kp (bS FS) .nil pass0 (pa_cons (pv 0) (pa_cons (pv 2) pa_nil)))))
      (pss_one (ps_ret (pe_tup (pa_cons (pv 4) (pa_cons (pv 3) (pa_cons (by exact (pe_callTy (call_dictP rfl) rfl md PyProof.Rows.boot_dict (pa_cons (by exact (pe_lc (own := [("_law_at", 9)]) (g := gName 9) (tt := tYes) (te := tTup (tCons (tOp (rIxL K) (tVar 4) (tVar 9)) (tCons (tOp (rIxL K) (tVar 8) (tOp (rIxL K) (tVar 5) (tVar 9))) tNil))) rfl scDesk.nd (pi_range1 rfl mr (pa_cons (pv 2) pa_nil))
          (blkOk_by (N := nDesk) (sc := defScope (top 46)) (by decide +kernel)) (fun _ _ _ _ _ => pg_name (i := 9) scDesk.nd rfl (Or.inl rfl)) (fun _ _ _ _ _ => pts_nil) (fun _ _ _ _ _ => by exact (pe_tup (pa_cons (by exact (pe_ix ix_list (by exact (pv 4)) (by exact (pv 9)) (fun _ _ => rfl))) (pa_cons (by exact (pe_ix ix_list (by exact (pv 8)) (by exact (pe_ix ix_list (by exact (pv 5)) (by exact (pv 9)) (fun _ _ => rfl))) (fun _ _ => rfl))) pa_nil)))))) pa_nil))) pa_nil)))))))))), ?_⟩
    obtain ⟨p, mo, rfl, hs, n0, n1, q⟩ := h
    have sz : ∀ n : Nat, n ≤ 1000 → n ≤ sizeLine := fun n z => by
      rw [sizeLine_eq]
      omega
    refine ⟨_, rfl, _, rfl, p, mo, rfl, hs, by omega, by omega, fun k H1 hk m1 s1 fr1 => ⟨_, _, rfl, rfl, fun dd ndd => ⟨_, _, rfl, ?_⟩⟩⟩
    have ddp : dd ≠ p := s1.ne ndd
    have ddH : H dd = none := none_back m1 s1 ndd
    have m1 : Sx p H (upd H1 dd (.dK [])) := m1.trans (Sx.of (Sm.new ndd))
    have s1 := s1.new (o := .dK []) ndd
    have e1 : upd H1 dd (.dK []) dd = some (.dK []) := upd_same
    generalize (upd H1 dd (.dK [])) = G1 at m1 s1 e1 ⊢
    clear fr1 ndd
    refine ⟨_, rfl, _, rfl, p, 1 + k, rfl, s1, by omega, by omega, fun nm ws H2 m2 s2 nnm e2 wl wnd ww => ⟨_, rfl, _, rfl, p, 1 + k, rfl, s2, by omega, by omega, fun tw ts H3 m3 s3 ntw e3 tl tlt => ⟨sz _ (by show (2 : Nat) ≤ 1000; decide), fun u nu => ⟨u, _, rfl, .inl (.inl upd_same), rfl, _, _, rfl, _, _, rfl, rfl, ?_⟩⟩⟩⟩
    have nmp : nm ≠ p := s1.ne nnm
    have nmd : nm ≠ dd := fun z => by
      rw [z, e1] at nnm
      cases nnm
    have twp : tw ≠ p := s2.ne ntw
    have ed2 := m2 _ _ ddp e1
    have twd : tw ≠ dd := fun z => by
      rw [z, ed2] at ntw
      cases ntw
    have ed3 := Sm.new (o := .tup [.ref nm, .ref tw]) nu _ _ (m3 _ _ ddp ed2)
    have en3 := Sm.new (o := .tup [.ref nm, .ref tw]) nu _ _ (m3 _ _ nmp e2)
    have et3 := Sm.new (o := .tup [.ref nm, .ref tw]) nu _ _ e3
    have m3 : Sx p H (upd H3 u (.tup [.ref nm, .ref tw])) := m1.trans (m2.trans (m3.trans (Sx.of (Sm.new nu))))
    have s3 := s3.new (o := .tup [.ref nm, .ref tw]) nu
    generalize (upd H3 u (.tup [.ref nm, .ref tw])) = G3 at m3 s3 ed3 en3 et3 ⊢
    clear nu ed2 m2 m1 e1 nnm e2 ntw e3
    have tsb : ∀ x ∈ ts, x < ts.length := fun x hx => by
      obtain ⟨j, hj, rfl⟩ := List.mem_iff_getElem.mp hx
      have := tlt j _ (List.getElem?_eq_getElem hj)
      omega
    refine ⟨_, rfl, _, rfl, p, 4, rfl, s3, by decide, by decide, fun dk H4 hdk m4 s4 fr4 => ⟨_, _, rfl, rfl, p, 1 + dk, rfl, s4, by omega, by omega, fun dl ds H5 m5 s5 ndl e5 dlen dnd dw => ⟨dl, rfl, ⟨_, .inl (.inl e5)⟩, ?_⟩⟩⟩
    have dlp : dl ≠ p := s4.ne ndl
    have dld : dl ≠ dd := fun z => by
      rw [z, m4 _ _ ddp ed3] at ndl
      cases ndl
    have ed5 := m5 _ _ ddp (m4 _ _ ddp ed3)
    have en5 := m5 _ _ nmp (m4 _ _ nmp en3)
    have et5 := m5 _ _ twp (m4 _ _ twp et3)
    have m5 := m3.trans (m4.trans m5)
    clear m4 fr4 ndl
    have en : (1 + ((k : Nat) : Int)).toNat = 1 + k := by omega
    refine for_list (K := K) (a := dl) (xs := ds.map V.str) (fun i σ H' => ∃ (as : List Addr) (tb : List (List Str)) (v6 v7 : Option V), σ = [some (.ref p), some (.int mo), some (.int (1 + ((k : Nat) : Int))), some (.ref dd), some (.ref nm), some (.ref tw), v6, v7, none, none] ∧
      as.length = i ∧ tb.length = i ∧ H' dd = some (.dK (dkv (ds.take i) (as.map V.ref))) ∧ Paired (fun a vs => H' a = some (.dK (dkv ws (vs.map V.str)))) as tb ∧ (∀ a ∈ as, a ≠ p ∧ a ≠ dd) ∧ (∀ vs ∈ tb, vs.length = ws.length ∧ ∀ z ∈ vs, z ∈ ws) ∧
      H' nm = some (.lst (ws.map V.str)) ∧ H' tw = some (.lst (nats ts)) ∧ H' dl = some (.lst (ds.map V.str)) ∧ Sx p H H' ∧ Src H' p) ?_ ?_ ?_ ?_
    · exact ⟨[], [], none, none, rfl, rfl, rfl, ed5, .nil, (fun a ha => nomatch ha), (fun a ha => nomatch ha), en5, et5, e5, m5, s5⟩
    · rintro i σ H' _ ⟨as, tb, v6, v7, rfl, al, bl, ed, pr, ap, tp, enm, etw, edl, m, src⟩
      exact .inl (.inl edl)
    · rintro i y σ H' hi ⟨as, tb, v6, v7, rfl, al, bl, ed, pr, ap, tp, enm, etw, edl, m, src⟩
      have il : i < ds.length := by
        have := (List.getElem?_eq_some_iff.mp hi).1
        rwa [List.length_map] at this
      have ey : y = .str (ds[i]'il) := by
        rw [List.getElem?_map, List.getElem?_eq_getElem il] at hi
        exact (Option.some.inj hi).symm
      subst ey
      refine ⟨_, rfl, _, rfl, p, tw, ts, rfl, src, twp, etw, by omega, by omega, tsb, fun am ls H6 m6 s6 nam e6 ll lb => ?_⟩
      have amp : am ≠ p := src.ne nam
      have amd : am ≠ dd := fun z => by
        rw [z, ed] at nam
        cases nam
      have ed6 := m6 _ _ ddp ed
      have en6 := m6 _ _ nmp enm
      have et6 := m6 _ _ twp etw
      have el6 := m6 _ _ dlp edl
      have pr6 : Paired (fun a vs => H6 a = some (.dK (dkv ws (vs.map V.str)))) as tb := pair_mono pr fun a ha vs e => m6 _ _ (ap a ha).1 e
      have m6 := m.trans m6
      clear pr ed enm etw edl m src
      refine ⟨_, rfl, _, rfl, by omega, by omega, ?_⟩
      rw [en]
      refine lc_pairs (n := 1 + k) (fk := fun j => .str (ws.getD j ⟨#[]⟩)) (fv := fun j => ((tgt ws ls).map V.str).getD j .non) (by omega) (fun _ => rfl) (fun j G Q hj sg hQ => ev_pair rfl rfl rfl rfl (sg _ _ en6) (sg _ _ en6) (sg _ _ e6) (by omega) (by omega) (fun x hx => by have := lb x hx; omega) hQ) fun D ps H7 sg nD e7 pl pt => ?_
      refine ⟨D, ps, dkv ws ((tgt ws ls).map V.str), rfl, .inl (.inl e7), pair_dkv (by omega) (by rw [List.length_map, tgt_len]; omega) pt, fun a na => ?_⟩
      rw [dkv_merge (by rw [List.length_map, tgt_len]; omega) wnd]
      have ap7 : a ≠ p := (s6.sm sg).ne na
      have ad7 : a ≠ dd := Ne.symm (ne_of_none (sg _ _ ed6) na)
      have s7 := (Sm.new (o := .dK (dkv ws ((tgt ws ls).map V.str))) na)
      have keep : ∀ b o, H6 b = some o → b ≠ dd → (upd (upd H7 a (.dK (dkv ws ((tgt ws ls).map V.str)))) dd (.dK (dkv (ds.take (i + 1)) ((as ++ [a]).map V.ref)))) b = some o := fun b o e nb => by
        rw [upd_ne nb]
        exact s7 _ _ (sg _ _ e)
      have tk : ds.take (i + 1) = ds.take i ++ [ds[i]'il] := by
        rw [List.take_add_one, List.getElem?_eq_getElem il]
        rfl
      have il2 : (ds.take i).length = i := by
        rw [List.length_take]
        omega
      have pk : putK (dkv (ds.take i) (as.map V.ref)) (.inr (ds[i]'il)) (.ref a) = dkv (ds.take (i + 1)) ((as ++ [a]).map V.ref) := by
        rw [tk]
        exact put_dkv (by omega) (by rw [← tk]; exact dnd.sublist (List.take_sublist _ _))
      refine ⟨_, rfl, _, rfl, dd, _, rfl, DPut.k (k := .inr (ds[i]'il)) (s7 _ _ (sg _ _ ed6)) (by rw [dkv_len (by rw [List.length_map]; omega), sizeLine_eq]; omega), as ++ [a], tb ++ [tgt ws ls], _, _, rfl, by rw [List.length_append, al]; rfl, by rw [List.length_append, bl]; rfl, ?_, ?_, ?_, ?_, ?_, ?_, ?_, ?_, ?_⟩
      · rw [upd_same, pk]
      · rw [pk]
        refine pair_more (pair_mono pr6 fun b hb vs e => keep b _ e (ap b hb).2) ?_
        rw [upd_ne ad7, upd_same]
      · intro b hb
        rcases List.mem_append.mp hb with z | z
        · exact ap b z
        · have z2 : b = a := by simpa using z
          rw [z2]
          exact ⟨ap7, ad7⟩
      · intro vs hv
        rcases List.mem_append.mp hv with z | z
        · exact tp vs z
        · have z2 : vs = tgt ws ls := by simpa using z
          rw [z2]
          exact ⟨by rw [tgt_len]; omega, tgt_in fun x hx => by have := lb x hx; omega⟩
      · rw [pk]
        exact keep _ _ en6 nmd
      · rw [pk]
        exact keep _ _ et6 twd
      · rw [pk]
        exact keep _ _ el6 dld
      · rw [pk]
        intro b o nb eb
        exact keep _ _ (m6 _ _ nb eb) fun z => by
          rw [z, ddH] at eb
          cases eb
      · rw [pk]
        obtain ⟨own, mix, e, r⟩ := s6
        exact ⟨own, mix, keep _ _ e (Ne.symm ddp), r⟩
    · rintro σ H' ⟨as, tb, v6, v7, rfl, al, bl, ed, pr, ap, tp, enm, etw, edl, m, src⟩
      rw [List.length_map] at al bl ed
      rw [List.take_length] at ed
      refine ⟨_, rfl, _, rfl, p, 1 + k, rfl, src, by omega, by omega, fun lk ls H8 m8 s8 nlk e8 ll lw => ?_⟩
      have lkp : lk ≠ p := src.ne nlk
      have ed8 := m8 _ _ ddp ed
      have en8 := m8 _ _ nmp enm
      have et8 := m8 _ _ twp etw
      have pr8 : Paired (fun a vs => H8 a = some (.dK (dkv ws (vs.map V.str)))) as tb := pair_mono pr fun a ha vs e => m8 _ _ (ap a ha).1 e
      have m8 := m.trans m8
      refine ⟨_, rfl, _, rfl, _, rfl, _, rfl, by omega, by omega, ?_⟩
      rw [en]
      refine lc_pairs (n := 1 + k) (fk := fun j => .str (ws.getD j ⟨#[]⟩)) (fv := fun j => ((tgt ls ts).map V.str).getD j .non) (by omega) (fun _ => rfl) (fun j G Q hj sg hQ => ev_pair rfl rfl rfl rfl (sg _ _ en8) (sg _ _ e8) (sg _ _ et8) (by omega) (by omega) (fun x hx => by have := tsb x hx; omega) hQ) fun D ps H9 sg nD e9 pl pt => ?_
      refine ⟨D, ps, dkv ws ((tgt ls ts).map V.str), rfl, .inl (.inl e9), pair_dkv (by omega) (by rw [List.length_map, tgt_len]; omega) pt, fun a na => ?_⟩
      rw [dkv_merge (by rw [List.length_map, tgt_len]; omega) wnd]
      refine ⟨sz _ (by show (3 : Nat) ≤ 1000; decide), fun r nr => ?_⟩
      have s9 := s8.sm sg
      have sm : Sm H8 (upd (upd H9 a (.dK (dkv ws ((tgt ls ts).map V.str)))) r (.tup [.ref nm, .ref dd, .ref a])) := fun b o e => Sm.new nr _ _ (Sm.new na _ _ (sg _ _ e))
      have ap9 : a ≠ p := s9.ne na
      refine q r nm dd a ws ds as tb (tgt ls ts) _ (m8.trans (Sx.of sm)) (s8.sm sm) (none_back (m8.trans (Sx.of (fun b o e => Sm.new na _ _ (sg _ _ e)))) (s9.new na) nr) nmp ddp ap9 (fun a ha => (ap a ha).1) ⟨upd_same, sm _ _ en8, sm _ _ ed8, Sm.new nr _ _ upd_same, pair_mono pr8 fun a _ vs e => sm _ _ e⟩ ?_
      exact ⟨by omega, by omega, wnd, ww, by omega, by omega, dnd, dw, by omega, tp, by rw [tgt_len]; omega, fun z hz => lw z (tgt_in (fun x hx => by have := tsb x hx; omega) z hz)⟩
end
end Dk
set_option Elab.async false
set_option linter.all false
set_option maxRecDepth 100000
set_option maxHeartbeats 4000000
namespace Dk
open PySem PySem.Spec PyProof.Rows L2 Er
/-! ### _law_turned -/
def spTurned : Sp := fun vs H Q _ => ∃ (d : Addr) (kvs : List (Key × V)), vs = [.ref d] ∧ H d = some (.dK kvs) ∧ (kvs.map (·.1)).Nodup ∧ ∀ q H', Sm H H' → H q = none → H' q = some (.dK kvs.reverse) → Q (.ref q) H'
abbrev nTurned : List Str := ["_law_some"]
theorem scTurned : FnScope nTurned ["_law_some"] (defScope (top 47)) := ⟨rfl, rfl, rfl, by decide +kernel, rfl, by decide +kernel, by decide +kernel⟩
theorem pair_rev {α β : Type} {F : α → β → Prop} {ps : List α} {qs : List β} (h : Paired F ps qs) : Paired F ps.reverse qs.reverse := by
  induction h with
  | nil => exact .nil
  | cons a _ ih =>
    rw [List.reverse_cons, List.reverse_cons]
    exact pair_more ih a
section
variable {P : Program} {w : World} {K : PySem.W.Frag} {mg : Str → Option Value} {base : Heap} {f : Addr} {fd : FuncData}
theorem ok_turned (F : FnP K "_law_turned" (top 47) f fd) (mt : mg "list" = none) (md : mg "dict" = none) :
    FnOk P w K mg base CX0 1 f fd ["_law_some"] spTurned := by
  refine F.ok (CX := CX0) scTurned (fun vs H Q E h => ?_) (fun cdv A outer s H vs Q E hr h => ?_)
  · obtain ⟨p, n, rfl, _⟩ := h
    rfl
  · refine ⟨_, PSs.nox (pss_one (ps_ret (by exact (pe_callTy (call_dictP rfl) rfl md PyProof.Rows.boot_dict (pa_cons (pe_revL (LiI.pe_listItems rfl (pv 0) rfl mt PyProof.Rows.boot_list)) pa_nil))))), ?_⟩
    obtain ⟨d, kvs, rfl, e, nd, q⟩ := h
    refine ⟨_, rfl, d, kvs, rfl, e, fun H1 p ts sm np nts pts e1 pr => ⟨p, ts.map V.ref, rfl, .inl (.inl e1), fun r nr => ⟨r, ts.reverse, kvs.reverse, rfl, .inl (.inl (by rw [upd_same, List.map_reverse])), ?_, fun u nu => ?_⟩⟩⟩
    · exact pair_mono (pair_rev pr) fun t _ kv et => .inl (.inl (Sm.new nr _ _ et))
    · have em : mergeK [] kvs.reverse = kvs.reverse := by
        refine merge_new _ [] ?_
        rw [List.nil_append, List.map_reverse]
        exact List.pairwise_reverse.mpr (List.Pairwise.imp (fun h => Ne.symm h) nd)
      rw [em]
      refine q u _ (fun b o eb => Sm.new nu _ _ (Sm.new nr _ _ (sm _ _ eb))) ?_ upd_same
      cases z : H u with
      | none => rfl
      | some o =>
        rw [Sm.new nr _ _ (sm _ _ z)] at nu
        cases nu
end
end Dk
set_option Elab.async false
set_option linter.all false
set_option maxRecDepth 100000
set_option maxHeartbeats 3200000
/-! len(set(xs)), xs a list or tuple of texts -/
namespace DkSet
open PySem PySem.Spec PyProof.Rows
theorem rev_ind {α : Type} {p : List α → Prop} (h0 : p []) (h1 : ∀ l x, p l → p (l ++ [x])) : ∀ l, p l := fun l => by
  have key : ∀ m : List α, p m.reverse := fun m => by
    induction m with
    | nil => exact h0
    | cons x m ih =>
      rw [List.reverse_cons]
      exact h1 _ _ ih
  rw [← List.reverse_reverse l]
  exact key _
/-- the different ones, as they come first -/
def metOf (xs : List Str) : List Str := xs.foldl (fun acc x => if x ∈ acc then acc else acc ++ [x]) []
theorem met_more (xs : List Str) (x : Str) : metOf (xs ++ [x]) = if x ∈ metOf xs then metOf xs else metOf xs ++ [x] := by
  unfold metOf
  rw [List.foldl_append]
  rfl
theorem met_nodup : ∀ xs : List Str, (metOf xs).Nodup := by
  refine rev_ind List.nodup_nil fun l x ih => ?_
  rw [met_more]
  split
  · exact ih
  · rename_i h
    refine List.nodup_append.mpr ⟨ih, by simp, fun a ha b hb e => h ?_⟩
    have e2 : b = x := by simpa using hb
    rw [← e2, ← e]
    exact ha
theorem met_le : ∀ xs : List Str, (metOf xs).length ≤ xs.length := by
  refine rev_ind (Nat.le_refl _) fun l x ih => ?_
  rw [met_more, List.length_append]
  split
  · exact Nat.le_succ_of_le ih
  · rw [List.length_append]
    exact Nat.succ_le_succ ih
theorem met_mem (xs : List Str) (y : Str) : y ∈ metOf xs ↔ y ∈ xs := by
  revert xs
  refine rev_ind (by unfold metOf; simp) fun l x ih => ?_
  rw [met_more, List.mem_append, ← ih]
  split
  · rename_i h
    constructor
    · exact .inl
    · rintro (z | z)
      · exact z
      · have e : y = x := by simpa using z
        rw [e]
        exact h
  · rw [List.mem_append]
/-- as many as there are: all different -/
theorem met_len : ∀ xs : List Str, (metOf xs).length = xs.length ↔ xs.Nodup := by
  refine rev_ind (by unfold metOf; simp) fun l x ih => ?_
  rw [met_more, List.length_append]
  have le := met_le l
  split
  · rename_i h
    constructor
    · intro z
      simp at z
      omega
    · intro z
      exact absurd rfl ((List.nodup_append.mp z).2.2 x ((met_mem l x).mp h) x List.mem_cons_self)
  · rename_i h
    rw [List.length_append]
    constructor
    · intro z
      have z2 : (metOf l).length = l.length := by simpa using z
      refine List.nodup_append.mpr ⟨ih.mp z2, by simp, fun a ha b hb e => h ?_⟩
      have e2 : b = x := by simpa using hb
      rw [← e2, ← e]
      exact (met_mem l a).mpr ha
    · intro z
      rw [ih.mpr (List.nodup_append.mp z).1]
section
variable {prog : Program} {w : World} {A : Around} {R : Result → Shared → Prop} {I : Addr} {fp wr : List Addr} {G : Array GenState → Array GenState → Prop} {n : Nat} {P : Nat → Value → Prop} {St : Nat → Shared → Prop}
abbrev Has (prog : Program) (w : World) (h : Heap) (S : Addr) (ys : List Str) : Prop := h.SetOf (PySem.strKind prog w) S (fun y => decide (y ∈ metOf ys)) (metOf ys).length
theorem Has.at {h h2 : Heap} {S : Addr} {ys : List Str} (x : Has prog w h S ys) (k : ∀ o, h.get? S = some o → h2.get? S = some o) : Has prog w h2 S ys := by
  obtain ⟨o, es, ep, t, ho, r⟩ := x
  exact ⟨o, es, ep, t, k o ho, r⟩
theorem putting (W : WalksS prog w A.in1 I fp wr G n P St) (S : Addr) (out : S ∉ fp) (xs : List Str) (len : xs.length = n) (few : n + 1 < scanBound) (val : ∀ i v, P i v → ∃ t, v = .str (xs.getD i Str.empty) t) :
    ∀ (left i : Nat) (s : Shared), i + left = n → St i s → Has prog w s.heap S (xs.take i) →
      (∀ s2, Moved (S :: wr) G s s2 → Has prog w s2.heap S xs → R (.ok (.ret .none)) s2) →
      codeAny (model prog w) A (.builtin "set.update.loop" ⟨[.ref S, .ref I], []⟩) R s := by
  have out2 : S ∉ wr := fun h => out (W.sub _ h)
  have more : ∀ b ∈ wr, b ∈ S :: wr := fun b => List.mem_cons_of_mem _
  intro left
  induction left with
  | zero =>
    intro i s e st hs fin
    have ei : i = n := e
    rw [ei, ← len, List.take_length] at hs
    rw [ei] at st
    refine codeAny_builtin PyProof.Rows.F.entry_set_update_loop ?_
    rw [Around.under_plainId PyProof.Rows.F.plain_set_update_loop _]
    show wpAny _ A.in1 (pyNext (.ref I) >>= _) _ _ s
    exact wpAny_bind (W.done s _ _ st fun s2 m => wpAny_pure (fin s2 (m.mono more) (hs.at fun o => m.heap S o out2)))
  | succ left ih =>
    intro i s e st hs fin
    have il : i < n := by omega
    refine codeAny_builtin PyProof.Rows.F.entry_set_update_loop ?_
    rw [Around.under_plainId PyProof.Rows.F.plain_set_update_loop _]
    show wpAny _ A.in1 (pyNext (.ref I) >>= _) _ _ s
    refine wpAny_bind (W.item i s _ _ il st fun v s2 hv st2 m => ?_)
    obtain ⟨t, rfl⟩ := val i v hv
    have hs2 : Has prog w s2.heap S (xs.take i) := hs.at fun o => m.heap S o out2
    show wpAny _ A.in1 (holding [Value.str (xs.getD i Str.empty) t] (setAdd S (.str (xs.getD i Str.empty) t)) >>= _) _ _ s2
    refine wpAny_bind (wpAny_holding ?_)
    unfold setAdd
    refine wpAny_holding (wpAny_bind ((PySem.strKind prog w).pyHash (k := xs.getD i Str.empty) (strKind_is _ _ _ _) ?_))
    have few2 : (metOf (xs.take i)).length + 1 < scanBound := by
      have a := met_le (xs.take i)
      rw [List.length_take] at a
      omega
    refine wpAny_setAddHashed_of (knd := PySem.strKind prog w) (s := { s2 with toks := s2.toks + 1 }) (strKind_is _ _ _ _) rfl hs2 few2 fun h2 same got => ?_
    have tk : xs.take (i + 1) = xs.take i ++ [xs.getD i Str.empty] := by
      rw [List.take_add_one, List.getD_eq_getElem?_getD, List.getElem?_eq_getElem (by omega)]
      rfl
    have got2 : Has prog w h2 S (xs.take (i + 1)) := by
      refine SetOf_congr got (fun y => ?_) ?_
      · rw [tk, met_more]
        by_cases c : xs.getD i Str.empty ∈ metOf (xs.take i)
        · rw [if_pos c]
          by_cases d : y = xs.getD i Str.empty
          · rw [d, decide_eq_true c]
            rfl
          · rw [decide_eq_false d, Bool.or_false]
        · rw [if_neg c, Bool.eq_iff_iff]
          simp
      · rw [tk, met_more]
        by_cases c : xs.getD i Str.empty ∈ metOf (xs.take i)
        · rw [if_pos c, if_pos (decide_eq_true c)]
        · rw [if_neg c, if_neg (by simpa using c), List.length_append]
          rfl
    refine wpAny_pure ⟨plainId_quiet PyProof.Rows.F.plain_set_update_loop _, ih (i + 1) _ (by omega) (W.frame _ s2 _ _ st2 (Nat.le_succ _) fun b hb o eb => ?_) got2 fun s3 m3 hs3 => ?_⟩
    · rw [same.2 b fun z => out (z ▸ hb)]
      exact eb
    · refine fin s3 (Moved.trans W.gtrans ((m.mono more).then_heap (Nat.le_succ _) fun b o hb eb => ?_) m3) hs3
      rw [same.2 b fun z => hb (z ▸ List.mem_cons_self)]
      exact eb
end
section
variable {prog : Program} {w : World} {A : Around} {E : Value → Shared → Prop} {s : Shared}
abbrev bare0 (led : Bool) : Obj := { cls := .type "set", dict := none, data := .set #[] 0 (.fresh 0 0 led) }
theorem txt_at : ∀ {us : List Value} {xs : List Str}, StrsAre us xs → ∀ (i : Nat) (v : Value), us[i]? = some v → ∃ t, v = .str (xs.getD i Str.empty) t
  | _, _, .nil, i, v, h => by cases h
  | _, _, .cons n t r, 0, v, h => ⟨t, (Option.some.inj h).symm⟩
  | _, _, .cons n t r, i + 1, v, h => txt_at r i v h
/-- a walk over what stands at l -/
abbrev Wl (T : String) (l : Addr) (items : Array Value) (h : Heap) : Prop := if T = "list" then h.IsList l items else h.IsTuple l items
theorem iter_of {T : String} {l : Addr} {items : Array Value} {Q : Value → Shared → Prop} (hh : A.handled = none) (hT : T = "list" ∨ T = "tuple") (hw : Wl T l items s.heap) (ll : l < s.heap.objs.size)
    (h : ∀ (J : Obj) (St : Nat → Shared → Prop), J.isFreed = false → WalksS prog w A.in1 s.heap.objs.size [s.heap.objs.size, l] [s.heap.objs.size] (fun a b => b = a) items.size (fun i v => items[i]? = some v) St →
      St 0 { s with heap := s.heap.push J } → Q (.ref s.heap.objs.size) { s with heap := s.heap.push J }) : wpAny (model prog w) A (pyIter (.ref l)) Q E s := by
  have ne : l ≠ s.heap.objs.size := Nat.ne_of_lt ll
  have h2 : A.in1.handled = none := by simp [hh]
  rcases hT with rfl | rfl
  · have hw : s.heap.IsList l items := hw
    exact wpAny_pyIter_list hw (h _ _ rfl (Walks.list h2 _ l ne items).toS ⟨⟨_, Heap.get?_push_size _ rfl, rfl, rfl⟩, hw.push _⟩)
  · have hw : s.heap.IsTuple l items := hw
    exact wpAny_pyIter_tuple hw (h _ _ rfl (Walks.tuple h2 _ l ne items).toS ⟨⟨_, Heap.get?_push_size _ rfl, rfl, rfl⟩, hw.push _⟩)
theorem call_txts {T : String} {l : Addr} {items : Array Value} {d : Option Addr} {nl : Nat} {sl : Array (Option Value)} {xs : List Str} {Q : Value → Shared → Prop} (hh : A.handled = none) (hT : T = "list" ∨ T = "tuple")
    (ho : s.heap.get? l = some { cls := .type T, dict := d, data := .seq items nl, slots := sl }) (hi : StrsAre items.toList xs) (few : xs.length + 1 < scanBound)
    (h : ∀ (h2 : Heap) (tk : Nat), Has prog w h2 s.heap.objs.size xs → (∀ b o, s.heap.get? b = some o → h2.get? b = some o) → Q (.ref s.heap.objs.size) { s with heap := h2, toks := tk }) :
    wpAny (model prog w) A (call (.type "set") [.ref l]) Q E s := by
  obtain ⟨c, tl, hmro⟩ := PySem.F.called_set.mro
  have hmade := PySem.F.called_set.made
  have hsub := PySem.F.called_set.sub
  refine wpAny_call (codeAny_of_tree ?_)
  show wpAny _ _ (callAny (.type "set") _) _ _ _
  refine wpAny_pure ⟨Code.quiet_builtin _ (by decide +kernel), codeAny_builtin PySem.F.entry_type_call ?_⟩
  rw [Around.under_plain (weight_type_call_type "set" [.ref l] []) rfl]
  have h1 := PySem.F.called_set.notType
  have h2 := PySem.F.called_set.canCreate
  have hct := PySem.F.typeCall_set_1 (.ref l)
  repeat (any_goals (first | assumption | wp_step))
  refine codeAny_mono (code_set_new_1 (.ref l) (E := E) (Q₁ := fun x s1 => ∃ led : Bool, x = .ref s.heap.objs.size ∧ s1 = { s with heap := s.heap.push (bare0 led) }) fun led => ⟨led, rfl, rfl⟩) fun r s1 hr => ?_
  cases r with
  | error e => exact hr
  | ok fl =>
    cases fl with
    | ret obj =>
      obtain ⟨led, rfl, rfl⟩ := hr
      have hS : (s.heap.push (bare0 led)).get? s.heap.objs.size = some (bare0 led) := Heap.get?_push_size _ rfl
      have hTy : Shared.TypeIs { s with heap := s.heap.push (bare0 led) } (.ref s.heap.objs.size) "set" := ⟨_, hS, rfl⟩
      have hli := PySem.F.called_set.init.lookup
      have hbi := PySem.F.called_set.init.bind (.ref s.heap.objs.size)
      repeat (any_goals (first | assumption | wp_step))
      refine codeAny_mono (codeAny_call_builtin (R := wants (fun r s2 => r = .none ∧ ∃ h2 tk, s2 = { s with heap := h2, toks := tk } ∧ Has prog w h2 s.heap.objs.size xs ∧ (∀ b o, s.heap.get? b = some o → h2.get? b = some o)) E) PySem.F.called_set.init.plain PySem.F.entry_set_init (check_set_init_1 hTy ?_)) fun r2 s2 hr2 => ?_
      · have ho2 : (s.heap.push (bare0 led)).get? l = some { cls := .type T, dict := d, data := .seq items nl, slots := sl } := Heap.get?_push_of_some _ ho
        have f1 : isSubtype (.type T) (.type "set") = pure false := by
          rcases hT with rfl | rfl
          · exact PySem.F.sub_list_set
          · exact PySem.F.sub_tuple_set
        have f2 : isSubtype (.type T) (.type "frozenset") = pure false := by
          rcases hT with rfl | rfl
          · exact PySem.F.sub_list_frozenset
          · exact PySem.F.sub_tuple_frozenset
        have f3 : (Value.type T == Value.type "dict") = false := by
          rcases hT with rfl | rfl <;> decide
        have hw : Wl T l items (s.heap.push (bare0 led)) := by
          rcases hT with rfl | rfl
          · exact ⟨_, ho2, rfl, nl, rfl⟩
          · exact ⟨_, ho2, rfl, nl, rfl⟩
        have ll : l < s.heap.objs.size := Heap.lt_size ho
        have ll2 : l < (s.heap.push (bare0 led)).objs.size := by
          rw [Heap.size_push]
          exact Nat.lt_succ_of_lt ll
        unfold Builtin.«set.__init__» noKeywords Builtin.Frozenset.updateFrom
        generalize hPI : pyIter = PI
        wp_walk
        subst hPI
        have hh3 : A.in1.in1.handled = none := by simp [hh]
        refine iter_of (T := T) (items := items) (by simp [hh]) hT hw ll2 fun J St fr W st0 => ?_
        refine wpAny_bind (wpAny_runValue ?_)
        have len : xs.length = items.size := by rw [← StrsAre.len_eq hi, Array.length_toList]
        refine putting W s.heap.objs.size ?_ xs len (by omega) (fun i v hv => txt_at hi i v (by rw [Array.getElem?_toList]; exact hv)) items.size 0 _ (Nat.zero_add _) st0 ?_ ?_
        · rw [Heap.size_push]
          simp only [List.mem_cons, List.not_mem_nil, or_false, not_or]
          exact ⟨Nat.ne_of_lt (Nat.lt_succ_self _), Nat.ne_of_gt ll⟩
        · exact SetOf_congr ((setObjOf_fresh (knd := PySem.strKind prog w) led).setOf (Heap.get?_push_of_some _ hS) (by unfold scanBound; omega)) (fun _ => rfl) rfl
        · rintro ⟨h3, g3, d3, tk3, os3⟩ m got
          have eg : g3 = s.gens := m.gens
          have ed : d3 = s.drawn := m.drawn
          have eo : os3 = s.os := m.os
          subst eg ed eo
          refine wpAny_pure ?_
          show wpAny _ _ (ret Value.none) _ _ _
          refine wpAny_pure ⟨rfl, h3, tk3, rfl, got, fun b o e => ?_⟩
          have b1 : b < s.heap.objs.size := Heap.lt_size e
          refine m.heap b o ?_ (Heap.get?_push_of_some _ (Heap.get?_push_of_some _ e))
          rw [Heap.size_push]
          simp only [List.mem_cons, List.not_mem_nil, or_false, not_or]
          exact ⟨Nat.ne_of_lt b1, Nat.ne_of_lt (Nat.lt_succ_of_lt b1)⟩
      · cases r2 with
        | error e => exact hr2
        | ok fl2 =>
          cases fl2 with
          | ret r =>
            obtain ⟨rfl, h3, tk, rfl, got, keep⟩ := hr2
            repeat (any_goals (first | assumption | wp_step))
            exact h _ _ got keep
          | _ => exact hr2.elim
    | _ => exact hr.elim
end
section
variable {X : Cx}
open L2
/-- len(set(xs)) of texts: as many as there are exactly if no two are the same -/
def tLenTxt (K : PySem.W.Frag) (ta : TE) : TE := fun σ H Q => ta σ H fun x H1 => ∃ (l : Addr) (xs : List Str), x = V.ref l ∧ (SqL K H1 l (xs.map V.str) ∨ SqT K H1 l (xs.map V.str)) ∧ xs.length ≤ 1000 ∧ ∀ n : Nat, (n = xs.length ↔ xs.Nodup) → n ≤ xs.length → Q (.int n) H1
theorem strs_of : ∀ {xs : List Str} {us : List Value}, Vals (xs.map V.str) us → StrsAre us xs
  | [], _, r => by
    cases r
    exact .nil
  | x :: xs, _, r => by
    cases r with
    | cons a t =>
      obtain ⟨tk, rfl⟩ := a
      exact .cons x tk (strs_of t)
theorem pe_lenTxt {a : Expr} {ta : TE} {p p2 q pos : Pos} (hc : X.calm = true) (hg : Gl X "len") (hm : X.mg "len" = none) (hg2 : Gl X "set") (hm2 : X.mg "set" = none) (ha : PE X a ta)
    (na : starEach [a] X.env = (false, eval a X.env) :: starEach [] X.env := by rfl) : PE X (.Call (.Name "len" p) [.Call (.Name "set" p2) [a] [] q] [] pos) (tLenTxt X.K ta) := by
  refine ⟨fun pins s σ H Q I h => Call_ (ld_blt I hg hm PySem.boot_len ?_)⟩
  refine PyProof.Rows.callWith_builtin1 (PyProof.Rows.args_cons ?_ rfl) rfl rfl
  refine Call_ (ld_blt I hg2 hm2 PyProof.Rows.boot_set ?_)
  refine PyProof.Rows.callWith_type1 (PyProof.Rows.args_cons (thn (ha.run pins s σ H _ I h) fun v s1 ⟨x, H1, I1, r1, l, xs, ex, hq, few, q1⟩ => PyProof.Rows.args_nil ?_) na) na rfl
  subst ex
  cases r1
  have there : ∃ (T : String) (its : List Value) (d : Option Addr) (nl : Nat) (sl : Array (Option Value)), (T = "list" ∨ T = "tuple") ∧ Vals (xs.map V.str) its ∧ s1.heap.get? l = some { cls := .type T, dict := d, data := .seq its.toArray nl, slots := sl } := by
    rcases hq with hq | hq
    · obtain ⟨its, r, pl, _⟩ := I1.list hq
      obtain ⟨⟨oc, od, ox, os⟩, ho, hc, nl, hd⟩ := pl.isList
      cases hc
      cases hd
      exact ⟨"list", its, od, nl, os, .inl rfl, r, ho⟩
    · obtain ⟨its, r, pl, _⟩ := I1.tuple hq
      obtain ⟨⟨oc, od, ox, os⟩, ho, hc, nl, hd⟩ := pl
      cases hc
      cases hd
      exact ⟨"tuple", its, od, nl, os, .inr rfl, r, ho⟩
  obtain ⟨T, its, d, nl, sl, hT, r, ho⟩ := there
  refine call_txts (xs := xs) (by simpa using I1.ok.hd hc) hT ho (strs_of r) (by unfold scanBound; omega) fun h2 tk got keep => ?_
  refine PyProof.Rows.args_nil ?_
  obtain ⟨o, es, ep, t, ho, hex, hd, _, _, _, hf, hn⟩ := got
  have I2 : L2.Inv X pins σ H1 { s1 with heap := h2, toks := tk } := I1.kept fun b o e => keep b o e
  have le := met_le xs
  refine call_len_set ho hex hd hf (by rw [hn] <;> omega) ⟨.int ((metOf xs).length : Nat), H1, I2.tok _, ⟨_, by rw [hn]⟩, q1 _ (met_len xs) le⟩
end
end DkSet
set_option Elab.async false
set_option linter.all false
set_option maxRecDepth 100000
set_option maxHeartbeats 4000000
namespace Dk
open PySem PySem.Spec PyProof.Rows L2 Er
/-! ### comprehensions of one name, walks over lists and tuples alike -/
theorem Sm.trans {H H1 H2 : Hp} (a : Sm H H1) (b : Sm H1 H2) : Sm H H2 := fun c o e => b c o (a c o e)
theorem Sm.refl (H : Hp) : Sm H H := fun _ _ e => e
/-- [e for x in ..]: one value for each turn -/
theorem lc_map {J : It} {n : Nat} {G : Hp → Prop} {Y : Nat → Hp → V → Hp → Prop} (w : Walk J n G Y) {te : TE} {fv : Nat → V} {σ : L2.St} {i : Nat} {H1 : Hp} {Q : Addr → Hp → Prop} (hn : n ≤ 1000) (g1 : ∀ H2, Sm H1 H2 → G H2)
    (w1 : ∀ v, wipe ((wipe σ [i]).set i (some v)) [i] = wipe σ [i]) (ys : ∀ j H2 x H3, j < n → Y j H2 x H3 → Sm H2 H3)
    (ev : ∀ (j : Nat) (x : V) (H2 H3 : Hp) (Q : VK), j < n → Sm H1 H2 → Y j H2 x H3 → Sm H1 H3 → (∀ H4, Sm H3 H4 → Q (fv j) H4) → te ((wipe σ [i]).set i (some x)) H3 Q)
    (q : ∀ (D : Addr) (H2 : Hp), Sm H1 H2 → H1 D = none → H2 D = some (.lst ((List.range n).map fv)) → Q D H2) :
    ∀ D, H1 D = none → ∃ W : Nat → Nat → Hp → Prop, (∃ m, W 0 m (upd H1 D (.lst []))) ∧ ∀ i₁ m H, W i₁ m H →
      (J.stop i₁ H ∧ Q D H) ∨ (J.go i₁ H ∧ ∃ Nx : Hp → Prop, (∀ H', Nx H' → ∃ m', m' < m ∧ W (i₁ + 1) m' H') ∧ ∀ x H', J.yld i₁ H x H' → gName i x (wipe σ [i]) H' fun σ2 H2 => wipe σ2 [i] = wipe σ [i] ∧ tYes σ2 H2 fun b H3 =>
        if b = true then te σ2 H3 fun y H4 => ∃ acc, H4 D = some (.lst acc) ∧ acc.length < sizeLine ∧ Nx (upd H4 D (.lst (acc ++ [y]))) else Nx H3) := by
  intro D hD
  refine lc_it w (g := gName i) (tt := tYes) (te := te) (vs := [i]) (Qd := fun H => Q D H) (fun j H2 => H2 D = some (.lst ((List.range j).map fv)) ∧ Sm H1 H2) ⟨upd_same, Sm.new hD⟩ (fun j H2 _ h => g1 H2 h.2) ?_ ?_
  · rintro j x H2 H3 hj ⟨ed, sm⟩ hy
    refine ⟨w1 x, ?_⟩
    unfold tYes
    dsimp only
    rw [if_pos rfl]
    have s23 := ys j H2 x H3 hj hy
    refine ev j x H2 H3 _ hj sm hy (Sm.trans sm s23) fun H4 s34 => ⟨_, s34 _ _ (s23 _ _ ed), ?_, ?_, ?_⟩
    · rw [List.length_map, List.length_range, sizeLine_eq]
      omega
    · rw [upd_same, List.range_succ, List.map_append]
      rfl
    · intro b o e
      rw [upd_ne (ne_of_none e hD)]
      exact s34 _ _ (s23 _ _ (sm _ _ e))
  · rintro H2 ⟨ed, sm⟩
    exact q D H2 sm hD ed
section
variable {X : Cx} {tg : Expr}
/-- a walk over a list or a tuple -/
def iSeq (K : PySem.W.Frag) (tl : TE) : TI := fun σ H R => tl σ H fun x H1 => ∃ (a : Addr) (xs : List V), x = .ref a ∧ ((SqL K H1 a xs ∧ R (Itl K a) H1) ∨ (SqT K H1 a xs ∧ R (Itt K a) H1))
theorem pi_seq {l : Expr} {tl : TE} (hl : PE X l tl) : PI X tg l (iSeq X.K tl) := by
  refine ⟨fun pins s σ H R I h => thn (hl.run pins s σ H _ I h) fun v s1 ⟨x, H1, I1, r1, a, xs, e, q1⟩ => ?_⟩
  subst e
  cases r1
  have fr : ∀ b ∈ [s1.heap.objs.size], b = s1.heap.objs.size := fun b hb => by simpa using hb
  rcases q1 with ⟨hq, q⟩ | ⟨hq, q⟩
  · obtain ⟨its, rv, p, hz⟩ := I1.list hq
    refine wpAny_pyIter_list p.isList ⟨s1.heap.objs.size, [s1.heap.objs.size], _, _, H1, rfl, I1.kept (t' := s1.toks) fun b o e => Heap.get?_push_of_some _ e, turn_list a _, ⟨_, Heap.get?_push_size _ rfl, rfl, rfl⟩, fun b hb => ?_, q⟩
    rw [fr b hb]
    exact I1.fpOk (Nat.le_refl _) (I1.hok.fresh (Nat.le_refl _))
  · obtain ⟨its, rv, p, hz⟩ := I1.tuple hq
    refine wpAny_pyIter_tuple (show s1.heap.IsTuple a its.toArray from p) ⟨s1.heap.objs.size, [s1.heap.objs.size], _, _, H1, rfl, I1.kept (t' := s1.toks) fun b o e => Heap.get?_push_of_some _ e, turn_tuple a _, ⟨_, Heap.get?_push_size _ rfl, rfl, rfl⟩, fun b hb => ?_, q⟩
    rw [fr b hb]
    exact I1.fpOk (Nat.le_refl _) (I1.hok.fresh (Nat.le_refl _))
end
/-! ### is_name -/
/-- a value that is no text, of a type that is known -/
def NoStr (K : PySem.W.Frag) (H : Hp) (x : V) : Prop := ∃ t, TyX K H x t ∧ PySem.W.kitOne K t (.type "str") = some false
theorem NoStr.non {K : PySem.W.Frag} {H : Hp} : NoStr K H .non := ⟨_, .base .non, kit_ty (by decide +kernel)⟩
theorem NoStr.int {K : PySem.W.Frag} {H : Hp} {i : Int} : NoStr K H (.int i) := ⟨_, .base (.int i), kit_ty (by decide +kernel)⟩
theorem NoStr.bl {K : PySem.W.Frag} {H : Hp} {b : Bool} : NoStr K H (.bl b) := ⟨_, .base (.bl b), kit_ty (by decide +kernel)⟩
theorem NoStr.lst {K : PySem.W.Frag} {H : Hp} {a : Addr} {xs : List V} (e : H a = some (.lst xs)) : NoStr K H (.ref a) := ⟨_, .base (.lst e), kit_ty (by decide +kernel)⟩
theorem NoStr.tup {K : PySem.W.Frag} {H : Hp} {a : Addr} {xs : List V} (e : H a = some (.tup xs)) : NoStr K H (.ref a) := ⟨_, .base (.tup e), kit_ty (by decide +kernel)⟩
theorem NoStr.dK {K : PySem.W.Frag} {H : Hp} {a : Addr} {xs : List (Key × V)} (e : H a = some (.dK xs)) : NoStr K H (.ref a) := ⟨_, .base (.dK e), kit_ty (by decide +kernel)⟩
instance (z : Str) : Decidable (IsWord z) := by
  unfold IsWord
  exact inferInstance
theorem le_a {c : Nat} : (!decide ((⟨#[c]⟩ : Str).cps.toList < (Str.ofString "a").cps.toList)) = decide (97 ≤ c) := by
  rw [Bool.eq_iff_iff]
  show (!decide ([c] < [97])) = true ↔ _
  rw [Bool.not_eq_true', decide_eq_false_iff_not, List.cons_lt_cons_iff]
  simp
theorem le_z {c : Nat} : (!decide ((Str.ofString "z").cps.toList < (⟨#[c]⟩ : Str).cps.toList)) = decide (c ≤ 122) := by
  rw [Bool.eq_iff_iff]
  show (!decide ([122] < [c])) = true ↔ _
  rw [Bool.not_eq_true', decide_eq_false_iff_not, List.cons_lt_cons_iff]
  simp
def spIsName (K : PySem.W.Frag) : Sp := fun vs H Q _ => ∃ x, vs = [x] ∧ ((∃ z : Str, x = .str z ∧ z.length ≤ 1000 ∧ ∀ H', Sm H H' → Q (.bl (decide (IsWord z))) H') ∨ (NoStr K H x ∧ Q (.bl false) H))
abbrev nIsName : List Str := ["value", "letter"]
theorem scIsName : FnScope nIsName ["value"] (defScope (top 8)) := ⟨rfl, rfl, rfl, by decide +kernel, rfl, by decide +kernel, by decide +kernel⟩
section
variable {P : Program} {w : World} {K : PySem.W.Frag} {mg : Str → Option Value} {base : Heap} {f : Addr} {fd : FuncData}
theorem ok_isname (F : FunD K "is_name" "is_name" (defArgs (top 8)) (defBody (top 8)) (defScope (top 8)) [] [] f fd) (mi : mg "isinstance" = none) (ms : mg "str" = none) (ml : mg "len" = none) (ma : mg "all" = none) :
    FnOk P w K mg base CX0 1 f fd ["value"] (spIsName K) := by
  refine F.ok (CX := CX0) scIsName (fun vs H Q E h => ?_) (fun cdv A outer s H vs Q E hr h => ?_)
  · obtain ⟨x, rfl, _⟩ := h
    rfl
  · refine ⟨_, PSs.nox (pss_cons (ps_if (PW.pt (pw_or (pt_not (pt_val (by exact (pe_callB call_isi rfl mi PyProof.Rows.boot_isinstance (pa_cons (pv 0) (pa_cons (pe_bltn (v := .ty "str") rfl ms (by decide +kernel) rfl) pa_nil)))))) (pw_or1 (pt_not (pt_chain op_le op_le pe_int (by exact (pe_callB call_len rfl ml boot_len (pa_cons (pv 0) pa_nil))) pe_int))))) (pss_one (ps_ret pe_bl)) pss_nil)
      (pss_one (ps_ret (by exact (pe_callB (cr_all rfl) rfl ma PyProof.Rows.boot_all (pa_cons (by exact (pe_lc (own := [("letter", 1)]) (g := gName 1) (tt := tYes) (te := tChain _ _ (tC (.str "a")) (tVar 1) (tC (.str "z"))) rfl scIsName.nd (pi_str (pv 0))
        (blkOk_by (N := nIsName) (sc := defScope (top 8)) (by decide +kernel)) (fun _ _ _ _ _ => pg_name (i := 1) scIsName.nd rfl (Or.inl rfl)) (fun _ _ _ _ _ => pts_nil) (fun _ _ _ _ _ => by exact (pe_chain op_le_str op_le_str pe_str (by exact (pv 1)) pe_str)))) pa_nil)))))), ?_⟩
    obtain ⟨x, rfl, h⟩ := h
    rcases h with ⟨z, rfl, z1, q⟩ | ⟨⟨t, ty, kk⟩, q⟩
    · refine ⟨_, rfl, .str z, .ty "str", _, _, true, rfl, .ty "str", .base (.str z), kit_ty (by decide +kernel), _, rfl, ?_⟩
      refine iteF ?_
      refine ⟨_, rfl, .str z, z.length, rfl, ⟨by rw [sizeLine_eq]; omega, rfl⟩, _, _, rfl, rfl, _, rfl, ?_⟩
      by_cases c1 : (1 : Int) ≤ (z.length : Nat)
      · rw [decide_eq_true c1]
        refine iteT ⟨_, _, rfl, rfl, _, rfl, ?_⟩
        by_cases c2 : ((z.length : Nat) : Int) ≤ 8
        · rw [decide_eq_true c2]
          refine iteF ⟨_, rfl, z, rfl, ?_⟩
          refine lc_map walk_str (fv := fun j => .bl (decide (97 ≤ z.cps.toList.getD j 0) && decide (z.cps.toList.getD j 0 ≤ 122))) (by show z.length ≤ 1000; exact z1) (fun _ _ => True.intro) (fun _ => rfl) (fun j H2 x H3 _ y => by rw [y.1]; exact Sm.refl _) (fun j x H2 H3 Q hj s2 y s3 q => ?_) fun D H2 sm nD ed => ?_
          · obtain ⟨rfl, c, ec, rfl⟩ := y
            have cd : z.cps.toList.getD j 0 = c := by
              rw [List.getD_eq_getElem?_getD, Array.getElem?_toList, ec]
              rfl
            have q := q H3 (Sm.refl _)
            rw [cd] at q
            refine ⟨_, rfl, _, _, rfl, rfl, _, rfl, ?_⟩
            by_cases l1 : 97 ≤ c
            · rw [le_a, decide_eq_true l1]
              refine iteT ⟨_, _, rfl, rfl, ?_⟩
              rw [le_z]
              rw [decide_eq_true l1] at q
              exact q
            · rw [le_a, decide_eq_false l1]
              refine iteF ?_
              rw [decide_eq_false l1] at q
              exact q
          · refine ⟨D, (List.range z.length).map fun j => (decide (97 ≤ z.cps.toList.getD j 0) && decide (z.cps.toList.getD j 0 ≤ 122)), rfl, .inl (.inl (by rw [ed, List.map_map]; rfl)), ?_⟩
            have e : ((List.range z.length).map fun j => (decide (97 ≤ z.cps.toList.getD j 0) && decide (z.cps.toList.getD j 0 ≤ 122))).all id = decide (IsWord z) := by
              rw [Bool.eq_iff_iff, List.all_eq_true, decide_eq_true_iff]
              have hl : z.cps.toList.length = z.length := Array.length_toList
              constructor
              · intro h
                refine ⟨by omega, by omega, fun c hc => ?_⟩
                obtain ⟨j, hj, rfl⟩ := List.mem_iff_getElem.mp hc
                have := h _ (List.mem_map.mpr ⟨j, List.mem_range.mpr (by omega), rfl⟩)
                rw [List.getD_eq_getElem?_getD, List.getElem?_eq_getElem hj] at this
                simpa using this
              · rintro ⟨_, _, h⟩ b hb
                obtain ⟨j, hj, rfl⟩ := List.mem_map.mp hb
                have hj := List.mem_range.mp hj
                have := h _ (List.getElem_mem (show j < z.cps.toList.length by omega))
                rw [List.getD_eq_getElem?_getD, List.getElem?_eq_getElem (by omega)]
                simpa using this
            rw [e]
            exact q H2 sm
        · rw [decide_eq_false c2]
          have e : IsWord z ↔ False := ⟨fun h => by have := h.2.1; omega, False.elim⟩
          have q := q H (Sm.refl H)
          rw [decide_eq_false (fun h => e.mp h)] at q
          exact iteT q
      · rw [decide_eq_false c1]
        have e : IsWord z ↔ False := ⟨fun h => by have := h.1; omega, False.elim⟩
        have q := q H (Sm.refl H)
        rw [decide_eq_false (fun h => e.mp h)] at q
        exact iteF ⟨_, rfl, iteT q⟩
    · refine ⟨_, rfl, x, .ty "str", _, _, false, rfl, .ty "str", ty, kk, _, rfl, ?_⟩
      exact iteT (iteT q)
end
end Dk
set_option Elab.async false
set_option linter.all false
set_option maxRecDepth 100000
set_option maxHeartbeats 4000000
namespace Dk
open PySem PySem.Spec PyProof.Rows L2 Er
/-! ### is_one_of, are_different, is_table -/
/-- some names: a list, a tuple, or the keys of a dict -/
def Nms (K : PySem.W.Frag) (H : Hp) (a : Addr) (ws : List Str) : Prop := SqL K H a (ws.map V.str) ∨ SqT K H a (ws.map V.str) ∨ ∃ vs : List V, Rd H a (.dK (dkv ws vs)) ∧ vs.length = ws.length
theorem dkv_none : ∀ {ws : List Str} {vs : List V} {z : Str}, z ∉ ws → valV (dkv ws vs) (.inr z) = none
  | [], _, _, _ => rfl
  | _ :: _, [], _, _ => rfl
  | w :: ws, v :: vs, z, h => by
    have ih := dkv_none (ws := ws) (vs := vs) (z := z) fun x => h (List.mem_cons_of_mem _ x)
    unfold valV at ih ⊢
    show ((((Sum.inr w, v) : Key × V) :: dkv ws vs).find? _).map _ = none
    rw [List.find?_cons_of_neg]
    · exact ih
    · intro x
      have e : (Sum.inr w : Key) = .inr z := of_decide_eq_true x
      exact h (Sum.inr.inj e ▸ List.mem_cons_self)
theorem dkv_some : ∀ {ws : List Str} {vs : List V} {z : Str}, vs.length = ws.length → z ∈ ws → ∃ (j : Nat) (v : V), ws[j]? = some z ∧ vs[j]? = some v ∧ valV (dkv ws vs) (.inr z) = some v
  | [], _, _, _, h => nomatch h
  | _ :: _, [], _, e, _ => by simp at e
  | w :: ws, v :: vs, z, e, h => by
    by_cases c : w = z
    · subst c
      refine ⟨0, v, rfl, rfl, ?_⟩
      unfold valV
      show ((((Sum.inr w, v) : Key × V) :: dkv ws vs).find? _).map _ = _
      rw [List.find?_cons_of_pos (by simp)]
      rfl
    · have h2 : z ∈ ws := by
        rcases List.mem_cons.mp h with x | x
        · exact absurd x.symm c
        · exact x
      obtain ⟨j, u, a, b, d⟩ := dkv_some (ws := ws) (vs := vs) (by simpa using e) h2
      refine ⟨j + 1, u, by simpa using a, by simpa using b, ?_⟩
      unfold valV at d ⊢
      show ((((Sum.inr w, v) : Key × V) :: dkv ws vs).find? _).map _ = _
      rw [List.find?_cons_of_neg]
      · exact d
      · intro x
        have e : (Sum.inr w : Key) = .inr z := of_decide_eq_true x
        exact c (Sum.inr.inj e)
theorem dkv_has {ws : List Str} {vs : List V} {z : Str} (e : vs.length = ws.length) : (valV (dkv ws vs) (.inr z)).isSome = decide (z ∈ ws) := by
  by_cases c : z ∈ ws
  · obtain ⟨j, v, _, _, d⟩ := dkv_some e c
    rw [d, decide_eq_true c]
    rfl
  · rw [dkv_none c, decide_eq_false c]
    rfl
theorem in_strs {ws : List Str} {z : Str} : inV (.str z) (ws.map V.str) = decide (z ∈ ws) := by
  unfold inV
  rw [List.any_map, Bool.eq_iff_iff, List.any_eq_true, decide_eq_true_iff]
  constructor
  · rintro ⟨y, hy, e⟩
    have e2 : y = z := by simpa [eqV] using e
    exact e2 ▸ hy
  · intro h
    exact ⟨z, h, by simp [eqV]⟩
def rInA (K : PySem.W.Frag) : V → V → Hp → VK → Prop := fun x y H Q => ∃ (z : Str) (a : Addr) (ws : List Str), x = .str z ∧ y = .ref a ∧ Nms K H a ws ∧ Q (.bl (decide (z ∈ ws))) H
theorem op_inA {X : Cx} (hu : X.A.units + 1 < cLine) : OpR X (compareOp .In) (rInA X.K) := by
  intro pins s σ H x y v u Q I rx ry h
  obtain ⟨z, a, ws, rfl, rfl, hn, q⟩ := h
  rcases hn with h | h | ⟨vs, h, e⟩
  · exact op_in_seq pins s σ H _ _ v u Q I rx ry ⟨a, _, rfl, .inl h, rfl, flat_strs ws, by rw [if_neg (by decide), in_strs]; exact q⟩
  · exact op_in_seq pins s σ H _ _ v u Q I rx ry ⟨a, _, rfl, .inr h, rfl, flat_strs ws, by rw [if_neg (by decide), in_strs]; exact q⟩
  · obtain rfl : u = Value.ref a := ry
    exact d_in hu I (.inl ⟨_, .inr z, h, rfl, rfl⟩) rx fun s2 I2 => ⟨.bl _, H, I2, rfl, by rw [dkv_has e]; exact q⟩
def spOneOf (K : PySem.W.Frag) : Sp := fun vs H Q _ => ∃ x a, vs = [x, .ref a] ∧ ((∃ (z : Str) (ws : List Str), x = .str z ∧ Nms K H a ws ∧ Q (.bl (decide (z ∈ ws))) H) ∨ (NoStr K H x ∧ Q (.bl false) H))
abbrev nOneOf : List Str := ["value", "names"]
theorem scOneOf : FnScope nOneOf nOneOf (defScope (top 9)) := ⟨rfl, rfl, rfl, by decide +kernel, rfl, by decide +kernel, by decide +kernel⟩
abbrev nDiff : List Str := ["names"]
theorem scDiff : FnScope nDiff nDiff (defScope (top 10)) := ⟨rfl, rfl, rfl, by decide +kernel, rfl, by decide +kernel, by decide +kernel⟩
def spDiff (K : PySem.W.Frag) : Sp := fun vs H Q _ => ∃ (a : Addr) (ws : List Str), vs = [.ref a] ∧ (SqL K H a (ws.map V.str) ∨ SqT K H a (ws.map V.str)) ∧ ws.length ≤ 1000 ∧ Q (.bl (decide ws.Nodup)) H
section
variable {P : Program} {w : World} {K : PySem.W.Frag} {mg : Str → Option Value} {base : Heap} {f : Addr} {fd : FuncData}
theorem ok_oneof (F : FnP K "is_one_of" (top 9) f fd) (mi : mg "isinstance" = none) (ms : mg "str" = none) : FnOk P w K mg base CX0 1 f fd nOneOf (spOneOf K) := by
  refine F.ok (CX := CX0) scOneOf (fun vs H Q E h => ?_) (fun cdv A outer s H vs Q E hr h => ?_)
  · obtain ⟨x, a, rfl, _⟩ := h
    rfl
  · refine ⟨_, PSs.nox (pss_one (ps_ret (by exact (pe_and (by exact (pe_callB call_isi rfl mi PyProof.Rows.boot_isinstance (pa_cons (pv 0) (pa_cons (pe_bltn (v := .ty "str") rfl ms (by decide +kernel) rfl) pa_nil)))) (pe_one (by exact (pe_cmpR (op_inA (hu_of hr)) (pv 0) (pv 1) rfl))))))), ?_⟩
    obtain ⟨x, a, rfl, h⟩ := h
    rcases h with ⟨z, ws, rfl, hn, q⟩ | ⟨⟨t, ty, kk⟩, q⟩
    · exact ⟨_, rfl, .str z, .ty "str", _, _, true, rfl, .ty "str", .base (.str z), kit_ty (by decide +kernel), _, rfl, iteT ⟨_, rfl, _, rfl, z, a, ws, rfl, rfl, hn, q⟩⟩
    · exact ⟨_, rfl, x, .ty "str", _, _, false, rfl, .ty "str", ty, kk, _, rfl, iteF q⟩
theorem ok_diff (F : FnP K "are_different" (top 10) f fd) (ms : mg "set" = none) (ml : mg "len" = none) : FnOk P w K mg base CX0 1 f fd nDiff (spDiff K) := by
  refine F.ok (CX := CX0) scDiff (fun vs H Q E h => ?_) (fun cdv A outer s H vs Q E hr h => ?_)
  · obtain ⟨a, ws, rfl, _⟩ := h
    rfl
  · refine ⟨_, PSs.nox (pss_one (ps_ret (by exact (pe_cmpR op_eq (by exact (DkSet.pe_lenTxt rfl rfl ml rfl ms (pv 0))) (by exact (pe_callB call_len rfl ml boot_len (pa_cons (pv 0) pa_nil))) (nomark _))))), ?_⟩
    obtain ⟨a, ws, rfl, hs, hl, q⟩ := h
    refine ⟨_, rfl, a, ws, rfl, hs, hl, fun n hn nl => ⟨_, rfl, _, ws.length, rfl, ?_, rfl, ?_⟩⟩
    · rcases hs with hs | hs
      · exact .inl ⟨_, hs, by rw [List.length_map]⟩
      · exact .inr ⟨_, hs, by rw [List.length_map]⟩
    · have e : decide (V.int ((n : Nat) : Int) = V.int ((ws.length : Nat) : Int)) = decide ws.Nodup := by
        rw [decide_eq_decide, ← hn]
        constructor
        · intro z
          have := V.int.inj z
          omega
        · intro z
          rw [z]
      rw [e]
      exact q
end
end Dk
set_option Elab.async false
set_option linter.all false
set_option maxRecDepth 100000
set_option maxHeartbeats 4000000
namespace Dk
open PySem PySem.Spec PyProof.Rows L2 Er
/-- what a comprehension of one name asks of its walk -/
abbrev LcR (te : TE) (σ : L2.St) (i : Nat) (H1 : Hp) (Q : Addr → Hp → Prop) (J : It) : Prop := ∀ D, H1 D = none → ∃ W : Nat → Nat → Hp → Prop, (∃ m, W 0 m (upd H1 D (.lst []))) ∧ ∀ i₁ m H, W i₁ m H →
      (J.stop i₁ H ∧ Q D H) ∨ (J.go i₁ H ∧ ∃ Nx : Hp → Prop, (∀ H', Nx H' → ∃ m', m' < m ∧ W (i₁ + 1) m' H') ∧ ∀ x H', J.yld i₁ H x H' → gName i x (wipe σ [i]) H' fun σ2 H2 => wipe σ2 [i] = wipe σ [i] ∧ tYes σ2 H2 fun b H3 =>
        if b = true then te σ2 H3 fun y H4 => ∃ acc, H4 D = some (.lst acc) ∧ acc.length < sizeLine ∧ Nx (upd H4 D (.lst (acc ++ [y]))) else Nx H3)
/-- a list or a tuple of texts -/
def Sq (K : PySem.W.Frag) (H : Hp) (a : Addr) (ws : List Str) : Prop := SqL K H a (ws.map V.str) ∨ SqT K H a (ws.map V.str)
theorem SqL.sm {K : PySem.W.Frag} {H H2 : Hp} {a : Addr} {xs : List V} (h : SqL K H a xs) (m : Sm H H2) : SqL K H2 a xs := by
  rcases h with (h | ⟨o, h⟩) | h
  · exact .inl (.inl (m _ _ h))
  · exact .inl (.inr ⟨o, m _ _ h⟩)
  · exact .inr h
theorem SqT.sm {K : PySem.W.Frag} {H H2 : Hp} {a : Addr} {xs : List V} (h : SqT K H a xs) (m : Sm H H2) : SqT K H2 a xs := by
  rcases h with (h | ⟨o, h⟩) | h
  · exact .inl (.inl (m _ _ h))
  · exact .inl (.inr ⟨o, m _ _ h⟩)
  · exact .inr h
theorem Sq.sm {K : PySem.W.Frag} {H H2 : Hp} {a : Addr} {ws : List Str} (h : Sq K H a ws) (m : Sm H H2) : Sq K H2 a ws := by
  rcases h with h | h
  · exact .inl (SqL.sm h m)
  · exact .inr (SqT.sm h m)
theorem Sq.len {K : PySem.W.Frag} {H : Hp} {a : Addr} {ws : List Str} (h : Sq K H a ws) : LenV K (.ref a) H ws.length := by
  rcases h with h | h
  · exact .inl ⟨_, h, by rw [List.length_map]⟩
  · exact .inr ⟨_, h, by rw [List.length_map]⟩
theorem lc_sq {K : PySem.W.Frag} {a : Addr} {ws : List Str} {te : TE} {fv : Nat → V} {σ : L2.St} {i : Nat} {H1 : Hp} {Q : Addr → Hp → Prop} (hk : Sq K H1 a ws) (hn : ws.length ≤ 1000) (w1 : ∀ v, wipe ((wipe σ [i]).set i (some v)) [i] = wipe σ [i])
    (ev : ∀ (j : Nat) (z : Str) (H2 : Hp) (Q : VK), ws[j]? = some z → Sm H1 H2 → (∀ H4, Sm H2 H4 → Q (fv j) H4) → te ((wipe σ [i]).set i (some (.str z))) H2 Q)
    (q : ∀ (D : Addr) (H2 : Hp), Sm H1 H2 → H1 D = none → H2 D = some (.lst ((List.range ws.length).map fv)) → Q D H2) :
    (SqL K H1 a (ws.map V.str) ∧ LcR te σ i H1 Q (Itl K a)) ∨ (SqT K H1 a (ws.map V.str) ∧ LcR te σ i H1 Q (Itt K a)) := by
  have hl : (ws.map V.str).length = ws.length := List.length_map _
  have yat : ∀ (j : Nat) (x : V), (ws.map V.str)[j]? = some x → ∃ z, ws[j]? = some z ∧ x = .str z := fun j x e => by
    rw [List.getElem?_map] at e
    cases ez : ws[j]? with
    | none =>
      rw [ez] at e
      cases e
    | some z =>
      rw [ez] at e
      exact ⟨z, rfl, (Option.some.inj e).symm⟩
  rcases hk with hk | hk
  · refine .inl ⟨hk, lc_map walk_list (by omega) (fun H2 m => SqL.sm hk m) w1 (fun j H2 x H3 _ y => by rw [y.1]; exact Sm.refl _) (fun j x H2 H3 Q hj s2 y s3 qq => ?_) fun D H2 m nD ed => q D H2 m nD (by rw [← hl]; exact ed)⟩
    obtain ⟨rfl, ex⟩ := y
    obtain ⟨z, ez, rfl⟩ := yat j x ex
    exact ev j z _ Q ez s2 qq
  · refine .inr ⟨hk, lc_map walk_tup (by omega) (fun H2 m => SqT.sm hk m) w1 (fun j H2 x H3 _ y => by rw [y.1]; exact Sm.refl _) (fun j x H2 H3 Q hj s2 y s3 qq => ?_) fun D H2 m nD ed => q D H2 m nD (by rw [← hl]; exact ed)⟩
    obtain ⟨rfl, ex⟩ := y
    obtain ⟨z, ez, rfl⟩ := yat j x ex
    exact ev j z _ Q ez s2 qq
theorem all_range {ws : List Str} {p : Str → Bool} : ((List.range ws.length).map fun j => p (ws.getD j ⟨#[]⟩)).all id = ws.all p := by
  rw [Bool.eq_iff_iff, List.all_eq_true, List.all_eq_true]
  constructor
  · intro h z hz
    obtain ⟨j, hj, rfl⟩ := List.mem_iff_getElem.mp hz
    have := h _ (List.mem_map.mpr ⟨j, List.mem_range.mpr hj, rfl⟩)
    rw [List.getD_eq_getElem?_getD, List.getElem?_eq_getElem hj] at this
    exact this
  · intro h b hb
    obtain ⟨j, hj, rfl⟩ := List.mem_map.mp hb
    have hj := List.mem_range.mp hj
    rw [List.getD_eq_getElem?_getD, List.getElem?_eq_getElem hj]
    exact h _ (List.getElem_mem hj)
/-! ### is_table -/
/-- a value that is no dict, of a type that is known -/
def NoDict (K : PySem.W.Frag) (H : Hp) (x : V) : Prop := ∃ t, TyX K H x t ∧ PySem.W.kitOne K t (.type "dict") = some false
/-- what is a table: just these keys -/
def tableB (kvs : List (Key × V)) (ws : List Str) : Bool := decide (kvs.length = ws.length) && ws.all fun z => (valV kvs (.inr z)).isSome
def spTable (K : PySem.W.Frag) : Sp := fun vs H Q _ => ∃ (x : V) (k : Addr) (ws : List Str), vs = [x, .ref k] ∧ Sq K H k ws ∧ ws.length ≤ 1000 ∧
  ((∃ (d : Addr) (kvs : List (Key × V)), x = .ref d ∧ H d = some (.dK kvs) ∧ ∀ H', Sm H H' → Q (.bl (tableB kvs ws)) H') ∨ (NoDict K H x ∧ Q (.bl false) H))
abbrev nTable : List Str := ["value", "keys", "key"]
theorem scTable : FnScope nTable ["value", "keys"] (defScope (top 11)) := ⟨rfl, rfl, rfl, by decide +kernel, rfl, by decide +kernel, by decide +kernel⟩
def rInD1 : V → V → Hp → VK → Prop := fun x y H Q => ∃ (z : Str) (a : Addr) (kvs : List (Key × V)), x = .str z ∧ y = .ref a ∧ Rd H a (.dK kvs) ∧ Q (.bl (valV kvs (.inr z)).isSome) H
theorem op_inD1 {X : Cx} (hu : X.A.units + 1 < cLine) : OpR X (compareOp .In) rInD1 := by
  intro pins s σ H x y v u Q I rx ry h
  obtain ⟨z, a, kvs, rfl, rfl, h, q⟩ := h
  obtain rfl : u = Value.ref a := ry
  exact d_in hu I (.inl ⟨_, .inr z, h, rfl, rfl⟩) rx fun s2 I2 => ⟨.bl _, H, I2, rfl, q⟩
section
variable {P : Program} {w : World} {K : PySem.W.Frag} {mg : Str → Option Value} {base : Heap} {f : Addr} {fd : FuncData}
theorem ok_table (F : FnP K "is_table" (top 11) f fd) (mi : mg "isinstance" = none) (md : mg "dict" = none) (ml : mg "len" = none) (ma : mg "all" = none) : FnOk P w K mg base CX0 1 f fd ["value", "keys"] (spTable K) := by
  refine F.ok (CX := CX0) scTable (fun vs H Q E h => ?_) (fun cdv A outer s H vs Q E hr h => ?_)
  · obtain ⟨x, a, ws, rfl, _⟩ := h
    rfl
  · refine ⟨_, PSs.nox (pss_cons (ps_if (PW.pt (pw_or (pt_not (pt_val (by exact (pe_callB call_isi rfl mi PyProof.Rows.boot_isinstance (pa_cons (pv 0) (pa_cons (pe_bltn (v := .ty "dict") rfl md (by decide +kernel) rfl) pa_nil))))))
        (pw_or1 (pt_cmpR op_ne (by exact (pe_callB call_lenD rfl ml boot_len (pa_cons (pv 0) pa_nil))) (by exact (pe_callB call_len rfl ml boot_len (pa_cons (pv 1) pa_nil))) (nomark _))))) (pss_one (ps_ret pe_bl)) pss_nil)
      (pss_one (ps_ret (by exact (pe_callB (cr_all rfl) rfl ma PyProof.Rows.boot_all (pa_cons (by exact (pe_lc (own := [("key", 2)]) (g := gName 2) (tt := tYes) (te := tOp rInD1 (tVar 2) (tVar 0)) rfl scTable.nd (pi_seq (pv 1))
        (blkOk_by (N := nTable) (sc := defScope (top 11)) (by decide +kernel)) (fun _ _ _ _ _ => pg_name (i := 2) scTable.nd rfl (Or.inl rfl)) (fun _ _ _ _ _ => pts_nil) (fun _ _ _ _ _ => by exact (pe_cmpR (op_inD1 (hu_of hr)) (by exact (pv 2)) (by exact (pv 0)) rfl)))) pa_nil)))))), ?_⟩
    obtain ⟨x, k, ws, rfl, hk, kl, h⟩ := h
    rcases h with ⟨d, kvs, rfl, hd, q⟩ | ⟨⟨t, ty, kk⟩, q⟩
    · refine ⟨_, rfl, .ref d, .ty "dict", _, _, true, rfl, .ty "dict", .base (.dK hd), kit_ty (by decide +kernel), _, rfl, ?_⟩
      refine iteF ⟨_, rfl, d, kvs, rfl, hd, _, rfl, .ref k, ws.length, rfl, ?_, rfl, _, rfl, ?_⟩
      · exact Sq.len hk
      · by_cases c : kvs.length = ws.length
        · have e : decide (V.int ((kvs.length : Nat) : Int) = V.int ((ws.length : Nat) : Int)) = true := decide_eq_true (by rw [c])
          rw [e]
          refine iteF ⟨_, rfl, k, ws.map V.str, rfl, ?_⟩
          refine lc_sq (fv := fun j => .bl (valV kvs (.inr (ws.getD j ⟨#[]⟩))).isSome) hk kl (fun _ => rfl) (fun j z H2 Q ez s2 qq => ?_) fun D H2 m nD ed => ?_
          · have z2 := qq H2 (Sm.refl _)
            rw [List.getD_eq_getElem?_getD, ez] at z2
            exact ⟨_, rfl, _, rfl, z, d, kvs, rfl, rfl, .inl (s2 _ _ hd), z2⟩
          · refine ⟨D, (List.range ws.length).map fun j => (valV kvs (.inr (ws.getD j ⟨#[]⟩))).isSome, rfl, .inl (.inl (by rw [ed, List.map_map]; rfl)), ?_⟩
            rw [all_range (p := fun z => (valV kvs (.inr z)).isSome)]
            have q := q H2 m
            unfold tableB at q
            rw [decide_eq_true c, Bool.true_and] at q
            exact q
        · have e : decide (V.int ((kvs.length : Nat) : Int) = V.int ((ws.length : Nat) : Int)) = false := decide_eq_false fun z => c (by have := V.int.inj z; omega)
          rw [e]
          have q := q H (Sm.refl _)
          unfold tableB at q
          rw [decide_eq_false c, Bool.false_and] at q
          exact iteT q
    · refine ⟨_, rfl, x, .ty "dict", _, _, false, rfl, .ty "dict", ty, kk, _, rfl, ?_⟩
      exact iteT (iteT q)
end
end Dk
set_option Elab.async false
set_option linter.all false
set_option maxRecDepth 100000
set_option maxHeartbeats 4000000
namespace Dk
open PySem PySem.Spec PyProof.Rows L2 Er
/-! ### are_standings, of any list or tuple -/
/-- a list or a tuple of anything -/
def Sv (K : PySem.W.Frag) (H : Hp) (a : Addr) (xs : List V) : Prop := SqL K H a xs ∨ SqT K H a xs
theorem Sv.sm {K : PySem.W.Frag} {H H2 : Hp} {a : Addr} {xs : List V} (h : Sv K H a xs) (m : Sm H H2) : Sv K H2 a xs := by
  rcases h with h | h
  · exact .inl (SqL.sm h m)
  · exact .inr (SqT.sm h m)
theorem Sv.len {K : PySem.W.Frag} {H : Hp} {a : Addr} {xs : List V} (h : Sv K H a xs) : LenV K (.ref a) H xs.length := by
  rcases h with h | h
  · exact .inl ⟨_, h, rfl⟩
  · exact .inr ⟨_, h, rfl⟩
theorem sv_is {K : PySem.W.Frag} {H : Hp} {a : Addr} {xs : List V} (h : Sv K H a xs) : ∃ t, TyX K H (.ref a) (.type t) ∧ (t = "list" ∨ t = "tuple") := by
  rcases h with ((h | ⟨o, h⟩) | ⟨o, its, n, h, c, _⟩) | ((h | ⟨o, h⟩) | ⟨o, its, n, h, c, _⟩)
  · exact ⟨_, .base (.lst h), .inl rfl⟩
  · exact ⟨_, .base (.frz h), .inl rfl⟩
  · exact ⟨_, .kList h c, .inl rfl⟩
  · exact ⟨_, .base (.tup h), .inr rfl⟩
  · exact ⟨_, .fTuple h, .inr rfl⟩
  · exact ⟨_, .kTuple h c, .inr rfl⟩
/-- a text, or something that is none -/
def Itm (K : PySem.W.Frag) (H : Hp) (v : V) : Prop := (∃ z : Str, v = .str z ∧ z.length ≤ 1000) ∨ NoStr K H v
def nameB : V → Bool
  | .str z => decide (IsWord z)
  | _ => false
theorem NoStr.name {K : PySem.W.Frag} {H : Hp} {v : V} (h : NoStr K H v) : nameB v = false := by
  cases v with
  | str z =>
    obtain ⟨t, ty, k⟩ := h
    cases ty with
    | base b =>
      cases b
      rw [show PySem.W.kitOne K (.type "str") (.type "str") = some true from kit_ty (by decide +kernel)] at k
      cases k
  | _ => rfl
def standB (xs : List V) : Bool := decide (1 ≤ xs.length ∧ xs.length ≤ 9) && (xs.all nameB && decide xs.Nodup)
theorem lc_sv {K : PySem.W.Frag} {a : Addr} {xs : List V} {te : TE} {fv : Nat → V} {σ : L2.St} {i : Nat} {H1 : Hp} {Q : Addr → Hp → Prop} (hk : Sv K H1 a xs) (hn : xs.length ≤ 1000) (w1 : ∀ v, wipe ((wipe σ [i]).set i (some v)) [i] = wipe σ [i])
    (ev : ∀ (j : Nat) (x : V) (H2 : Hp) (Q : VK), xs[j]? = some x → Sm H1 H2 → (∀ H4, Sm H2 H4 → Q (fv j) H4) → te ((wipe σ [i]).set i (some x)) H2 Q)
    (q : ∀ (D : Addr) (H2 : Hp), Sm H1 H2 → H1 D = none → H2 D = some (.lst ((List.range xs.length).map fv)) → Q D H2) :
    (SqL K H1 a xs ∧ LcR te σ i H1 Q (Itl K a)) ∨ (SqT K H1 a xs ∧ LcR te σ i H1 Q (Itt K a)) := by
  rcases hk with hk | hk
  · refine .inl ⟨hk, lc_map walk_list hn (fun H2 m => SqL.sm hk m) w1 (fun j H2 x H3 _ y => by rw [y.1]; exact Sm.refl _) (fun j x H2 H3 Q hj s2 y s3 qq => ?_) q⟩
    obtain ⟨rfl, ex⟩ := y
    exact ev j x _ Q ex s2 qq
  · refine .inr ⟨hk, lc_map walk_tup hn (fun H2 m => SqT.sm hk m) w1 (fun j H2 x H3 _ y => by rw [y.1]; exact Sm.refl _) (fun j x H2 H3 Q hj s2 y s3 qq => ?_) q⟩
    obtain ⟨rfl, ex⟩ := y
    exact ev j x _ Q ex s2 qq
theorem all_rangeV {xs : List V} {p : V → Bool} : ((List.range xs.length).map fun j => p (xs.getD j .non)).all id = xs.all p := by
  rw [Bool.eq_iff_iff, List.all_eq_true, List.all_eq_true]
  constructor
  · intro h z hz
    obtain ⟨j, hj, rfl⟩ := List.mem_iff_getElem.mp hz
    have := h _ (List.mem_map.mpr ⟨j, List.mem_range.mpr hj, rfl⟩)
    rw [List.getD_eq_getElem?_getD, List.getElem?_eq_getElem hj] at this
    exact this
  · intro h b hb
    obtain ⟨j, hj, rfl⟩ := List.mem_map.mp hb
    have hj := List.mem_range.mp hj
    rw [List.getD_eq_getElem?_getD, List.getElem?_eq_getElem hj]
    exact h _ (List.getElem_mem hj)
theorem names_all : ∀ {xs : List V}, xs.all nameB = true → ∃ ws : List Str, xs = ws.map V.str ∧ ∀ z ∈ ws, IsWord z
  | [], _ => ⟨[], rfl, fun z hz => nomatch hz⟩
  | x :: xs, h => by
    rw [List.all_cons, Bool.and_eq_true] at h
    obtain ⟨ws, e, hw⟩ := names_all h.2
    cases x with
    | str z =>
      refine ⟨z :: ws, by rw [e]; rfl, fun y hy => ?_⟩
      rcases List.mem_cons.mp hy with r | r
      · rw [r]
        exact of_decide_eq_true h.1
      · exact hw y r
    | _ => exact absurd (show false = true from h.1) (by decide)
theorem nodup_strs {ws : List Str} : (ws.map V.str).Nodup ↔ ws.Nodup := by
  constructor
  · intro h
    exact List.Pairwise.of_map V.str (fun a b n e => n (by rw [e])) h
  · intro h
    exact List.Pairwise.map _ (fun a b n e => n (V.str.inj e)) h
/-- neither a list nor a tuple -/
def NoSq (K : PySem.W.Frag) (H : Hp) (x : V) : Prop := ∃ t, TyX K H x t ∧ PySem.W.kitOne K t (.type "list") = some false ∧ PySem.W.kitOne K t (.type "tuple") = some false
theorem tyx_new {K : PySem.W.Frag} {H : Hp} {x : V} {t : Value} {T : Addr} {o : HO} (h : TyX K H x t) (n : H T = none) : TyX K (upd H T o) x t := by
  have m := Sm.new (o := o) n
  cases h with
  | base b =>
    refine .base ?_
    cases b with
    | non => exact .non
    | bl y => exact .bl y
    | int i => exact .int i
    | str y => exact .str y
    | flt y => exact .flt y
    | lst e => exact .lst (m _ _ e)
    | frz e => exact .frz (m _ _ e)
    | tup e => exact .tup (m _ _ e)
    | dK e => exact .dK (m _ _ e)
    | dT e => exact .dT (m _ _ e)
    | ins e a b c d f => exact .ins (m _ _ e) a b c d f
  | byt b => exact .byt b
  | set e => exact .set (m _ _ e)
  | kList e c => exact .kList e c
  | kTuple e c => exact .kTuple e c
  | kDict e c => exact .kDict e c
  | fTuple e => exact .fTuple (m _ _ e)
  | fDict e => exact .fDict (m _ _ e)
theorem tyx_sm {K : PySem.W.Frag} {H H2 : Hp} {x : V} {t : Value} (h : TyX K H x t) (m : Sm H H2) : TyX K H2 x t := by
  cases h with
  | base b =>
    refine .base ?_
    cases b with
    | non => exact .non
    | bl y => exact .bl y
    | int i => exact .int i
    | str y => exact .str y
    | flt y => exact .flt y
    | lst e => exact .lst (m _ _ e)
    | frz e => exact .frz (m _ _ e)
    | tup e => exact .tup (m _ _ e)
    | dK e => exact .dK (m _ _ e)
    | dT e => exact .dT (m _ _ e)
    | ins e a b c d f => exact .ins (m _ _ e) a b c d f
  | byt b => exact .byt b
  | set e => exact .set (m _ _ e)
  | kList e c => exact .kList e c
  | kTuple e c => exact .kTuple e c
  | kDict e c => exact .kDict e c
  | fTuple e => exact .fTuple (m _ _ e)
  | fDict e => exact .fDict (m _ _ e)
theorem NoStr.sm {K : PySem.W.Frag} {H H2 : Hp} {x : V} (h : NoStr K H x) (m : Sm H H2) : NoStr K H2 x := by
  obtain ⟨t, ty, k⟩ := h
  exact ⟨t, tyx_sm ty m, k⟩
def spStand (K : PySem.W.Frag) : Sp := fun vs H Q _ => ∃ x : V, vs = [x] ∧ ((∃ (a : Addr) (xs : List V), x = .ref a ∧ Sv K H a xs ∧ xs.length ≤ 1000 ∧ (∀ y ∈ xs, Itm K H y) ∧ ∀ H', Sm H H' → Q (.bl (standB xs)) H') ∨ (NoSq K H x ∧ ∀ H', Sm H H' → Q (.bl false) H'))
abbrev nStand : List Str := ["value", "name"]
theorem scStand : FnScope nStand ["value"] (defScope (top 22)) := ⟨rfl, rfl, rfl, by decide +kernel, rfl, by decide +kernel, by decide +kernel⟩
section
variable {P : Program} {w : World} {K : PySem.W.Frag} {mg : Str → Option Value} {base : Heap} {f fI fF : Addr} {fd dI dF : FuncData}
theorem bI (F : FnP K "is_name" (top 8) fI dI) : Binds K dI ["value"] [] := F.bindsN fun _ _ _ _ _ _ us hl => match us, hl with
  | [_], _ => rfl
theorem bF (F : FnP K "are_different" (top 10) fF dF) : Binds K dF ["names"] [] := F.bindsN fun _ _ _ _ _ _ us hl => match us, hl with
  | [_], _ => rfl
theorem ok_stand (F : FnP K "are_standings" (top 22) f fd) (mi : mg "isinstance" = none) (mL : mg "list" = none) (mT : mg "tuple" = none) (ml : mg "len" = none) (ma : mg "all" = none)
    (GI : FnOk P w K mg base CX0 1 fI dI ["value"] (spIsName K)) (FI : FnP K "is_name" (top 8) fI dI) (gI : mg "is_name" = some (.ref fI)) (GF : FnOk P w K mg base CX0 1 fF dF ["names"] (spDiff K)) (FF : FnP K "are_different" (top 10) fF dF) (gF : mg "are_different" = some (.ref fF)) :
    FnOk P w K mg base CX0 2 f fd ["value"] (spStand K) := by
  refine F.ok (CX := CX0) scStand (fun vs H Q E h => ?_) (fun cdv A outer s H vs Q E hr h => ?_)
  · obtain ⟨x, rfl, _⟩ := h
    rfl
  · refine ⟨_, PSs.nox (pss_cons (ps_if (PW.pt (pw_or (pt_not (pt_val (by exact (pe_callB call_isiT rfl mi PyProof.Rows.boot_isinstance (pa_cons (pv 0) (pa_cons (by exact (pe_tup (pa_cons (pe_bltn (v := .ty "list") rfl mL (by decide +kernel) rfl) (pa_cons (pe_bltn (v := .ty "tuple") rfl mT (by decide +kernel) rfl) pa_nil)))) pa_nil))))))
        (pw_or1 (pt_not (pt_chain op_le op_le pe_int (by exact (pe_callB call_len rfl ml boot_len (pa_cons (pv 0) pa_nil))) pe_int))))) (pss_one (ps_ret pe_bl)) pss_nil)
      (pss_one (ps_ret (by exact (pe_and (by exact (pe_callB (cr_all rfl) rfl ma PyProof.Rows.boot_all (pa_cons (by exact (pe_lc (own := [("name", 1)]) (g := gName 1) (tt := tYes) (te := tCall (spIsName K) [] E0 (tCons (tVar 1) tNil)) rfl scStand.nd (pi_seq (pv 0))
        (blkOk_by (N := nStand) (sc := defScope (top 22)) (by decide +kernel)) (fun _ _ _ _ _ => pg_name (i := 1) scStand.nd rfl (Or.inl rfl)) (fun _ _ _ _ _ => pts_nil) (fun _ _ _ _ _ => by exact (pe_call GI hr rfl gI FI.kp (bI FI) .nil pass0 (pa_cons (by exact (pv 1)) pa_nil))))) pa_nil)))
        (pe_one (by exact (pe_call GF hr rfl gF FF.kp (bF FF) .nil pass0 (pa_cons (pv 0) pa_nil))))))))), ?_⟩
    obtain ⟨x, rfl, h⟩ := h
    have c2 : 2 ≤ sizeLine := by
      rw [sizeLine_eq]
      omega
    have pr : Paired ClsV [V.ty "list", V.ty "tuple"] [Value.type "list", Value.type "tuple"] := .cons (.ty _) (.cons (.ty _) .nil)
    rcases h with ⟨a, xs, rfl, hs, hl, hi, q⟩ | ⟨⟨t, ty, k1, k2⟩, q⟩
    · obtain ⟨t, ty, et⟩ := sv_is hs
      have kk : PySem.W.kitAny K (.type t) [.type "list", .type "tuple"] = some true := by
        rcases et with rfl | rfl
        · exact kitAny_cons (b := true) (kit_ty (by decide +kernel)) (fun z => nomatch z) fun _ => rfl
        · exact kitAny_cons (b := false) (kit_ty (by decide +kernel)) (fun _ => kitAny_cons (b := true) (kit_ty (by decide +kernel)) (fun z => nomatch z) fun _ => rfl) fun z => nomatch z
      refine ⟨_, rfl, c2, fun T nT => ⟨.ref a, T, _, .type t, _, true, rfl, upd_same, pr, tyx_new ty nT, kk, _, rfl, ?_⟩⟩
      have m1 := Sm.new (o := .tup [.ty "list", .ty "tuple"]) nT
      generalize upd H T (.tup [.ty "list", .ty "tuple"]) = G at m1 ⊢
      have hs := Sv.sm hs m1
      refine iteF ⟨_, rfl, .ref a, xs.length, rfl, Sv.len hs, _, _, rfl, rfl, _, rfl, ?_⟩
      have bad : ¬(1 ≤ xs.length ∧ xs.length ≤ 9) → standB xs = false := fun z => by
        unfold standB
        rw [decide_eq_false z]
        rfl
      by_cases c1 : (1 : Int) ≤ (xs.length : Nat)
      · rw [decide_eq_true c1]
        refine iteT ⟨_, _, rfl, rfl, _, rfl, ?_⟩
        by_cases c9 : ((xs.length : Nat) : Int) ≤ 9
        · rw [decide_eq_true c9]
          have good : standB xs = (xs.all nameB && decide xs.Nodup) := by
            unfold standB
            rw [decide_eq_true (by omega), Bool.true_and]
          rw [good] at q
          refine iteF ⟨_, rfl, a, xs, rfl, ?_⟩
          refine lc_sv (fv := fun j => .bl (nameB (xs.getD j .non))) hs hl (fun _ => rfl) (fun j y H2 Q ey s2 qq => ?_) fun D H2 m nD ed => ?_
          · have z2 := qq
            rw [List.getD_eq_getElem?_getD, ey] at z2
            refine ⟨_, rfl, y, rfl, ?_⟩
            rcases hi y (List.mem_of_getElem? ey) with ⟨z, rfl, zl⟩ | ns
            · exact .inl ⟨z, rfl, zl, fun H4 m4 => z2 H4 m4⟩
            · have e0 := NoStr.name ns
              refine .inr ⟨NoStr.sm (NoStr.sm ns m1) s2, ?_⟩
              have z3 := z2 H2 (Sm.refl _)
              rw [show nameB ((some y).getD .non) = nameB y from rfl, e0] at z3
              exact z3
          · refine ⟨D, (List.range xs.length).map fun j => nameB (xs.getD j .non), rfl, .inl (.inl (by rw [ed, List.map_map]; rfl)), _, rfl, ?_⟩
            rw [all_rangeV (p := nameB)]
            by_cases ca : xs.all nameB = true
            · obtain ⟨ws, ew, _⟩ := names_all ca
              rw [ca, Bool.true_and] at q
              rw [ca]
              refine iteT ⟨_, rfl, a, ws, rfl, ew ▸ Sv.sm hs m, by rw [ew, List.length_map] at hl; exact hl, ?_⟩
              have q := q H2 (Sm.trans m1 m)
              rw [ew, decide_eq_decide.mpr nodup_strs] at q
              exact q
            · rw [Bool.not_eq_true] at ca
              rw [ca, Bool.false_and] at q
              rw [ca]
              exact iteF (q H2 (Sm.trans m1 m))
        · rw [decide_eq_false c9]
          rw [bad (by omega)] at q
          exact iteT (q _ m1)
      · rw [decide_eq_false c1]
        rw [bad (by omega)] at q
        exact iteF ⟨_, rfl, iteT (q _ m1)⟩
    · have kk : PySem.W.kitAny K t [.type "list", .type "tuple"] = some false := kitAny_cons (b := false) k1 (fun _ => kitAny_cons (b := false) k2 (fun _ => rfl) fun z => nomatch z) fun z => nomatch z
      refine ⟨_, rfl, c2, fun T nT => ⟨x, T, _, t, _, false, rfl, upd_same, pr, tyx_new ty nT, kk, _, rfl, ?_⟩⟩
      exact iteT (iteT (q _ (Sm.new nT)))
end
end Dk
set_option Elab.async false
set_option linter.all false
set_option maxRecDepth 100000
set_option maxHeartbeats 4000000
namespace Dk
open PySem PySem.Spec PyProof.Rows L2 Er
/-! ### walks over the values of a dict; is_lead, are_sights -/
theorem lc_vals {d : Addr} {o : Obj} {kvs : List (Key × V)} {te : TE} {fv : Nat → V} {σ : L2.St} {i : Nat} {H1 : Hp} {Q : Addr → Hp → Prop} (hd : H1 d = some (.frz o (.dK kvs))) (hn : kvs.length ≤ 1000) (w1 : ∀ v, wipe ((wipe σ [i]).set i (some v)) [i] = wipe σ [i])
    (ev : ∀ (j : Nat) (x : V) (H2 : Hp) (Q : VK), (kvs.map (·.2))[j]? = some x → Sm H1 H2 → (∀ H4, Sm H2 H4 → Q (fv j) H4) → te ((wipe σ [i]).set i (some x)) H2 Q)
    (q : ∀ (D : Addr) (H2 : Hp), Sm H1 H2 → H1 D = none → H2 D = some (.lst ((List.range kvs.length).map fv)) → Q D H2) : LcR te σ i H1 Q (Itd d o kvs) := by
  refine lc_map walk_values hn (fun H2 m => m _ _ hd) w1 (fun j H2 x H3 _ y => by rw [y.1]; exact Sm.refl _) (fun j x H2 H3 Q hj s2 y s3 qq => ?_) q
  obtain ⟨rfl, k, ex⟩ := y
  exact ev j x _ Q (by rw [List.getElem?_map, ex]; rfl) s2 qq
theorem tyx_lock {K : PySem.W.Frag} {H : Hp} {x : V} {t : Value} {d : Addr} {kvs : List (Key × V)} (o : Obj) (h : TyX K H x t) (hd : H d = some (.dK kvs)) : TyX K (upd H d (.frz o (.dK kvs))) x t := by
  have keep : ∀ {a : Addr} {u : HO}, H a = some u → u ≠ .dK kvs → upd H d (.frz o (.dK kvs)) a = some u := fun {a u} e n => by
    rw [upd_ne (fun z => n (by rw [z, hd] at e; exact (Option.some.inj e).symm))]
    exact e
  cases h with
  | base b =>
    cases b with
    | non => exact .base .non
    | bl y => exact .base (.bl y)
    | int i => exact .base (.int i)
    | str y => exact .base (.str y)
    | flt y => exact .base (.flt y)
    | lst e => exact .base (.lst (keep e (fun z => nomatch z)))
    | frz e => exact .base (.frz (keep e (fun z => nomatch z)))
    | tup e => exact .base (.tup (keep e (fun z => nomatch z)))
    | @dK a ks e =>
      by_cases c : a = d
      · subst c
        exact .fDict upd_same
      · exact .base (.dK (by rw [upd_ne c]; exact e))
    | dT e => exact .base (.dT (keep e (fun z => nomatch z)))
    | ins e a b c d f => exact .base (.ins (keep e (fun z => nomatch z)) a b c d f)
  | byt b => exact .byt b
  | set e => exact .set (keep e (fun z => nomatch z))
  | kList e c => exact .kList e c
  | kTuple e c => exact .kTuple e c
  | kDict e c => exact .kDict e c
  | fTuple e => exact .fTuple (keep e (fun z => nomatch z))
  | fDict e => exact .fDict (keep e (fun z => nomatch z))
theorem NoStr.lock {K : PySem.W.Frag} {H : Hp} {x : V} {d : Addr} {kvs : List (Key × V)} (o : Obj) (h : NoStr K H x) (hd : H d = some (.dK kvs)) : NoStr K (upd H d (.frz o (.dK kvs))) x := by
  obtain ⟨t, ty, k⟩ := h
  exact ⟨t, tyx_lock o ty hd, k⟩
theorem Sq.lock {K : PySem.W.Frag} {H : Hp} {a : Addr} {ws : List Str} {d : Addr} {kvs : List (Key × V)} (o : Obj) (h : Sq K H a ws) (hd : H d = some (.dK kvs)) : Sq K (upd H d (.frz o (.dK kvs))) a ws := by
  have keep : ∀ {u : HO}, H a = some u → u ≠ .dK kvs → upd H d (.frz o (.dK kvs)) a = some u := fun {u} e n => by
    rw [upd_ne (fun z => n (by rw [z, hd] at e; exact (Option.some.inj e).symm))]
    exact e
  rcases h with ((h | ⟨p, h⟩) | h) | ((h | ⟨p, h⟩) | h)
  · exact .inl (.inl (.inl (keep h (fun z => nomatch z))))
  · exact .inl (.inl (.inr ⟨p, keep h (fun z => nomatch z)⟩))
  · exact .inl (.inr h)
  · exact .inr (.inl (.inl (keep h (fun z => nomatch z))))
  · exact .inr (.inl (.inr ⟨p, keep h (fun z => nomatch z)⟩))
  · exact .inr (.inr h)
theorem sm_unlock {H H1 : Hp} {d : Addr} {u : HO} {o : Obj} (hd : H d = some u) (m : Sm (upd H d (.frz o u)) H1) : Sm H (upd H1 d u) := fun b v e => by
  by_cases c : b = d
  · subst c
    rw [hd] at e
    rw [upd_same]
    exact e
  · rw [upd_ne c]
    exact m b v (by rw [upd_ne c]; exact e)
def oneB (ws : List Str) : V → Bool
  | .str z => decide (z ∈ ws)
  | _ => false
theorem NoStr.one {K : PySem.W.Frag} {H : Hp} {v : V} (ws : List Str) (h : NoStr K H v) : oneB ws v = false := by
  have e := NoStr.name h
  cases v with
  | str z =>
    obtain ⟨t, ty, k⟩ := h
    cases ty with
    | base b =>
      cases b
      rw [show PySem.W.kitOne K (.type "str") (.type "str") = some true from kit_ty (by decide +kernel)] at k
      cases k
  | _ => rfl
def leadB (kvs : List (Key × V)) (ws : List Str) : Bool := tableB kvs ws && (kvs.map (·.2)).all (oneB ws)
def sightB (kvs : List (Key × V)) (ws : List Str) : Bool := tableB kvs ws && (kvs.map (·.2)).all nameB
/-- a table or no table, whose keys are some names -/
def spTab (K : PySem.W.Frag) (B : List (Key × V) → List Str → Bool) : Sp := fun vs H Q _ => ∃ (x : V) (k : Addr) (ws : List Str), vs = [x, .ref k] ∧ Sq K H k ws ∧ ws.length ≤ 1000 ∧
  ((∃ (d : Addr) (kvs : List (Key × V)), x = .ref d ∧ H d = some (.dK kvs) ∧ kvs.length ≤ 1000 ∧ (∀ y ∈ kvs.map (·.2), Itm K H y) ∧ ∀ H', Sm H H' → Q (.bl (B kvs ws)) H') ∨ (NoDict K H x ∧ ∀ H', Sm H H' → Q (.bl false) H'))
abbrev nLead : List Str := ["value", "standings", "target"]
theorem scLead : FnScope nLead ["value", "standings"] (defScope (top 24)) := ⟨rfl, rfl, rfl, by decide +kernel, rfl, by decide +kernel, by decide +kernel⟩
abbrev nAreS : List Str := ["value", "standings", "sight"]
theorem scAreS : FnScope nAreS ["value", "standings"] (defScope (top 25)) := ⟨rfl, rfl, rfl, by decide +kernel, rfl, by decide +kernel, by decide +kernel⟩
section
variable {P : Program} {w : World} {K : PySem.W.Frag} {mg : Str → Option Value} {base : Heap} {f fI fT fO : Addr} {fd dI dT dO : FuncData}
theorem bTb (F : FnP K "is_table" (top 11) fT dT) : Binds K dT ["value", "keys"] [] := F.bindsN fun _ _ _ _ _ _ us hl => match us, hl with
  | [_, _], _ => rfl
theorem bO (F : FnP K "is_one_of" (top 9) fO dO) : Binds K dO ["value", "names"] [] := F.bindsN fun _ _ _ _ _ _ us hl => match us, hl with
  | [_, _], _ => rfl
theorem ok_lead (F : FnP K "is_lead" (top 24) f fd) (ma : mg "all" = none)
    (GT : FnOk P w K mg base CX0 1 fT dT ["value", "keys"] (spTable K)) (FT : FnP K "is_table" (top 11) fT dT) (gT : mg "is_table" = some (.ref fT)) (GO : FnOk P w K mg base CX0 1 fO dO nOneOf (spOneOf K)) (FO : FnP K "is_one_of" (top 9) fO dO) (gO : mg "is_one_of" = some (.ref fO)) :
    FnOk P w K mg base CX0 2 f fd ["value", "standings"] (spTab K leadB) := by
  refine F.ok (CX := CX0) scLead (fun vs H Q E h => ?_) (fun cdv A outer s H vs Q E hr h => ?_)
  · obtain ⟨x, k, ws, rfl, _⟩ := h
    rfl
  · refine ⟨_, PSs.nox (pss_cons (ps_if (pt_not (pt_val (by exact (pe_call GT hr rfl gT FT.kp (bTb FT) .nil pass0 (pa_cons (pv 0) (pa_cons (pv 1) pa_nil)))) (fun _ => rfl))) (pss_one (ps_ret pe_bl)) pss_nil)
      (pss_one (ps_ret (by exact (pe_callB (cr_all rfl) rfl ma PyProof.Rows.boot_all (pa_cons (pe_lock (by exact (pe_lc (own := [("target", 2)]) (g := gName 2) (tt := tYes) (te := tCall (spOneOf K) [] E0 (tCons (tVar 2) (tCons (tVar 1) tNil))) rfl scLead.nd (pi_values (pv 0))
        (blkOk_by (N := nLead) (sc := defScope (top 24)) (by decide +kernel)) (fun _ _ _ _ _ => pg_name (i := 2) scLead.nd rfl (Or.inl rfl)) (fun _ _ _ _ _ => pts_nil) (fun _ _ _ _ _ => by exact (pe_call GO hr rfl gO FO.kp (bO FO) .nil pass0 (pa_cons (by exact (pv 2)) (pa_cons (by exact (pv 1)) pa_nil))))))) pa_nil)))))), ?_⟩
    obtain ⟨x, k, ws, rfl, hk, kl, h⟩ := h
    refine ⟨_, rfl, _, rfl, x, k, ws, rfl, hk, kl, ?_⟩
    rcases h with ⟨d, kvs, rfl, hd, dl, hi, q⟩ | ⟨nd, q⟩
    · refine .inl ⟨d, kvs, rfl, hd, fun H1 m1 => ⟨_, rfl, ?_⟩⟩
      by_cases c : tableB kvs ws = true
      · rw [c]
        have hd1 := m1 _ _ hd
        refine iteF ⟨d, .dK kvs, hd1, True.intro, fun od => ⟨_, rfl, d, od, kvs, rfl, upd_same, ?_⟩⟩
        have hk1 := Sq.lock od (Sq.sm hk m1) hd1
        refine lc_vals (fv := fun j => .bl (oneB ws ((kvs.map (·.2)).getD j .non))) upd_same dl (fun _ => rfl) (fun j y H2 Q ey s2 qq => ?_) fun D H2 m nD ed => ?_
        · have z2 := qq H2 (Sm.refl _)
          rw [List.getD_eq_getElem?_getD, ey] at z2
          refine ⟨_, rfl, _, rfl, y, k, rfl, ?_⟩
          rcases hi y (List.mem_of_getElem? ey) with ⟨z, rfl, zl⟩ | ns
          · exact .inl ⟨z, ws, rfl, by rcases Sq.sm hk1 s2 with a | a; exact .inl a; exact .inr (.inl a), z2⟩
          · refine .inr ⟨NoStr.sm (NoStr.lock od (NoStr.sm ns m1) hd1) s2, ?_⟩
            rw [show oneB ws ((some y).getD .non) = oneB ws y from rfl, NoStr.one ws ns] at z2
            exact z2
        · refine ⟨m _ _ upd_same, D, (List.range kvs.length).map fun j => oneB ws ((kvs.map (·.2)).getD j .non), rfl, ?_, ?_⟩
          · have nd : D ≠ d := fun z => by
              rw [z, upd_same] at nD
              cases nD
            exact .inl (.inl (by rw [upd_ne nd, ed, List.map_map]; rfl))
          · have e : ((List.range kvs.length).map fun j => oneB ws ((kvs.map (·.2)).getD j .non)).all id = leadB kvs ws := by
              have := all_rangeV (xs := kvs.map (·.2)) (p := oneB ws)
              rw [List.length_map] at this
              rw [this]
              unfold leadB
              rw [c, Bool.true_and]
            rw [e]
            exact q _ (Sm.trans m1 (sm_unlock hd1 m))
      · rw [Bool.not_eq_true] at c
        have q := q H1 m1
        unfold leadB at q
        rw [c, Bool.false_and] at q
        rw [c]
        exact iteT q
    · exact .inr ⟨nd, _, rfl, iteT (q H (Sm.refl H))⟩
theorem ok_areS (F : FnP K "are_sights" (top 25) f fd) (ma : mg "all" = none)
    (GT : FnOk P w K mg base CX0 1 fT dT ["value", "keys"] (spTable K)) (FT : FnP K "is_table" (top 11) fT dT) (gT : mg "is_table" = some (.ref fT)) (GI : FnOk P w K mg base CX0 1 fI dI ["value"] (spIsName K)) (FI : FnP K "is_name" (top 8) fI dI) (gI : mg "is_name" = some (.ref fI)) :
    FnOk P w K mg base CX0 2 f fd ["value", "standings"] (spTab K sightB) := by
  refine F.ok (CX := CX0) scAreS (fun vs H Q E h => ?_) (fun cdv A outer s H vs Q E hr h => ?_)
  · obtain ⟨x, k, ws, rfl, _⟩ := h
    rfl
  · refine ⟨_, PSs.nox (pss_one (ps_ret (by exact (pe_and (by exact (pe_call GT hr rfl gT FT.kp (bTb FT) .nil pass0 (pa_cons (pv 0) (pa_cons (pv 1) pa_nil)))) (pe_one (by exact (pe_callB (cr_all rfl) rfl ma PyProof.Rows.boot_all (pa_cons (pe_lock (by exact (pe_lc (own := [("sight", 2)]) (g := gName 2) (tt := tYes) (te := tCall (spIsName K) [] E0 (tCons (tVar 2) tNil)) rfl scAreS.nd (pi_values (pv 0))
        (blkOk_by (N := nAreS) (sc := defScope (top 25)) (by decide +kernel)) (fun _ _ _ _ _ => pg_name (i := 2) scAreS.nd rfl (Or.inl rfl)) (fun _ _ _ _ _ => pts_nil) (fun _ _ _ _ _ => by exact (pe_call GI hr rfl gI FI.kp (bI FI) .nil pass0 (pa_cons (by exact (pv 2)) pa_nil)))))) pa_nil)))))))), ?_⟩
    obtain ⟨x, k, ws, rfl, hk, kl, h⟩ := h
    refine ⟨_, rfl, _, rfl, x, k, ws, rfl, hk, kl, ?_⟩
    rcases h with ⟨d, kvs, rfl, hd, dl, hi, q⟩ | ⟨nd, q⟩
    · refine .inl ⟨d, kvs, rfl, hd, fun H1 m1 => ⟨_, rfl, ?_⟩⟩
      by_cases c : tableB kvs ws = true
      · rw [c]
        have hd1 := m1 _ _ hd
        refine iteT ⟨d, .dK kvs, hd1, True.intro, fun od => ⟨_, rfl, d, od, kvs, rfl, upd_same, ?_⟩⟩
        refine lc_vals (fv := fun j => .bl (nameB ((kvs.map (·.2)).getD j .non))) upd_same dl (fun _ => rfl) (fun j y H2 Q ey s2 qq => ?_) fun D H2 m nD ed => ?_
        · have z2 := qq
          rw [List.getD_eq_getElem?_getD, ey] at z2
          refine ⟨_, rfl, y, rfl, ?_⟩
          rcases hi y (List.mem_of_getElem? ey) with ⟨z, rfl, zl⟩ | ns
          · exact .inl ⟨z, rfl, zl, fun H4 m4 => z2 H4 m4⟩
          · refine .inr ⟨NoStr.sm (NoStr.lock od (NoStr.sm ns m1) hd1) s2, ?_⟩
            have z3 := z2 H2 (Sm.refl _)
            rw [show nameB ((some y).getD .non) = nameB y from rfl, NoStr.name ns] at z3
            exact z3
        · refine ⟨m _ _ upd_same, D, (List.range kvs.length).map fun j => nameB ((kvs.map (·.2)).getD j .non), rfl, ?_, ?_⟩
          · have nd : D ≠ d := fun z => by
              rw [z, upd_same] at nD
              cases nD
            exact .inl (.inl (by rw [upd_ne nd, ed, List.map_map]; rfl))
          · have e : ((List.range kvs.length).map fun j => nameB ((kvs.map (·.2)).getD j .non)).all id = sightB kvs ws := by
              have := all_rangeV (xs := kvs.map (·.2)) (p := nameB)
              rw [List.length_map] at this
              rw [this]
              unfold sightB
              rw [c, Bool.true_and]
            rw [e]
            exact q _ (Sm.trans m1 (sm_unlock hd1 m))
      · rw [Bool.not_eq_true] at c
        have q := q H1 m1
        unfold sightB at q
        rw [c, Bool.false_and] at q
        rw [c]
        exact iteF q
    · exact .inr ⟨nd, _, rfl, iteF (q H (Sm.refl H))⟩
end
end Dk
set_option Elab.async false
set_option linter.all false
set_option maxRecDepth 100000
set_option maxHeartbeats 4000000
namespace Dk
open PySem PySem.Spec PyProof.Rows L2 Er
/-! ### are_deeds -/
theorem pair_at {α β : Type} {F : α → β → Prop} : ∀ {ps : List α} {qs : List β}, Paired F ps qs → ∀ {j : Nat} {p : α}, ps[j]? = some p → ∃ q, qs[j]? = some q ∧ F p q
  | _, _, .nil, j, p, e => by cases e
  | _, _, .cons a t, 0, p, e => by
    have e2 := Option.some.inj e
    subst e2
    exact ⟨_, rfl, a⟩
  | _, _, .cons a t, j + 1, p, e => pair_at t (j := j) e
theorem paired_len {α β : Type} {F : α → β → Prop} {ps : List α} {qs : List β} (h : Paired F ps qs) : ps.length = qs.length := by
  induction h with
  | nil => rfl
  | cons a _ ih => rw [List.length_cons, List.length_cons, ih]
theorem valV_of : ∀ {kvs : List (Key × V)} {j : Nat} {k : Key} {v : V}, (kvs.map (·.1)).Nodup → kvs[j]? = some (k, v) → valV kvs k = some v
  | [], _, _, _, _, e => by cases e
  | (k0, v0) :: kvs, 0, k, v, _, e => by
    have e2 := Option.some.inj e
    cases e2
    unfold valV
    rw [List.find?_cons_of_pos (by simp)]
    rfl
  | (k0, v0) :: kvs, j + 1, k, v, nd, e => by
    have e2 : kvs[j]? = some (k, v) := e
    have nd2 := List.nodup_cons.mp nd
    have ne : k0 ≠ k := fun z => nd2.1 (z ▸ List.mem_map.mpr ⟨_, List.mem_of_getElem? e2, rfl⟩)
    have ih := valV_of nd2.2 e2
    unfold valV at ih ⊢
    rw [List.find?_cons_of_neg (by simpa using ne)]
    exact ih
/-- a value of a dict of deeds: a dict, or something that is none -/
def TabAt (K : PySem.W.Frag) (H : Hp) (d : Addr) (v : V) : Option (List (Key × V)) → Prop
  | some ks => ∃ e, v = .ref e ∧ e ≠ d ∧ H e = some (.dK ks) ∧ ks.length ≤ 1000 ∧ ∀ y ∈ ks.map (·.2), Itm K H y
  | none => NoDict K H v
def entB (ws : List Str) (kv : Key × V) (t : Option (List (Key × V))) : Bool := nameB (kV kv.1) && (match t with
  | some ks => leadB ks ws
  | none => false)
def deedB (kvs : List (Key × V)) (tabs : List (Option (List (Key × V)))) (ws : List Str) : Bool := decide (1 ≤ kvs.length ∧ kvs.length ≤ 4) && ((kvs.zip tabs).map fun p => entB ws p.1 p.2).all id
def spDeeds (K : PySem.W.Frag) : Sp := fun vs H Q _ => ∃ (x : V) (k : Addr) (ws : List Str), vs = [x, .ref k] ∧ Sq K H k ws ∧ ws.length ≤ 1000 ∧
  ((∃ (d : Addr) (kvs : List (Key × V)) (tabs : List (Option (List (Key × V)))), x = .ref d ∧ H d = some (.dK kvs) ∧ kvs.length ≤ 1000 ∧ (kvs.map (·.1)).Nodup ∧ (∀ kv ∈ kvs, ∀ z, kv.1 = .inr z → z.length ≤ 1000) ∧ Paired (fun kv t => TabAt K H d kv.2 t) kvs tabs ∧ ∀ H', Sm H H' → Q (.bl (deedB kvs tabs ws)) H') ∨
    (NoDict K H x ∧ ∀ H', Sm H H' → Q (.bl false) H'))
abbrev nDeeds : List Str := ["value", "standings", "name"]
theorem scDeeds : FnScope nDeeds ["value", "standings"] (defScope (top 23)) := ⟨rfl, rfl, rfl, by decide +kernel, rfl, by decide +kernel, by decide +kernel⟩
theorem range_bools (bs : List Bool) : ((List.range bs.length).map fun j => bs.getD j false) = bs := by
  refine List.ext_getElem (by simp) fun j h1 h2 => ?_
  rw [List.getElem_map, List.getElem_range, List.getD_eq_getElem?_getD, List.getElem?_eq_getElem h2]
  rfl
theorem Itm.sm {K : PySem.W.Frag} {H H2 : Hp} {x : V} (h : Itm K H x) (m : Sm H H2) : Itm K H2 x := by
  rcases h with h | h
  · exact .inl h
  · exact .inr (NoStr.sm h m)
theorem Itm.lock {K : PySem.W.Frag} {H : Hp} {x : V} {d : Addr} {kvs : List (Key × V)} (o : Obj) (h : Itm K H x) (hd : H d = some (.dK kvs)) : Itm K (upd H d (.frz o (.dK kvs))) x := by
  rcases h with h | h
  · exact .inl h
  · exact .inr (NoStr.lock o h hd)
theorem NoDict.sm {K : PySem.W.Frag} {H H2 : Hp} {x : V} (h : NoDict K H x) (m : Sm H H2) : NoDict K H2 x := by
  obtain ⟨t, ty, k⟩ := h
  exact ⟨t, tyx_sm ty m, k⟩
theorem NoDict.lock {K : PySem.W.Frag} {H : Hp} {x : V} {d : Addr} {kvs : List (Key × V)} (o : Obj) (h : NoDict K H x) (hd : H d = some (.dK kvs)) : NoDict K (upd H d (.frz o (.dK kvs))) x := by
  obtain ⟨t, ty, k⟩ := h
  exact ⟨t, tyx_lock o ty hd, k⟩
section
variable {P : Program} {w : World} {K : PySem.W.Frag} {mg : Str → Option Value} {base : Heap} {f fI fL : Addr} {fd dI dL : FuncData}
theorem bLd (F : FnP K "is_lead" (top 24) fL dL) : Binds K dL ["value", "standings"] [] := F.bindsN fun _ _ _ _ _ _ us hl => match us, hl with
  | [_, _], _ => rfl
theorem ok_deeds (F : FnP K "are_deeds" (top 23) f fd) (mi : mg "isinstance" = none) (md : mg "dict" = none) (ml : mg "len" = none) (ma : mg "all" = none)
    (GI : FnOk P w K mg base CX0 1 fI dI ["value"] (spIsName K)) (FI : FnP K "is_name" (top 8) fI dI) (gI : mg "is_name" = some (.ref fI)) (GL : FnOk P w K mg base CX0 2 fL dL ["value", "standings"] (spTab K leadB)) (FL : FnP K "is_lead" (top 24) fL dL) (gL : mg "is_lead" = some (.ref fL)) :
    FnOk P w K mg base CX0 3 f fd ["value", "standings"] (spDeeds K) := by
  refine F.ok (CX := CX0) scDeeds (fun vs H Q E h => ?_) (fun cdv A outer s H vs Q E hr h => ?_)
  · obtain ⟨x, k, ws, rfl, _⟩ := h
    rfl
  · have hr1 := hr.mono (show 1 ≤ 2 by decide)
    refine ⟨_, PSs.nox (pss_cons (ps_if (PW.pt (pw_or (pt_not (pt_val (by exact (pe_callB call_isi rfl mi PyProof.Rows.boot_isinstance (pa_cons (pv 0) (pa_cons (pe_bltn (v := .ty "dict") rfl md (by decide +kernel) rfl) pa_nil))))))
        (pw_or1 (pt_not (pt_chain op_le op_le pe_int (by exact (pe_callB call_lenD rfl ml boot_len (pa_cons (pv 0) pa_nil))) pe_int))))) (pss_one (ps_ret pe_bl)) pss_nil)
      (pss_one (ps_ret (by exact (pe_callB (cr_all rfl) rfl ma PyProof.Rows.boot_all (pa_cons (pe_lock (by exact (pe_lc (own := [("name", 2)]) (g := gName 2) (tt := tYes) (te := tAndV (tCall (spIsName K) [] E0 (tCons (tVar 2) tNil)) (tCall (spTab K leadB) [] E0 (tCons (tDGet (tVar 0) (tVar 2)) (tCons (tVar 1) tNil)))) rfl scDeeds.nd (pi_keys (pv 0))
        (blkOk_by (N := nDeeds) (sc := defScope (top 23)) (by decide +kernel)) (fun _ _ _ _ _ => pg_name (i := 2) scDeeds.nd rfl (Or.inl rfl)) (fun _ _ _ _ _ => pts_nil)
        (fun _ _ _ _ _ => by exact (pe_and (by exact (pe_call GI hr1 rfl gI FI.kp (bI FI) .nil pass0 (pa_cons (by exact (pv 2)) pa_nil))) (pe_one (by exact (pe_call GL hr rfl gL FL.kp (bLd FL) .nil pass0 (pa_cons (by exact (pe_dget (hu_of hr) (by exact (pv 0)) (by exact (pv 2)) (fun _ _ => rfl))) (pa_cons (by exact (pv 1)) pa_nil)))))))))) pa_nil)))))), ?_⟩
    obtain ⟨x, k, ws, rfl, hk, kl, h⟩ := h
    rcases h with ⟨d, kvs, tabs, rfl, hd, dl, nd, zl, pr, q⟩ | ⟨⟨t, ty, kk⟩, q⟩
    · refine ⟨_, rfl, .ref d, .ty "dict", _, _, true, rfl, .ty "dict", .base (.dK hd), kit_ty (by decide +kernel), _, rfl, ?_⟩
      refine iteF ⟨_, rfl, d, kvs, rfl, hd, _, _, rfl, rfl, _, rfl, ?_⟩
      have bad : ¬(1 ≤ kvs.length ∧ kvs.length ≤ 4) → deedB kvs tabs ws = false := fun z => by
        unfold deedB
        rw [decide_eq_false z]
        rfl
      by_cases c1 : (1 : Int) ≤ (kvs.length : Nat)
      · rw [decide_eq_true c1]
        refine iteT ⟨_, _, rfl, rfl, _, rfl, ?_⟩
        by_cases c4 : ((kvs.length : Nat) : Int) ≤ 4
        · rw [decide_eq_true c4]
          have tl : tabs.length = kvs.length := (paired_len pr).symm
          have bl : ((kvs.zip tabs).map fun p => entB ws p.1 p.2).length = kvs.length := by
            rw [List.length_map, List.length_zip]
            omega
          have good : deedB kvs tabs ws = ((kvs.zip tabs).map fun p => entB ws p.1 p.2).all id := by
            unfold deedB
            rw [decide_eq_true (by omega), Bool.true_and]
          rw [good] at q
          refine iteF ⟨d, .dK kvs, hd, True.intro, fun od => ⟨_, rfl, d, od, rfl, .inl ⟨kvs, upd_same, ?_⟩⟩⟩
          have hk1 := Sq.lock od hk hd
          refine lc_map walk_keys (fv := fun j => .bl (((kvs.zip tabs).map fun p => entB ws p.1 p.2).getD j false)) dl (fun H2 m => m _ _ upd_same) (fun _ => rfl) (fun j H2 x H3 _ y => by rw [y.1]; exact Sm.refl _) (fun j x H2 H3 Q hj s2 y s3 qq => ?_) fun D H2 m nD ed => ?_
          · obtain ⟨rfl, kx, v, ekv, rfl⟩ := y
            obtain ⟨tb, et, ht⟩ := pair_at pr ekv
            have eb : ((kvs.zip tabs).map fun p => entB ws p.1 p.2).getD j false = entB ws (kx, v) tb := by
              rw [List.getD_eq_getElem?_getD, List.getElem?_map, List.getElem?_zip_eq_some (z := ((kx, v), tb)) |>.mpr ⟨ekv, et⟩]
              rfl
            rw [eb] at qq
            refine ⟨_, rfl, kV kx, rfl, ?_⟩
            have hd2 : H3 d = some (.frz od (.dK kvs)) := s2 _ _ upd_same
            have go : ∀ H4, Sm H3 H4 → nameB (kV kx) = true → (tCall (spTab K leadB) [] E0 (tCons (tDGet (tVar 0) (tVar 2)) (tCons (tVar 1) tNil))) ((wipe (L2.start nDeeds [V.ref d, V.ref k]) [2]).set 2 (some (kV kx))) H4 Q := fun H4 m4 en => by
              refine ⟨_, rfl, _, rfl, d, v, rfl, .inl ⟨kvs, kx, .inr ⟨od, m4 _ _ hd2⟩, rfl, (valV_of nd ekv).symm⟩, _, rfl, v, k, ws, rfl, Sq.sm hk1 (Sm.trans s2 m4), kl, ?_⟩
              cases tb with
              | some ks =>
                obtain ⟨e, rfl, ned, he, kl2, hi⟩ := ht
                refine .inl ⟨e, ks, rfl, m4 _ _ (s2 _ _ (by rw [upd_ne ned]; exact he)), kl2, fun y hy => Itm.sm (Itm.lock od (hi y hy) hd) (Sm.trans s2 m4), fun H5 m5 => ?_⟩
                have z := qq H5 (Sm.trans m4 m5)
                unfold entB at z
                rw [show nameB (kV (kx, V.ref e).1) = true from en, Bool.true_and] at z
                exact z
              | none =>
                refine .inr ⟨NoDict.sm (NoDict.lock od ht hd) (Sm.trans s2 m4), fun H5 m5 => ?_⟩
                have z := qq H5 (Sm.trans m4 m5)
                unfold entB at z
                rw [Bool.and_false] at z
                exact z
            have stop : ∀ H4, Sm H3 H4 → nameB (kV kx) = false → Q (.bl false) H4 := fun H4 m4 en => by
              have z := qq H4 m4
              unfold entB at z
              rw [show nameB (kV (kx, v).1) = false from en, Bool.false_and] at z
              exact z
            cases kx with
            | inl i => exact .inr ⟨NoStr.int, _, rfl, iteF (stop H3 (Sm.refl _) rfl)⟩
            | inr z =>
              refine .inl ⟨z, rfl, zl _ (List.mem_of_getElem? ekv) z rfl, fun H4 m4 => ⟨_, rfl, ?_⟩⟩
              by_cases cz : IsWord z
              · rw [decide_eq_true cz]
                exact iteT (go H4 m4 (decide_eq_true cz))
              · rw [decide_eq_false cz]
                exact iteF (stop H4 m4 (decide_eq_false cz))
          · refine ⟨m _ _ upd_same, D, (List.range kvs.length).map fun j => ((kvs.zip tabs).map fun p => entB ws p.1 p.2).getD j false, rfl, ?_, ?_⟩
            · have nd : D ≠ d := fun z => by
                rw [z, upd_same] at nD
                cases nD
              exact .inl (.inl (by rw [upd_ne nd, ed, List.map_map]; rfl))
            · rw [← bl, range_bools]
              exact q _ (sm_unlock hd m)
        · rw [decide_eq_false c4]
          rw [bad (by omega)] at q
          exact iteT (q _ (Sm.refl _))
      · rw [decide_eq_false c1]
        rw [bad (by omega)] at q
        exact iteF ⟨_, rfl, iteT (q _ (Sm.refl _))⟩
    · refine ⟨_, rfl, x, .ty "dict", _, _, false, rfl, .ty "dict", ty, kk, _, rfl, ?_⟩
      exact iteT (iteT (q _ (Sm.refl _)))
end
end Dk
set_option Elab.async false
set_option linter.all false
set_option maxRecDepth 100000
set_option maxHeartbeats 4000000
namespace Dk
open PySem PySem.Spec PyProof.Rows L2 Er
/-! ### comprehensions of dicts -/
/-- what a dict comprehension without conditions asks of its walk -/
abbrev DcR (g : TG) (tk tv : TE) (σ : L2.St) (vs : List Nat) (H1 : Hp) (Q : Addr → Hp → Prop) (J : It) : Prop := ∀ D, H1 D = none → ∃ W : Nat → Nat → Hp → Prop, (∃ m, W 0 m (upd H1 D (.dK []))) ∧ ∀ i m H, W i m H →
      (J.stop i H ∧ Q D H) ∨ (J.go i H ∧ ∃ Nx : Hp → Prop, (∀ H', Nx H' → ∃ m', m' < m ∧ W (i + 1) m' H') ∧ ∀ x H', J.yld i H x H' → g x (wipe σ vs) H' fun σ2 H2 => wipe σ2 vs = wipe σ vs ∧ tYes σ2 H2 fun b H3 =>
        if b = true then tk σ2 H3 fun y H4 => tv σ2 H4 fun z H5 => ∃ kvs k, y = kV k ∧ H5 D = some (.dK kvs) ∧ kvs.length < sizeLine ∧ Nx (upd H5 D (.dK (putK kvs k z))) else Nx H3)
theorem dc_it {J : It} {n : Nat} {G : Hp → Prop} {Y : Nat → Hp → V → Hp → Prop} (w : Walk J n G Y) {tk tv : TE} {i : Nat} {σ : L2.St} {H1 : Hp} {Q : Addr → Hp → Prop} (w1 : ∀ v, wipe ((wipe σ [i]).set i (some v)) [i] = wipe σ [i]) (Pv : Addr → Nat → Hp → Prop)
    (h0 : ∀ D, H1 D = none → Pv D 0 (upd H1 D (.dK []))) (hG : ∀ D j H, j ≤ n → Pv D j H → G H)
    (hs : ∀ D j x H H', H1 D = none → j < n → Pv D j H → Y j H x H' → tk ((wipe σ [i]).set i (some x)) H' fun y H4 => tv ((wipe σ [i]).set i (some x)) H4 fun z H5 => ∃ kvs k, y = kV k ∧ H5 D = some (.dK kvs) ∧ kvs.length < sizeLine ∧ Pv D (j + 1) (upd H5 D (.dK (putK kvs k z))))
    (hd : ∀ D H, H1 D = none → Pv D n H → Q D H) : DcR (gName i) tk tv σ [i] H1 Q J := by
  intro D nD
  refine ⟨fun j m H => m = n - j ∧ j ≤ n ∧ Pv D j H, ⟨n, rfl, Nat.zero_le _, h0 D nD⟩, ?_⟩
  rintro j m H ⟨rfl, hj, p⟩
  have q := hG D j H hj p
  by_cases lt : j < n
  · refine .inr ⟨w.goes j H lt q, Pv D (j + 1), fun H' p2 => ⟨n - (j + 1), by omega, rfl, lt, p2⟩, fun x H' y => ⟨w1 x, ?_⟩⟩
    unfold tYes
    dsimp only
    rw [if_pos rfl]
    exact hs D j x H H' nD lt p (w.yields j H x H' lt q y)
  · have e : j = n := by omega
    subst e
    exact .inl ⟨w.stops H q, hd D H nD p⟩
/-- {x: e for x in names} -/
theorem dc_names {K : PySem.W.Frag} {a : Addr} {ws : List Str} {tv : TE} {fv : Nat → V} {σ : L2.St} {i : Nat} {H1 : Hp} {Q : Addr → Hp → Prop} (hk : Sq K H1 a ws) (nd : ws.Nodup) (hn : ws.length ≤ 1000) (w1 : ∀ v, wipe ((wipe σ [i]).set i (some v)) [i] = wipe σ [i])
    (s1 : ∀ v, ((wipe σ [i]).set i (some v))[i]? = some (some v))
    (ev : ∀ (j : Nat) (z : Str) (H2 : Hp) (Q : VK), ws[j]? = some z → Sm H1 H2 → Q (fv j) H2 → tv ((wipe σ [i]).set i (some (.str z))) H2 Q)
    (q : ∀ (D : Addr) (H2 : Hp), Sm H1 H2 → H1 D = none → H2 D = some (.dK (dkv ws ((List.range ws.length).map fv))) → Q D H2) :
    (SqL K H1 a (ws.map V.str) ∧ DcR (gName i) (tVar i) tv σ [i] H1 Q (Itl K a)) ∨ (SqT K H1 a (ws.map V.str) ∧ DcR (gName i) (tVar i) tv σ [i] H1 Q (Itt K a)) := by
  have hl : (ws.map V.str).length = ws.length := List.length_map _
  have step : ∀ (D : Addr) (j : Nat) (x : V) (H : Hp), H1 D = none → j < ws.length → (H D = some (.dK (dkv (ws.take j) ((List.range j).map fv))) ∧ Sm H1 H) → (ws.map V.str)[j]? = some x →
      (tVar i) ((wipe σ [i]).set i (some x)) H fun y H4 => tv ((wipe σ [i]).set i (some x)) H4 fun z H5 => ∃ kvs k, y = kV k ∧ H5 D = some (.dK kvs) ∧ kvs.length < sizeLine ∧ ((upd H5 D (.dK (putK kvs k z))) D = some (.dK (dkv (ws.take (j + 1)) ((List.range (j + 1)).map fv))) ∧ Sm H1 (upd H5 D (.dK (putK kvs k z)))) := by
    rintro D j x H nD hj ⟨ed, sm⟩ ex
    have ez : ws[j]? = some (ws[j]'hj) := List.getElem?_eq_getElem hj
    have e2 : x = .str (ws[j]'hj) := by
      rw [List.getElem?_map, ez] at ex
      exact (Option.some.inj ex).symm
    subst e2
    refine ⟨_, s1 _, ev j _ H _ ez sm ?_⟩
    have l1 : ((List.range j).map fv).length = (ws.take j).length := by
      rw [List.length_map, List.length_range, List.length_take]
      omega
    have tk : ws.take (j + 1) = ws.take j ++ [ws[j]'hj] := by
      rw [List.take_add_one, ez]
      rfl
    refine ⟨_, .inr (ws[j]'hj), rfl, ed, by rw [dkv_len l1, List.length_take, sizeLine_eq]; omega, ?_, ?_⟩
    · rw [upd_same, put_new]
      · rw [tk, List.range_succ, List.map_append]
        unfold dkv
        rw [List.map_append, List.zip_append (by rw [List.length_map]; exact l1.symm)]
        rfl
      · rw [dkv_keys l1.symm]
        intro z
        obtain ⟨y, hy, e⟩ := List.mem_map.mp z
        have e3 : y = ws[j]'hj := Sum.inr.inj e
        have nd2 : (ws.take j ++ [ws[j]'hj]).Nodup := by
          rw [← tk]
          exact nd.sublist (List.take_sublist _ _)
        exact (List.nodup_append.mp nd2).2.2 y hy _ List.mem_cons_self e3
    · intro b o e
      rw [upd_ne (ne_of_none e nD)]
      exact sm _ _ e
  have fin : ∀ D H, H1 D = none → (H D = some (.dK (dkv (ws.take ws.length) ((List.range ws.length).map fv))) ∧ Sm H1 H) → Q D H := fun D H nD ⟨ed, sm⟩ => q D H sm nD (by rw [List.take_length] at ed; exact ed)
  rcases hk with hk | hk
  · refine .inl ⟨hk, dc_it walk_list w1 (fun D j H => H D = some (.dK (dkv (ws.take j) ((List.range j).map fv))) ∧ Sm H1 H) (fun D nD => ⟨upd_same, Sm.new nD⟩) (fun D j H _ p => SqL.sm hk p.2) (fun D j x H H' nD hj p y => ?_) fun D H nD p => fin D H nD (by rw [hl] at p; exact p)⟩
    obtain ⟨rfl, ex⟩ := y
    exact step D j x _ nD (by omega) p ex
  · refine .inr ⟨hk, dc_it walk_tup w1 (fun D j H => H D = some (.dK (dkv (ws.take j) ((List.range j).map fv))) ∧ Sm H1 H) (fun D nD => ⟨upd_same, Sm.new nD⟩) (fun D j H _ p => SqT.sm hk p.2) (fun D j x H H' nD hj p y => ?_) fun D H nD p => fin D H nD (by rw [hl] at p; exact p)⟩
    obtain ⟨rfl, ex⟩ := y
    exact step D j x _ nD (by omega) p ex
/-- a statement that is never reached -/
def tNever : TS := fun _ _ _ => False
theorem ps_never {X : Cx} {st : Stmt} : PS X st tNever := ⟨fun _ _ _ _ _ _ h => h.elim⟩
end Dk
set_option Elab.async false
set_option linter.all false
set_option maxRecDepth 100000
set_option maxHeartbeats 4000000
namespace Dk
open PySem PySem.Spec PyProof.Rows L2 Er
/-! ### the class of desks: its making -/
def clsBody (s : Stmt) : List Stmt := match s with
  | .ClassDef _ _ _ b _ _ _ _ _ _ _ => b
  | _ => []
def meth (i : Nat) : Stmt := (clsBody (top 21)).getD i (.Pass ⟨0, 0, 0, 0⟩)
/-- the names of the outer comprehension of __init__ -/
abbrev scI1 : Scope := { kind := .function, names := [(".0", .local), ("deed", .cell), ("deeds", .cell), ("standings", .cell)], isGenerator := false, isCoroutine := false }
abbrev nInit : List Str := ["self", "standings", "deeds", "sights", "deed", "one"]
theorem scInit : FnScope nInit ["self", "standings", "deeds", "sights"] (defScope (meth 0)) := ⟨rfl, rfl, rfl, by decide +kernel, rfl, by decide +kernel, by decide +kernel⟩
/-- a desk's own fields -/
def fldsOf (st ld si : Addr) : List (Str × V) := [("_standings", .ref st), ("_leads", .ref ld), ("_sights", .ref si)]
/-- what stands under the names ws in a table -/
def picked (ks : List (Key × V)) (ws : List Str) : List V := ws.map fun z => (valV ks (.inr z)).getD .non
def spInit (K : PySem.W.Frag) (C : Addr) : Sp := fun vs H Q _ => ∃ (x dx sa da ga : Addr) (ws ds : List Str) (us : List V) (tabs : List (List (Key × V))) (gs : List (Key × V)), vs = [.ref x, .ref sa, .ref da, .ref ga] ∧
  H x = some (.ins C dx []) ∧ Sq K H sa ws ∧ ws.Nodup ∧ standB (ws.map V.str) = true ∧ H da = some (.dK (dkv ds us)) ∧ us.length = ds.length ∧ ds.Nodup ∧ (∀ z ∈ ds, IsWord z) ∧
  Paired (fun v t => ∃ e, v = V.ref e ∧ e ≠ da ∧ H e = some (.dK t) ∧ t.length ≤ 1000 ∧ ∀ y ∈ t.map (·.2), Itm K H y) us tabs ∧ deedB (dkv ds us) (tabs.map some) ws = true ∧
  H ga = some (.dK gs) ∧ gs.length ≤ 1000 ∧ (∀ y ∈ gs.map (·.2), Itm K H y) ∧ sightB gs ws = true ∧
  ∀ (st ld si : Addr) (as : List Addr) H', Sx x H H' → H' x = some (.ins C dx (fldsOf st ld si)) → ld ≠ x → si ≠ x → SqT K H' st (ws.map V.str) → H' ld = some (.dK (dkv ds (as.map V.ref))) → H' si = some (.dK (dkv ws (picked gs ws))) →
    Paired (fun a t => a ≠ x ∧ H' a = some (.dK (dkv ws (picked t ws)))) as tabs → Q .non H'
theorem SqL.x {K : PySem.W.Frag} {H H2 : Hp} {a x C dx : Addr} {fs : List (Str × V)} {xs : List V} (h : SqL K H a xs) (hx : H x = some (.ins C dx fs)) (m : Sx x H H2) : SqL K H2 a xs := by
  have ne : ∀ {u : HO}, H a = some u → u ≠ .ins C dx fs → a ≠ x := fun {u} e n z => n (by rw [z, hx] at e; exact (Option.some.inj e).symm)
  rcases h with (h | ⟨o, h⟩) | h
  · exact .inl (.inl (m _ _ (ne h (fun z => nomatch z)) h))
  · exact .inl (.inr ⟨o, m _ _ (ne h (fun z => nomatch z)) h⟩)
  · exact .inr h
theorem SqT.x {K : PySem.W.Frag} {H H2 : Hp} {a x C dx : Addr} {fs : List (Str × V)} {xs : List V} (h : SqT K H a xs) (hx : H x = some (.ins C dx fs)) (m : Sx x H H2) : SqT K H2 a xs := by
  have ne : ∀ {u : HO}, H a = some u → u ≠ .ins C dx fs → a ≠ x := fun {u} e n z => n (by rw [z, hx] at e; exact (Option.some.inj e).symm)
  rcases h with (h | ⟨o, h⟩) | h
  · exact .inl (.inl (m _ _ (ne h (fun z => nomatch z)) h))
  · exact .inl (.inr ⟨o, m _ _ (ne h (fun z => nomatch z)) h⟩)
  · exact .inr h
theorem Sq.x {K : PySem.W.Frag} {H H2 : Hp} {a x C dx : Addr} {fs : List (Str × V)} {ws : List Str} (h : Sq K H a ws) (hx : H x = some (.ins C dx fs)) (m : Sx x H H2) : Sq K H2 a ws := by
  rcases h with h | h
  · exact .inl (SqL.x h hx m)
  · exact .inr (SqT.x h hx m)
theorem tup_either {K : PySem.W.Frag} {H : Hp} {a : Addr} {xs : List V} {R : V → Hp → Prop} (h : SqL K H a xs ∨ SqT K H a xs) (r : ∀ st G, Sm H G → SqT K G st xs → R (.ref st) G) :
    (SqL K H a xs ∧ ∀ l, H l = none → R (.ref l) (upd H l (.tup xs))) ∨ (SqT K H a xs ∧ R (.ref a) H) := by
  rcases h with h | h
  · exact .inl ⟨h, fun l nl => r l _ (Sm.new nl) (.inl (.inl upd_same))⟩
  · exact .inr ⟨h, r a H (Sm.refl _) h⟩
/-- tuple(xs) of a list or a tuple -/
def rTupA (K : PySem.W.Frag) : List V → Hp → VK → Prop := fun vs H Q => ∃ (a : Addr) (xs : List V), vs = [.ref a] ∧ (SqL K H a xs ∨ SqT K H a xs) ∧ ∀ st G, Sm H G → SqT K G st xs → Q (.ref st) G
theorem call_tupA {X : Cx} : CallR X (.type "tuple") (rTupA X.K) := by
  intro pins s σ H vs us Q I r h
  obtain ⟨a, xs, e, h, q⟩ := h
  exact call_tuple_of pins s σ H vs us Q I r ⟨a, xs, e, tup_either (R := Q) h q⟩
theorem range_picked {t : List (Key × V)} {ws : List Str} : ((List.range ws.length).map fun j => (valV t (.inr (ws.getD j ⟨#[]⟩))).getD .non) = picked t ws := by
  unfold picked
  refine List.ext_getElem (by simp) fun j h1 h2 => ?_
  rw [List.length_map] at h2
  rw [List.getElem_map, List.getElem_range, List.getElem_map, List.getD_eq_getElem?_getD, List.getElem?_eq_getElem h2]
  rfl
theorem table_has {t : List (Key × V)} {ws : List Str} {z : Str} (h : tableB t ws = true) (hz : z ∈ ws) : valV t (.inr z) = some ((valV t (.inr z)).getD .non) := by
  unfold tableB at h
  rw [Bool.and_eq_true] at h
  have := List.all_eq_true.mp h.2 z hz
  cases e : valV t (.inr z) with
  | none =>
    rw [e] at this
    cases this
  | some v => rfl
theorem dkv_at {ds : List Str} {us : List V} {j : Nat} {k : Key} {v : V} (h : (dkv ds us)[j]? = some (k, v)) : ∃ z, ds[j]? = some z ∧ k = .inr z ∧ us[j]? = some v := by
  obtain ⟨a, b⟩ := List.getElem?_zip_eq_some.mp h
  rw [List.getElem?_map] at a
  cases e : ds[j]? with
  | none =>
    rw [e] at a
    cases a
  | some z =>
    rw [e] at a
    exact ⟨z, rfl, (Option.some.inj a).symm, b⟩
section
variable {P : Program} {w : World} {K : PySem.W.Frag} {mg : Str → Option Value} {base : Heap} {f C fS fD fG : Addr} {fd dS dD dG : FuncData}
theorem bSt (F : FnP K "are_standings" (top 22) fS dS) : Binds K dS ["value"] [] := F.bindsN fun _ _ _ _ _ _ us hl => match us, hl with
  | [_], _ => rfl
theorem bDd (F : FnP K "are_deeds" (top 23) fD dD) : Binds K dD ["value", "standings"] [] := F.bindsN fun _ _ _ _ _ _ us hl => match us, hl with
  | [_, _], _ => rfl
theorem bSg (F : FnP K "are_sights" (top 25) fG dG) : Binds K dG ["value", "standings"] [] := F.bindsN fun _ _ _ _ _ _ us hl => match us, hl with
  | [_, _], _ => rfl
theorem ok_init (F : FunD K "__init__" "Desk.__init__" (defArgs (meth 0)) (defBody (meth 0)) (defScope (meth 0)) [] [] f fd) (mT : mg "tuple" = none) (hC : Cls K C) (n1 : NoAttr K C "_standings") (n2 : NoAttr K C "_leads") (n3 : NoAttr K C "_sights")
    (GS : FnOk P w K mg base CX0 2 fS dS ["value"] (spStand K)) (FS : FnP K "are_standings" (top 22) fS dS) (gS : mg "are_standings" = some (.ref fS)) (GD : FnOk P w K mg base CX0 3 fD dD ["value", "standings"] (spDeeds K)) (FD : FnP K "are_deeds" (top 23) fD dD) (gD : mg "are_deeds" = some (.ref fD))
    (GG : FnOk P w K mg base CX0 2 fG dG ["value", "standings"] (spTab K sightB)) (FG : FnP K "are_sights" (top 25) fG dG) (gG : mg "are_sights" = some (.ref fG)) :
    FnOk P w K mg base CX0 4 f fd ["self", "standings", "deeds", "sights"] (spInit K C) := by
  refine F.ok (CX := CX0) scInit (fun vs H Q E h => ?_) (fun cdv A outer s H vs Q E hr h => ?_)
  · obtain ⟨x, dx, sa, da, ga, ws, ds, us, tabs, gs, rfl, _⟩ := h
    rfl
  · have hr2 := hr.mono (show 2 ≤ 3 by decide)
    refine ⟨_, PSs.nox (pss_cons (ps_if (pt_not (pt_val (by exact (pe_call GS hr2 rfl gS FS.kp (bSt FS) .nil pass0 (pa_cons (pv 1) pa_nil))) (fun _ => rfl))) (pss_one ps_never) pss_nil)
      (pss_cons (ps_if (pt_not (pt_val (by exact (pe_call GD hr rfl gD FD.kp (bDd FD) .nil pass0 (pa_cons (pv 2) (pa_cons (pv 1) pa_nil)))) (fun _ => rfl))) (pss_one ps_never) pss_nil)
      (pss_cons (ps_if (pt_not (pt_val (by exact (pe_call GG hr2 rfl gG FG.kp (bSg FG) .nil pass0 (pa_cons (pv 3) (pa_cons (pv 1) pa_nil)))) (fun _ => rfl))) (pss_one ps_never) pss_nil)
      (pss_cons (ps_fld (pv 0) (by exact (pe_callTy call_tupA rfl mT PyProof.Rows.boot_tuple (pa_cons (pv 1) pa_nil))) (by rfl))
      (pss_cons (ps_fld (pv 0) (pe_lock (by exact (pe_dc (own := [("deed", 4)]) (g := gName 4) (tt := tYes) (tk := tVar 4) (tv := tDc (iSeq K (tVar 1)) (gName 5) tYes (tVar 5) (tDGet (tDGet (tVar 2) (tVar 4)) (tVar 5)) [5]) rfl scInit.nd (pi_keys (pv 2))
        (blkOk_by (N := nInit) (sc := defScope (meth 0)) (by decide +kernel)) (fun _ _ _ _ _ => pg_name (i := 4) scInit.nd rfl (Or.inr rfl)) (fun _ _ _ _ _ => pts_nil) (fun _ _ _ _ _ => by exact (pv 4))
        (fun _ _ _ _ _ => by exact (pe_dc (own := [("one", 5)]) (g := gName 5) (tt := tYes) rfl scInit.nd (pi_seq (by exact (pv 1)))
          (blkOk_by (N := nInit) (sc := scI1) (by decide +kernel)) (fun _ _ _ _ _ => pg_name (i := 5) scInit.nd rfl (Or.inl rfl)) (fun _ _ _ _ _ => pts_nil) (fun _ _ _ _ _ => by exact (pv 5))
          (fun _ _ _ _ _ => by exact (pe_dget (hu_of hr) (by exact (pe_dget (hu_of hr) (by exact (pv 2)) (by exact (pv 4)) (fun _ _ => rfl))) (by exact (pv 5)) (fun _ _ => rfl)))))))) (by rfl))
      (pss_one (ps_fld (pv 0) (by exact (pe_dc (own := [("one", 5)]) (g := gName 5) (tt := tYes) (tk := tVar 5) (tv := tDGet (tVar 3) (tVar 5)) rfl scInit.nd (pi_seq (pv 1))
        (blkOk_by (N := nInit) (sc := defScope (meth 0)) (by decide +kernel)) (fun _ _ _ _ _ => pg_name (i := 5) scInit.nd rfl (Or.inl rfl)) (fun _ _ _ _ _ => pts_nil) (fun _ _ _ _ _ => by exact (pv 5)) (fun _ _ _ _ _ => by exact (pe_dget (hu_of hr) (by exact (pv 3)) (by exact (pv 5)) (fun _ _ => rfl))))) (by rfl)))))))), ?_⟩
    obtain ⟨x, dx, sa, da, ga, ws, ds, us, tabs, gs, rfl, hx, hs, wnd, hst, hda, ul, dnd, dw, pr, hdeed, hga, gl, gi, hsig, q⟩ := h
    have st9 : ws.length ≤ 9 ∧ ∀ z ∈ ws, z.length ≤ 1000 := by
      unfold standB at hst
      rw [Bool.and_eq_true, Bool.and_eq_true, decide_eq_true_iff, List.length_map] at hst
      refine ⟨hst.1.2, fun z hz => ?_⟩
      have h8 : IsWord z := of_decide_eq_true (List.all_eq_true.mp hst.2.1 (.str z) (List.mem_map.mpr ⟨z, hz, rfl⟩))
      have := h8.2.1
      omega
    have tl : tabs.length = us.length := (paired_len pr).symm
    have dkl : (dkv ds us).length = ds.length := dkv_len (by omega)
    have d4 : ds.length ≤ 4 ∧ ∀ t ∈ tabs, leadB t ws = true := by
      unfold deedB at hdeed
      rw [Bool.and_eq_true, decide_eq_true_iff, dkl] at hdeed
      refine ⟨hdeed.1.2, fun t ht => ?_⟩
      obtain ⟨j, hj, rfl⟩ := List.mem_iff_getElem.mp ht
      have hj2 : j < (dkv ds us).length := by omega
      have := List.all_eq_true.mp hdeed.2 (entB ws ((dkv ds us)[j]'hj2) (some tabs[j])) (List.mem_map.mpr ⟨((dkv ds us)[j]'hj2, some tabs[j]), List.mem_of_getElem? (i := j) (List.getElem?_zip_eq_some.mpr ⟨List.getElem?_eq_getElem hj2, by rw [List.getElem?_map, List.getElem?_eq_getElem hj]; rfl⟩), rfl⟩)
      unfold entB at this
      have this : (nameB (kV ((dkv ds us)[j]'hj2).1) && leadB tabs[j] ws) = true := this
      rw [Bool.and_eq_true] at this
      exact this.2
    have knd : ((dkv ds us).map (·.1)).Nodup := by
      rw [dkv_keys ul.symm]
      exact List.Pairwise.map _ (fun a b n z => n (Sum.inr.inj z)) dnd
    refine ⟨_, rfl, .ref sa, rfl, .inl ⟨sa, ws.map V.str, rfl, hs, by rw [List.length_map]; omega, fun y hy => ?_, fun H1 m1 => ⟨_, rfl, ?_⟩⟩⟩
    · obtain ⟨z, hz, rfl⟩ := List.mem_map.mp hy
      exact .inl ⟨z, rfl, st9.2 z hz⟩
    rw [hst]
    refine iteF ⟨_, rfl, _, rfl, .ref da, sa, ws, rfl, Sq.sm hs m1, by omega, .inl ⟨da, dkv ds us, tabs.map some, rfl, m1 _ _ hda, by omega, knd, fun kv hk z ez => ?_, ?_, fun H2 m2 => ⟨_, rfl, ?_⟩⟩⟩
    · obtain ⟨j, hj⟩ := List.mem_iff_getElem?.mp hk
      obtain ⟨k, v⟩ := kv
      obtain ⟨z2, e1, e2, _⟩ := dkv_at hj
      have ez : k = .inr z := ez
      rw [e2] at ez
      have e3 : z2 = z := Sum.inr.inj ez
      have := (dw z2 (List.mem_of_getElem? e1)).2.1
      rw [← e3]
      omega
    · refine paired_of (by rw [List.length_map]; omega) fun j kv t e1 e2 => ?_
      obtain ⟨k, v⟩ := kv
      obtain ⟨z2, _, _, ev⟩ := dkv_at e1
      obtain ⟨t2, et, e, ee, ne, he, hl, hi⟩ := pair_at pr ev
      rw [List.getElem?_map, et] at e2
      have e3 : some t2 = t := Option.some.inj e2
      subst e3
      exact ⟨e, ee, ne, m1 _ _ he, hl, fun y hy => Itm.sm (hi y hy) m1⟩
    rw [hdeed]
    have m12 := Sm.trans m1 m2
    refine iteF ⟨_, rfl, _, rfl, .ref ga, sa, ws, rfl, Sq.sm hs m12, by omega, .inl ⟨ga, gs, rfl, m12 _ _ hga, gl, fun y hy => Itm.sm (gi y hy) m12, fun H3 m3 => ⟨_, rfl, ?_⟩⟩⟩
    rw [hsig]
    refine iteF ?_
    have m := Sm.trans m12 m3
    clear m1 m2 m3 m12
    have hx3 := m _ _ hx
    have hs3 := Sq.sm hs m
    have hda3 := m _ _ hda
    have hga3 := m _ _ hga
    have pr3 : Paired (fun v t => ∃ e, v = V.ref e ∧ e ≠ da ∧ H3 e = some (.dK t)) us tabs := pair_mono pr fun v _ t ⟨e, a, b, c, _⟩ => ⟨e, a, b, m _ _ c⟩
    have htab : ∀ t ∈ tabs, tableB t ws = true := fun t ht => by
      have := d4.2 t ht
      unfold leadB at this
      rw [Bool.and_eq_true] at this
      exact this.1
    have hgt : tableB gs ws = true := by
      unfold sightB at hsig
      rw [Bool.and_eq_true] at hsig
      exact hsig.1
    refine ⟨_, rfl, sa, ws.map V.str, rfl, hs3, fun st G mG hst2 => ?_⟩
    have hxG := mG _ _ hx3
    refine ⟨_, rfl, x, C, dx, [], rfl, hxG, hC, n1, by show 0 < 1000; decide, ?_⟩
    have m4 : Sx x H (upd G x (.ins C dx (putF "_standings" (.ref st) []))) := (Sx.of (Sm.trans m mG)).trans Sx.upd
    have hs4 : Sq K (upd G x (.ins C dx (putF "_standings" (.ref st) []))) sa ws := Sq.x (Sq.sm hs3 mG) hxG Sx.upd
    have st4 : SqT K (upd G x (.ins C dx (putF "_standings" (.ref st) []))) st (ws.map V.str) := SqT.x hst2 hxG Sx.upd
    have x4 : upd G x (.ins C dx (putF "_standings" (.ref st) [])) x = some (.ins C dx [("_standings", .ref st)]) := upd_same
    have dax : da ≠ x := fun z => by
      rw [z, hx3] at hda3
      cases hda3
    have gax : ga ≠ x := fun z => by
      rw [z, hx3] at hga3
      cases hga3
    have hda4 := m4 _ _ dax hda
    have hga4 := m4 _ _ gax hga
    have pr4 : Paired (fun v t => ∃ e, v = V.ref e ∧ e ≠ da ∧ upd G x (.ins C dx (putF "_standings" (.ref st) [])) e = some (.dK t)) us tabs := pair_mono pr fun v _ t ⟨e, a, b, c, _⟩ => ⟨e, a, b, m4 _ _ (fun z => by rw [z, hx] at c; cases c) c⟩
    generalize upd G x (.ins C dx (putF "_standings" (.ref st) [])) = G4 at m4 hs4 st4 x4 hda4 hga4 pr4 ⊢
    clear hs3 hda3 hga3 pr3 hx3 hst2 hxG mG m
    refine ⟨da, .dK (dkv ds us), hda4, True.intro, fun od => ⟨_, rfl, da, od, rfl, .inl ⟨dkv ds us, upd_same, ?_⟩⟩⟩
    have ndx : da ≠ x := dax
    have hsL := Sq.lock od hs4 hda4
    have xL : upd G4 da (.frz od (.dK (dkv ds us))) x = some (.ins C dx [("_standings", .ref st)]) := by rw [upd_ne (Ne.symm dax)]; exact x4
    have prL : Paired (fun v t => ∃ e, v = V.ref e ∧ e ≠ da ∧ upd G4 da (.frz od (.dK (dkv ds us))) e = some (.dK t)) us tabs := pair_mono pr4 fun v _ t ⟨e, a, b, c⟩ => ⟨e, a, b, by rw [upd_ne b]; exact c⟩
    have dL : upd G4 da (.frz od (.dK (dkv ds us))) da = some (.frz od (.dK (dkv ds us))) := upd_same
    have unl : ∀ H5, Sm (upd G4 da (.frz od (.dK (dkv ds us)))) H5 → Sm G4 (upd H5 da (.dK (dkv ds us))) := fun H5 mm => sm_unlock hda4 mm
    generalize upd G4 da (.frz od (.dK (dkv ds us))) = L at hsL xL prL dL unl ⊢
    refine dc_it walk_keys (fun _ => rfl) (fun D j H => ∃ as : List Addr, as.length = j ∧ H D = some (.dK (dkv (ds.take j) (as.map V.ref))) ∧ Paired (fun a t => H a = some (.dK (dkv ws (picked t ws)))) as (tabs.take j) ∧ (∀ a ∈ as, L a = none ∧ a ≠ D) ∧ Sm L H) (fun D nD => ?_) (fun D j H _ ⟨_, _, _, _, _, sm⟩ => sm _ _ dL) (fun D j x0 H5 H6 nD hj p y => ?_) (fun D H5 nD p => ?_)
    · exact ⟨[], rfl, upd_same, .nil, (fun a ha => nomatch ha), Sm.new nD⟩
    · obtain ⟨as, al, ed, pr5, ap, sm⟩ := p
      obtain ⟨rfl, k, v, ekv, rfl⟩ := y
      obtain ⟨d, e1, rfl, ev⟩ := dkv_at ekv
      obtain ⟨t, et, e, rfl, ne, he⟩ := pair_at prL ev
      have ht := htab t (List.mem_of_getElem? et)
      refine ⟨_, rfl, _, rfl, sa, ws.map V.str, rfl, ?_⟩
      refine dc_names (fv := fun i => (valV t (.inr (ws.getD i ⟨#[]⟩))).getD .non) (Sq.sm hsL sm) wnd (by omega) (fun _ => rfl) (fun _ => rfl) (fun i z H7 Q7 ez s7 hQ => ?_) fun a H7 m7 na ea => ?_
      · have gz : ws.getD i ⟨#[]⟩ = z := by
          rw [List.getD_eq_getElem?_getD, ez]
          rfl
        rw [gz] at hQ
        exact ⟨_, rfl, _, rfl, da, .ref e, rfl, .inl ⟨dkv ds us, .inr d, .inr ⟨od, s7 _ _ (sm _ _ dL)⟩, rfl, (valV_of knd ekv).symm⟩, _, rfl, e, _, rfl, .inl ⟨t, .inr z, .inl (s7 _ _ (sm _ _ he)), rfl, (table_has ht (List.mem_of_getElem? ez)).symm⟩, hQ⟩
      · rw [range_picked] at ea
        have jl : j < ds.length := by omega
        have ej : ds[j]'jl = d := by
          rw [List.getElem?_eq_getElem jl] at e1
          exact Option.some.inj e1
        have tk : ds.take (j + 1) = ds.take j ++ [d] := by
          rw [List.take_add_one, e1]
          rfl
        have tt : tabs.take (j + 1) = tabs.take j ++ [t] := by
          rw [List.take_add_one, et]
          rfl
        have l1 : as.length = (ds.take j).length := by
          rw [List.length_take]
          omega
        have aD : a ≠ D := Ne.symm (ne_of_none ed na)
        refine ⟨_, .inr d, rfl, m7 _ _ ed, by rw [dkv_len (by rw [List.length_map]; omega), List.length_take, sizeLine_eq]; omega, as ++ [a], by rw [List.length_append, al]; rfl, ?_, ?_, ?_, ?_⟩
        · rw [upd_same, put_dkv l1 (by rw [← tk]; exact dnd.sublist (List.take_sublist _ _)), tk]
        · rw [tt]
          refine pair_more (pair_mono pr5 fun b hb t2 eb => ?_) ?_
          · rw [upd_ne (ap b hb).2]
            exact m7 _ _ eb
          · rw [upd_ne aD]
            exact ea
        · intro b hb
          rcases List.mem_append.mp hb with z | z
          · exact ap b z
          · have z2 : b = a := by simpa using z
            rw [z2]
            refine ⟨?_, aD⟩
            cases q2 : L a with
            | none => rfl
            | some u =>
              rw [sm _ _ q2] at na
              cases na
        · intro b o eb
          rw [upd_ne (ne_of_none eb nD)]
          exact m7 _ _ (sm _ _ eb)
    · obtain ⟨as, al, ed, pr5, ap, sm⟩ := p
      rw [dkl] at al ed pr5
      rw [List.take_length] at ed
      rw [List.take_of_length_le (by omega)] at pr5
      refine ⟨sm _ _ dL, _, rfl, x, C, dx, [("_standings", .ref st)], rfl, ?_, hC, n2, by show 1 < 1000; decide, ?_⟩
      · rw [upd_ne (Ne.symm dax)]
        exact sm _ _ xL
      have Dd : D ≠ da := fun z => by
        rw [z, dL] at nD
        cases nD
      have Dx : D ≠ x := fun z => by
        rw [z, xL] at nD
        cases nD
      have asd : ∀ a ∈ as, a ≠ da ∧ a ≠ x := fun a ha => ⟨(fun z => by have := (ap a ha).1; rw [z, dL] at this; cases this), (fun z => by have := (ap a ha).1; rw [z, xL] at this; cases this)⟩
      have u5 := unl H5 sm
      have m6 : Sx x H (upd (upd H5 da (.dK (dkv ds us))) x (.ins C dx (putF "_leads" (.ref D) [("_standings", .ref st)]))) := m4.trans ((Sx.of u5).trans Sx.upd)
      have x5 := u5 _ _ x4
      have hs6 := Sq.x (H2 := (upd (upd H5 da (.dK (dkv ds us))) x (.ins C dx (putF "_leads" (.ref D) [("_standings", .ref st)])))) (Sq.sm hs4 u5) x5 Sx.upd
      have st6 := SqT.x (H2 := (upd (upd H5 da (.dK (dkv ds us))) x (.ins C dx (putF "_leads" (.ref D) [("_standings", .ref st)])))) (SqT.sm st4 u5) x5 Sx.upd
      have x6 : (upd (upd H5 da (.dK (dkv ds us))) x (.ins C dx (putF "_leads" (.ref D) [("_standings", .ref st)]))) x = some (.ins C dx [("_standings", .ref st), ("_leads", .ref D)]) := upd_same
      have hga6 := m6 _ _ gax hga
      have ed6 : (upd (upd H5 da (.dK (dkv ds us))) x (.ins C dx (putF "_leads" (.ref D) [("_standings", .ref st)]))) D = some (.dK (dkv ds (as.map V.ref))) := by
        rw [upd_ne Dx, upd_ne Dd]
        exact ed
      have pr6 : Paired (fun a t => a ≠ x ∧ (upd (upd H5 da (.dK (dkv ds us))) x (.ins C dx (putF "_leads" (.ref D) [("_standings", .ref st)]))) a = some (.dK (dkv ws (picked t ws)))) as tabs := pair_mono pr5 fun a ha t e => ⟨(asd a ha).2, by
        rw [upd_ne (asd a ha).2, upd_ne (asd a ha).1]
        exact e⟩
      generalize (upd (upd H5 da (.dK (dkv ds us))) x (.ins C dx (putF "_leads" (.ref D) [("_standings", .ref st)]))) = G6 at m6 hs6 st6 x6 hga6 ed6 pr6 ⊢
      refine ⟨_, rfl, sa, ws.map V.str, rfl, ?_⟩
      refine dc_names (fv := fun i => (valV gs (.inr (ws.getD i ⟨#[]⟩))).getD .non) hs6 wnd (by omega) (fun _ => rfl) (fun _ => rfl) (fun i z H7 Q7 ez s7 hQ => ?_) fun si H7 m7 nsi esi => ?_
      · have gz : ws.getD i ⟨#[]⟩ = z := by
          rw [List.getD_eq_getElem?_getD, ez]
          rfl
        rw [gz] at hQ
        exact ⟨_, rfl, _, rfl, ga, _, rfl, .inl ⟨gs, .inr z, .inl (s7 _ _ hga6), rfl, (table_has hgt (List.mem_of_getElem? ez)).symm⟩, hQ⟩
      · rw [range_picked] at esi
        have six : si ≠ x := fun z => by
          rw [z, x6] at nsi
          cases nsi
        refine ⟨_, rfl, x, C, dx, [("_standings", .ref st), ("_leads", .ref D)], rfl, m7 _ _ x6, hC, n3, by show 2 < 1000; decide, ?_⟩
        refine q st D si as _ (m6.trans ((Sx.of m7).trans Sx.upd)) upd_same Dx six (SqT.x (SqT.sm st6 m7) (m7 _ _ x6) Sx.upd) ?_ ?_ ?_
        · rw [upd_ne Dx]
          exact m7 _ _ ed6
        · rw [upd_ne six]
          exact esi
        · exact pair_mono pr6 fun a _ t e => ⟨e.1, by
            rw [upd_ne e.1]
            exact m7 _ _ e.2⟩
end
end Dk
set_option Elab.async false
set_option linter.all false
set_option maxRecDepth 100000
set_option maxHeartbeats 4000000
namespace Dk
open PySem PySem.Spec PyProof.Rows L2 Er
/-! ### _law_made -/
/-- a desk of the program at x -/
def DeskOb (K : PySem.W.Frag) (C : Addr) (H : Hp) (x : Addr) (ws ds : List Str) (tb : List (List Str)) (ls : List Str) : Prop := ∃ (dx st ld si : Addr) (as : List Addr), H x = some (.ins C dx (fldsOf st ld si)) ∧ SqT K H st (ws.map V.str) ∧
  H ld = some (.dK (dkv ds (as.map V.ref))) ∧ H si = some (.dK (dkv ws (ls.map V.str))) ∧ Paired (fun a vs => H a = some (.dK (dkv ws (vs.map V.str)))) as tb
/-- the entries of a table in the opposite sequence -/
def back (ws vs : List Str) : List (Key × V) := (dkv ws (vs.map V.str)).reverse
theorem back_nd {ws vs : List Str} (e : vs.length = ws.length) (nd : ws.Nodup) : ((back ws vs).map (·.1)).Nodup := by
  unfold back
  rw [List.map_reverse, dkv_keys (by rw [List.length_map, e])]
  exact List.pairwise_reverse.mpr (List.Pairwise.map _ (fun a b n z => n (Sum.inr.inj z).symm) nd)
theorem back_len {ws vs : List Str} (e : vs.length = ws.length) : (back ws vs).length = ws.length := by
  unfold back
  rw [List.length_reverse, dkv_len (by rw [List.length_map, e])]
theorem back_at {ws vs : List Str} (e : vs.length = ws.length) (nd : ws.Nodup) {j : Nat} {z v : Str} (h1 : ws[j]? = some z) (h2 : vs[j]? = some v) : valV (back ws vs) (.inr z) = some (.str v) := by
  have m : ((Sum.inr z, V.str v) : Key × V) ∈ back ws vs := by
    unfold back
    refine List.mem_reverse.mpr (List.mem_of_getElem? (i := j) (List.getElem?_zip_eq_some.mpr ⟨?_, ?_⟩))
    · rw [List.getElem?_map, h1]
      rfl
    · rw [List.getElem?_map, h2]
      rfl
  obtain ⟨i, hi⟩ := List.mem_iff_getElem?.mp m
  exact valV_of (back_nd e nd) hi
theorem picked_back {ws vs : List Str} (e : vs.length = ws.length) (nd : ws.Nodup) : picked (back ws vs) ws = vs.map V.str := by
  unfold picked
  refine List.ext_getElem (by rw [List.length_map, List.length_map, e]) fun j h1 h2 => ?_
  rw [List.length_map] at h1 h2
  rw [List.getElem_map, List.getElem_map, back_at e nd (List.getElem?_eq_getElem h1) (List.getElem?_eq_getElem h2)]
  rfl
theorem back_table {ws vs : List Str} (e : vs.length = ws.length) (nd : ws.Nodup) : tableB (back ws vs) ws = true := by
  unfold tableB
  rw [back_len e, decide_eq_true rfl, Bool.true_and, List.all_eq_true]
  intro z hz
  obtain ⟨j, hj, rfl⟩ := List.mem_iff_getElem.mp hz
  rw [back_at e nd (List.getElem?_eq_getElem hj) (List.getElem?_eq_getElem (by omega))]
  rfl
theorem back_vals {ws vs : List Str} (e : vs.length = ws.length) : (back ws vs).map (·.2) = (vs.map V.str).reverse := by
  unfold back
  rw [List.map_reverse]
  congr 1
  exact List.map_snd_zip (by rw [List.length_map, List.length_map, e]; exact Nat.le_refl _)
theorem back_lead {ws vs : List Str} (e : vs.length = ws.length) (nd : ws.Nodup) (h : ∀ z ∈ vs, z ∈ ws) : leadB (back ws vs) ws = true := by
  unfold leadB
  rw [back_table e nd, Bool.true_and, back_vals e, List.all_eq_true]
  intro y hy
  obtain ⟨z, hz, rfl⟩ := List.mem_map.mp (List.mem_reverse.mp hy)
  exact decide_eq_true (h z hz)
theorem back_sight {ws vs : List Str} (e : vs.length = ws.length) (nd : ws.Nodup) (h : ∀ z ∈ vs, IsWord z) : sightB (back ws vs) ws = true := by
  unfold sightB
  rw [back_table e nd, Bool.true_and, back_vals e, List.all_eq_true]
  intro y hy
  obtain ⟨z, hz, rfl⟩ := List.mem_map.mp (List.mem_reverse.mp hy)
  exact decide_eq_true (h z hz)
theorem back_itm {K : PySem.W.Frag} {H : Hp} {ws vs : List Str} (e : vs.length = ws.length) (h : ∀ z ∈ vs, IsWord z) : ∀ y ∈ (back ws vs).map (·.2), Itm K H y := fun y hy => by
  rw [back_vals e] at hy
  obtain ⟨z, hz, rfl⟩ := List.mem_map.mp (List.mem_reverse.mp hy)
  have := (h z hz).2.1
  exact .inl ⟨z, rfl, by omega⟩
theorem deeds_ok {ws ds : List Str} {us : List V} {tb : List (List Str)} (ul : us.length = ds.length) (tl : tb.length = ds.length) (d1 : 1 ≤ ds.length) (d4 : ds.length ≤ 4) (dw : ∀ z ∈ ds, IsWord z) (nd : ws.Nodup) (h : ∀ vs ∈ tb, vs.length = ws.length ∧ ∀ z ∈ vs, z ∈ ws) :
    deedB (dkv ds us) ((tb.map (back ws)).map some) ws = true := by
  unfold deedB
  rw [dkv_len ul, decide_eq_true ⟨d1, d4⟩, Bool.true_and, List.all_eq_true]
  intro b hb
  obtain ⟨⟨kv, t⟩, hp, rfl⟩ := List.mem_map.mp hb
  obtain ⟨j, hj⟩ := List.mem_iff_getElem?.mp hp
  obtain ⟨a, c⟩ := List.getElem?_zip_eq_some.mp hj
  obtain ⟨k, v⟩ := kv
  obtain ⟨z, ez, ek, _⟩ := dkv_at a
  rw [List.getElem?_map, List.getElem?_map] at c
  cases e : tb[j]? with
  | none =>
    rw [e] at c
    cases c
  | some vs =>
    rw [e] at c
    have c2 : some (back ws vs) = t := Option.some.inj c
    subst c2 ek
    have q := h vs (List.mem_of_getElem? e)
    show (decide (IsWord z) && leadB (back ws vs) ws) = true
    rw [decide_eq_true (dw z (List.mem_of_getElem? ez)), back_lead q.1 nd q.2]
    rfl
theorem stand_ok {ws : List Str} (n1 : 1 ≤ ws.length) (n9 : ws.length ≤ 9) (nd : ws.Nodup) (h : ∀ z ∈ ws, IsWord z) : standB (ws.map V.str) = true := by
  unfold standB
  rw [List.length_map, decide_eq_true ⟨n1, n9⟩, decide_eq_true (nodup_strs.mpr nd), Bool.true_and, Bool.and_true, List.all_eq_true]
  intro y hy
  obtain ⟨z, hz, rfl⟩ := List.mem_map.mp hy
  exact decide_eq_true (h z hz)
theorem dkv_ne {ws ds vs : List Str} {as : List Addr} (n1 : 1 ≤ ws.length) (e : vs.length = ws.length) : dkv ws (vs.map V.str) ≠ dkv ds (as.map V.ref) := by
  intro h
  cases ws with
  | nil => exact absurd n1 (by decide)
  | cons w ws =>
    cases vs with
    | nil => simp at e
    | cons v vs =>
      cases ds with
      | nil => exact nomatch (show ((Sum.inr w, V.str v) : Key × V) :: dkv ws (vs.map V.str) = [] from h)
      | cons d ds =>
        cases as with
        | nil => exact nomatch (show ((Sum.inr w, V.str v) : Key × V) :: dkv ws (vs.map V.str) = [] from h)
        | cons a as =>
          have h2 : ((Sum.inr w, V.str v) : Key × V) :: dkv ws (vs.map V.str) = (Sum.inr d, V.ref a) :: dkv ds (as.map V.ref) := h
          have h3 := congrArg (fun l : List (Key × V) => (l.head?.map (·.2))) h2
          exact nomatch (show (some (V.str v) : Option V) = some (V.ref a) from h3)
def spMade (K : PySem.W.Frag) (C : Addr) : Sp := fun vs H Q _ => ∃ (u nm dd sg : Addr) (ws ds : List Str) (as : List Addr) (tb : List (List Str)) (ls : List Str) (m : Nat), vs = [.ref u] ∧ DkAt H u nm dd sg ws ds as tb ls ∧ DkIs m ws ds tb ls ∧ m ≤ 9 ∧
  ∀ x H', Sm H H' → H x = none → DeskOb K C H' x ws ds tb ls → Q (.ref x) H'
abbrev nMade : List Str := ["_law_desk_here", "_law_deeds", "_law_deed"]
theorem scMade : FnScope nMade ["_law_desk_here"] (defScope (top 48)) := ⟨rfl, rfl, rfl, by decide +kernel, rfl, by decide +kernel, by decide +kernel⟩
section
variable {P : Program} {w : World} {K : PySem.W.Frag} {mg : Str → Option Value} {base : Heap} {f C fI fT : Addr} {fd dI dT : FuncData}
theorem bTu (F : FnP K "_law_turned" (top 47) fT dT) : Binds K dT ["_law_some"] [] := F.bindsN fun _ _ _ _ _ _ us hl => match us, hl with
  | [_], _ => rfl
theorem ok_made (F : FnP K "_law_made" (top 48) f fd) (mL : mg "list" = none) (gC : mg "Desk" = some (.ref C)) (M : Mk K C fI) (GI : FnOk P w K mg base CX0 4 fI dI ["self", "standings", "deeds", "sights"] (spInit K C)) (bIn : Binds K dI ["self", "standings", "deeds", "sights"] [])
    (GT : FnOk P w K mg base CX0 1 fT dT ["_law_some"] spTurned) (FT : FnP K "_law_turned" (top 47) fT dT) (gT : mg "_law_turned" = some (.ref fT)) :
    FnOk P w K mg base CX0 6 f fd ["_law_desk_here"] (spMade K C) := by
  refine F.ok (CX := CX0) scMade (fun vs H Q E h => ?_) (fun cdv A outer s H vs Q E hr h => ?_)
  · obtain ⟨u, nm, dd, sg, ws, ds, as, tb, ls, m, rfl, _⟩ := h
    rfl
  · have hr1 := hr.mono (show 1 ≤ 5 by decide)
    refine ⟨_, PSs.nox (pss_cons (ps_set (i := 1) scMade.nd rfl (.inl rfl) pe_dnewK)
      (pss_cons (ps_lock (ps_for PassesOwn.never rfl (pi_keys (by exact (pe_ix ix_tup (pv 0) pe_int (fun _ _ => rfl)))) (pg_name (i := 2) scMade.nd rfl (.inl rfl))
        (pss_one (ps_dput (hu_of hr) (pv 1) (pv 2) (by exact (pe_call GT hr1 rfl gT FT.kp (bTu FT) .nil pass0 (pa_cons (by exact (pe_dget (hu_of hr) (by exact (pe_ix ix_tup (pv 0) pe_int (fun _ _ => rfl))) (pv 2) (fun _ _ => rfl))) pa_nil))) (by rfl)))))
      (pss_one (ps_ret (by exact (pe_make M GI hr rfl gC bIn .nil pass0 (pa_cons (by exact (pe_callTy call_list_of rfl mL PyProof.Rows.boot_list (pa_cons (pe_ix ix_tup (pv 0) pe_int (fun _ _ => rfl)) pa_nil))) (pa_cons (pv 1) (pa_cons (by exact (pe_call GT hr1 rfl gT FT.kp (bTu FT) .nil pass0 (pa_cons (by exact (pe_ix ix_tup (pv 0) pe_int (fun _ _ => rfl))) pa_nil))) pa_nil))))))))), ?_⟩
    obtain ⟨u, nm, dd, sg, ws, ds, as, tb, ls, m, rfl, ⟨hu, hnm, hdd, hsg, pr⟩, is, m9, q⟩ := h
    intro ne nne
    have fresh : ∀ {b : Addr} {o : HO}, H b = some o → b ≠ ne := fun {b o} e z => by
      rw [z, nne] at e
      cases e
    have tl := is.rows
    have al : as.length = ds.length := by rw [paired_len pr, tl]
    have udd : u ≠ dd := fun z => by
      rw [z, hdd] at hu
      cases hu
    have s0 := Sm.new (o := .dK []) nne
    have add : ∀ vs ∈ tb, vs.length = ws.length := fun vs hv => (is.row vs hv).1
    have prd : Paired (fun a vs => a ≠ dd ∧ a ≠ ne ∧ H a = some (.dK (dkv ws (vs.map V.str)))) as tb := paired_of (paired_len pr) fun j a vs e1 e2 => by
      obtain ⟨vs2, e3, e4⟩ := pair_at pr e1
      rw [e2] at e3
      have e5 := Option.some.inj e3
      subst e5
      refine ⟨fun z => ?_, fresh e4, e4⟩
      rw [z, hdd] at e4
      have e6 := HO.dK.inj (Option.some.inj e4)
      exact dkv_ne is.some (add vs (List.mem_of_getElem? e2)) e6.symm
    refine ⟨dd, .dK (dkv ds (as.map V.ref)), s0 _ _ hdd, True.intro, fun od => ?_⟩
    have uL : upd (upd H ne (.dK [])) dd (.frz od (.dK (dkv ds (as.map V.ref)))) u = some (.tup [.ref nm, .ref dd, .ref sg]) := by
      rw [upd_ne udd]
      exact s0 _ _ hu
    have dL : upd (upd H ne (.dK [])) dd (.frz od (.dK (dkv ds (as.map V.ref)))) dd = some (.frz od (.dK (dkv ds (as.map V.ref)))) := upd_same
    have neL : upd (upd H ne (.dK [])) dd (.frz od (.dK (dkv ds (as.map V.ref)))) ne = some (.dK []) := by
      rw [upd_ne (Ne.symm (fresh hdd)), upd_same]
    have prL : Paired (fun a vs => a ≠ ne ∧ upd (upd H ne (.dK [])) dd (.frz od (.dK (dkv ds (as.map V.ref)))) a = some (.dK (dkv ws (vs.map V.str)))) as tb := pair_mono prd fun a _ vs e => ⟨e.2.1, by
      rw [upd_ne e.1]
      exact s0 _ _ e.2.2⟩
    have unl : ∀ H5, Sx ne (upd (upd H ne (.dK [])) dd (.frz od (.dK (dkv ds (as.map V.ref))))) H5 → Sm H (upd H5 dd (.dK (dkv ds (as.map V.ref)))) := fun H5 mm b o e => by
      by_cases c : b = dd
      · subst c
        rw [hdd] at e
        rw [upd_same]
        exact e
      · rw [upd_ne c]
        exact mm b o (fresh e) (by
          rw [upd_ne c]
          exact s0 _ _ e)
    generalize upd (upd H ne (.dK [])) dd (.frz od (.dK (dkv ds (as.map V.ref)))) = L at uL dL neL prL unl ⊢
    have une : u ≠ ne := fresh hu
    have dne : dd ≠ ne := fresh hdd
    have knd : ((dkv ds (as.map V.ref)).map (·.1)).Nodup := by
      rw [dkv_keys (by rw [List.length_map, al])]
      exact List.Pairwise.map _ (fun a b n z => n (Sum.inr.inj z)) is.dnd
    have dkl : (dkv ds (as.map V.ref)).length = ds.length := dkv_len (by rw [List.length_map, al])
    have d4 := is.dmost
    refine ⟨_, rfl, u, _, 1, .ref dd, rfl, rfl, .inl (.inl uL), rfl, dd, od, rfl, .inl ⟨_, dL, ?_⟩⟩
    refine for_it walk_keys (fun i σ H5 => ∃ (es : List Addr) (v2 : Option V), σ = [some (.ref u), some (.ref ne), v2] ∧ es.length = i ∧ H5 ne = some (.dK (dkv (ds.take i) (es.map V.ref))) ∧ Paired (fun e vs => e ≠ ne ∧ H5 e = some (.dK (back ws vs))) es (tb.take i) ∧ Sx ne L H5) ?_ (fun i σ H5 _ p => ?_) (fun i x σ H5 H6 hi p y => ?_) (fun σ H5 p => ?_)
    · exact ⟨[], none, rfl, rfl, neL, .nil, Sx.refl _ _⟩
    · obtain ⟨_, _, _, _, _, _, mm⟩ := p
      exact mm _ _ dne dL
    · obtain ⟨es, v2, rfl, el, ed, pe, mm⟩ := p
      obtain ⟨rfl, k, v, ekv, rfl⟩ := y
      obtain ⟨d, e1, rfl, ev⟩ := dkv_at ekv
      obtain ⟨a, ea, rfl⟩ : ∃ a, as[i]? = some a ∧ v = .ref a := by
        rw [List.getElem?_map] at ev
        cases e : as[i]? with
        | none =>
          rw [e] at ev
          cases ev
        | some a =>
          rw [e] at ev
          exact ⟨a, rfl, (Option.some.inj ev).symm⟩
      obtain ⟨vs, et, ane, ha⟩ := pair_at prL ea
      have vl := add vs (List.mem_of_getElem? et)
      refine ⟨_, rfl, u, _, 1, .ref dd, rfl, rfl, .inl (.inl (mm _ _ une uL)), rfl, _, rfl, dd, .ref a, rfl, .inl ⟨_, .inr d, .inr ⟨od, mm _ _ dne dL⟩, rfl, (valV_of knd ekv).symm⟩, a, dkv ws (vs.map V.str), rfl, mm _ _ ane ha, ?_, fun e H7 m7 ne7 ee => ?_⟩
      · rw [dkv_keys (by rw [List.length_map, vl])]
        exact List.Pairwise.map _ (fun a b n z => n (Sum.inr.inj z)) is.nd
      · have ene : e ≠ ne := fun z => by
          rw [z, ed] at ne7
          cases ne7
        have il : i < ds.length := by omega
        have tk : ds.take (i + 1) = ds.take i ++ [d] := by
          rw [List.take_add_one, e1]
          rfl
        have tt : tb.take (i + 1) = tb.take i ++ [vs] := by
          rw [List.take_add_one, et]
          rfl
        have l1 : es.length = (ds.take i).length := by
          rw [List.length_take]
          omega
        refine ⟨_, rfl, _, rfl, ne, _, rfl, DPut.k (k := .inr d) (m7 _ _ ed) (by rw [dkv_len (by rw [List.length_map]; omega), List.length_take, sizeLine_eq]; omega), es ++ [e], _, rfl, by rw [List.length_append, el]; rfl, ?_, ?_, ?_⟩
        · rw [upd_same, put_dkv l1 (by rw [← tk]; exact is.dnd.sublist (List.take_sublist _ _)), tk]
        · rw [tt]
          refine pair_more (pair_mono pe fun b _ t2 eb => ⟨eb.1, ?_⟩) ⟨ene, ?_⟩
          · rw [upd_ne eb.1]
            exact m7 _ _ eb.2
          · rw [upd_ne ene]
            exact ee
        · intro b o nb eb
          rw [upd_ne nb]
          exact m7 _ _ (mm b o nb eb)
    · obtain ⟨es, v2, rfl, el, ed, pe, mm⟩ := p
      rw [dkl] at el ed pe
      rw [List.take_length] at ed
      rw [List.take_of_length_le (by omega)] at pe
      refine ⟨mm _ _ dne dL, ?_⟩
      have m5 := unl H5 mm
      have ed5 : upd H5 dd (.dK (dkv ds (as.map V.ref))) ne = some (.dK (dkv ds (es.map V.ref))) := by
        rw [upd_ne (Ne.symm dne)]
        exact ed
      have pe5 : Paired (fun e vs => e ≠ ne ∧ upd H5 dd (.dK (dkv ds (as.map V.ref))) e = some (.dK (back ws vs))) es tb := paired_of (paired_len pe) fun j e vs e1 e2 => by
        obtain ⟨vs2, e3, e4, e5⟩ := pair_at pe e1
        rw [e2] at e3
        have e6 := Option.some.inj e3
        subst e6
        refine ⟨e4, ?_⟩
        have edd : e ≠ dd := fun z => by
          rw [z, mm _ _ dne dL] at e5
          cases e5
        rw [upd_ne edd]
        exact e5
      generalize upd H5 dd (.dK (dkv ds (as.map V.ref))) = G at m5 ed5 pe5 ⊢
      have u5 := m5 _ _ hu
      refine ⟨_, rfl, u, _, 0, .ref nm, rfl, rfl, .inl (.inl u5), rfl, nm, ws.map V.str, rfl, .inl (.inl (.inl (m5 _ _ hnm))), fun l nl => ?_⟩
      have s6 := Sm.new (o := .lst (ws.map V.str)) nl
      refine ⟨_, rfl, _, rfl, u, _, 2, .ref sg, rfl, rfl, .inl (.inl (s6 _ _ u5)), rfl, sg, dkv ws (ls.map V.str), rfl, s6 _ _ (m5 _ _ hsg), ?_, fun g H7 m7 ng eg => ?_⟩
      · rw [dkv_keys (by rw [List.length_map, is.looks])]
        exact List.Pairwise.map _ (fun a b n z => n (Sum.inr.inj z)) is.nd
      have l7 := m7 _ _ (upd_same (H := G) (a := l) (o := .lst (ws.map V.str)))
      have m7 := Sm.trans s6 m7
      intro x dx nx ndx nex
      have mx : Sm H7 (upd (upd H7 dx (.own x)) x (.ins C dx [])) := Sm.trans (Sm.new ndx) (Sm.new (by rw [upd_ne (Ne.symm nex)]; exact nx))
      have mA := Sm.trans m7 mx
      have xH : H x = none := by
        cases z : H x with
        | none => rfl
        | some o =>
          rw [m7 _ _ (m5 _ _ z)] at nx
          cases nx
      refine ⟨x, dx, l, ne, g, ws, ds, es.map V.ref, tb.map (back ws), back ws ls, rfl, upd_same, .inl (.inl (.inl (mx _ _ l7))), is.nd, stand_ok is.some (Nat.le_trans is.most m9) is.nd is.word, mA _ _ ed5, by rw [List.length_map]; omega, is.dnd, is.dword, ?_, deeds_ok (by rw [List.length_map]; omega) tl is.dsome is.dmost is.dword is.nd is.row, mx _ _ eg, by rw [back_len is.looks]; have := is.most; omega, back_itm is.looks is.look, back_sight is.looks is.nd is.look, fun st ld si as2 H8 m8 x8 ldx six st8 eld esi pr8 => ⟨rfl, q x H8 ?_ xH ⟨dx, st, ld, si, as2, x8, st8, eld, ?_, ?_⟩⟩⟩
      · refine paired_of (by rw [List.length_map, List.length_map]; omega) fun j v t e1 e2 => ?_
        rw [List.getElem?_map] at e1
        cases e3 : es[j]? with
        | none =>
          rw [e3] at e1
          cases e1
        | some e =>
          rw [e3] at e1
          have e4 : V.ref e = v := Option.some.inj e1
          obtain ⟨vs, e5, e6, e7⟩ := pair_at pe5 e3
          rw [List.getElem?_map, e5] at e2
          have e8 : back ws vs = t := Option.some.inj e2
          subst e4 e8
          have hv := is.row vs (List.mem_of_getElem? e5)
          exact ⟨e, rfl, e6, mA _ _ e7, by rw [back_len hv.1]; have := is.most; omega, back_itm hv.1 fun z hz => is.word z (hv.2 z hz)⟩
      · intro b o eb
        have bx : b ≠ x := fun z => by
          rw [z, xH] at eb
          cases eb
        exact m8 b o bx (mA _ _ (m5 _ _ eb))
      · rw [picked_back is.looks is.nd] at esi
        exact esi
      · refine paired_of (by rw [paired_len pr8, List.length_map]) fun j a vs e1 e2 => ?_
        obtain ⟨t, e3, _, e4⟩ := pair_at pr8 e1
        rw [List.getElem?_map, e2] at e3
        have e5 : back ws vs = t := Option.some.inj e3
        subst e5
        rw [picked_back (is.row vs (List.mem_of_getElem? e2)).1 is.nd] at e4
        exact e4
end
end Dk
set_option Elab.async false
set_option linter.all false
set_option maxRecDepth 100000
set_option maxHeartbeats 4000000
namespace Dk
open PySem PySem.Spec PyProof.Rows L2 Er
/-! ### where rows lead -/
/-- the standing to which a deed leads one -/
def nxt (ws ds : List Str) (tb : List (List Str)) (z d : Str) : Str := (tb.getD (ds.idxOf d) []).getD (ws.idxOf z) ⟨#[]⟩
theorem dkv_get {ws : List Str} {us : List V} {z : Str} (e : us.length = ws.length) (hz : z ∈ ws) : valV (dkv ws us) (.inr z) = us[ws.idxOf z]? := by
  induction ws generalizing us with
  | nil => cases hz
  | cons w ws ih =>
    cases us with
    | nil => simp at e
    | cons u us =>
      by_cases c : w = z
      · subst c
        rw [List.idxOf_cons_self]
        unfold valV
        show ((((Sum.inr w, u) : Key × V) :: dkv ws us).find? _).map _ = _
        rw [List.find?_cons_of_pos (by simp)]
        rfl
      · have h2 : z ∈ ws := by
          rcases List.mem_cons.mp hz with x | x
          · exact absurd x.symm c
          · exact x
        rw [List.idxOf_cons, show (w == z) = false from by simpa using c, cond_false, List.getElem?_cons_succ, ← ih (by simpa using e) h2]
        unfold valV
        show ((((Sum.inr w, u) : Key × V) :: dkv ws us).find? _).map _ = _
        rw [List.find?_cons_of_neg]
        intro x
        have e2 : (Sum.inr w : Key) = .inr z := of_decide_eq_true x
        exact c (Sum.inr.inj e2)
theorem idx_lt {ws : List Str} {z : Str} (h : z ∈ ws) : ws.idxOf z < ws.length := List.idxOf_lt_length_iff.mpr h
/-- what a drawn desk's dicts hold -/
theorem dk_step {H : Hp} {u nm dd sg : Addr} {ws ds : List Str} {as : List Addr} {tb : List (List Str)} {ls : List Str} {m : Nat} (h : DkAt H u nm dd sg ws ds as tb ls) (is : DkIs m ws ds tb ls) {d z : Str} (hd : d ∈ ds) (hz : z ∈ ws) :
    ∃ a, valV (dkv ds (as.map V.ref)) (.inr d) = some (.ref a) ∧ DGet H a (.str z) (some (.str (nxt ws ds tb z d))) ∧ nxt ws ds tb z d ∈ ws := by
  obtain ⟨_, _, _, _, pr⟩ := h
  have al : as.length = ds.length := by rw [paired_len pr, is.rows]
  have il := idx_lt hd
  have e1 : as[ds.idxOf d]? = some (as[ds.idxOf d]'(by omega)) := List.getElem?_eq_getElem _
  obtain ⟨vs, et, ha⟩ := pair_at pr e1
  have hv := is.row vs (List.mem_of_getElem? et)
  have zl := idx_lt hz
  have e2 : vs[ws.idxOf z]? = some (vs[ws.idxOf z]'(by omega)) := List.getElem?_eq_getElem _
  have en : nxt ws ds tb z d = vs[ws.idxOf z]'(by omega) := by
    unfold nxt
    rw [List.getD_eq_getElem?_getD, List.getD_eq_getElem?_getD, et]
    show (vs[ws.idxOf z]?).getD _ = _
    rw [e2]
    rfl
  refine ⟨as[ds.idxOf d]'(by omega), ?_, ?_, ?_⟩
  · rw [dkv_get (by rw [List.length_map, al]) hd, List.getElem?_map, e1]
    rfl
  · refine .inl ⟨_, .inr z, .inl ha, rfl, ?_⟩
    rw [dkv_get (by rw [List.length_map, hv.1]) hz, List.getElem?_map, e2, en]
    rfl
  · rw [en]
    exact hv.2 _ (List.getElem_mem _)
/-- where a row leads -/
def ledBy (ws ds : List Str) (tb : List (List Str)) (z : Str) (row : List Str) : Str := row.foldl (nxt ws ds tb) z
def spLeadL (K : PySem.W.Frag) : Sp := fun vs H Q _ => ∃ (u r nm dd sg : Addr) (z : Str) (row ws ds : List Str) (as : List Addr) (tb : List (List Str)) (ls : List Str) (m : Nat), vs = [.ref u, .str z, .ref r] ∧ DkAt H u nm dd sg ws ds as tb ls ∧ DkIs m ws ds tb ls ∧ z ∈ ws ∧ SqL K H r (row.map V.str) ∧ (∀ d ∈ row, d ∈ ds) ∧
  (ledBy ws ds tb z row ∈ ws → Q (.str (ledBy ws ds tb z row)) H)
abbrev nLeadL : List Str := ["_law_desk_here", "_law_standing", "_law_row", "_law_deed"]
theorem scLeadL : FnScope nLeadL ["_law_desk_here", "_law_standing", "_law_row"] (defScope (top 49)) := ⟨rfl, rfl, rfl, by decide +kernel, rfl, by decide +kernel, by decide +kernel⟩
section
variable {P : Program} {w : World} {K : PySem.W.Frag} {mg : Str → Option Value} {base : Heap} {f fD fP : Addr} {fd dD dP : FuncData}
theorem ok_leadL (F : FnP K "_law_lead" (top 49) f fd) : FnOk P w K mg base CX0 1 f fd ["_law_desk_here", "_law_standing", "_law_row"] (spLeadL K) := by
  refine F.ok (CX := CX0) scLeadL (fun vs H Q E h => ?_) (fun cdv A outer s H vs Q E hr h => ?_)
  · obtain ⟨u, r, nm, dd, sg, z, row, ws, ds, as, tb, ls, m, rfl, _⟩ := h
    rfl
  · refine ⟨_, PSs.nox (pss_cons (ps_for PassesOwn.never rfl (pi_list (pv 2)) (pg_name (i := 3) scLeadL.nd rfl (.inl rfl))
      (pss_one (ps_set (i := 1) scLeadL.nd rfl (.inl rfl) (by exact (pe_dget (hu_of hr) (by exact (pe_dget (hu_of hr) (by exact (pe_ix ix_tup (pv 0) pe_int (fun _ _ => rfl))) (by exact (pv 3)) (fun _ _ => rfl))) (by exact (pv 1)) (fun _ _ => rfl))))))
      (pss_one (ps_ret (pv 1)))), ?_⟩
    obtain ⟨u, r, nm, dd, sg, z, row, ws, ds, as, tb, ls, m, rfl, hk, is, hz, hr2, hrow, q⟩ := h
    refine ⟨_, rfl, r, rfl, ⟨_, hr2⟩, ?_⟩
    refine for_it walk_list (fun i σ H5 => H5 = H ∧ ∃ (v3 : Option V), σ = [some (.ref u), some (.str (ledBy ws ds tb z (row.take i))), some (.ref r), v3] ∧ ledBy ws ds tb z (row.take i) ∈ ws) ⟨rfl, none, rfl, hz⟩ (fun i σ H5 _ p => by rw [p.1]; exact hr2) (fun i x σ H5 H6 hi p y => ?_) (fun σ H5 p => ?_)
    · obtain ⟨rfl, v3, rfl, hin⟩ := p
      obtain ⟨rfl, ex⟩ := y
      obtain ⟨d, ed, rfl⟩ : ∃ d, row[i]? = some d ∧ x = .str d := by
        rw [List.getElem?_map] at ex
        cases e : row[i]? with
        | none =>
          rw [e] at ex
          cases ex
        | some d =>
          rw [e] at ex
          exact ⟨d, rfl, (Option.some.inj ex).symm⟩
      obtain ⟨a, e1, e2, e3⟩ := dk_step hk is (hrow d (List.mem_of_getElem? ed)) hin
      have es : ledBy ws ds tb z (row.take (i + 1)) = nxt ws ds tb (ledBy ws ds tb z (row.take i)) d := by
        unfold ledBy
        rw [List.take_add_one, ed, List.foldl_append]
        rfl
      refine ⟨_, rfl, u, _, 1, .ref dd, rfl, rfl, .inl (.inl hk.1), rfl, _, rfl, dd, .ref a, rfl, .inl ⟨_, .inr d, .inl hk.2.2.1, rfl, e1.symm⟩, _, rfl, a, _, rfl, e2, rfl, some (.str d), ?_, ?_⟩
      · rw [es]
        rfl
      · rw [es]
        exact e3
    · obtain ⟨rfl, v3, rfl, hin⟩ := p
      rw [List.length_map, List.take_length] at hin
      rw [List.length_map, List.take_length]
      exact ⟨_, rfl, q hin⟩
end
end Dk
set_option Elab.async false
set_option linter.all false
set_option maxRecDepth 100000
set_option maxHeartbeats 4000000
namespace Dk
open PySem PySem.Spec PyProof.Rows L2 Er
/-! ### _law_stranger -/
def menu : List Str := ["onn", "nxt", "sett", "keys", "up", "low", "lit", "dim", "fail", "stop", "d", "e", "f", "g", "h", "i", "j"]
theorem menu_nd : menu.Nodup := by decide +kernel
theorem nodup_le : ∀ {l m : List Str}, l.Nodup → (∀ x ∈ l, x ∈ m) → l.length ≤ m.length
  | [], _, _, _ => Nat.zero_le _
  | x :: l, m, hn, hs => by
    obtain ⟨h1, h2⟩ := List.nodup_cons.mp hn
    have hx : x ∈ m := hs x List.mem_cons_self
    have ih := nodup_le (l := l) (m := m.erase x) h2 fun y hy => (List.mem_erase_of_ne (fun e : y = x => h1 (by rw [← e]; exact hy))).2 (hs y (List.mem_cons_of_mem _ hy))
    have hp : 0 < m.length := List.length_pos_of_mem hx
    rw [List.length_erase_of_mem hx] at ih
    rw [List.length_cons]
    omega
/-- a menu that is longer than what is left out -/
theorem left_some {ws : List Str} (h : ws.length ≤ 16) : menu.filter (fun z => decide (z ∉ ws)) ≠ [] := by
  intro e
  have all : ∀ z ∈ menu, z ∈ ws := fun z hz => by
    by_cases c : z ∈ ws
    · exact c
    · have : z ∈ menu.filter (fun z => decide (z ∉ ws)) := List.mem_filter.mpr ⟨hz, decide_eq_true c⟩
      rw [e] at this
      cases this
  have := nodup_le menu_nd all
  rw [show menu.length = 17 from rfl] at this
  omega
def spStranger (K : PySem.W.Frag) : Sp := fun vs H Q _ => ∃ (l : Addr) (ws : List Str), vs = [.ref l] ∧ SqL K H l (ws.map V.str) ∧ ws.length ≤ 16 ∧ ∀ z H', Sm H H' → z ∈ menu → z ∉ ws → Q (.str z) H'
abbrev nStr : List Str := ["_law_names_here", "_law_some", "_law_name"]
theorem scStr : FnScope nStr ["_law_names_here"] (defScope (top 52)) := ⟨rfl, rfl, rfl, by decide +kernel, rfl, by decide +kernel, by decide +kernel⟩
section
variable {P : Program} {w : World} {K : PySem.W.Frag} {mg : Str → Option Value} {base : Heap} {f : Addr} {fd : FuncData}
theorem ok_stranger (F : FnP K "_law_stranger" (top 52) f fd) : FnOk P w K mg base CX0 1 f fd ["_law_names_here"] (spStranger K) := by
  refine F.ok (CX := CX0) scStr (fun vs H Q E h => ?_) (fun cdv A outer s H vs Q E hr h => ?_)
  · obtain ⟨l, ws, rfl, _⟩ := h
    rfl
  · refine ⟨_, PSs.nox (pss_cons (ps_set (i := 1) scStr.nd rfl (.inl rfl) (pe_lst (pa_cons pe_str (pa_cons pe_str (pa_cons pe_str (pa_cons pe_str (pa_cons pe_str (pa_cons pe_str (pa_cons pe_str (pa_cons pe_str (pa_cons pe_str (pa_cons pe_str (pa_cons pe_str (pa_cons pe_str (pa_cons pe_str (pa_cons pe_str (pa_cons pe_str (pa_cons pe_str (pa_cons pe_str pa_nil)))))))))))))))))))
      (pss_one (ps_ret (by exact (pe_ix ix_list (by exact (pe_lc (own := [("_law_name", 2)]) (g := gName 2) (tt := tTest (tOp (rIn K true) (tVar 2) (tVar 0))) (te := tVar 2) rfl scStr.nd (pi_list (pv 1))
        (blkOk_by (N := nStr) (sc := defScope (top 52)) (by decide +kernel)) (fun _ _ _ _ _ => pg_name (i := 2) scStr.nd rfl (Or.inl rfl)) (fun _ _ _ _ _ => pts_one (by exact (pt_cmpR op_notIn_seq (by exact (pv 2)) (by exact (pv 0)) rfl))) (fun _ _ _ _ _ => by exact (pv 2)))) pe_int (fun _ _ => rfl)))))), ?_⟩
    obtain ⟨l, ws, rfl, hl, n16, q⟩ := h
    refine ⟨by show 17 ≤ sizeLine; rw [sizeLine_eq]; decide, fun M nM => ?_⟩
    have eM : upd H M (.lst (menu.map V.str)) M = some (.lst (menu.map V.str)) := upd_same
    have mM := Sm.new (o := .lst (menu.map V.str)) nM
    refine ⟨_, rfl, M, rfl, ⟨_, .inl (.inl eM)⟩, fun D nD => ?_⟩
    have nD : upd H M (.lst (menu.map V.str)) D = none := nD
    show ∃ W : Nat → Nat → Hp → Prop, (∃ m, W 0 m (upd (upd H M (.lst (menu.map V.str))) D (.lst []))) ∧ _
    generalize upd H M (.lst (menu.map V.str)) = G at eM mM nD ⊢
    have hl := SqL.sm hl mM
    refine lc_list (xs := menu.map V.str) (fun j G2 => G2 D = some (.lst (((menu.take j).filter (fun z => decide (z ∉ ws))).map V.str)) ∧ Sm G G2) ⟨upd_same, Sm.new nD⟩ (fun j G2 _ p => .inl (.inl (p.2 _ _ eM))) ?_ ?_
    · rintro j x G2 ex ⟨ed, sg⟩
      obtain ⟨z, ez, rfl⟩ : ∃ z, menu[j]? = some z ∧ x = .str z := by
        rw [List.getElem?_map] at ex
        cases e : menu[j]? with
        | none =>
          rw [e] at ex
          cases ex
        | some d =>
          rw [e] at ex
          exact ⟨d, rfl, (Option.some.inj ex).symm⟩
      have tk : menu.take (j + 1) = menu.take j ++ [z] := by
        rw [List.take_add_one, ez]
        rfl
      refine ⟨rfl, _, rfl, _, rfl, l, ws.map V.str, rfl, .inl (SqL.sm hl sg), rfl, flat_strs ws, _, rfl, ?_⟩
      rw [in_strs, if_pos rfl]
      by_cases c : z ∈ ws
      · rw [decide_eq_true c]
        refine iteF ⟨?_, sg⟩
        rw [tk, List.filter_append, List.filter_cons_of_neg (by simpa using c), List.filter_nil, List.append_nil]
        exact ed
      · rw [decide_eq_false c]
        refine iteT ⟨_, rfl, _, ed, ?_, ?_, ?_⟩
        · have h1 := List.length_filter_le (fun z => decide (z ∉ ws)) (menu.take j)
          rw [List.length_take] at h1
          rw [List.length_map, sizeLine_eq]
          have h2 : menu.length = 17 := rfl
          omega
        · rw [upd_same, tk, List.filter_append, List.filter_cons_of_pos (by simpa using c), List.filter_nil, List.map_append]
          rfl
        · intro b o eb
          rw [upd_ne (ne_of_none eb nD)]
          exact sg _ _ eb
    · rintro G2 ⟨ed, sg⟩
      rw [List.length_map, List.take_length] at ed
      have ne := left_some n16
      cases ec : menu.filter (fun z => decide (z ∉ ws)) with
      | nil => exact absurd ec ne
      | cons z rest =>
        rw [ec] at ed
        have hz : z ∈ menu.filter (fun z => decide (z ∉ ws)) := by
          rw [ec]
          exact List.mem_cons_self
        obtain ⟨a, b⟩ := List.mem_filter.mp hz
        exact ⟨D, _, 0, .str z, rfl, rfl, .inl (.inl ed), atI_nat (j := 0) rfl, q z G2 (Sm.trans mM sg) a (of_decide_eq_true b)⟩
end
end Dk
set_option Elab.async false
set_option linter.all false
set_option maxRecDepth 100000
set_option maxHeartbeats 4000000
namespace Dk
open PySem PySem.Spec PyProof.Rows L2 Er
/-! ### _law_nexts -/
theorem idx_of {ds : List Str} {j : Nat} {d : Str} (nd : ds.Nodup) (h : ds[j]? = some d) : ds.idxOf d = j := by
  obtain ⟨hj, e⟩ := List.getElem?_eq_some_iff.mp h
  have hd : d ∈ ds := List.mem_of_getElem? h
  have il := idx_lt hd
  have eg : ds[ds.idxOf d]'il = d := List.getElem_idxOf il
  have pw := List.pairwise_iff_getElem.mp nd
  rcases Nat.lt_trichotomy (ds.idxOf d) j with c | c | c
  · exact absurd (eg.trans e.symm) (pw _ _ il hj c)
  · exact c
  · exact absurd (e.trans eg.symm) (pw _ _ hj il c)
theorem row_get {ws ds vs : List Str} {tb : List (List Str)} {j : Nat} {z d : Str} (nd : ds.Nodup) (e1 : ds[j]? = some d) (e2 : tb[j]? = some vs) (vl : vs.length = ws.length) (hz : z ∈ ws) : valV (dkv ws (vs.map V.str)) (.inr z) = some (.str (nxt ws ds tb z d)) := by
  have zl := idx_lt hz
  have e3 : vs[ws.idxOf z]? = some (vs[ws.idxOf z]'(by omega)) := List.getElem?_eq_getElem _
  have en : nxt ws ds tb z d = vs[ws.idxOf z]'(by omega) := by
    unfold nxt
    rw [idx_of nd e1, List.getD_eq_getElem?_getD, List.getD_eq_getElem?_getD, e2]
    show (vs[ws.idxOf z]?).getD _ = _
    rw [e3]
    rfl
  rw [dkv_get (by rw [List.length_map, vl]) hz, List.getElem?_map, e3, en]
  rfl
theorem dk_rows {H : Hp} {u nm dd sg : Addr} {ws ds : List Str} {as : List Addr} {tb : List (List Str)} {ls : List Str} {m : Nat} (h : DkAt H u nm dd sg ws ds as tb ls) (is : DkIs m ws ds tb ls) : Paired (fun a vs => a ≠ dd ∧ H a = some (.dK (dkv ws (vs.map V.str)))) as tb := by
  obtain ⟨_, _, hdd, _, pr⟩ := h
  refine paired_of (paired_len pr) fun j a vs e1 e2 => ?_
  obtain ⟨vs2, e3, e4⟩ := pair_at pr e1
  rw [e2] at e3
  have e5 := Option.some.inj e3
  subst e5
  refine ⟨fun z => ?_, e4⟩
  rw [z, hdd] at e4
  exact dkv_ne is.some (is.row vs (List.mem_of_getElem? e2)).1 (HO.dK.inj (Option.some.inj e4)).symm
/-- the standings to which the deeds lead one -/
def nexts (ws ds : List Str) (tb : List (List Str)) (z : Str) : List Str := ds.map (nxt ws ds tb z)
def spNexts : Sp := fun vs H Q _ => ∃ (u nm dd sg : Addr) (ws ds : List Str) (as : List Addr) (tb : List (List Str)) (ls : List Str) (m : Nat), vs = [.ref u] ∧ DkAt H u nm dd sg ws ds as tb ls ∧ DkIs m ws ds tb ls ∧ m ≤ 9 ∧
  ∀ (q : Addr) (bs : List Addr) H', Sm H H' → H q = none → H' q = some (.dK (dkv ws (bs.map V.ref))) → Paired (fun b z => H' b = some (.lst ((nexts ws ds tb z).map V.str))) bs ws → Q (.ref q) H'
abbrev nNexts : List Str := ["_law_desk_here", "_law_found", "_law_one", "_law_leads_here"]
theorem scNexts : FnScope nNexts ["_law_desk_here"] (defScope (top 50)) := ⟨rfl, rfl, rfl, by decide +kernel, rfl, by decide +kernel, by decide +kernel⟩
section
variable {P : Program} {w : World} {K : PySem.W.Frag} {mg : Str → Option Value} {base : Heap} {f : Addr} {fd : FuncData}
theorem ok_nexts (F : FnP K "_law_nexts" (top 50) f fd) : FnOk P w K mg base CX0 1 f fd ["_law_desk_here"] spNexts := by
  refine F.ok (CX := CX0) scNexts (fun vs H Q E h => ?_) (fun cdv A outer s H vs Q E hr h => ?_)
  · obtain ⟨u, nm, dd, sg, ws, ds, as, tb, ls, m, rfl, _⟩ := h
    rfl
  · refine ⟨_, PSs.nox (pss_cons (ps_set (i := 1) scNexts.nd rfl (.inl rfl) pe_dnewK)
      (pss_cons (ps_for PassesOwn.never rfl (pi_list (by exact (pe_ix ix_tup (pv 0) pe_int (fun _ _ => rfl)))) (pg_name (i := 2) scNexts.nd rfl (.inr rfl))
        (pss_one (ps_dput (hu_of hr) (pv 1) (pv 2) (pe_lock (by exact (pe_lc (own := [("_law_leads_here", 3)]) (g := gName 3) (tt := tYes) (te := tDGet (tVar 3) (tVar 2)) rfl scNexts.nd (pi_values (by exact (pe_ix ix_tup (pv 0) pe_int (fun _ _ => rfl))))
          (blkOk_by (N := nNexts) (sc := defScope (top 50)) (by decide +kernel)) (fun _ _ _ _ _ => pg_name (i := 3) scNexts.nd rfl (Or.inl rfl)) (fun _ _ _ _ _ => pts_nil) (fun _ _ _ _ _ => by exact (pe_dget (hu_of hr) (by exact (pv 3)) (by exact (pv 2)) (fun _ _ => rfl)))))) (by rfl))))
      (pss_one (ps_ret (pv 1))))), ?_⟩
    obtain ⟨u, nm, dd, sg, ws, ds, as, tb, ls, m, rfl, hk, is, m9, q⟩ := h
    have prd := dk_rows hk is
    obtain ⟨hu, hnm, hdd, hsg, pr⟩ := hk
    have al : as.length = ds.length := by rw [paired_len pr, is.rows]
    have dkl : (dkv ds (as.map V.ref)).length = ds.length := dkv_len (by rw [List.length_map, al])
    have d4 := is.dmost
    have w9 := is.most
    intro ne nne
    have fresh : ∀ {b : Addr} {o : HO}, H b = some o → b ≠ ne := fun {b o} e z => by
      rw [z, nne] at e
      cases e
    have s0 := Sm.new (o := .dK []) nne
    refine ⟨_, rfl, u, _, 0, .ref nm, rfl, rfl, .inl (.inl (s0 _ _ hu)), atI_nat (j := 0) rfl, nm, rfl, ⟨ws.map V.str, .inl (.inl (s0 _ _ hnm))⟩, ?_⟩
    refine for_it (walk_list (xs := ws.map V.str)) (fun i σ G => ∃ (bs : List Addr) (v2 : Option V), σ = [some (.ref u), some (.ref ne), v2, none] ∧ bs.length = i ∧ G ne = some (.dK (dkv (ws.take i) (bs.map V.ref))) ∧ Paired (fun b z => b ≠ ne ∧ G b = some (.lst ((nexts ws ds tb z).map V.str))) bs (ws.take i) ∧ Sm H G)
      ⟨[], none, rfl, rfl, upd_same, .nil, s0⟩ (fun i σ G _ p => ?_) (fun i x σ G2 G hi p y => ?_) (fun σ G p => ?_)
    · obtain ⟨_, _, _, _, _, _, mm⟩ := p
      exact .inl (.inl (mm _ _ hnm))
    · obtain ⟨bs, v2, rfl, bl, eg, pb, mm⟩ := p
      obtain ⟨rfl, ex⟩ := y
      obtain ⟨z, ez, rfl⟩ : ∃ z, ws[i]? = some z ∧ x = .str z := by
        rw [List.getElem?_map] at ex
        cases e : ws[i]? with
        | none =>
          rw [e] at ex
          cases ex
        | some d =>
          rw [e] at ex
          exact ⟨d, rfl, (Option.some.inj ex).symm⟩
      have hz := List.mem_of_getElem? ez
      have dG := mm _ _ hdd
      refine ⟨dd, .dK (dkv ds (as.map V.ref)), dG, True.intro, fun od => ?_⟩
      have udd : u ≠ dd := fun y => by
        rw [y, hdd] at hu
        cases hu
      refine ⟨_, rfl, u, _, 1, .ref dd, rfl, rfl, .inl (.inl (by rw [upd_ne udd]; exact mm _ _ hu)), atI_nat (j := 1) rfl, dd, od, _, rfl, upd_same, ?_⟩
      refine lc_vals (fv := fun j => .str (nxt ws ds tb z (ds.getD j ⟨#[]⟩))) upd_same (by omega) (fun _ => rfl) (fun j x G3 Q3 ex s3 qq => ?_) fun D G3 m3 nD eD => ?_
      · rw [show (dkv ds (as.map V.ref)).map (·.2) = as.map V.ref from List.map_snd_zip (by rw [List.length_map, List.length_map, al]; exact Nat.le_refl _), List.getElem?_map] at ex
        cases ea : as[j]? with
        | none =>
          rw [ea] at ex
          cases ex
        | some a =>
          rw [ea] at ex
          have e5 : V.ref a = x := Option.some.inj ex
          subst e5
          obtain ⟨vs, et, ad, ha⟩ := pair_at prd ea
          have jl : j < ds.length := by
            have := (List.getElem?_eq_some_iff.mp ea).1
            omega
          have ed : ds[j]? = some (ds[j]'jl) := List.getElem?_eq_getElem jl
          have z3 := qq G3 (Sm.refl _)
          rw [List.getD_eq_getElem?_getD, ed] at z3
          exact ⟨_, rfl, _, rfl, a, _, rfl, .inl ⟨_, .inr z, .inl (s3 _ _ (by rw [upd_ne ad]; exact mm _ _ ha)), rfl, (row_get is.dnd ed et (is.row vs (List.mem_of_getElem? et)).1 hz).symm⟩, z3⟩
      · have Dd : D ≠ dd := fun y => by
          rw [y, upd_same] at nD
          cases nD
        have gne : (upd G dd (.frz od (.dK (dkv ds (as.map V.ref))))) ne = some (.dK (dkv (ws.take i) (bs.map V.ref))) := by
          rw [upd_ne (Ne.symm (fresh hdd))]
          exact eg
        have Dne : D ≠ ne := fun y => by
          rw [y, gne] at nD
          cases nD
        have sU := sm_unlock dG m3
        have il : i < ws.length := by
          have := (List.getElem?_eq_some_iff.mp ez).1
          exact this
        have tk : ws.take (i + 1) = ws.take i ++ [z] := by
          rw [List.take_add_one, ez]
          rfl
        have l1 : bs.length = (ws.take i).length := by
          rw [List.length_take]
          omega
        have lst : (List.range (dkv ds (as.map V.ref)).length).map (fun j => V.str (nxt ws ds tb z (ds.getD j ⟨#[]⟩))) = (nexts ws ds tb z).map V.str := by
          unfold nexts
          rw [dkl]
          refine List.ext_getElem (by simp) fun j h1 h2 => ?_
          rw [List.length_map, List.length_map] at h2
          rw [List.getElem_map, List.getElem_range, List.getElem_map, List.getElem_map, List.getD_eq_getElem?_getD, List.getElem?_eq_getElem h2]
          rfl
        rw [lst] at eD
        refine ⟨m3 _ _ upd_same, _, rfl, _, rfl, ne, _, rfl, DPut.k (k := .inr z) (sU _ _ eg) (by rw [dkv_len (by rw [List.length_map]; omega), List.length_take, sizeLine_eq]; omega), bs ++ [D], _, rfl, by rw [List.length_append, bl]; rfl, ?_, ?_, ?_⟩
        · rw [upd_same, put_dkv l1 (by rw [← tk]; exact is.nd.sublist (List.take_sublist _ _)), tk]
        · rw [tk]
          refine pair_more (pair_mono pb fun b _ t2 eb => ⟨eb.1, ?_⟩) ⟨Dne, ?_⟩
          · rw [upd_ne eb.1]
            exact sU _ _ eb.2
          · rw [upd_ne Dne, upd_ne Dd]
            exact eD
        · intro b o eb
          rw [upd_ne (fresh eb)]
          exact sU _ _ (mm _ _ eb)
    · obtain ⟨bs, v2, rfl, bl, eg, pb, mm⟩ := p
      rw [List.length_map, List.take_length] at eg pb
      exact ⟨_, rfl, q ne bs G mm nne eg (pair_mono pb fun b _ z e => e.2)⟩
end
end Dk
set_option Elab.async false
set_option linter.all false
set_option maxRecDepth 100000
set_option maxHeartbeats 4000000
namespace Dk
open PySem PySem.Spec PyProof.Rows L2 Er
open PySem.ErK (EC)
/-! ### a desk's errors; Desk.sight, Desk.lead -/
def ini (s : Stmt) : Stmt := (clsBody s).getD 0 (.Pass ⟨0, 0, 0, 0⟩)
def spErr (K : PySem.W.Frag) (g : Str) : Sp := fun vs H Q _ => ∃ (a C : Addr) (v : V), vs = [.ref a, v] ∧ OexC K C ∧ PySem.W.findIn K (.ref C) g = some none ∧ H a = some (exo a C none) ∧
  ∀ dx, H dx = none → dx ≠ a → Q .non (upd (upd H dx (exd dx [(g, v)])) a (exo a C (some dx)))
theorem scErV : FnScope ["self", "value"] ["self", "value"] (defScope (ini (top 5))) := ⟨rfl, rfl, rfl, by decide +kernel, rfl, by decide +kernel, by decide +kernel⟩
theorem scErP : FnScope ["self", "position"] ["self", "position"] (defScope (ini (top 6))) := ⟨rfl, rfl, rfl, by decide +kernel, rfl, by decide +kernel, by decide +kernel⟩
/-- what the written part says of an error: its class, its __init__ -/
structure Bad (K : PySem.W.Frag) (mg : Str → Option Value) (x g : Str) (st : Stmt) (C fI : Addr) (dI : FuncData) : Prop where
  ec : EC K x g C fI
  F : FunD K "__init__" (x ++ ".__init__") (defArgs st) (defBody st) (defScope st) [] [] fI dI
  gl : mg x = some (.ref C)
section
variable {P : Program} {w : World} {K : PySem.W.Frag} {mg : Str → Option Value} {base : Heap} {fI C : Addr} {dI : FuncData}
theorem ok_erV (B : Bad K mg "BadStanding" "value" (ini (top 5)) C fI dI) : FnOk P w K mg base CX0 1 fI dI ["self", "value"] (spErr K "value") := by
  refine B.F.ok (CX := CX0) scErV (fun vs H Q E h => ?_) (fun cdv A outer s H vs Q E hr h => ?_)
  · obtain ⟨a, C, v, rfl, _⟩ := h
    rfl
  · refine ⟨_, PSs.nox (pss_one (ps_ost (pv 0) (pv 1))), ?_⟩
    obtain ⟨a, C, v, rfl, T, no, ha, q⟩ := h
    exact ⟨_, rfl, _, rfl, a, C, rfl, T, no, .inl ⟨ha, q⟩⟩
theorem ok_erP (B : Bad K mg "BadRow" "position" (ini (top 6)) C fI dI) : FnOk P w K mg base CX0 1 fI dI ["self", "position"] (spErr K "position") := by
  refine B.F.ok (CX := CX0) scErP (fun vs H Q E h => ?_) (fun cdv A outer s H vs Q E hr h => ?_)
  · obtain ⟨a, C, v, rfl, _⟩ := h
    rfl
  · refine ⟨_, PSs.nox (pss_one (ps_ost (pv 0) (pv 1))), ?_⟩
    obtain ⟨a, C, v, rfl, T, no, ha, q⟩ := h
    exact ⟨_, rfl, _, rfl, a, C, rfl, T, no, .inl ⟨ha, q⟩⟩
theorem bErV (B : Bad K mg "BadStanding" "value" (ini (top 5)) C fI dI) : Binds K dI ["self", "value"] [] := B.F.bindsN fun _ _ _ _ _ _ us hl => match us, hl with
  | [_, _], _ => rfl
theorem bErP (B : Bad K mg "BadRow" "position" (ini (top 6)) C fI dI) : Binds K dI ["self", "position"] [] := B.F.bindsN fun _ _ _ _ _ _ us hl => match us, hl with
  | [_, _], _ => rfl
theorem upd_del {H : Hp} {a d : Addr} {o u v x : HO} (na : H a = none) (ne : d ≠ a) : upd (del (upd (upd (upd H a o) d u) a v) a) d x = upd H d x := by
  funext b
  by_cases hd : b = d
  · rw [hd, upd_same, upd_same]
  · rw [upd_ne hd, upd_ne hd]
    by_cases ha : b = a
    · rw [ha, del_same, na]
    · rw [del_ne ha, upd_ne ha, upd_ne hd, upd_ne ha]
/-- what raising one asks -/
theorem bad_reads {g : Str} {v : V} {H1 : Hp} {Q : XK} (T : OexC K C) (no : PySem.W.findIn K (.ref C) g = some none) (q : ∀ d, H1 d = none → Q (.ref C) (some d) (upd H1 d (.xd [(g, v)]))) :
    [v].length ≤ 1000 ∧ ∀ a, H1 a = none → spErr K g (.ref a :: ([v] ++ [])) (upd H1 a (exo a C none)) (fun u H2 => u = .non ∧ ∃ (d : Addr) (fs : List (Str × V)), H2 a = some (exo a C (some d)) ∧ H2 d = some (exd d fs) ∧ H1 d = none ∧ Q (.ref C) (some d) (upd (del H2 a) d (.xd fs))) (fun _ _ _ => False) := by
  refine ⟨by show 1 ≤ 1000; decide, fun a na => ⟨a, C, v, rfl, T, no, upd_same, fun dx nd ne => ⟨rfl, dx, [(g, v)], upd_same, ?_, ?_, ?_⟩⟩⟩
  · rw [upd_ne ne, upd_same]
  · rw [upd_ne ne] at nd
    exact nd
  · rw [upd_ne ne] at nd
    rw [upd_del na ne]
    exact q dx nd
end
/-- what stands in a told desk's dicts -/
theorem ob_step {H : Hp} {ws ds : List Str} {as : List Addr} {tb : List (List Str)} {ls : List Str} {m : Nat} (pr : Paired (fun a vs => H a = some (.dK (dkv ws (vs.map V.str)))) as tb) (is : DkIs m ws ds tb ls) {d z : Str} (hd : d ∈ ds) (hz : z ∈ ws) :
    ∃ a, valV (dkv ds (as.map V.ref)) (.inr d) = some (.ref a) ∧ DGet H a (.str z) (some (.str (nxt ws ds tb z d))) ∧ nxt ws ds tb z d ∈ ws := by
  have al : as.length = ds.length := by rw [paired_len pr, is.rows]
  have il := idx_lt hd
  have e1 : as[ds.idxOf d]? = some (as[ds.idxOf d]'(by omega)) := List.getElem?_eq_getElem _
  obtain ⟨vs, et, ha⟩ := pair_at pr e1
  have hv := is.row vs (List.mem_of_getElem? et)
  have zl := idx_lt hz
  have e2 : vs[ws.idxOf z]? = some (vs[ws.idxOf z]'(by omega)) := List.getElem?_eq_getElem _
  have en : nxt ws ds tb z d = vs[ws.idxOf z]'(by omega) := by
    unfold nxt
    rw [List.getD_eq_getElem?_getD, List.getD_eq_getElem?_getD, et]
    show (vs[ws.idxOf z]?).getD _ = _
    rw [e2]
    rfl
  refine ⟨as[ds.idxOf d]'(by omega), ?_, ?_, ?_⟩
  · rw [dkv_get (by rw [List.length_map, al]) hd, List.getElem?_map, e1]
    rfl
  · refine .inl ⟨_, .inr z, .inl ha, rfl, ?_⟩
    rw [dkv_get (by rw [List.length_map, hv.1]) hz, List.getElem?_map, e2, en]
    rfl
  · rw [en]
    exact hv.2 _ (List.getElem_mem _)
/-- no text of these -/
def NotOf (K : PySem.W.Frag) (H : Hp) (ws : List Str) (v : V) : Prop := (∃ z : Str, v = .str z ∧ z ∉ ws) ∨ NoStr K H v
theorem NotOf.sm {K : PySem.W.Frag} {H H' : Hp} {ws : List Str} {v : V} (h : NotOf K H ws v) (m : Sm H H') : NotOf K H' ws v := by
  rcases h with h | h
  · exact .inl h
  · exact .inr (NoStr.sm h m)
def spSight (K : PySem.W.Frag) (C CS : Addr) : Sp := fun vs H Q E => ∃ (x : Addr) (v : V) (ws ds : List Str) (tb : List (List Str)) (ls : List Str), vs = [.ref x, v] ∧ DeskOb K C H x ws ds tb ls ∧ ls.length = ws.length ∧
  ((∃ z l : Str, v = .str z ∧ z ∈ ws ∧ ls[ws.idxOf z]? = some l ∧ Q (.str l) H) ∨ (NotOf K H ws v ∧ ∀ d, H d = none → E (.ref CS) (some d) (upd H d (.xd [("value", v)]))))
abbrev nSight : List Str := ["self", "standing"]
theorem scSight : FnScope nSight nSight (defScope (meth 5)) := ⟨rfl, rfl, rfl, by decide +kernel, rfl, by decide +kernel, by decide +kernel⟩
section
variable {P : Program} {w : World} {K : PySem.W.Frag} {mg : Str → Option Value} {base : Heap} {f fI fJ C CS CR fO : Addr} {fd dI dJ dO : FuncData}
theorem bOne (F : FnP K "is_one_of" (top 9) fO dO) : Binds K dO nOneOf [] := F.bindsN fun _ _ _ _ _ _ us hl => match us, hl with
  | [_, _], _ => rfl
theorem ok_sight (F : FunD K "sight" "Desk.sight" (defArgs (meth 5)) (defBody (meth 5)) (defScope (meth 5)) [] [] f fd) (hC : Cls K C) (n1 : NoAttr K C "_standings") (n3 : NoAttr K C "_sights") (B : Bad K mg "BadStanding" "value" (ini (top 5)) CS fI dI)
    (GO : FnOk P w K mg base CX0 1 fO dO nOneOf (spOneOf K)) (FO : FnP K "is_one_of" (top 9) fO dO) (gO : mg "is_one_of" = some (.ref fO)) : FnOk P w K mg base (L2.CX P w) 3 f fd nSight (spSight K C CS) := by
  refine F.ok (CX := L2.CX P w) scSight (fun vs H Q E h => ?_) (fun cdv A outer s H vs Q E hr h => ?_)
  · obtain ⟨x, v, ws, ds, tb, ls, rfl, _⟩ := h
    rfl
  · have hr1 := hr.mono (show 1 ≤ 2 by decide)
    have GE : FnOk P w K mg base CX0 1 fI dI ["self", "value"] (spErr K "value") := ok_erV B
    refine ⟨_, pss_cons (ps_if (pt_not (pt_val (by exact (pe_call GO hr1 rfl gO FO.kp (bOne FO) .nil pass0 (pa_cons (pv 1) (pa_cons (by exact (pe_fld (pv 0) rfl)) pa_nil)))))) (pss_one (ps_raise rfl (takes_of rfl rfl rfl rfl) (pmk_oex (e := .Name "standing" _) (es := []) B.ec.ox B.ec.iC B.ec.tI GE hr (bErV B) .nil pass0 rfl B.gl (pa_cons (pv 1) pa_nil)))) pss_nil)
      (PSs.nox (pss_one (ps_ret (by exact (pe_dget (hu_of hr) (by exact (pe_fld (pv 0) rfl)) (pv 1) (fun _ _ => rfl)))))), ?_⟩
    obtain ⟨x, v, ws, ds, tb, ls, rfl, ⟨dx, st, ld, si, as, hx, hst, hld, hsi, pr⟩, ll, h⟩ := h
    refine ⟨_, rfl, _, rfl, x, C, dx, _, _, rfl, hx, hC, n1, rfl, v, st, rfl, ?_⟩
    rcases h with ⟨z, l, rfl, hz, el, q⟩ | ⟨hv, q⟩
    · refine .inl ⟨z, ws, rfl, .inr (.inl hst), _, rfl, ?_⟩
      rw [decide_eq_true hz]
      refine iteF ⟨_, rfl, x, C, dx, _, _, rfl, hx, hC, n3, rfl, _, rfl, si, .str l, rfl, .inl ⟨_, .inr z, .inl hsi, rfl, ?_⟩, q⟩
      rw [dkv_get (by rw [List.length_map, ll]) hz, List.getElem?_map, el]
      rfl
    · rcases hv with ⟨z, rfl, nz⟩ | hv
      · refine .inl ⟨z, ws, rfl, .inr (.inl hst), _, rfl, ?_⟩
        rw [decide_eq_false nz]
        exact iteT ⟨_, rfl, bad_reads B.ec.ox B.ec.noN q⟩
      · exact .inr ⟨hv, _, rfl, iteT ⟨_, rfl, bad_reads B.ec.ox B.ec.noN q⟩⟩
end
theorem DeskOb.sm {K : PySem.W.Frag} {C : Addr} {H H' : Hp} {x : Addr} {ws ds : List Str} {tb : List (List Str)} {ls : List Str} (h : DeskOb K C H x ws ds tb ls) (m : Sm H H') : DeskOb K C H' x ws ds tb ls := by
  obtain ⟨dx, st, ld, si, as, h1, h2, h3, h4, pr⟩ := h
  exact ⟨dx, st, ld, si, as, m _ _ h1, SqT.sm h2 m, m _ _ h3, m _ _ h4, pair_mono pr fun a _ vs e => m _ _ e⟩
/-- a row: its first deeds are a desk's, and then it ends, or what stands there is none -/
def spLeadD (K : PySem.W.Frag) (C CS CR : Addr) : Sp := fun vs H Q E => ∃ (x r : Addr) (v : V) (xs : List V) (ws ds : List Str) (tb : List (List Str)) (ls : List Str) (m : Nat), vs = [.ref x, v, .ref r] ∧ DeskOb K C H x ws ds tb ls ∧ DkIs m ws ds tb ls ∧ SqL K H r xs ∧ xs.length ≤ 1000 ∧
  ((NotOf K H ws v ∧ ∀ d, H d = none → E (.ref CS) (some d) (upd H d (.xd [("value", v)]))) ∨
   ∃ (z : Str) (row : List Str), v = .str z ∧ z ∈ ws ∧ (∀ d ∈ row, d ∈ ds) ∧
    ((xs = row.map V.str ∧ ∀ H', Sm H H' → ledBy ws ds tb z row ∈ ws → Q (.str (ledBy ws ds tb z row)) H') ∨
     (∃ y : V, xs.take row.length = row.map V.str ∧ xs[row.length]? = some y ∧ NotOf K H ds y ∧ ∀ d H', Sm H H' → H' d = some (.xd [("position", .int (row.length : Nat))]) → H d = none → E (.ref CR) (some d) H')))
abbrev nLeadD : List Str := ["self", "standing", "row", "position", "deed"]
theorem scLeadD : FnScope nLeadD ["self", "standing", "row"] (defScope (meth 4)) := ⟨rfl, rfl, rfl, by decide +kernel, rfl, by decide +kernel, by decide +kernel⟩
theorem none_of_sm {H H' : Hp} {a : Addr} (m : Sm H H') (n : H' a = none) : H a = none := by
  cases e : H a with
  | none => rfl
  | some o =>
    rw [m _ _ e] at n
    cases n
theorem led_more {ws ds : List Str} {tb : List (List Str)} {z d : Str} {row : List Str} {i : Nat} (e : row[i]? = some d) : ledBy ws ds tb z (row.take (i + 1)) = nxt ws ds tb (ledBy ws ds tb z (row.take i)) d := by
  unfold ledBy
  rw [List.take_add_one, e, List.foldl_append]
  rfl
section
variable {P : Program} {w : World} {K : PySem.W.Frag} {mg : Str → Option Value} {base : Heap} {f fI fJ C CS CR fO : Addr} {fd dI dJ dO : FuncData}
theorem ok_leadD (F : FunD K "lead" "Desk.lead" (defArgs (meth 4)) (defBody (meth 4)) (defScope (meth 4)) [] [] f fd) (hC : Cls K C) (n1 : NoAttr K C "_standings") (n2 : NoAttr K C "_leads") (B : Bad K mg "BadStanding" "value" (ini (top 5)) CS fI dI) (B2 : Bad K mg "BadRow" "position" (ini (top 6)) CR fJ dJ)
    (me : mg "enumerate" = none) (GO : FnOk P w K mg base CX0 1 fO dO nOneOf (spOneOf K)) (FO : FnP K "is_one_of" (top 9) fO dO) (gO : mg "is_one_of" = some (.ref fO)) : FnOk P w K mg base (L2.CX P w) 3 f fd ["self", "standing", "row"] (spLeadD K C CS CR) := by
  refine F.ok (CX := L2.CX P w) scLeadD (fun vs H Q E h => ?_) (fun cdv A outer s H vs Q E hr h => ?_)
  · obtain ⟨x, r, v, xs, ws, ds, tb, ls, m, rfl, _⟩ := h
    rfl
  · have hr1 := hr.mono (show 1 ≤ 2 by decide)
    have GE : FnOk P w K mg base CX0 1 fI dI ["self", "value"] (spErr K "value") := ok_erV B
    have GP : FnOk P w K mg base CX0 1 fJ dJ ["self", "position"] (spErr K "position") := ok_erP B2
    refine ⟨_, pss_cons (ps_if (pt_not (pt_val (by exact (pe_call GO hr1 rfl gO FO.kp (bOne FO) .nil pass0 (pa_cons (pv 1) (pa_cons (by exact (pe_fld (pv 0) rfl)) pa_nil)))))) (pss_one (ps_raise rfl (takes_of rfl rfl rfl rfl) (pmk_oex (e := .Name "standing" _) (es := []) B.ec.ox B.ec.iC B.ec.tI GE hr (bErV B) .nil pass0 rfl B.gl (pa_cons (pv 1) pa_nil)))) pss_nil)
      (pss_cons (ps_for (passes_of rfl) rfl (pi_enum rfl me (pa_cons (pv 2) pa_nil)) (pg_tup rfl (pgs_cons (pg_name (i := 3) scLeadD.nd rfl (.inl rfl)) (pgs_cons (pg_name (i := 4) scLeadD.nd rfl (.inl rfl)) pgs_nil)))
        (pss_cons (ps_if (pt_not (pt_val (by exact (pe_call GO hr1 rfl gO FO.kp (bOne FO) .nil pass0 (pa_cons (pv 4) (pa_cons (by exact (pe_fld (pv 0) rfl)) pa_nil)))))) (pss_one (ps_raise rfl (takes_of rfl rfl rfl rfl) (pmk_oex (e := .Name "position" _) (es := []) B2.ec.ox B2.ec.iC B2.ec.tI GP hr (bErP B2) .nil pass0 rfl B2.gl (pa_cons (pv 3) pa_nil)))) pss_nil)
          (PSs.nox (pss_one (ps_set (i := 1) scLeadD.nd rfl (.inl rfl) (by exact (pe_dget (hu_of hr) (by exact (pe_dget (hu_of hr) (by exact (pe_fld (pv 0) rfl)) (by exact (pv 4)) (fun _ _ => rfl))) (by exact (pv 1)) (fun _ _ => rfl))))))))
      (PSs.nox (pss_one (ps_ret (pv 1))))), ?_⟩
    obtain ⟨x, r, v, xs, ws, ds, tb, ls, m, rfl, ⟨dx, st, ld, si, as, hx, hst, hld, hsi, pr⟩, is, hr0, xl, h⟩ := h
    refine ⟨_, rfl, _, rfl, x, C, dx, _, _, rfl, hx, hC, n1, rfl, v, st, rfl, ?_⟩
    rcases h with ⟨hv, q⟩ | ⟨z, row, rfl, hz, hrow, h⟩
    · rcases hv with ⟨z, rfl, nz⟩ | hv
      · refine .inl ⟨z, ws, rfl, .inr (.inl hst), _, rfl, ?_⟩
        rw [decide_eq_false nz]
        exact iteT ⟨_, rfl, bad_reads B.ec.ox B.ec.noN q⟩
      · exact .inr ⟨hv, _, rfl, iteT ⟨_, rfl, bad_reads B.ec.ox B.ec.noN q⟩⟩
    · refine .inl ⟨z, ws, rfl, .inr (.inl hst), _, rfl, ?_⟩
      rw [decide_eq_true hz]
      refine iteF ⟨_, rfl, r, xs, rfl, hr0, ?_⟩
      have al : as.length = ds.length := by rw [paired_len pr, is.rows]
      have same : ∀ (i : Nat) (y : V), i < row.length → xs[i]? = some y → ∃ d, row[i]? = some d ∧ y = .str d := fun i y hi e => by
        have e2 : (row.map V.str)[i]? = some y := by
          rcases h with ⟨e1, _⟩ | ⟨_, e1, _⟩
          · rw [← e1]
            exact e
          · rw [← e1, List.getElem?_take_of_lt hi]
            exact e
        rw [List.getElem?_map] at e2
        cases e3 : row[i]? with
        | none =>
          rw [e3] at e2
          cases e2
        | some d =>
          rw [e3] at e2
          exact ⟨d, rfl, (Option.some.inj e2).symm⟩
      refine for_it (walk_enum (xs := xs)) (fun i σ G => i ≤ row.length ∧ ∃ (v3 v4 : Option V), σ = [some (.ref x), some (.str (ledBy ws ds tb z (row.take i))), some (.ref r), v3, v4] ∧ ledBy ws ds tb z (row.take i) ∈ ws ∧ Sm H G) ⟨Nat.zero_le _, none, none, rfl, hz, Sm.refl _⟩ (fun i σ G _ p => ?_) (fun i y σ G G' hi p yy => ?_) (fun σ G p => ?_)
      · obtain ⟨_, _, _, _, _, mm⟩ := p
        exact SqL.sm hr0 mm
      · obtain ⟨il, v3, v4, rfl, hin, mm⟩ := p
        obtain ⟨T, x1, x2, rfl, hT, rfl, e1, e2⟩ := yy
        have e1 := Option.some.inj e1
        subst e1
        have m2 := mm.trans (Sm.new (o := .tup [.int (i : Nat), x2]) hT)
        refine ⟨T, _, rfl, .inl (.inl upd_same), rfl, _, _, rfl, _, _, rfl, rfl, ?_⟩
        generalize upd G T (.tup [.int (i : Nat), x2]) = G2 at m2 ⊢
        by_cases c : i < row.length
        · obtain ⟨d, ed, rfl⟩ := same i x2 c e2
          have hd := hrow d (List.mem_of_getElem? ed)
          refine ⟨_, rfl, _, rfl, x, C, dx, _, _, rfl, m2 _ _ hx, hC, n2, rfl, .str d, ld, rfl, .inl ⟨d, ds, rfl, .inr (.inr ⟨as.map V.ref, .inl (m2 _ _ hld), by rw [List.length_map, al]⟩), _, rfl, ?_⟩⟩
          rw [decide_eq_true hd]
          have pr2 : Paired (fun a vs => G2 a = some (.dK (dkv ws (vs.map V.str)))) as tb := pair_mono pr fun a _ vs e => m2 _ _ e
          obtain ⟨a, b1, b2, b3⟩ := ob_step pr2 is hd hin
          refine iteF ⟨_, rfl, x, C, dx, _, _, rfl, m2 _ _ hx, hC, n2, rfl, _, rfl, ld, .ref a, rfl, .inl ⟨_, .inr d, .inl (m2 _ _ hld), rfl, b1.symm⟩, _, rfl, a, _, rfl, b2, c, some (.int (i : Nat)), some (.str d), ?_, ?_, m2⟩
          · rw [led_more ed]
            rfl
          · rw [led_more ed]
            exact b3
        · have ei : i = row.length := by omega
          subst ei
          rcases h with ⟨e3, _⟩ | ⟨y, _, e3, ny, q⟩
          · rw [e3, List.length_map] at hi
            omega
          · have e3 := Option.some.inj ((show xs[row.length]? = some x2 from e2).symm.trans e3)
            subst e3
            have out : ∀ d, G2 d = none → E (.ref CR) (some d) (upd G2 d (.xd [("position", .int (row.length : Nat))])) := fun d nd => q d _ (m2.trans (Sm.new nd)) upd_same (none_of_sm m2 nd)
            refine ⟨_, rfl, _, rfl, x, C, dx, _, _, rfl, m2 _ _ hx, hC, n2, rfl, x2, ld, rfl, ?_⟩
            rcases ny with ⟨d, rfl, nd⟩ | ny
            · refine .inl ⟨d, ds, rfl, .inr (.inr ⟨as.map V.ref, .inl (m2 _ _ hld), by rw [List.length_map, al]⟩), _, rfl, ?_⟩
              rw [decide_eq_false nd]
              exact iteT ⟨_, rfl, bad_reads B2.ec.ox B2.ec.noN out⟩
            · exact .inr ⟨NoStr.sm ny m2, _, rfl, iteT ⟨_, rfl, bad_reads B2.ec.ox B2.ec.noN out⟩⟩
      · obtain ⟨il, v3, v4, rfl, hin, mm⟩ := p
        rcases h with ⟨e3, q⟩ | ⟨y, _, e3, _⟩
        · have ln : xs.length = row.length := by rw [e3, List.length_map]
          rw [ln, List.take_length] at hin
          rw [ln, List.take_length]
          exact ⟨_, rfl, q G mm hin⟩
        · have := (List.getElem?_eq_some_iff.mp e3).1
          omega
end
end Dk
set_option Elab.async false
set_option linter.all false
set_option maxRecDepth 100000
set_option maxHeartbeats 4000000
namespace Dk
open PySem PySem.Spec PyProof.Rows L2 Er
/-! ### several clauses, each with a name of its own -/
/-- how a suite ends whose name is gone behind it -/
def endsAs (D : Ends) (i : Nat) : Ends := { nx := fun σ G => D.nx (σ.set i none) G, rt := D.rt, bk := fun σ G => D.bk (σ.set i none) G, ct := fun σ G => D.ct (σ.set i none) G }
abbrev Cl : Type := Value × Nat × (Addr → Value → Option Addr → TS)
/-- what the clauses wish of what a body raises -/
def wClauses (K : PySem.W.Frag) (Wout : WX) (D : Ends) : List Cl → WX
  | [] => Wout
  | q :: r => fun kl d σ G => ∃ b, PySem.W.exmOne K kl q.1 = some b ∧ (b = true → ∀ x, G x = none → q.2.2 x kl d (endsAs D q.2.1) (σ.set q.2.1 (some (.ref x))) G) ∧ (b = false → wClauses K Wout D r kl d σ G)
inductive Clauses (X : Cx) : List ExceptHandler → List Cl → Prop
  | nil : Clauses X [] []
  | cons {x n : Str} {c : Value} {i : Nat} {ts : Addr → Value → Option Addr → TS} {b0 : Stmt} {su : List Stmt} {p1 p2 : Pos} {hs : List ExceptHandler} {l : List Cl} (hc : Names X x c) (hi : X.N[i]? = some n) (hn : X.env.kindOf n = some .local)
      (hsu : ∀ (xa : Addr) (ob : Obj) (kl : Value) (d : Option Addr) (pn : List (Addr × Obj)), Zc kl d ob → (∃ vs, ob.data = .fields vs) → PSs (X.suite xa ((xa, ob) :: pn)) (b0 :: su) (ts xa kl d)) (r : Clauses X hs l) :
      Clauses X (.ExceptHandler (some (.Name x p1)) (some n) (b0 :: su) p2 :: hs) ((c, i, ts) :: l)
section
variable {X : Cx} {body : List Stmt} {h0 : ExceptHandler} {hs : List ExceptHandler} {l : List Cl} {pos : Pos} {tb : WX → TS} {Wout : WX}
theorem ps_try_clauses (st : X.stack = X.env :: X.outer) (fr : X.env.frame = some X.env.locals) (nd : X.N.Nodup) (tk : Takes X Wout)
    (hb : ∀ (W : WX) (pn : List (Addr × Obj)) (xe : Value → Shared → Prop), Takes (X.tr pn xe) W → PassesOwn (model X.prog X.w) X.A X.env xe → PSs (X.tr pn xe) body (tb W))
    (hh : Clauses X (h0 :: hs) l) : PS X (.Try body (h0 :: hs) [] [] pos) (fun D σ G => tb (wClauses X.K Wout D l) D σ G) := by
  refine ⟨fun ps sh sg G D I h => ?_⟩
  have ok := I.ok
  have frs0 : X.A.frames = some (X.env :: X.outer) := ok.frames.trans (congrArg some st)
  refine wpAny_Try_except (wpAny_mono ((hb (wClauses X.K Wout D l) (X.pn ++ ps) (fun e z1 => wpAny (model X.prog X.w) X.A (noteFrame e X.env) (fun _ z2 => wpAny (model X.prog X.w) X.A (setFlight e none) (fun _ z3 =>
    wpAny (model X.prog X.w) X.A (handleBy e X.env (h0 :: hs)) (SP X ps D) X.xe z3) X.xe z2) X.xe z1) (fun u s2 xx => ?_) PassesOwn.looking).run [] sh sg G D (I.toTry _) h) (fun fl s2 hsp => ?_) (fun _ _ z => z))
  · obtain ⟨xa, Bs, si, ps2, s3, G3, kl, d, rfl, Jt, nb, ups, sky, na, eos, ags, w⟩ := xx
    have Ja : Inv X ps s3 G3 si := Jt.ofTry ok
    have sky2 : Sky Bs (X.env :: X.outer) xa (Zc kl d) X.env.locals s2.heap := st ▸ sky
    show wpAny (model X.prog X.w) X.A (noteFrame (.ref xa) X.env) _ _ _
    refine Sky.land Zc.steady frs0 fr sky2 fun g1 f1 u1 => ?_
    have J1 : Inv X ps s3 G3 { s2 with heap := g1 } := Ja.landed nb f1.1 (ups.trans u1) eos ags
    obtain ⟨ob1, vs1, at1, zc1, fd1⟩ := f1.there
    -- the exception is no frame of those that run
    have out : xa ∉ frs (X.env :: X.outer) := fun hm => by
      obtain ⟨_, ob2, at2, no2⟩ := f1.2.2.1.mem hm
      exact no2 _ ((Option.some.inj (at1.symm.trans at2)) ▸ fd1)
    have out1 : xa ≠ X.env.locals := fun z => out (List.mem_filterMap.mpr ⟨_, List.mem_cons_self, fr.trans (congrArg some z.symm)⟩)
    have out2 : xa ∉ X.fs := fun hm => by
      obtain ⟨en, hen, q⟩ := List.mem_filterMap.mp hm
      exact out (List.mem_filterMap.mpr ⟨en, List.mem_cons_of_mem _ hen, q⟩)
    have S1 := J1.suite at1 fd1 na out1 out2
    have lk : PySem.W.Looks (model X.prog X.w) g1 (typeOf (.ref xa)) kl := fun _ _ _ _ kk q => wpAny_typeOf_ref (kk _ _ at1) (zc1.1 ▸ q)
    have all : ∀ {hs2 : List ExceptHandler} {l2 : List Cl}, Clauses X hs2 l2 → wClauses X.K Wout D l2 kl d s3 G3 → wpAny (model X.prog X.w) X.A (handleBy (.ref xa) X.env hs2) (SP X ps D) X.xe { s2 with heap := g1 } := by
      intro hs2 l2 hk
      induction hk with
      | nil =>
        intro w
        obtain ⟨_, _, _, ob2, vs2, Tr, _, _, e2, _, d2, v2, _⟩ := id f1
        refine wpAny_handleBy_nil ?_
        unfold PySem.passOn
        refine wpAny_bind (wpAny_field e2 d2 v2 ?_)
        rw [if_neg (by simp)]
        have last : wpAny (model X.prog X.w) X.A (setFlight (.ref xa) X.env.frame) (fun _ z => wpAny (model X.prog X.w) X.A (throw (.ref xa) : Sem Flow) (SP X ps D) X.xe z) X.xe { s2 with heap := g1 } := by
          rw [fr]
          exact HandSPX.setFlight_upZ f1 fun g2 f2 u2 => wpAny_throw (tk _ _ ⟨xa, Bs, si, ps, s3, G3, kl, d, rfl, Ja, nb, (ups.trans u1).trans u2, .inr (.inr (by rw [st]; exact f2)), na, eos, ags, w⟩)
        first
          | exact wpAny_bind (wpAny_pure (wpAny_bind last))
          | exact wpAny_bind last
      | @cons x n c i ts b0 su p1 p2 hs3 l3 hc hi hn hsu r ih =>
        rintro ⟨b, e, yes, no⟩
        have named : ∀ {Q : Value → Shared → Prop} {E : Value → Shared → Prop}, Q c { s2 with heap := g1 } → wpAny (model X.prog X.w) (X.A.mark (some (.ref xa))) (eval (.Name x p1) X.env) Q E { s2 with heap := g1 } := fun {Q E} q => by
          obtain ⟨gl, db, gm | ⟨gm, bv, ne⟩⟩ := hc
          · exact ld_glob (X := X.suite xa ((xa, ob1) :: (X.pn ++ ps))) S1 gl gm q db
          · exact ld_blt (X := X.suite xa ((xa, ob1) :: (X.pn ++ ps))) S1 gl gm bv q ne db
        refine wpAny_handleBy_cons (codeAny_handlers_test (named ((PySem.W.exm_one (M := model X.prog X.w) J1.kIn lk e).here ?_))) (fun z => nomatch z)
        cases b with
        | false => exact ih (no rfl)
        | true =>
          refine codeAny_handlers_suite_as (HandSPX.lands_againZ f1 fun g2 f2 u2 => ?_)
          obtain ⟨ob2, vs2, at2, zc2, fd2⟩ := f2.there
          have J2 : Inv X ps s3 G3 { s2 with heap := g2 } := Ja.landed nb f2.1 ((ups.trans u1).trans u2) eos ags
          refine store_ok (X := X.suite xa ((xa, ob2) :: (X.pn ++ ps))) (v := .ref xa) (J2.suite at2 fd2 na out1 out2) nd hi (.inl hn) rfl (fun s5 S5 => ?_) (.inr hn)
          refine wpAny_mono ((hsu xa ob2 kl d (X.pn ++ ps) zc2 ⟨_, fd2⟩).run [] s5 _ G3 _ S5 (yes rfl xa na)) (fun fl s6 q => ?_) fun _ _ z => z.elim
          have gone : ∀ {sg6 : L2.St} {G6 : Hp} {Q : Shared → Prop}, Inv (X.suite xa ((xa, ob2) :: (X.pn ++ ps))) [] sg6 G6 s6 → (∀ s7, Inv X ps (sg6.set i none) G6 s7 → Q s7) → wpAny (model X.prog X.w) X.A (do bindName X.env n .none; unbindBehindTheSuite X.env n p2) (fun _ s7 => Q s7) X.xe s6 :=
            fun I6 k => gone_ok (I6.unsuite ok) nd hi hn k
          match fl, q with
          | .next, ⟨_, _, I6, q6⟩ => exact gone I6 fun _ I7 => ⟨_, _, I7, q6⟩
          | .brk, ⟨_, _, I6, q6⟩ => exact gone I6 fun _ I7 => ⟨_, _, I7, q6⟩
          | .cont, ⟨_, _, I6, q6⟩ => exact gone I6 fun _ I7 => ⟨_, _, I7, q6⟩
          | .ret _, ⟨_, _, _, I6, r6, q6⟩ => exact gone I6 fun _ I7 => ⟨_, _, _, I7, r6, q6⟩
    exact all hh w
  · match fl, hsp with
    | .next, ⟨_, _, I6, q6⟩ => exact wpAny_execs_nil ⟨_, _, I6.ofTry ok, q6⟩
    | .brk, ⟨_, _, I6, q6⟩ => exact ⟨_, _, I6.ofTry ok, q6⟩
    | .cont, ⟨_, _, I6, q6⟩ => exact ⟨_, _, I6.ofTry ok, q6⟩
    | .ret _, ⟨_, _, _, I6, r6, q6⟩ => exact ⟨_, _, _, I6.ofTry ok, r6, q6⟩
end
end Dk
set_option Elab.async false
set_option linter.all false
set_option maxRecDepth 100000
set_option maxHeartbeats 4000000
namespace Dk
open PySem PySem.Spec PyProof.Rows L2 Er
open PySem.ErK (EC)
/-! ### o.m(..) under a try; _law_saw, _law_told -/
def tMethT (C : Addr) (m : Str) (sp : Sp) (E : L2.St → XK) (ta : TE) (t : TA) : TE := fun σ H Q => ta σ H fun y H1 => ∃ o dx fs, y = .ref o ∧ H1 o = some (.ins C dx fs) ∧ fs.lookup m = none ∧ t σ H1 fun vs H2 => sp (y :: (vs ++ [])) H2 Q (E σ)
theorem pe_methT {X : Cx} {CX : CXT} {k : Nat} {f C : Addr} {fd : FuncData} {ps : List Str} {sp : Sp} {E : L2.St → XK} {m : Str} {pos apos : Pos} {o e : Expr} {es : List Expr} {ta : TE} {t : TA} {pl : Sem Bool} (ho : PE X o ta) (c : Cls X.K C) (hm : Meth X.K C m f) (F : FnOk X.prog X.w X.K X.mg X.base CX k f fd ps sp)
    (hr : Room k X.A) (hb : Binds X.K fd ps []) (hx : ∀ σ, PassesAt CX X σ (E σ)) (ha : PA X (e :: es) t) (hst : starEach (e :: es) X.env = (false, eval e X.env) :: starEach es X.env := by rfl) (hpl : (backTo pos (starEach es X.env)).any (·.1) = false := by rfl)
    (ht : eval (.Call (.Attribute o m apos) (e :: es) [] pos) X.env = (do let ov ← eval o X.env; standAt apos.atName; let (g, first) ← holding [ov] (getMethod ov m pl); callWith pos g first (backTo pos (starEach (e :: es) X.env)) (backToKw pos (keywordEach [] X.env))) := by rfl) :
    PE X (.Call (.Attribute o m apos) (e :: es) [] pos) (tMethT C m sp E ta t) := by
  refine ⟨fun ps sh σ H Q I h => ?_⟩
  refine PySem.W.methodCall_KW (pl := pl) (thn (ho.run ps sh σ H _ I h) fun u s1 ⟨y, H1, I1, ry, a, dx, fs, ey, ea, l, q⟩ => ?_) ht
  subst ey
  obtain rfl : u = Value.ref a := ry
  refine getmeth_ok I1 ea c hm l (PySem.W.callWith_K (first := [.ref a]) (h₀ := X.base) I.ok.mod.kin hm.kp (thn (ha.run pos ps s1 σ H1 _ I1 q) fun us s2 ⟨vs, H2, I2, r, q2⟩ => ⟨I2.kIn, ?_⟩) hst hpl)
  exact run_fnSD (dvs := []) (us := .ref a :: us) (vs := .ref a :: vs) F hr hb .nil (hx σ) I2 (.cons rfl r) q2
/-- what a list of two tells -/
def Pair2 (H : Hp) (p : Addr) (x : Str) (y : V) : Prop := H p = some (.lst [.str x, y])
theorem takesN {X : Cx} : Takes X (fun _ _ _ _ => False) := fun _ _ ⟨_, _, _, _, _, _, _, _, _, _, _, _, _, _, _, _, w⟩ => w.elim
section
variable {P : Program} {w : World} {K : PySem.W.Frag} {mg : Str → Option Value} {base : Heap} {f fI fJ fS fL C CS CR : Addr} {fd dI dJ dS dL : FuncData}
theorem bSight (F : FunD K "sight" "Desk.sight" (defArgs (meth 5)) (defBody (meth 5)) (defScope (meth 5)) [] [] f fd) : Binds K fd nSight [] := F.bindsN fun _ _ _ _ _ _ us hl => match us, hl with
  | [_, _], _ => rfl
theorem bLead (F : FunD K "lead" "Desk.lead" (defArgs (meth 4)) (defBody (meth 4)) (defScope (meth 4)) [] [] f fd) : Binds K fd ["self", "standing", "row"] [] := F.bindsN fun _ _ _ _ _ _ us hl => match us, hl with
  | [_, _, _], _ => rfl
end
end Dk
set_option Elab.async false
set_option linter.all false
set_option maxRecDepth 100000
set_option maxHeartbeats 4000000
namespace Dk
open PySem PySem.Spec PyProof.Rows L2 Er
/-! ### == of dicts, whichever the answer -/
def sameF (F : V → V → Bool) (ks ls : List (Key × V)) : Bool := decide (ks.length = ls.length) && ks.all fun p => match valV ls p.1 with
  | none => false
  | some u => F p.2 u
theorem valV_in {ls : List (Key × V)} {k : Key} {u : V} (e : valV ls k = some u) : ∃ p ∈ ls, p.2 = u := by
  unfold valV at e
  cases h : ls.find? fun kv => decide (kv.1 = k) with
  | none =>
    rw [h] at e
    cases e
  | some p =>
    rw [h] at e
    exact ⟨p, List.mem_of_find?_eq_some h, Option.some.inj e⟩
theorem hits_P {P : Program} {w : World} {A : Around} {s : Shared} {F : V → V → Bool} {ls : List (Key × V)} {vb : List (Key × Value)} (rb : KV ls vb) : ∀ {ks : List (Key × V)} {va : List (Key × Value)}, KV ks va →
    (∀ p ∈ ks, ∀ u, valV ls p.1 = some u → ∀ y z, RelV p.2 y → RelV u z → SeqAt.EqP P w A s y z (F p.2 u)) → PySem.W.KeqHitsP P w A s vb va (ks.all fun p => match valV ls p.1 with
      | none => false
      | some u => F p.2 u)
  | [], _, ra, _ => by
    cases ra
    exact .nil
  | p :: ks, _, ra, ih => by
    cases ra with
    | @cons _ q _ qs h t =>
      obtain ⟨h1, h2⟩ := h
      obtain ⟨key, y⟩ := q
      have h1 : p.1 = key := h1
      subst h1
      have rest := hits_P (P := P) (w := w) (A := A) (s := s) (F := F) rb t fun p' hm => ih p' (List.mem_cons_of_mem _ hm)
      have rv := rb.val p.1
      rw [List.all_cons]
      cases e : valV ls p.1 with
      | none =>
        rw [e] at rv
        cases g : valueAt vb p.1 with
        | none => exact .miss g
        | some z =>
          rw [g] at rv
          exact rv.elim
      | some u =>
        rw [e] at rv
        cases g : valueAt vb p.1 with
        | none =>
          rw [g] at rv
          exact rv.elim
        | some z =>
          rw [g] at rv
          exact .hit g (ih p List.mem_cons_self u e y z h2 rv) rest
theorem hits_F {A : Around} {s : Shared} {ls : List (Key × V)} {vb : List (Key × Value)} (rb : KV ls vb) (fl : ∀ p ∈ ls, flatV p.2 = true) : ∀ {ks : List (Key × V)} {va : List (Key × Value)}, KV ks va → (∀ p ∈ ks, flatV p.2 = true) →
    PySem.W.KeqHits A s vb va (ks.all fun p => match valV ls p.1 with
      | none => false
      | some u => eqV p.2 u)
  | [], _, ra, _ => by
    cases ra
    exact .nil
  | p :: ks, _, ra, fk => by
    cases ra with
    | @cons _ q _ qs h t =>
      obtain ⟨h1, h2⟩ := h
      obtain ⟨key, y⟩ := q
      have h1 : p.1 = key := h1
      subst h1
      have rest := hits_F (A := A) (s := s) rb fl t fun p' hm => fk p' (List.mem_cons_of_mem _ hm)
      have rv := rb.val p.1
      rw [List.all_cons]
      cases e : valV ls p.1 with
      | none =>
        rw [e] at rv
        cases g : valueAt vb p.1 with
        | none => exact .miss g
        | some z =>
          rw [g] at rv
          exact rv.elim
      | some u =>
        rw [e] at rv
        obtain ⟨pu, hpu, rfl⟩ := valV_in e
        cases g : valueAt vb p.1 with
        | none =>
          rw [g] at rv
          exact rv.elim
        | some z =>
          rw [g] at rv
          exact .hit g (eqAt_V h2 rv (fk p List.mem_cons_self) (fl pu hpu)) rest
section
variable {X : Cx}
/-- a != b, two dicts of flat values -/
def rNeF : R2 := fun x y H Q => ∃ a b ks ls, x = .ref a ∧ y = .ref b ∧ H a = some (.dK ks) ∧ H b = some (.dK ls) ∧ (∀ p ∈ ks, flatV p.2 = true) ∧ (∀ p ∈ ls, flatV p.2 = true) ∧ Q (.bl (!sameF eqV ks ls)) H
theorem op_neF (hu : X.A.units + 1 < cLine) : OpR X (compareOp .NotEq) rNeF := by
  intro ps s σ H x y v u Q I rx ry h
  obtain ⟨a, b, ks, ls, rfl, rfl, ea, eb, fk, fl, q⟩ := h
  obtain rfl : v = Value.ref a := rx
  obtain rfl : u = Value.ref b := ry
  obtain ⟨_, ya, va, ra, da⟩ := (show ObjOk X.prog X.w H s.heap a (.dK ks) from I.hok a _ ea)
  obtain ⟨_, yb, vb, rb, db⟩ := (show ObjOk X.prog X.w H s.heap b (.dK ls) from I.hok b _ eb)
  refine PySem.W.keq_ne (knd := mixKind X.prog X.w) ya yb da db (by omega) (fun _ => hits_F rb fl ra fk) (fin_bl I q ?_)
  unfold sameF
  rw [ra.length, rb.length]
  rfl
/-- how the parts of two dicts of dicts compare -/
def sub (T : Addr → List (Key × V)) : V → V → Bool
  | .ref c, .ref d => if c = d then true else sameF eqV (T c) (T d)
  | _, _ => false
/-- a == b, two dicts of dicts of flat values -/
def rEqN : R2 := fun x y H Q => ∃ (a b : Addr) (ks ls : List (Key × V)) (T : Addr → List (Key × V)), x = .ref a ∧ y = .ref b ∧ H a = some (.dK ks) ∧ H b = some (.dK ls) ∧
  (∀ p ∈ ks, ∃ c, p.2 = .ref c ∧ H c = some (.dK (T c)) ∧ ∀ q ∈ T c, flatV q.2 = true) ∧ (∀ p ∈ ls, ∃ c, p.2 = .ref c ∧ H c = some (.dK (T c)) ∧ ∀ q ∈ T c, flatV q.2 = true) ∧ Q (.bl (sameF (sub T) ks ls)) H
theorem op_eqN (hu : X.A.units + 1 < cLine) : OpR X (compareOp .Eq) rEqN := by
  intro ps s σ H x y v u Q I rx ry h
  obtain ⟨a, b, ks, ls, T, rfl, rfl, ea, eb, fk, fl, q⟩ := h
  obtain rfl : v = Value.ref a := rx
  obtain rfl : u = Value.ref b := ry
  obtain ⟨_, ya, va, ra, da⟩ := (show ObjOk X.prog X.w H s.heap a (.dK ks) from I.hok a _ ea)
  obtain ⟨_, yb, vb, rb, db⟩ := (show ObjOk X.prog X.w H s.heap b (.dK ls) from I.hok b _ eb)
  have part : ∀ p ∈ ks, ∀ u, valV ls p.1 = some u → ∀ y z, RelV p.2 y → RelV u z → SeqAt.EqP X.prog X.w X.A.in1 s y z (sub T p.2 u) := fun p hp u e y z ry rz => by
    obtain ⟨pu, hpu, rfl⟩ := valV_in e
    obtain ⟨c, ec, hc, fc⟩ := fk p hp
    obtain ⟨d, ed, hd, fd⟩ := fl pu hpu
    rw [ec] at ry ⊢
    rw [ed] at rz ⊢
    obtain rfl : y = Value.ref c := ry
    obtain rfl : z = Value.ref d := rz
    show SeqAt.EqP X.prog X.w X.A.in1 s (.ref c) (.ref d) (if c = d then true else sameF eqV (T c) (T d))
    by_cases g : c = d
    · subst g
      rw [if_pos rfl]
      exact (SeqAt.EqAt.same _).eqP
    · rw [if_neg g]
      obtain ⟨_, yc, vc, rc, dc⟩ := (show ObjOk X.prog X.w H s.heap c (.dK (T c)) from I.hok c _ hc)
      obtain ⟨_, yd, vd, rd, dd⟩ := (show ObjOk X.prog X.w H s.heap d (.dK (T d)) from I.hok d _ hd)
      refine SeqAt.eqP_refs g fun E Q2 q2 => PySem.W.keq_eq (knd := mixKind X.prog X.w) yc yd dc dd (show X.A.in1.units < cLine from hu) (fun _ => hits_F rd fd rc fc) ?_
      unfold sameF at q2
      rw [rc.length, rd.length] at q2
      exact q2
  refine PySem.W.rcP_dicts (knd := mixKind X.prog X.w) ya yb da db (by omega) (fun _ => hits_P rb ra part) _ _ ?_
  refine fin_bl I q ?_
  unfold sameF
  rw [ra.length, rb.length]
  rfl
end
end Dk
set_option Elab.async false
set_option linter.all false
set_option maxRecDepth 100000
set_option maxHeartbeats 4000000
namespace Dk
open PySem PySem.Spec PyProof.Rows L2 Er
/-! ### tuple(x), x a dict -/
section
variable {prog : Program} {w : World} {A : Around} {E : Value → Shared → Prop} {s : Shared} {T : String} {r d : Addr} {n : Nat} {P : Nat → Value → Prop} {OK : Heap → Prop}
theorem gather_src {Q : List Value → Shared → Prop} (K : PySem.W.KdlSrc prog w T r d n P OK) (hh : A.handled = none) (ok : OK s.heap) (hn : n ≤ sizeLine)
    (fin : ∀ (g : Heap) (tk : Nat) (acc : Array Value), (∀ b o, s.heap.get? b = some o → g.get? b = some o) → ItemsOf P acc n → Q acc.toList { s with heap := g, toks := tk }) : wpAny (model prog w) A (collect (.ref r)) Q E s := by
  have lt := K.there _ ok
  have new : (s.heap.push { cls := .type "list", data := .seq ([] : List Value).toArray }).get? s.heap.objs.size = some { cls := .type "list", data := .seq #[] 0 } := Heap.get?_push_size _ rfl
  unfold collect
  refine wpAny_bind (wpAny_runValue (codeAny_builtin F.entry_proto_collect ?_))
  rw [Around.under_plainId F.plain_proto_collect _]
  show wpAny _ A.in1 (newList [] >>= fun z => again (.builtin "list.__iadd__" ⟨[z, .ref r], []⟩)) _ _ s
  refine wpAny_bind (wpAny_newObj_type (wpAny_pure ⟨plainId_quiet F.plain_list_iadd _, codeAny_builtin F.entry_list_iadd ?_⟩))
  rw [Around.under_plainId F.plain_list_iadd _]
  show wpAny _ A.in1 (Builtin.List.listExtendWith (.ref s.heap.objs.size) (.ref r) (.ref s.heap.objs.size)) _ _ _
  refine wpAny_mono (PySem.W.kdl_extend (A := A) (R := fun rr s2 => rr = .ok (.ret (.ref s.heap.objs.size)) ∧ ∃ (g : Heap) (tk : Nat) (acc : Array Value) (c2 : Nat), s2 = { s with heap := g, toks := tk } ∧ (∀ b o, s.heap.get? b = some o → g.get? b = some o) ∧
      g.get? s.heap.objs.size = some { cls := .type "list", dict := none, data := .seq acc c2, slots := #[] } ∧ ItemsOf P acc n)
    (s := { s with heap := s.heap.push { cls := .type "list", data := .seq ([] : List Value).toArray } }) K hh (K.keep _ _ ok fun b _ o e => Heap.get?_push_of_some _ e) _ (Nat.ne_of_gt lt.1) (Nat.ne_of_gt lt.2) _ 0 new
    (fun g tk acc c2 k e i => ⟨rfl, g, tk, acc, c2, rfl, fun b o q => k b o (Nat.ne_of_lt (Heap.lt_size q)) (Heap.get?_push_of_some _ q), e, i⟩) hn) (fun f s2 h => ?_) (fun e s2 h => absurd h.1 (by simp))
  cases f with
  | done f =>
    obtain ⟨ef, g, tk, acc, c2, rfl, k, e, i⟩ := h
    cases ef
    show wpAny _ A (load s.heap.objs.size >>= _) _ _ _
    exact wpAny_bind (wpAny_load e (wpAny_pure (fin g tk acc k i)))
  | again c1 =>
    refine ⟨h.1, codeAny_mono h.2 fun rr s3 q => ?_⟩
    obtain ⟨rfl, g, tk, acc, c2, rfl, k, e, i⟩ := q
    show wpAny _ A (load s.heap.objs.size >>= _) _ _ _
    exact wpAny_bind (wpAny_load e (wpAny_pure (fin g tk acc k i)))
theorem code_tup_src {Q1 : Value → Shared → Prop} (K : PySem.W.KdlSrc prog w T r d n P OK) (hh : A.handled = none) (ok : OK s.heap) (hn : n ≤ sizeLine) (nt : (Value.type T == Value.type "tuple") = false)
    (fin : ∀ (g : Heap) (tk : Nat) (acc : Array Value), (∀ b o, s.heap.get? b = some o → g.get? b = some o) → ItemsOf P acc n → Q1 (.ref g.objs.size) { s with heap := g.push { cls := .type "tuple", data := .seq acc }, toks := tk }) :
    codeAny (model prog w) A (.call (.builtin "tuple.__new__") ⟨[.type "tuple", .ref r], []⟩) (wants Q1 E) s := by
  refine codeAny_of_tree ?_
  show wpAny _ A.in1 (do checkBuiltinCall "tuple.__new__" ⟨[.type "tuple", .ref r], []⟩; again (.builtin "tuple.__new__" ⟨[.type "tuple", .ref r], []⟩)) _ _ s
  refine wpAny_bind (wpAny_of_eq (F.newCall_tuple_1 _) (wpAny_pure ⟨plainId_quiet F.plain_tuple_new _, codeAny_builtin F.entry_tuple_new ?_⟩))
  rw [Around.under_plainId F.plain_tuple_new _]
  have h1 := sub_tuple_self
  have h2 := init_tuple_lookup
  have h3 := madeHere_tuple
  have h4 := K.type _ ok
  have h5 : A.in1.handled = none := hh
  wp_walk using wpAny_typeOf h4, gather_src (A := A.in1) K h5 ok hn
  intro g tk acc k i
  show wpAny _ _ (Builtin.Tuple.tupleExact acc.toList.toArray >>= fun v => ret v) _ _ _
  unfold Builtin.Tuple.tupleExact
  refine wpAny_bind (wpAny_newObj_type ?_ (by show acc.toList.toArray.size ≤ sizeLine; simp only [Array.toArray_toList]; rw [i.1]; exact hn))
  refine wpAny_pure ?_
  rw [show acc.toList.toArray = acc from by simp]
  exact fin g tk acc k i
end
def rTupD : List V → Hp → VK → Prop := fun xs H Q => ∃ p kvs, xs = [.ref p] ∧ H p = some (.dK kvs) ∧ ∀ q, H q = none → Q (.ref q) (upd H q (.tup (kvs.map fun kv => kV kv.1)))
theorem call_tup_dK {X : Cx} (hc : X.calm = true) : CallR X (.type "tuple") rTupD := by
  intro ps s σ H xs us Q I r h
  obtain ⟨p, kvs, rfl, hk, q⟩ := h
  obtain ⟨u, rfl, rx⟩ := vals1 r
  obtain rfl : u = Value.ref p := rx
  obtain ⟨z, lo, vs, rk, hd⟩ := (show ObjOk X.prog X.w H s.heap p (.dK kvs) from I.hok p _ hk)
  obtain ⟨ep, at_⟩ := hd.dictAt
  have hl : kvs.length = vs.length := Paired.length rk
  refine callType_codes (Q₁ := fun obj s1 => s1.TypeIs obj "tuple" ∧ EP X ps σ Q obj s1) F.called_tuple (F.typeCall_tuple_1 _) F.entry_object_init
    (code_tup_src (A := X.A.in1) (PySem.W.kdl_dict (knd := mixKind X.prog X.w) (kvs := vs) (ep := ep) lo) (I.ok.hd hc) at_ (by rw [← hl]; exact z) (by decide) fun g tk acc k i => ⟨⟨_, Heap.get?_push_size _ rfl, rfl⟩, ?_⟩) fun obj s1 h1 => ?_
  · have I1 : Inv X ps σ H { s with heap := g, toks := tk } := I.kept k
    refine ⟨.ref g.objs.size, upd H g.objs.size (.tup (kvs.map fun kv => kV kv.1)), I1.laid (t' := tk) (fun c o e => Heap.get?_push_of_some _ e) (Nat.le_refl _) (show ObjOk X.prog X.w _ _ _ (.tup (kvs.map fun kv => kV kv.1)) from ⟨?_, acc.toList, ?_, ?_⟩), rfl, q _ (I1.hok.fresh (Nat.le_refl _))⟩
    · rw [List.length_map]
      exact z
    · have el : acc.toList.length = acc.size := by simp
      refine vals_of_at (by rw [List.length_map, el, i.1, hl]) fun j x w e1 e2 => ?_
      obtain ⟨ky, y, hky, hi⟩ := i.2 j w (by rw [← Array.getElem?_toList]; exact e2)
      have g1 : (kvs.map (·.1))[j]? = some ky := by
        rw [KV.keys rk, List.getElem?_map, hky]
        rfl
      have g2 : (kvs.map fun kv => kV kv.1)[j]? = some (kV ky) := by
        rw [show (kvs.map fun kv => kV kv.1) = (kvs.map (·.1)).map kV from by rw [List.map_map]; rfl, List.getElem?_map, g1]
        rfl
      rw [g2] at e1
      cases Option.some.inj e1
      exact keyIs_rel hi
    · rw [Array.toArray_toList]
      exact IsTup.new _ _
  · exact ⟨h1.1, F.args_object_init_2 obj _, object_init_meets F.called_tuple.init.lookup F.called_tuple.made (by decide) X.prog X.w X.A.in1 _ s1 ⟨h1.1, rfl, h1.2⟩⟩
end Dk
set_option Elab.async false
set_option linter.all false
set_option maxRecDepth 100000
set_option maxHeartbeats 4000000
namespace Dk
open PySem PySem.Spec PyProof.Rows L2 Er
/-! ### Desk.__eq__ -/
theorem same_iff {F : V → V → Bool} {ws : List Str} {us vs : List V} (nd : ws.Nodup) (h1 : us.length = ws.length) (h2 : vs.length = ws.length) : sameF F (dkv ws us) (dkv ws vs) = true ↔ ∀ (j : Nat) (u v : V), us[j]? = some u → vs[j]? = some v → F u v = true := by
  have knd : ((dkv ws vs).map (·.1)).Nodup := by
    rw [dkv_keys h2.symm]
    exact List.Pairwise.map _ (fun a b n z => n (Sum.inr.inj z)) nd
  unfold sameF
  rw [dkv_len h1, dkv_len h2, decide_eq_true rfl, Bool.true_and, List.all_eq_true]
  constructor
  · intro h j u v e1 e2
    have jl : j < ws.length := by
      have := (List.getElem?_eq_some_iff.mp e1).1
      omega
    have ew : (ws.map Sum.inr : List Key)[j]? = some (.inr (ws[j]'jl)) := by
      rw [List.getElem?_map, List.getElem?_eq_getElem jl]
      rfl
    have m1 : (dkv ws us)[j]? = some (.inr (ws[j]'jl), u) := List.getElem?_zip_eq_some.mpr ⟨ew, e1⟩
    have m2 : (dkv ws vs)[j]? = some (.inr (ws[j]'jl), v) := List.getElem?_zip_eq_some.mpr ⟨ew, e2⟩
    have q := h _ (List.mem_of_getElem? m1)
    rw [valV_of knd m2] at q
    exact q
  · intro h p hp
    obtain ⟨j, hj⟩ := List.mem_iff_getElem?.mp hp
    obtain ⟨k, u⟩ := p
    obtain ⟨z, ez, rfl, eu⟩ := dkv_at hj
    have jl : j < vs.length := by
      have := (List.getElem?_eq_some_iff.mp ez).1
      omega
    have m2 : (dkv ws vs)[j]? = some (.inr z, vs[j]'jl) := List.getElem?_zip_eq_some.mpr ⟨by rw [List.getElem?_map, ez]; rfl, List.getElem?_eq_getElem jl⟩
    rw [valV_of knd m2]
    exact h j u _ eu (List.getElem?_eq_getElem jl)
theorem same_strs {ws ls ms : List Str} (nd : ws.Nodup) (h1 : ls.length = ws.length) (h2 : ms.length = ws.length) : sameF eqV (dkv ws (ls.map V.str)) (dkv ws (ms.map V.str)) = decide (ls = ms) := by
  rw [Bool.eq_iff_iff, decide_eq_true_iff, same_iff nd (by rw [List.length_map, h1]) (by rw [List.length_map, h2])]
  constructor
  · intro h
    refine List.ext_getElem (by omega) fun j j1 j2 => ?_
    have q := h j (.str (ls[j]'j1)) (.str (ms[j]'j2)) (by rw [List.getElem?_map, List.getElem?_eq_getElem j1]; rfl) (by rw [List.getElem?_map, List.getElem?_eq_getElem j2]; rfl)
    exact beq_iff_eq.mp q
  · rintro rfl j u v e1 e2
    rw [e1] at e2
    cases e2
    rw [List.getElem?_map] at e1
    cases g : ls[j]? with
    | none =>
      rw [g] at e1
      cases e1
    | some z =>
      rw [g] at e1
      cases e1
      exact beq_self_eq_true z
/-- the dict at an address -/
def dictAt (H : Hp) (a : Addr) : List (Key × V) := match H a with
  | some (.dK t) => t
  | _ => []
theorem dictAt_of {H : Hp} {a : Addr} {t : List (Key × V)} (e : H a = some (.dK t)) : dictAt H a = t := by
  unfold dictAt
  rw [e]
theorem same_tabs {H : Hp} {ws ds : List Str} {as bs : List Addr} {tb tc : List (List Str)} (nd : ws.Nodup) (dnd : ds.Nodup) (h1 : tb.length = ds.length) (h2 : tc.length = ds.length) (r1 : ∀ vs ∈ tb, vs.length = ws.length) (r2 : ∀ vs ∈ tc, vs.length = ws.length)
    (p1 : Paired (fun a vs => H a = some (.dK (dkv ws (vs.map V.str)))) as tb) (p2 : Paired (fun a vs => H a = some (.dK (dkv ws (vs.map V.str)))) bs tc) : sameF (sub (dictAt H)) (dkv ds (as.map V.ref)) (dkv ds (bs.map V.ref)) = decide (tb = tc) := by
  have l1 := paired_len p1
  have l2 := paired_len p2
  have step : ∀ (c d : Addr) (vs us : List Str), vs.length = ws.length → us.length = ws.length → H c = some (.dK (dkv ws (vs.map V.str))) → H d = some (.dK (dkv ws (us.map V.str))) → sub (dictAt H) (.ref c) (.ref d) = decide (vs = us) := fun c d vs us e1 e2 e3 e4 => by
    show (if c = d then true else sameF eqV (dictAt H c) (dictAt H d)) = _
    by_cases g : c = d
    · subst g
      rw [e3] at e4
      have e5 := HO.dK.inj (Option.some.inj e4)
      have e6 := same_strs nd e1 e2
      rw [← e5, same_strs nd e1 e1, decide_eq_true rfl] at e6
      rw [if_pos rfl]
      exact e6
    · rw [if_neg g, dictAt_of e3, dictAt_of e4, same_strs nd e1 e2]
  rw [Bool.eq_iff_iff, decide_eq_true_iff, same_iff dnd (by rw [List.length_map, l1, h1]) (by rw [List.length_map, l2, h2])]
  constructor
  · intro h
    refine List.ext_getElem (by omega) fun j j1 j2 => ?_
    have ja : j < as.length := by omega
    have jb : j < bs.length := by omega
    obtain ⟨vs, e1, e2⟩ := pair_at p1 (List.getElem?_eq_getElem ja)
    obtain ⟨us, e3, e4⟩ := pair_at p2 (List.getElem?_eq_getElem jb)
    have q := h j (.ref (as[j]'ja)) (.ref (bs[j]'jb)) (by rw [List.getElem?_map, List.getElem?_eq_getElem ja]; rfl) (by rw [List.getElem?_map, List.getElem?_eq_getElem jb]; rfl)
    rw [step _ _ vs us (r1 _ (List.mem_of_getElem? e1)) (r2 _ (List.mem_of_getElem? e3)) e2 e4, decide_eq_true_iff] at q
    rw [List.getElem?_eq_getElem j1] at e1
    rw [List.getElem?_eq_getElem j2] at e3
    rw [Option.some.inj e1, Option.some.inj e3, q]
  · rintro rfl j u v e1 e2
    rw [List.getElem?_map] at e1 e2
    cases ga : as[j]? with
    | none =>
      rw [ga] at e1
      cases e1
    | some c =>
      cases gb : bs[j]? with
      | none =>
        rw [gb] at e2
        cases e2
      | some d =>
        rw [ga] at e1
        rw [gb] at e2
        cases e1
        cases e2
        obtain ⟨vs, e3, e4⟩ := pair_at p1 ga
        obtain ⟨us, e5, e6⟩ := pair_at p2 gb
        rw [e3] at e5
        cases Option.some.inj e5
        have lv := r1 _ (List.mem_of_getElem? e3)
        rw [step _ _ vs vs lv lv e4 e6, decide_eq_true rfl]
theorem dp_strs {K : PySem.W.Frag} {H : Hp} : ∀ (ws : List Str), DpAll K H (ws.map V.str) (ws.map PyData.str)
  | [] => .nil
  | z :: ws => .cons (.str z) (dp_strs ws)
theorem lay_strs : ∀ {ws : List Str}, (∀ z ∈ ws, IsWord z) → PyData.canLayAll0 (ws.map PyData.str) = true ∧ PyData.depthAll (ws.map PyData.str) ≤ 1
  | [], _ => ⟨by simp [PyData.canLayAll0], by simp [PyData.depthAll]⟩
  | z :: ws, h => by
    have ih := lay_strs (ws := ws) fun y hy => h y (List.mem_cons_of_mem _ hy)
    exact ⟨by simp [PyData.canLayAll0, PyData.canLay0, (h z List.mem_cons_self).ok, ih.1], by simp only [List.map_cons, PyData.depthAll, PyData.depth]; omega⟩
theorem shaped_tupS {ws : List Str} (h : ∀ z ∈ ws, IsWord z) : SeqAt.shaped (.tuple (ws.map PyData.str)) = true := by
  have z := lay_strs h
  unfold SeqAt.shaped
  have c : (PyData.tuple (ws.map PyData.str)).canLay0 = true := by simpa [PyData.canLay0] using z.1
  rw [c, Bool.true_and, decide_eq_true_iff]
  have d : (PyData.tuple (ws.map PyData.str)).depth ≤ 2 := by
    simp only [PyData.depth]
    omega
  omega
theorem eqv_strs : ∀ {ws vs : List Str}, PyData.eqvAll (ws.map PyData.str) (vs.map PyData.str) = decide (ws = vs)
  | [], [] => by simp [PyData.eqvAll]
  | [], _ :: _ => by simp [PyData.eqvAll]
  | _ :: _, [] => by simp [PyData.eqvAll]
  | z :: ws, y :: vs => by
    have ih := eqv_strs (ws := ws) (vs := vs)
    simp only [List.map_cons, PyData.eqvAll, PyData.eqv, ih]
    rw [Bool.eq_iff_iff]
    simp
theorem eqv_tupS {ws vs : List Str} : PyData.eqv (.tuple (ws.map PyData.str)) (.tuple (vs.map PyData.str)) = decide (ws = vs) := by
  rw [← eqv_strs]
  simp only [PyData.eqv]
/-- what the written part says of Desk -/
structure DkC (K : PySem.W.Frag) (mg : Str → Option Value) (C : Addr) : Prop where
  cl : Cls K C
  ha : PySem.W.findIn K (.ref C) "__class__" = some (some (.builtin "object.__class__"))
  hn : PySem.W.specialIn K (.builtin "object.__class__") "__get__" = some (some (.builtin "getset_descriptor.__get__"))
  htk : PySem.W.takesIn K (.builtin "object.__class__") = some true
  hm : PySem.W.mroIn K C (.type "object") = some true
  kC : PySem.W.kitOne K (.ref C) (.ref C) = some true
  n1 : NoAttr K C "_standings"
  n2 : NoAttr K C "_leads"
  n3 : NoAttr K C "_sights"
  g : mg "Desk" = some (.ref C)
def spEqK (K : PySem.W.Frag) (C : Addr) : Sp := fun vs H Q _ => ∃ (x : Addr) (y : V) (ws ds : List Str) (tb : List (List Str)) (ls : List Str) (m : Nat), vs = [.ref x, y] ∧ DeskOb K C H x ws ds tb ls ∧ DkIs m ws ds tb ls ∧
  ((∃ (z : Addr) (ws' ds' : List Str) (tb' : List (List Str)) (ls' : List Str) (m' : Nat), y = .ref z ∧ DeskOb K C H z ws' ds' tb' ls' ∧ DkIs m' ws' ds' tb' ls' ∧ ∀ H', Sm H H' → Q (.bl (decide (ws = ws' ∧ ls = ls' ∧ ds = ds' ∧ tb = tb'))) H') ∨
   ∃ t, TyX K H y t ∧ PySem.W.kitOne K t (.ref C) = some false ∧ Q (.bl false) H)
abbrev nEq : List Str := ["self", "other"]
theorem scEq : FnScope nEq nEq (defScope (meth 7)) := ⟨rfl, rfl, rfl, by decide +kernel, rfl, by decide +kernel, by decide +kernel⟩
theorem keys_dkv {ds : List Str} {us : List V} (e : us.length = ds.length) : ((dkv ds us).map fun kv => kV kv.1) = ds.map V.str := by
  have z := dkv_keys e.symm
  rw [show ((dkv ds us).map fun kv => kV kv.1) = ((dkv ds us).map (·.1)).map kV from by rw [List.map_map]; rfl, z, List.map_map]
  rfl
section
variable {P : Program} {w : World} {K : PySem.W.Frag} {mg : Str → Option Value} {base : Heap} {f C : Addr} {fd : FuncData}
theorem ok_eqK (F : FunD K "__eq__" "Desk.__eq__" (defArgs (meth 7)) (defBody (meth 7)) (defScope (meth 7)) [] [] f fd) (mi : mg "isinstance" = none) (mT : mg "tuple" = none) (T : DkC K mg C) : FnOk P w K mg base CX0 1 f fd nEq (spEqK K C) := by
  refine F.ok (CX := CX0) scEq (fun vs H Q E h => ?_) (fun cdv A outer s H vs Q E hr h => ?_)
  · obtain ⟨x, y, ws, ds, tb, ls, m, rfl, _⟩ := h
    rfl
  · refine ⟨_, PSs.nox (pss_cons (ps_if (pt_not (pt_val (by exact (pe_callB call_isi rfl mi PyProof.Rows.boot_isinstance (pa_cons (pv 1) (pa_cons (pe_glob (v := .ref C) rfl T.g rfl) pa_nil)))))) (pss_one (ps_ret pe_bl)) pss_nil)
      (pss_cons (ps_if (PW.pt (pw_or (pt_cmpR (op_neD hr.units) (pe_fld (pv 0) rfl) (pe_fld (pv 1) rfl) (nomark _)) (pw_or1 (pt_cmpR (op_neF (hu_of hr)) (pe_fld (pv 0) rfl) (pe_fld (pv 1) rfl) (nomark _))))) (pss_one (ps_ret pe_bl)) pss_nil)
      (pss_one (ps_ret (by exact (pe_and (by exact (pe_cmpR (op_eqD hr.units) (by exact (pe_callTy (call_tup_dK rfl) rfl mT PyProof.Rows.boot_tuple (pa_cons (by exact (pe_fld (pv 0) rfl)) pa_nil))) (by exact (pe_callTy (call_tup_dK rfl) rfl mT PyProof.Rows.boot_tuple (pa_cons (by exact (pe_fld (pv 1) rfl)) pa_nil))) (nomark _)))
        (pe_one (by exact (pe_cmpR (op_eqN (hu_of hr)) (pe_fld (pv 0) rfl) (pe_fld (pv 1) rfl) (nomark _)))))))))), ?_⟩
    obtain ⟨x, y, ws, ds, tb, ls, m, rfl, ⟨dx, st, ld, si, as, hx, hst, hld, hsi, pr⟩, is, h⟩ := h
    rcases h with ⟨z, ws', ds', tb', ls', m', rfl, ⟨dz, st', ld', si', as', hz, hst', hld', hsi', pr'⟩, is', q⟩ | ⟨t, ty, kk, q⟩
    · refine ⟨_, rfl, _, .ref C, _, _, true, rfl, .own C, .base (.ins hz T.cl T.ha T.hn T.htk T.hm), T.kC, _, rfl, ?_⟩
      refine iteF ⟨_, rfl, x, C, dx, _, _, rfl, hx, T.cl, T.n1, rfl, _, rfl, z, C, dz, _, _, rfl, hz, T.cl, T.n1, rfl, .tuple (ws.map PyData.str), .tuple (ws'.map PyData.str), .tup hst (dp_strs ws), .tup hst' (dp_strs ws'), shaped_tupS is.word, shaped_tupS is'.word, _, rfl, ?_⟩
      rw [eqv_tupS]
      by_cases e1 : ws = ws'
      · subst e1
        rw [decide_eq_true rfl]
        refine iteF ⟨_, rfl, x, C, dx, _, _, rfl, hx, T.cl, T.n3, rfl, _, rfl, z, C, dz, _, _, rfl, hz, T.cl, T.n3, rfl, si, si', _, _, rfl, rfl, hsi, hsi', ?f1, ?f2, _, rfl, ?g1⟩
        case f1 =>
          intro p hp
          obtain ⟨u, hu, e⟩ := List.mem_map.mp (List.of_mem_zip (show (p.1, p.2) ∈ _ from hp)).2
          rw [← e]
          rfl
        case f2 =>
          intro p hp
          obtain ⟨u, hu, e⟩ := List.mem_map.mp (List.of_mem_zip (show (p.1, p.2) ∈ _ from hp)).2
          rw [← e]
          rfl
        case g1 =>
          rw [same_strs is.nd is.looks is'.looks]
          by_cases e2 : ls = ls'
          · subst e2
            rw [decide_eq_true rfl]
            have al : as.length = ds.length := by rw [paired_len pr, is.rows]
            have al' : as'.length = ds'.length := by rw [paired_len pr', is'.rows]
            refine iteF ⟨_, rfl, x, C, dx, _, _, rfl, hx, T.cl, T.n2, rfl, ld, _, rfl, hld, fun t1 n1 => ⟨_, rfl, z, C, dz, _, _, rfl, Sm.new n1 _ _ hz, T.cl, T.n2, rfl, ld', _, rfl, Sm.new n1 _ _ hld', fun t2 n2 => ?_⟩⟩
            have m1 := Sm.new (o := .tup ((dkv ds (as.map V.ref)).map fun kv => kV kv.1)) n1
            have m2 := m1.trans (Sm.new (o := .tup ((dkv ds' (as'.map V.ref)).map fun kv => kV kv.1)) n2)
            have a1 := Sm.new (o := .tup ((dkv ds' (as'.map V.ref)).map fun kv => kV kv.1)) n2 _ _ (show upd H t1 (.tup ((dkv ds (as.map V.ref)).map fun kv => kV kv.1)) t1 = _ from upd_same)
            have a2 : upd (upd H t1 (.tup ((dkv ds (as.map V.ref)).map fun kv => kV kv.1))) t2 (.tup ((dkv ds' (as'.map V.ref)).map fun kv => kV kv.1)) t2 = _ := upd_same
            have k1 := keys_dkv (ds := ds) (us := as.map V.ref) (by rw [List.length_map, al])
            have k2 := keys_dkv (ds := ds') (us := as'.map V.ref) (by rw [List.length_map, al'])
            clear m1
            generalize ((dkv ds (as.map V.ref)).map fun kv => kV kv.1) = l1 at k1 m2 a1 a2 n2 ⊢
            generalize ((dkv ds' (as'.map V.ref)).map fun kv => kV kv.1) = l2 at k2 m2 a1 a2 ⊢
            generalize upd (upd H t1 (.tup l1)) t2 (.tup l2) = G at m2 a1 a2 ⊢
            subst k1 k2
            refine ⟨.tuple (ds.map PyData.str), .tuple (ds'.map PyData.str), .tup (.inl (.inl a1)) (dp_strs ds), .tup (.inl (.inl a2)) (dp_strs ds'), shaped_tupS is.dword, shaped_tupS is'.dword, _, rfl, ?_⟩
            rw [eqv_tupS]
            have q := q G m2
            by_cases e3 : ds = ds'
            · subst e3
              rw [decide_eq_true rfl]
              have prG : Paired (fun a vs => G a = some (.dK (dkv ws (vs.map V.str)))) as tb := pair_mono pr fun a _ vs e => m2 _ _ e
              have prG' : Paired (fun a vs => G a = some (.dK (dkv ws (vs.map V.str)))) as' tb' := pair_mono pr' fun a _ vs e => m2 _ _ e
              have flats : ∀ {bs : List Addr} {tc : List (List Str)}, Paired (fun a vs => G a = some (.dK (dkv ws (vs.map V.str)))) bs tc → ∀ p ∈ dkv ds (bs.map V.ref), ∃ c, p.2 = .ref c ∧ G c = some (.dK (dictAt G c)) ∧ ∀ r ∈ dictAt G c, flatV r.2 = true := fun {bs tc} pp p hp => by
                obtain ⟨c, hc, e⟩ := List.mem_map.mp (List.of_mem_zip (show (p.1, p.2) ∈ _ from hp)).2
                obtain ⟨j, hj⟩ := List.mem_iff_getElem?.mp hc
                obtain ⟨vs, _, e5⟩ := pair_at pp hj
                refine ⟨c, e.symm, by rw [dictAt_of e5]; exact e5, fun r hr => ?_⟩
                rw [dictAt_of e5] at hr
                obtain ⟨u, hu, e6⟩ := List.mem_map.mp (List.of_mem_zip (show (r.1, r.2) ∈ _ from hr)).2
                rw [← e6]
                rfl
              refine iteT ⟨_, rfl, x, C, dx, _, _, rfl, m2 _ _ hx, T.cl, T.n2, rfl, _, rfl, z, C, dz, _, _, rfl, m2 _ _ hz, T.cl, T.n2, rfl, ld, ld', _, _, dictAt G, rfl, rfl, m2 _ _ hld, m2 _ _ hld', flats prG, flats prG', ?_⟩
              rw [same_tabs is.nd is.dnd is.rows is'.rows (fun vs hv => (is.row vs hv).1) (fun vs hv => (is'.row vs hv).1) prG prG']
              rw [show decide (ws = ws ∧ ls = ls ∧ ds = ds ∧ tb = tb') = decide (tb = tb') from by simp] at q
              exact q
            · rw [decide_eq_false e3]
              rw [decide_eq_false (fun z => e3 z.2.2.1)] at q
              exact iteF q
          · rw [decide_eq_false e2]
            have q := q H (Sm.refl H)
            rw [decide_eq_false (fun z => e2 z.2.1)] at q
            exact iteT q
      · rw [decide_eq_false e1]
        have q := q H (Sm.refl H)
        rw [decide_eq_false (fun z => e1 z.1)] at q
        exact iteT q
    · exact ⟨_, rfl, y, .ref C, _, _, false, rfl, .own C, ty, kk, _, rfl, iteT q⟩
end
end Dk
set_option Elab.async false
set_option linter.all false
set_option maxRecDepth 100000
set_option maxHeartbeats 4000000
namespace Dk
open PySem PySem.Spec PyProof.Rows L2 Er
/-! ### a function with one parameter, which is a cell, and with captured names: its frame -/
section
variable {M : Model} {A : Around} {E : Value → Shared → Prop} {s : Shared}
theorem env_one {scope : Scope} {globals : Addr} {closure : List (Str × Addr)} {x : Str} {v : Value} {qual : Str} {func : Option Addr} {code : Value} {builtins : Addr} {Q : Env → Shared → Prop}
    (hk : scope.kind = .function) (hx : scope.names.lookup x = some .cell) (hcl : closure.lookup x = none)
    (hQ : ∀ (c : Addr) (g : Heap) (tk : Nat), (cellsFrom (s.heap.objs.size + 1) scope.names closure).lookup x = some c → s.heap.objs.size < c → g.IsCell c (some v) → g.Ns s.heap.objs.size (fun _ => none) → (∀ b o, s.heap.get? b = some o → g.get? b = some o) →
      Q (newEnv scope s.heap.objs.size globals (cellsFrom (s.heap.objs.size + 1) scope.names closure) qual func code none builtins) { s with heap := g, toks := tk }) :
    wpAny M A (newFunctionEnv scope globals closure [(x, v)] qual func code none builtins) Q E s := by
  simp only [newFunctionEnv, Option.isSome_none, Bool.false_eq_true, if_false]
  refine wpAny_bind (wpAny_alloc ?_)
  refine wpAny_bind (wpAny_layCells _ (fun n k c => by cases e : k == NameKind.cell <;> simp [e]) _ _ _ _ ?_)
  obtain ⟨c, hc, lc, ic⟩ := oc_cell (h := s.heap.push { cls := .type "frame", data := .dict #[] }) hx hcl
  rw [Heap.size_push] at hc lc
  rw [show ({ s with heap := s.heap.push { cls := .type "frame", data := .dict #[] } } : Shared).heap.objs.size = s.heap.objs.size + 1 from Heap.size_push ..]
  have ns0 : (pushCells (s.heap.push { cls := .type "frame", data := .dict #[] }) scope.names).Ns s.heap.objs.size (fun _ => none) := (Heap.Ns.new s.heap (.type "frame")).keeps (pushCells_keeps _ _)
  have kp0 : ∀ b o, s.heap.get? b = some o → (pushCells (s.heap.push { cls := .type "frame", data := .dict #[] }) scope.names).get? b = some o := fun b o e => pushCells_keeps _ _ b o (Heap.get?_push_of_some _ e)
  refine wpAny_bind ?_
  rw [List.forIn_cons]
  refine wpAny_bind (wpAny_bind (wpAny_storeName_cell (env := newEnv scope s.heap.objs.size globals (cellsFrom (s.heap.objs.size + 1) scope.names closure) qual func code none builtins) hk hx hc ic fun g e k => wpAny_pure ?_))
  show wpAny M A (forIn ([] : List (Str × Value)) _ _) _ _ _
  rw [List.forIn_nil]
  refine wpAny_pure (wpAny_pure (hQ c g _ hc lc e (ns0.sameBut k (Nat.ne_of_lt lc)) fun b o q => ?_))
  have nb : b ≠ c := Nat.ne_of_lt (Nat.lt_trans (Heap.lt_size q) lc)
  exact k.extBut b o nb (kp0 b o q)
end
end Dk
set_option Elab.async false
set_option linter.all false
set_option maxRecDepth 100000
set_option maxHeartbeats 4000000
namespace PySem
namespace DspX
/-! ### {k: v} whose key is a tuple: the walk -/
section
variable {prog : Program} {w : World} {A : Around} {E : Value → Shared → Prop} {s : Shared} {env : Env} {K : Type} [DecidableEq K] {knd : HeapKind prog w K}
theorem dict1H {k v : Expr} {pos : Pos} {Q : Value → Shared → Prop} (hu : knd.room A)
    (h : wpAny (model prog w) A (evalPairs (pairTrees [some k] [v] env pos)) (fun vs s₁ => ∃ (b : Addr) (kk : K) (vv : Value), vs = [(.ref b, vv)] ∧ knd.is s₁.heap kk b ∧ s₁.heap.DictOfH knd s.heap.objs.size [] ∧
      ∀ h', h'.DictOfH knd s.heap.objs.size (storedH [] kk b vv) → Heap.SameBut s.heap.objs.size s₁.heap h' → Q (.ref s.heap.objs.size) { s₁ with heap := h', toks := s₁.toks + knd.draws kk }) E
      { s with heap := s.heap.push { cls := .type "dict", data := .dict #[] } }) :
    wpAny (model prog w) A (eval (.Dict [some k] [v] pos) env) Q E s := by
  rw [arm_eval_Dict, zip_pairTrees [some k] [v] env pos rfl rfl, dictDisplay_pairs _ (by simp [pairTrees]) (by simp [pairTrees])]
  refine wpAny_bind (wpAny_standAt (wpAny_bind ?_))
  unfold subDict
  refine wpAny_bind (wpAny_alloc ?_)
  refine wpAny_bind (wpAny_holding ?_)
  rw [if_pos (by simp [pairTrees])]
  refine wpAny_bind (wpAny_mono h (fun vs s₁ h₁ => ?_) fun _ _ e => e)
  obtain ⟨b, kk, vv, rfl, hk, hm, hQ⟩ := h₁
  refine wpAny_holding ?_
  refine wpAny_bind ?_
  rw [List.forIn_cons]
  refine wpAny_bind (wpAny_bind (wpAny_dictSet_heap (hsz := Nat.zero_le _) hu hk hm fun h' hm' hs' => wpAny_pure ?_))
  dsimp only
  rw [List.forIn_nil]
  exact wpAny_pure (wpAny_pure (wpAny_pure (wpAny_pure (hQ h' hm' hs'))))
end
end DspX
end PySem
namespace Dk
open PySem PySem.Spec PyProof.Rows L2 Er LamX NdefX
/-- {k: v}, the key a tuple -/
def tDisp1T (tk tv : TE) : TE := fun σ H Q => ∀ p, H p = none → tk σ (upd H p (.dT [])) fun x H1 => tv σ H1 fun y H2 => ∃ (b : Addr) (k : List Key), x = .ref b ∧ H2 b = some (.tup (k.map kV)) ∧ H2 p = some (.dT []) ∧ Q (.ref p) (upd H2 p (.dT [(k, y)]))
section
variable {X : Cx} {pos : Pos} {k v : Expr} {tk tv : TE}
theorem pe_disp1T (hu : X.A.units + 1 < cLine) (hk : PE X k tk) (hv : PE X v tv) : PE X (.Dict [some k] [v] pos) (tDisp1T tk tv) := by
  refine ⟨fun pins s σ H Q I q => ?_⟩
  have hn := I.hok.fresh (Nat.le_refl s.heap.objs.size)
  have I1 := I.laid (a := s.heap.objs.size) (o := .dT []) (h' := s.heap.push { cls := .type "dict", data := .dict #[] }) (t' := s.toks) (fun _ _ q => Heap.get?_push_of_some _ q) (Nat.le_refl _) (dt_empty s.heap I.big)
  refine PySem.DspX.dict1H (knd := tupleKind (mixKind X.prog X.w)) (show X.A.units < cLine from by omega) ?_
  refine pairTrees_cons_walk (thn (hk.run pins _ σ _ _ I1 (q _ hn)) fun u s1 ⟨x, H1, I2, rx, q1⟩ => thn (hv.run pins s1 σ H1 _ I2 q1) fun w2 s2 ⟨y, H2, I3, ry, b, kk, ex, eb, ep, q2⟩ => pairTrees_nil_walk ?_)
  subst ex
  obtain rfl : u = Value.ref b := rx
  obtain ⟨z, hd, xs, rel, dd⟩ := dt_of I3.hok ep
  cases rel
  refine ⟨b, kk, w2, rfl, key_of I3.hok eb, dd, fun h' dd' hs => ⟨.ref s.heap.objs.size, _, ?_, rfl, q2⟩⟩
  obtain ⟨q3, es, ep2, hq, h2, h3, h4, _, h5⟩ := dd'
  refine d_write I3 (by rw [ep]; exact True.intro) hs ⟨q3, hq⟩ ⟨by show 1 ≤ sizeLine; rw [sizeLine_eq]; decide, hd, _, ?_, q3, es, ep2, hq, h2, h3, h4, h5⟩
  show Paired _ [(kk, y)] (storedH [] kk b w2)
  refine .cons ⟨rfl, ?_, ry⟩ .nil
  show upd H2 s.heap.objs.size (.dT [(kk, y)]) b = some (.tup (kk.map kV))
  rw [upd_ne (ne_of eb ep (fun z => nomatch z))]
  exact eb
end
/-! ### what captured cells hold goes on -/
theorem cells_later {X : Cx} {pins : List (Addr × Obj)} {σ : L2.St} {H : Hp} {s : Shared} {cl : List (Str × Addr)} {fr : List Str} {ws : List (Option V)} (C : CellsAt cl fr ws X.s_0.heap X.H_0) (hx : X.ex = []) (I : Inv X pins σ H s) : CellsAt cl fr ws s.heap H := by
  have nx : ∀ c : Addr, c ∉ X.ex := fun c h => by
    rw [hx] at h
    exact nomatch h
  have kp : ∀ y c, cl.lookup y = some c → ∀ v, X.s_0.heap.IsCell c v → s.heap.IsCell c v := fun y c e v ⟨o, ho, hd⟩ => by
    obtain ⟨sl, q⟩ := I.base.any ho (C.all y c e).1 (nx c)
    exact ⟨_, q, hd⟩
  refine ⟨C.len, fun y c e => ?_, C.inj, fun i y e => ?_⟩
  · obtain ⟨n, v, z⟩ := C.all y c e
    refine ⟨?_, v, kp y c e v z⟩
    obtain ⟨o, ho, _⟩ := z
    exact I.base.free c o ho n (nx c)
  · obtain ⟨c, hc, hv⟩ := C.has i y e
    refine ⟨c, hc, fun v ev => ?_⟩
    obtain ⟨u, r, z⟩ := hv v ev
    exact ⟨u, r, kp y c hc _ z⟩
/-! ### f(e), f a local name that was handed a nested function -/
def tCallF (F : NF) (f : Addr) (i : Nat) (ws : List (Option V)) (sp : List (Option V) → Sp) (t : TA) : TE := fun σ H Q => σ[i]? = some (some (.ref f)) ∧ H f = some (FnO f F) ∧
  t σ H fun vs H1 => H1 f = some (FnO f F) ∧ H1 F.c = some (CodeO F.c F.qual) ∧ sp ws vs H1 Q E0
theorem pe_callF {X : Cx} {F : NF} {f : Addr} {ps fr : List Str} {ws : List (Option V)} {i j k : Nat} {x : Str} {sp : List (Option V) → Sp} {t : TA} {e : Expr} {es : List Expr} {p pos : Pos} (C : CellsAt F.cl fr ws X.s_0.heap X.H_0) (hx : X.ex = [])
    (Fn : NOk X.prog X.w X.K X.mg X.base CX0 k f F ps fr sp) (hr : Room j X.A) (hk : k ≤ j) (hN : X.N[i]? = some x) (hv : Vis X.env.scope x) (ha : PA X (e :: es) t)
    (hd : (x == ("__debug__" : Str)) = false := by decide) (hcd : (x == ("__classdict__" : Str)) = false := by decide)
    (he : starEach (e :: es) X.env = (false, eval e X.env) :: starEach es X.env := by rfl) (hpl : (backTo pos (starEach es X.env)).any (·.1) = false := by rfl) :
    PE X (.Call (.Name x p) (e :: es) [] pos) (tCallF F f i ws sp t) := by
  refine ⟨fun pins s σ H Q I h => ?_⟩
  obtain ⟨hs, hf, ht⟩ := h
  refine wpAny_Call_Name_kw (thn ((pe_var (pos := p) hN hv hd hcd).run pins s σ H (fun v H1 => v = .ref f ∧ H1 = H) I ⟨.ref f, hs, rfl, rfl⟩) fun u s1 ⟨v, H1, I1, r1, q1⟩ => ?_)
  obtain ⟨ev, eH⟩ := q1
  subst ev
  rw [eH] at I1
  obtain rfl : u = Value.ref f := r1
  refine PySem.W.callWith_F (first := []) (fnAt_of I1 hf) (thn (ha.run pos pins s1 σ H _ I1 ht) fun us s2 ⟨vs, H2, I2, r, h1, h2, q⟩ => ⟨fnAt_of I2 h1, ?_⟩) he hpl
  show wpAny _ _ (call (.ref f) us) _ _ _
  refine wpAny_call (codeAny_mono (Fn.run X.A X.stack s2 H2 us vs ws Q E0 (hr.mono hk) I2.env0 h1 h2 (cells_later C hx I2) r q) fun r s' hq => ?_)
  cases r with
  | error e => exact hq.elim
  | ok fl =>
    cases fl with
    | ret u => exact I2.after hq
    | next => exact False.elim hq
    | brk => exact False.elim hq
    | cont => exact False.elim hq
/-! ### a nested function with one parameter, which is a cell, and one captured name -/
structure Sc1' (sc : Scope) (x y : Str) : Prop where
  kind : sc.kind = .function
  co : sc.isCoroutine = false
  gen : sc.isGenerator = false
  nm : sc.names = [(x, .cell), (y, .free)]
  ne : x ≠ y
abbrev envN1 (F : NF) (f L : Addr) : Env := newEnv F.scope L mainGlobals (cellsFrom (L + 1) F.scope.names F.cl) (F.qual ++ ".<locals>.") (some f) (.ref F.c) none builtinsNs
def ncx1 (P : Program) (w : World) (K : PySem.W.Frag) (mg : Str → Option Value) (base : Heap) (N : List Str) (F : NF) (f : Addr) (A : Around) (outer : List Env) (s : Shared) (H : Hp) (E : XK) : Cx where
  prog := P
  w := w
  K := K
  mg := mg
  base := base
  A := A.deeper (envN1 F f s.heap.objs.size)
  N := N
  s_0 := s
  H_0 := H
  env := envN1 F f s.heap.objs.size
  outer := outer
  stack := envN1 F f s.heap.objs.size :: outer
  ex := []
  fn := fun _ => false
  calm := true
  pn := []
  xe := fun e s' => wpAny (model P w) (A.deeper (envN1 F f s.heap.objs.size)) (leaving (envN1 F f s.heap.objs.size) e) (fun _ s'' => CX0 outer H s E e s'') (fun e' s'' => CX0 outer H s E e' s'') s'
section
variable {P : Program} {w : World} {K : PySem.W.Frag} {mg : Str → Option Value} {base : Heap} {x y : Str} {N1 : List Str} {F : NF} {a f : Addr} {A : Around} {outer : List Env} {s : Shared} {H : Hp} {E : XK} {g : Heap} {tk : Nat} {v vf : V} {u uf : Value}
theorem cellsN1 (S : Sc1' F.scope x y) (hcl : F.cl = [(y, a)]) (L : Addr) : cellsFrom (L + 1) F.scope.names F.cl = [(x, L + 1), (y, a)] := by
  rw [S.nm, hcl]
  rfl
theorem start1 (S : Sc1' F.scope x y) (hcl : F.cl = [(y, a)]) (hd : A.handled = none) (e0 : Env0 P w K mg base A outer s H) (na : H a = none) (ca : s.heap.IsCell a (some uf)) (rf : RelV vf uf) (rv : RelV v u)
    (cx : g.IsCell (s.heap.objs.size + 1) (some u)) (ns : g.Ns s.heap.objs.size (fun _ => none)) (kp : ∀ b o, s.heap.get? b = some o → g.get? b = some o) :
    Inv (ncx1 P w K mg base (x :: y :: N1) F f A outer s H E) [] (some v :: some vf :: List.replicate N1.length none) H { s with heap := g, toks := tk } := by
  have la : a < s.heap.objs.size := by
    obtain ⟨o, ho, _⟩ := ca
    exact Heap.lt_size ho
  have cs := cellsN1 S hcl s.heap.objs.size
  have lk : ∀ {p : Str} {c : Addr}, (cellsFrom (s.heap.objs.size + 1) F.scope.names F.cl).lookup p = some c → (p = x ∧ c = s.heap.objs.size + 1) ∨ (p = y ∧ c = a) := fun {p c} e => by
    rw [cs] at e
    by_cases h1 : p = x
    · subst h1
      rw [List.lookup_cons, beq_self_eq_true] at e
      exact .inl ⟨rfl, (Option.some.inj e).symm⟩
    · rw [List.lookup_cons, show (p == x) = false from by simpa using h1] at e
      by_cases h2 : p = y
      · subst h2
        rw [List.lookup_cons, beq_self_eq_true] at e
        exact .inr ⟨rfl, (Option.some.inj e).symm⟩
      · rw [List.lookup_cons, show (p == y) = false from by simpa using h2] at e
        cases e
  have lx : (cellsFrom (s.heap.objs.size + 1) F.scope.names F.cl).lookup x = some (s.heap.objs.size + 1) := by
    rw [cs, List.lookup_cons, beq_self_eq_true]
  have ly : (cellsFrom (s.heap.objs.size + 1) F.scope.names F.cl).lookup y = some a := by
    rw [cs, List.lookup_cons, show (y == x) = false from by simpa using S.ne.symm, List.lookup_cons, beq_self_eq_true]
  have kx : F.scope.names.lookup x = some .cell := by rw [S.nm, List.lookup_cons, beq_self_eq_true]
  have ky : F.scope.names.lookup y = some .free := by rw [S.nm, List.lookup_cons, show (y == x) = false from by simpa using S.ne.symm, List.lookup_cons, beq_self_eq_true]
  have ca2 : g.IsCell a (some uf) := by
    obtain ⟨o, ho, hd2⟩ := ca
    exact ⟨o, kp _ _ ho, hd2⟩
  have ap : s.heap.objs.size + 1 ≠ a := Nat.ne_of_gt (Nat.lt_succ_of_lt la)
  have noA : ∀ b : Addr, b ∉ (ncx1 P w K mg base (x :: y :: N1) F f A outer s H E).ex := fun b q => absurd (show b ∈ ([] : List Addr) from q) (by simp)
  refine ⟨⟨e0.mod, S.kind, rfl, rfl, Nat.le_refl _, fun p q c e1 e2 => ?_, fun p hp => ?_, fun p c q _ => ?_, fun _ => hd, Around.frames_deeper e0.frames, .inr ⟨rfl, rfl⟩, fun b q => absurd q (noA b), e0.bs, e0.bsz, fun b _ _ => noA b,
      fun b q => absurd q (noA b), e0.funs, e0.frf⟩,
    rfl, e0.bare, Un.kept kp, ⟨_, ns, fun i p t e1 e2 e3 => ?_⟩, fun p c e => ?_, e0.hok.fresh (Nat.le_refl _), fun p c e => ?_, fun q hq => absurd (show q ∈ ([] : List (Addr × Obj)) ++ [] from hq) (by simp), e0.hok.kept kp, ?_⟩
  · rcases lk e1 with ⟨r1, c1⟩ | ⟨r1, c1⟩ <;> rcases lk e2 with ⟨r2, c2⟩ | ⟨r2, c2⟩
    · rw [r1, r2]
    · exact absurd (c1.symm.trans c2) ap
    · exact absurd (c2.symm.trans c1) ap
    · rw [r1, r2]
  · have hp : F.scope.names.lookup p = some .cell ∨ F.scope.names.lookup p = some .free := hp
    have : p = x ∨ p = y := by
      rcases hp with h | h <;> have m := PySem.mem_of_lookup h <;> rw [S.nm] at m <;> simp at m
      · exact .inl m
      · exact .inr m
    rcases this with rfl | rfl
    · exact ⟨_, lx⟩
    · exact ⟨_, ly⟩
  · have q : false = true := q
    cases q
  · match i, e1, e2 with
    | 0, e1, e2 =>
      cases Option.some.inj (show some x = some p from e1)
      cases Option.some.inj (Option.some.inj (show some (some v) = some (some t) from e2))
      exact ⟨u, rv, .inr ⟨.inl kx, _, lx, cx⟩⟩
    | 1, e1, e2 =>
      cases Option.some.inj (show some y = some p from e1)
      cases Option.some.inj (Option.some.inj (show some (some vf) = some (some t) from e2))
      exact ⟨uf, rf, .inr ⟨.inr ky, _, ly, ca2⟩⟩
    | n + 2, e1, e2 =>
      have e2 : (List.replicate N1.length (none : Option V))[n]? = some (some t) := e2
      rw [List.getElem?_replicate] at e2
      split at e2 <;> cases e2
  · rcases lk e with ⟨r1, c1⟩ | ⟨r1, c1⟩
    · exact ⟨_, by rw [c1]; exact cx⟩
    · exact ⟨_, by rw [c1]; exact ca2⟩
  · rcases lk e with ⟨r1, c1⟩ | ⟨r1, c1⟩
    · rw [c1]
      exact e0.hok.fresh (Nat.le_succ _)
    · rw [c1]
      exact na
  · show (some v :: some vf :: List.replicate N1.length none).length = (x :: y :: N1).length
    simp
/-- such a function's promise, by its body -/
theorem nok1_of {k : Nat} {sp : List (Option V) → Sp} (S : Sc1' F.scope x y) (hcl : F.cl = [(y, a)]) (hb : ∀ (doc pm ctv u : Value), bindArgs (F.fd doc pm ctv) ⟨[u], []⟩ = pure [(x, u)]) (len : ∀ ws vs H Q E, sp ws vs H Q E → vs.length = 1) (wsome : ∀ ws vs H Q E, sp ws vs H Q E → ∃ vf, ws = [some vf])
    (hbody : ∀ (A : Around) (outer : List Env) (s : Shared) (H : Hp) (v vf : V) (Q : VK) (E : XK), Room k (A.deeper (envN1 F f s.heap.objs.size)) → sp [some vf] [v] H Q E →
      ∃ t, PSs (ncx1 P w K mg base (x :: y :: N1) F f A outer s H E) F.body t ∧ t { nx := fun _ H' => Q .non H', rt := Q } (some v :: some vf :: List.replicate N1.length none) H) :
    NOk P w K mg base CX0 (k + 1) f F [x] [y] sp := by
  refine ⟨len, fun A outer s H us vs ws Q E hr e0 hf hc C r hsp => ?_⟩
  obtain ⟨vf, rfl⟩ := wsome _ _ _ _ _ hsp
  obtain ⟨v, rfl⟩ : ∃ v, vs = [v] := by
    have l := len _ _ _ _ _ hsp
    match vs, l with
    | [v], _ => exact ⟨v, rfl⟩
  obtain ⟨u, rfl, rv⟩ := vals1 r
  have lim : s.heap.NoLimit := e0.mod.nolimit.keeps fun b o e => (e0.bs b o e).1
  obtain ⟨od, sl, doc, pm, ctv, ho⟩ := fnO_at e0.hok hf
  refine codeAny_call_function hr.depth ho rfl S.co S.gen rfl (codeO_at e0.hok hc) ?_
  rw [hb doc pm ctv u]
  have kx : F.scope.names.lookup x = some .cell := by rw [S.nm, List.lookup_cons, beq_self_eq_true]
  have cn : F.cl.lookup x = none := by rw [hcl, List.lookup_cons, show (x == y) = false from by simpa using S.ne]; rfl
  obtain ⟨a2, ea, hv⟩ := C.has 0 y rfl
  have ea2 : a2 = a := by
    rw [hcl, List.lookup_cons, beq_self_eq_true] at ea
    exact (Option.some.inj ea).symm
  subst ea2
  obtain ⟨uf, rf, ca⟩ := hv vf rfl
  have na : H a2 = none := (C.all y a2 ea).1
  refine wpAny_pure (env_one S.kind kx cn fun c g2 tk e1 e2 ic ns kp => ⟨lim.keeps kp, ?_⟩)
  rw [cellsN1 S hcl, List.lookup_cons, beq_self_eq_true] at e1
  have ec : c = s.heap.objs.size + 1 := (Option.some.inj e1).symm
  subst ec
  show codeAny _ _ (.func F.body (envN1 F f s.heap.objs.size)) _ _
  refine codeAny_func ?_
  obtain ⟨t, ht, hq⟩ := hbody A outer s H v vf Q E (hr.deeper _) hsp
  have I : Inv (ncx1 P w K mg base (x :: y :: N1) F f A outer s H E) [] (some v :: some vf :: List.replicate N1.length none) H { s with heap := g2, toks := tk } := start1 S hcl hr.hd e0 na ca rf rv ic ns kp
  refine wpAny_mono (ht.run [] _ _ H _ I hq) (fun fl s' hs => ?_) fun e s' hs => hs
  have fin : ∀ {σ' : L2.St} {H' : Hp} {v : V} {u : Value}, Inv (ncx1 P w K mg base (x :: y :: N1) F f A outer s H E) [] σ' H' s' → L2.RelV v u → Q v H' → CE outer P w H s Q u s' :=
    fun {σ' H' v u} J rv q => ⟨v, H', J.os, J.bare, J.base, J.hok, rv, q⟩
  cases fl with
  | ret u =>
    obtain ⟨v, σ', H', J, rv, q⟩ := hs
    exact fin J rv q
  | next =>
    obtain ⟨σ', H', J, q⟩ := hs
    exact fin (v := V.non) (u := Value.none) J rfl q
  | brk =>
    obtain ⟨_, _, _, q⟩ := hs
    exact False.elim q
  | cont =>
    obtain ⟨_, _, _, q⟩ := hs
    exact False.elim q
end
end Dk
set_option linter.all false
namespace Bf
/-! ### the breadth-first going through -/
section
variable {T L : Type} [DecidableEq T]
/-- a row leads from one to another -/
inductive Led (mv : T → List (L × T)) (s : T) : List L → T → Prop
  | here : Led mv s [] s
  | on {r : List L} {t u : T} {l : L} (h : Led mv s r t) (hm : (l, u) ∈ mv t) : Led mv s (r ++ [l]) u
/-- what is met so far: q; how far it is looked at: i -/
structure Bfs (mv : T → List (L × T)) (fd : T → Bool) (s : T) (q : List (T × List L)) (i : Nat) : Prop where
  nd : (q.map (·.1)).Nodup
  first : q[0]? = some (s, [])
  led : ∀ p ∈ q, Led mv s p.2 p.1
  mono : ∀ (a b : Nat) (x y : T × List L), a ≤ b → q[a]? = some x → q[b]? = some y → x.2.length ≤ y.2.length
  lim : ∀ (a b : Nat) (x y : T × List L), i ≤ a → q[a]? = some x → q[b]? = some y → y.2.length ≤ x.2.length + 1
  done : ∀ (a : Nat) (x : T × List L), a < i → q[a]? = some x → fd x.1 = false ∧ ∀ (l : L) (u : T), (l, u) ∈ mv x.1 → ∃ (b : Nat) (y : T × List L), q[b]? = some y ∧ y.1 = u ∧ y.2.length ≤ x.2.length + 1
  le : i ≤ q.length
  short : ∀ (a : Nat) (x : T × List L), q[a]? = some x → x.2.length ≤ a
theorem Bfs.start {mv : T → List (L × T)} {fd : T → Bool} {s : T} : Bfs mv fd s [(s, [])] 0 := by
  have one : ∀ (b : Nat) (y : T × List L), [(s, ([] : List L))][b]? = some y → y = (s, []) := fun b y e => by
    cases b with
    | zero => exact (Option.some.inj e).symm
    | succ b => cases e
  refine ⟨by simp, rfl, fun p hp => ?_, fun a b x y _ e1 e2 => ?_, fun a b x y _ e1 e2 => ?_, fun a x h => absurd h (Nat.not_lt_zero _), Nat.zero_le _, fun a x e => ?_⟩
  · rw [List.mem_singleton.mp hp]
    exact .here
  · rw [one _ _ e1, one _ _ e2]
    exact Nat.le_refl _
  · rw [one _ _ e1, one _ _ e2]
    exact Nat.zero_le _
  · rw [one _ _ e]
    exact Nat.zero_le _
/-- one more is met, from the one that is looked at -/
theorem Bfs.more {mv : T → List (L × T)} {fd : T → Bool} {s t u : T} {r : List L} {l : L} {q : List (T × List L)} {i : Nat} (B : Bfs mv fd s q i) (ei : q[i]? = some (t, r)) (hm : (l, u) ∈ mv t) (nu : u ∉ q.map (·.1)) : Bfs mv fd s (q ++ [(u, r ++ [l])]) i := by
  have il : i < q.length := (List.getElem?_eq_some_iff.mp ei).1
  have at_ : ∀ (b : Nat) (y : T × List L), (q ++ [(u, r ++ [l])])[b]? = some y → q[b]? = some y ∨ (b = q.length ∧ y = (u, r ++ [l])) := fun b y e => by
    by_cases c : b < q.length
    · rw [List.getElem?_append_left c] at e
      exact .inl e
    · rw [List.getElem?_append_right (by omega)] at e
      by_cases d : b - q.length = 0
      · rw [d] at e
        exact .inr ⟨by omega, (Option.some.inj e).symm⟩
      · rw [List.getElem?_eq_none (by simp; omega)] at e
        cases e
  have keep : ∀ {b : Nat} {y : T × List L}, q[b]? = some y → (q ++ [(u, r ++ [l])])[b]? = some y := fun {b y} e => by
    rw [List.getElem?_append_left (List.getElem?_eq_some_iff.mp e).1]
    exact e
  have len : (r ++ [l]).length = r.length + 1 := by simp
  refine ⟨?_, keep B.first, fun p hp => ?_, fun a b x y ab e1 e2 => ?_, fun a b x y ia e1 e2 => ?_, fun a x h e => ?_, by rw [List.length_append]; have := B.le; omega, fun a x e => ?_⟩
  · rw [List.map_append]
    refine List.nodup_append.mpr ⟨B.nd, by simp, fun a ha b hb e => nu ?_⟩
    have hb : b = u := by simpa using hb
    rw [← hb, ← e]
    exact ha
  · rcases List.mem_append.mp hp with h | h
    · exact B.led p h
    · rw [List.mem_singleton.mp h]
      exact .on (B.led _ (List.mem_of_getElem? ei)) hm
  · rcases at_ _ _ e1 with h1 | ⟨h1, rfl⟩ <;> rcases at_ _ _ e2 with h2 | ⟨h2, rfl⟩
    · exact B.mono a b x y ab h1 h2
    · rw [len]
      exact B.lim i a _ x (Nat.le_refl _) ei h1
    · have := (List.getElem?_eq_some_iff.mp h2).1
      omega
    · exact Nat.le_refl _
  · rcases at_ _ _ e1 with h1 | ⟨h1, rfl⟩ <;> rcases at_ _ _ e2 with h2 | ⟨h2, rfl⟩
    · exact B.lim a b x y ia h1 h2
    · rw [len]
      have := B.mono i a _ x ia ei h1
      exact Nat.succ_le_succ this
    · rw [len]
      exact Nat.le_succ_of_le (B.lim i b _ y (Nat.le_refl _) ei h2)
    · omega
  · rcases at_ _ _ e with h1 | ⟨h1, _⟩
    · obtain ⟨f, d⟩ := B.done a x h h1
      exact ⟨f, fun l' u' hm' => by
        obtain ⟨b, y, e3, e4, e5⟩ := d l' u' hm'
        exact ⟨b, y, keep e3, e4, e5⟩⟩
    · omega
  · rcases at_ _ _ e with h1 | ⟨h1, rfl⟩
    · exact B.short a x h1
    · rw [len, h1]
      have := B.short i _ ei
      exact Nat.succ_le_of_lt (Nat.lt_of_le_of_lt this il)
/-- one is looked at -/
theorem Bfs.next {mv : T → List (L × T)} {fd : T → Bool} {s t : T} {r : List L} {q : List (T × List L)} {i : Nat} (B : Bfs mv fd s q i) (ei : q[i]? = some (t, r)) (hf : fd t = false)
    (all : ∀ (l : L) (u : T), (l, u) ∈ mv t → ∃ (b : Nat) (y : T × List L), q[b]? = some y ∧ y.1 = u ∧ y.2.length ≤ r.length + 1) : Bfs mv fd s q (i + 1) := by
  have il : i < q.length := (List.getElem?_eq_some_iff.mp ei).1
  refine ⟨B.nd, B.first, B.led, B.mono, fun a b x y ia e1 e2 => B.lim a b x y (by omega) e1 e2, fun a x h e => ?_, il, B.short⟩
  by_cases c : a < i
  · exact B.done a x c e
  · have z : a = i := by omega
    subst z
    rw [ei] at e
    cases Option.some.inj e
    exact ⟨hf, all⟩
theorem Bfs.near {mv : T → List (L × T)} {fd : T → Bool} {s : T} {q : List (T × List L)} {i : Nat} (B : Bfs mv fd s q i) {r : List L} {t : T} (h : Led mv s r t) :
    (∃ (b : Nat) (y : T × List L), q[b]? = some y ∧ y.1 = t ∧ y.2.length ≤ r.length) ∨ ∃ (b : Nat) (y : T × List L), i ≤ b ∧ q[b]? = some y ∧ y.2.length ≤ r.length := by
  induction h with
  | here => exact .inl ⟨0, _, B.first, rfl, Nat.zero_le _⟩
  | @on r t u l h hm ih =>
    have len : (r ++ [l]).length = r.length + 1 := by simp
    rcases ih with ⟨b, y, e1, e2, e3⟩ | ⟨b, y, e1, e2, e3⟩
    · by_cases c : b < i
      · subst e2
        obtain ⟨b2, y2, z1, z2, z3⟩ := (B.done b y c e1).2 l u hm
        exact .inl ⟨b2, y2, z1, z2, by omega⟩
      · exact .inr ⟨b, y, by omega, e1, by omega⟩
    · exact .inr ⟨b, y, e1, e2, by omega⟩
theorem Bfs.least {mv : T → List (L × T)} {fd : T → Bool} {s : T} {q : List (T × List L)} {i : Nat} (B : Bfs mv fd s q i) {t : T} {r : List L} (ei : q[i]? = some (t, r)) {r2 : List L} {t2 : T} (h : Led mv s r2 t2) (f2 : fd t2 = true) : r.length ≤ r2.length := by
  rcases B.near h with ⟨b, y, e1, e2, e3⟩ | ⟨b, y, e1, e2, e3⟩
  · by_cases c : b < i
    · have := (B.done b y c e1).1
      rw [e2, f2] at this
      cases this
    · exact Nat.le_trans (B.mono i b _ y (by omega) ei e1) e3
  · exact Nat.le_trans (B.mono i b _ y e1 ei e2) e3
theorem Bfs.never {mv : T → List (L × T)} {fd : T → Bool} {s : T} {q : List (T × List L)} (B : Bfs mv fd s q q.length) {r2 : List L} {t2 : T} (h : Led mv s r2 t2) : fd t2 = false := by
  rcases B.near h with ⟨b, y, e1, e2, e3⟩ | ⟨b, y, e1, e2, e3⟩
  · have := (B.done b y (List.getElem?_eq_some_iff.mp e1).1 e1).1
    rw [e2] at this
    exact this
  · have := (List.getElem?_eq_some_iff.mp e2).1
    omega
end
end Bf
set_option Elab.async false
set_option linter.all false
set_option maxRecDepth 100000
set_option maxHeartbeats 4000000
namespace Dk
open PySem PySem.Spec PyProof.Rows L2 Er LamX NdefX Bf
/-! ### spread, its states tuples: the breadth-first going through -/
theorem has_putK {κ : Type} [DecidableEq κ] {kvs : List (κ × V)} {k : κ} {v : V} (j : κ) : (valV (putK kvs k v) j).isSome = true ↔ j = k ∨ (valV kvs j).isSome = true := by
  rw [valV_put]
  by_cases c : j = k
  · rw [if_pos c]
    simp [c]
  · rw [if_neg c]
    simp [c]
theorem nodup_leG {α : Type} [DecidableEq α] : ∀ {l m : List α}, l.Nodup → (∀ x ∈ l, x ∈ m) → l.length ≤ m.length
  | [], _, _, _ => Nat.zero_le _
  | x :: l, m, hn, hs => by
    obtain ⟨h1, h2⟩ := List.nodup_cons.mp hn
    have hx : x ∈ m := hs x List.mem_cons_self
    have ih := nodup_leG (l := l) (m := m.erase x) h2 fun y hy => (List.mem_erase_of_ne (fun e : y = x => h1 (by rw [← e]; exact hy))).2 (hs y (List.mem_cons_of_mem _ hy))
    have hp : 0 < m.length := List.length_pos_of_mem hx
    rw [List.length_erase_of_mem hx] at ih
    rw [List.length_cons]
    omega
abbrev St2 : Type := List Key
abbrev Qu : Type := List (St2 × List V)
/-- what moves tells: a list of pairs, a label and a state -/
def Mvs (G : Hp) (l : Addr) (es : List (V × St2)) : Prop := ∃ ps : List Addr, G l = some (.lst (ps.map V.ref)) ∧ Paired (fun (p : Addr) (e : V × St2) => ∃ b, G p = some (.tup [e.1, .ref b]) ∧ G b = some (.tup (e.2.map kV))) ps es
/-- what stands in spread's dict and list -/
structure SpAt (H G : Hp) (ro qu : Addr) (q : Qu) : Prop where
  dict : ∃ kvs : List (St2 × V), G ro = some (.dT kvs) ∧ kvs.length ≤ q.length ∧ (∀ k, (valV kvs k).isSome = true ↔ k ∈ q.map (·.1)) ∧ ∀ p ∈ q, ∃ r, valV kvs p.1 = some (.ref r) ∧ r ≠ qu ∧ H r = none ∧ G r = some (.lst p.2)
  list : ∃ ts : List Addr, G qu = some (.lst (ts.map V.ref)) ∧ Paired (fun t (p : St2 × List V) => G t = some (.tup (p.1.map kV))) ts q
  old : Sm H G
  nr : H ro = none
  nq : H qu = none
theorem SpAt.sm {H G G2 : Hp} {ro qu : Addr} {q : Qu} (s : SpAt H G ro qu q) (m : Sm G G2) : SpAt H G2 ro qu q := by
  obtain ⟨⟨kvs, d1, d2, d3, d4⟩, ⟨ts, l1, l2⟩, o, nr, nq⟩ := s
  exact ⟨⟨kvs, m _ _ d1, d2, d3, fun p hp => by
    obtain ⟨r, e1, e2, e3, e4⟩ := d4 p hp
    exact ⟨r, e1, e2, e3, m _ _ e4⟩⟩, ⟨ts, m _ _ l1, pair_mono l2 fun t _ p e => m _ _ e⟩, o.trans m, nr, nq⟩
theorem SpAt.more {H G Gm : Hp} {ro qu rn b : Addr} {q : Qu} {u : St2} {row : List V} {kvs : List (St2 × V)} {ts : List Addr} (d1 : G ro = some (.dT kvs)) (d2 : kvs.length ≤ q.length) (d3 : ∀ k, (valV kvs k).isSome = true ↔ k ∈ q.map (·.1)) (d4 : ∀ p ∈ q, ∃ r, valV kvs p.1 = some (.ref r) ∧ r ≠ qu ∧ H r = none ∧ G r = some (.lst p.2))
    (l1 : G qu = some (.lst (ts.map V.ref))) (l2 : Paired (fun t (p : St2 × List V) => G t = some (.tup (p.1.map kV))) ts q) (o : Sm H G) (nr : H ro = none) (nq : H qu = none) (m : Sm G Gm) (er : Gm rn = some (.lst row)) (nrn : G rn = none) (eb : G b = some (.tup (u.map kV))) (nu : u ∉ q.map (·.1)) :
    SpAt H (upd (upd Gm ro (.dT (putK kvs u (.ref rn)))) qu (.lst ((ts ++ [b]).map V.ref))) ro qu (q ++ [(u, row)]) := by
  have roq : ro ≠ qu := ne_of d1 l1 (fun z => nomatch z)
  have lst : ∀ {c : Addr} {xs : List V}, Gm c = some (.lst xs) → c ≠ qu → upd (upd Gm ro (.dT (putK kvs u (.ref rn)))) qu (.lst ((ts ++ [b]).map V.ref)) c = some (.lst xs) := fun {c xs} e n => by
    rw [upd_ne n, upd_ne (ne_of e (m _ _ d1) (fun z => nomatch z))]
    exact e
  have tup : ∀ {c : Addr} {xs : List V}, G c = some (.tup xs) → upd (upd Gm ro (.dT (putK kvs u (.ref rn)))) qu (.lst ((ts ++ [b]).map V.ref)) c = some (.tup xs) := fun {c xs} e => by
    rw [upd_ne (ne_of e l1 (fun z => nomatch z)), upd_ne (ne_of e d1 (fun z => nomatch z))]
    exact m _ _ e
  refine ⟨⟨putK kvs u (.ref rn), ?_, ?_, fun k => ?_, fun p hp => ?_⟩, ⟨ts ++ [b], upd_same, pair_more (pair_mono l2 fun t _ p e => tup e) (tup eb)⟩, fun c x e => ?_, nr, nq⟩
  · rw [upd_ne roq, upd_same]
  · rw [List.length_append]
    exact Nat.le_trans (length_putK kvs u (.ref rn)) (Nat.succ_le_succ d2)
  · rw [has_putK, d3, List.map_append, List.mem_append, or_comm]
    simp
  · rcases List.mem_append.mp hp with h | h
    · obtain ⟨r, e1, e2, e3, e4⟩ := d4 p h
      refine ⟨r, ?_, e2, e3, lst (m _ _ e4) e2⟩
      rw [valV_put, if_neg]
      · exact e1
      · intro z
        exact nu (z ▸ List.mem_map.mpr ⟨p, h, rfl⟩)
    · rw [List.mem_singleton.mp h]
      have n1 : rn ≠ qu := fun z => by
        rw [z, l1] at nrn
        cases nrn
      refine ⟨rn, by rw [valV_put, if_pos rfl], n1, ?_, lst er n1⟩
      cases z : H rn with
      | none => rfl
      | some x =>
        rw [o _ _ z] at nrn
        cases nrn
  · rw [upd_ne (fun z => by rw [z, nq] at e; cases e), upd_ne (fun z => by rw [z, nr] at e; cases e)]
    exact m _ _ (o _ _ e)
/-- f(..): the slot i holds f; what it tells -/
def tAct (i : Nat) (f : Addr) (r : V → Hp → VK → Prop) (te : TE) : TE := fun σ H Q => σ[i]? = some (some (.ref f)) ∧ te σ H fun v H1 => r v H1 Q
/-- what comes of spread -/
def SpOut (mv : St2 → List (V × St2)) (fd : St2 → Bool) (s : St2) (H G : Hp) (tu : Addr) : Prop := ∃ ro qu q x, SpAt H G ro qu q ∧ q.length ≤ 1000 ∧ G tu = some (.tup [.ref ro, x]) ∧
  ((∃ (i : Nat) (t : Addr) (k : St2) (row : List V), Bfs mv fd s q i ∧ x = .ref t ∧ G t = some (.tup (k.map kV)) ∧ q[i]? = some (k, row) ∧ fd k = true) ∨ (x = .non ∧ Bfs mv fd s q q.length))
abbrev nSp : List Str := ["start", "moves", "found", "rows", "queue", "at", "state", "label", "target"]
theorem scSp : FnScope nSp ["start", "moves", "found"] (defScope (top 14)) := ⟨rfl, rfl, rfl, by decide +kernel, rfl, by decide +kernel, by decide +kernel⟩
section
variable {P : Program} {w : World} {K : PySem.W.Frag} {mg : Str → Option Value} {base : Heap} {g : Addr} {cdg : Value} {A : Around} {outer : List Env} {s : Shared} {H : Hp} {E : XK}
theorem spread_body {t0 fM fF : Addr} {st : St2} {mv : St2 → List (V × St2)} {fd : St2 → Bool} {dom : List St2} {rM rF : V → Hp → VK → Prop} {Q : VK} (hr : Room 1 (A.deeper (envOfC "spread" (defScope (top 14)) s.heap.objs.size g cdg))) (ml : mg "len" = none)
    (hF : ∀ q p pos, PE (cxOf CX0 P w K mg base nSp "spread" (defScope (top 14)) g cdg A outer s H E).nox (.Call (.Name "found" p) [.Name "state" q] [] pos) (tAct 2 fF rF (tVar 6)))
    (hM : ∀ q p pos, PE (cxOf CX0 P w K mg base nSp "spread" (defScope (top 14)) g cdg A outer s H E).nox (.Call (.Name "moves" p) [.Name "state" q] [] pos) (tAct 1 fM rM (tVar 6)))
    (okF : ∀ (t : Addr) (k : St2) (G : Hp) (Q : VK), Sm H G → k ∈ dom → G t = some (.tup (k.map kV)) → (∀ G', Sm G G' → Q (.bl (fd k)) G') → rF (.ref t) G Q)
    (okM : ∀ (t : Addr) (k : St2) (G : Hp) (Q : VK), Sm H G → k ∈ dom → G t = some (.tup (k.map kV)) → (∀ l G', Sm G G' → G l = none → Mvs G' l (mv k) → Q (.ref l) G') → rM (.ref t) G Q)
    (h0 : H t0 = some (.tup (st.map kV))) (d0 : st ∈ dom) (dcl : ∀ k ∈ dom, ∀ e ∈ mv k, e.2 ∈ dom) (d1000 : dom.length ≤ 1000)
    (q : ∀ (tu : Addr) (G : Hp), Sm H G → H tu = none → SpOut mv fd st H G tu → Q (.ref tu) G) :
    ∃ t, PSs (cxOf CX0 P w K mg base nSp "spread" (defScope (top 14)) g cdg A outer s H E) (defBody (top 14)) t ∧ t { nx := fun _ H' => Q .non H', rt := Q } (start nSp [.ref t0, .ref fM, .ref fF]) H := by
  refine ⟨_, PSs.nox (pss_cons (ps_set (i := 3) scSp.nd rfl (.inl rfl) (pe_disp1T (hu_of hr) (pv 0) (pe_lst pa_nil)))
    (pss_cons (ps_set (i := 4) scSp.nd rfl (.inl rfl) (pe_lst (pa_cons (pv 0) pa_nil)))
    (pss_cons (ps_set (i := 5) scSp.nd rfl (.inl rfl) pe_int)
    (pss_cons (ps_while PassesOwn.never (pt_cmpR op_lt (pv 5) (pe_callB call_len rfl ml boot_len (pa_cons (pv 4) pa_nil)) (nomark _))
      (pss_cons (ps_set (i := 6) scSp.nd rfl (.inl rfl) (by exact (pe_ix ix_list (pv 4) (pv 5) (fun _ _ => rfl))))
      (pss_cons (ps_aug (i := 5) scSp.nd rfl (.inl rfl) pe_int ip_add)
      (pss_cons (ps_if (pt_val (by exact (hF _ _ _))) (pss_one (ps_ret (pe_tup (pa_cons (pv 3) (pa_cons (pv 6) pa_nil))))) pss_nil)
      (pss_one (ps_for PassesOwn.never rfl (pi_list (by exact (hM _ _ _))) (pg_tup rfl (pgs_cons (pg_name (i := 7) scSp.nd rfl (.inl rfl)) (pgs_cons (pg_name (i := 8) scSp.nd rfl (.inl rfl)) pgs_nil)))
        (pss_one (ps_if (pt_cmp (pc_dnotin (hu_of hr) (pv 8) (pv 3)))
          (pss_cons (ps_dput (hu_of hr) (pv 3) (pv 8) (by exact (pe_op op_cat (by exact (pe_dget (hu_of hr) (pv 3) (pv 6) (fun _ _ => rfl))) (pe_lst (pa_cons (pv 7) pa_nil)))) (by rfl))
          (pss_one (ps_expr (pe_bm PySem.F.plainAttrs_list PySem.F.slot_list_append PySem.F.type_list_append mt_append (pv 4) (pa_cons (pv 8) pa_nil))))) pss_nil))))))))
    (pss_one (ps_ret (pe_tup (pa_cons (pv 3) (pa_cons pe_non pa_nil))))))))), ?_⟩
  intro ro nro
  refine ⟨_, rfl, by show 0 ≤ sizeLine; exact Nat.zero_le _, fun r0 nr0 => ⟨t0, st, rfl, ?_, ?_, ?_⟩⟩
  · exact Sm.new nr0 _ _ (Sm.new nro _ _ h0)
  · exact Sm.new nr0 _ _ upd_same
  have t0ro : t0 ≠ ro := ne_of_none h0 nro
  have r0ro : r0 ≠ ro := fun z => by
    rw [z, upd_same] at nr0
    cases nr0
  have nr0H : H r0 = none := by
    rw [upd_ne r0ro] at nr0
    exact nr0
  have e1 : upd (upd (upd H ro (.dT [])) r0 (.lst [])) ro (.dT [(st, .ref r0)]) ro = some (.dT [(st, .ref r0)]) := upd_same
  have e2 : upd (upd (upd H ro (.dT [])) r0 (.lst [])) ro (.dT [(st, .ref r0)]) r0 = some (.lst []) := by
    rw [upd_ne r0ro]
    exact upd_same
  have m0 : Sm H (upd (upd (upd H ro (.dT [])) r0 (.lst [])) ro (.dT [(st, .ref r0)])) := fun b o e => by
    rw [upd_ne (ne_of_none e nro)]
    exact Sm.new nr0 _ _ (Sm.new nro _ _ e)
  generalize upd (upd (upd H ro (.dT [])) r0 (.lst [])) ro (.dT [(st, .ref r0)]) = G0 at e1 e2 m0 ⊢
  refine ⟨_, rfl, by show 1 ≤ sizeLine; rw [sizeLine_eq]; decide, fun qu nqu => ?_⟩
  have sp0 : SpAt H (upd G0 qu (.lst [.ref t0])) ro qu [(st, [])] := by
    have m1 := Sm.new (o := .lst [.ref t0]) nqu
    have nqH := none_of_sm m0 nqu
    have r0q : r0 ≠ qu := ne_of_none e2 nqu
    refine ⟨⟨[(st, .ref r0)], m1 _ _ e1, Nat.le_refl _, fun k => ?_, fun p hp => ?_⟩, ⟨[t0], upd_same, .cons (m1 _ _ (m0 _ _ h0)) .nil⟩, m0.trans m1, nro, nqH⟩
    · by_cases c : st = k
      · subst c
        rw [valV_pos rfl]
        simp
      · rw [valV_neg c, valV_nil]
        simp [Ne.symm c]
    · rw [List.mem_singleton.mp hp]
      exact ⟨r0, by rw [valV_pos rfl], r0q, nr0H, m1 _ _ e2⟩
  generalize upd G0 qu (.lst [.ref t0]) = G1 at sp0 ⊢
  refine ⟨fun m σ G => ∃ (qq : Qu) (i : Nat) (v6 v7 v8 : Option V), σ = [some (.ref t0), some (.ref fM), some (.ref fF), some (.ref ro), some (.ref qu), some (.int (i : Nat)), v6, v7, v8] ∧ m = dom.length - i ∧ Bfs mv fd st qq i ∧ (∀ p ∈ qq, p.1 ∈ dom) ∧ SpAt H G ro qu qq,
    ⟨_, _, 0, none, none, none, rfl, rfl, .start, (fun p hp => by rw [List.mem_singleton.mp hp]; exact d0), sp0⟩, ?_⟩
  rintro m σ G ⟨qq, i, v6, v7, v8, rfl, rfl, B, qd, sp⟩
  have ql : qq.length ≤ dom.length := by
    have := nodup_leG B.nd (m := dom) fun x hx => by
      obtain ⟨p, hp, rfl⟩ := List.mem_map.mp hx
      exact qd p hp
    rwa [List.length_map] at this
  obtain ⟨ts, l1, l2⟩ := sp.list
  have tl : ts.length = qq.length := paired_len l2
  refine ⟨_, rfl, _, rfl, .ref qu, qq.length, rfl, .inl ⟨_, .inl (.inl l1), by rw [List.length_map, tl]⟩, _, _, rfl, rfl, _, rfl, ?_⟩
  by_cases c : ((i : Nat) : Int) < ((qq.length : Nat) : Int)
  · rw [decide_eq_true c]
    refine iteT ?_
    have il : i < qq.length := by omega
    refine ⟨fun σ' G' => ∃ (q2 : Qu) (v6 v7 v8 : Option V), σ' = [some (.ref t0), some (.ref fM), some (.ref fF), some (.ref ro), some (.ref qu), some (.int ((i + 1 : Nat) : Nat)), v6, v7, v8] ∧ Bfs mv fd st q2 (i + 1) ∧ (∀ p ∈ q2, p.1 ∈ dom) ∧ SpAt H G' ro qu q2,
      fun σ' G' ⟨q2, v6, v7, v8, h1, h2, h3, h4⟩ => ⟨dom.length - (i + 1), by omega, q2, i + 1, v6, v7, v8, h1, rfl, h2, h3, h4⟩, ?_⟩
    have et : ts[i]? = some (ts[i]'(by omega)) := List.getElem?_eq_getElem _
    generalize ts[i]'(by omega) = t at et
    obtain ⟨⟨k, row⟩, eq, ht⟩ := pair_at l2 et
    have hk : k ∈ dom := qd _ (List.mem_of_getElem? eq)
    refine ⟨_, rfl, _, rfl, qu, ts.map V.ref, i, .ref t, rfl, rfl, .inl (.inl l1), atI_nat (by rw [List.getElem?_map, et]; rfl), ?_⟩
    refine ⟨_, rfl, _, _, rfl, rfl, ?_⟩
    refine ⟨rfl, _, rfl, okF t k G _ sp.old hk ht fun G2 m2 => ⟨fd k, rfl, ?_⟩⟩
    have sp2 := sp.sm m2
    have ht2 := m2 _ _ ht
    cases ef : fd k with
    | true =>
      refine iteT ⟨_, rfl, _, rfl, by show 2 ≤ sizeLine; rw [sizeLine_eq]; decide, fun tu ntu => ?_⟩
      have m3 := Sm.new (o := .tup [.ref ro, .ref t]) ntu
      exact q tu _ (sp2.old.trans m3) (none_of_sm sp2.old ntu) ⟨ro, qu, qq, _, sp2.sm m3, Nat.le_trans ql d1000, upd_same, .inl ⟨i, t, k, row, B, rfl, m3 _ _ ht2, eq, ef⟩⟩
    | false =>
      refine iteF ⟨rfl, _, rfl, okM t k G2 _ sp2.old hk ht2 fun l G3 m3 nl mvs => ?_⟩
      obtain ⟨ps, el, pp⟩ := mvs
      have sp3 := sp2.sm m3
      have ht3 := m3 _ _ ht2
      refine ⟨l, rfl, ⟨_, .inl (.inl el)⟩, ?_⟩
      refine for_it (walk_list (xs := ps.map V.ref)) (fun j σ G => ∃ (q2 : Qu) (v7 v8 : Option V), σ = [some (.ref t0), some (.ref fM), some (.ref fF), some (.ref ro), some (.ref qu), some (.int ((i + 1 : Nat) : Nat)), some (.ref t), v7, v8] ∧ Bfs mv fd st q2 i ∧ q2[i]? = some (k, row) ∧
          (∀ e ∈ (mv k).take j, ∃ (b : Nat) (y : St2 × List V), q2[b]? = some y ∧ y.1 = e.2 ∧ y.2.length ≤ row.length + 1) ∧ (∀ p ∈ q2, p.1 ∈ dom) ∧ SpAt H G ro qu q2 ∧ l ≠ qu ∧ G l = some (.lst (ps.map V.ref)) ∧ Paired (fun (p : Addr) (e : V × St2) => ∃ b, G p = some (.tup [e.1, .ref b]) ∧ G b = some (.tup (e.2.map kV))) ps (mv k) ∧ G t = some (.tup (k.map kV)))
        ⟨qq, v7, v8, rfl, B, eq, (fun e he => nomatch he), qd, sp3, ?_, el, pp, ht3⟩ (fun j σ G _ p => ?_) (fun j x σ G5 G4 hj p yy => ?_) (fun σ G4 p => ?_)
      · intro z
        obtain ⟨ts2, z1, _⟩ := sp2.list
        rw [z, z1] at nl
        cases nl
      · obtain ⟨_, _, _, _, _, _, _, _, _, _, el, _⟩ := p
        exact .inl (.inl el)
      · obtain ⟨q2, v7, v8, rfl, B2, eq2, tk, qd2, sp4, lq, el4, pp4, ht4⟩ := p
        obtain ⟨rfl, ex⟩ := yy
        obtain ⟨pa, epa, rfl⟩ : ∃ a, ps[j]? = some a ∧ x = .ref a := by
          rw [List.getElem?_map] at ex
          cases e : ps[j]? with
          | none =>
            rw [e] at ex
            cases ex
          | some a =>
            rw [e] at ex
            exact ⟨a, rfl, (Option.some.inj ex).symm⟩
        obtain ⟨⟨lab, u⟩, ee, b, hp, hb⟩ := pair_at pp4 epa
        have tk2 : (mv k).take (j + 1) = (mv k).take j ++ [(lab, u)] := by
          rw [List.take_add_one, ee]
          rfl
        have hu : u ∈ dom := dcl k hk _ (List.mem_of_getElem? ee)
        refine ⟨pa, _, rfl, .inl (.inl hp), rfl, _, _, rfl, _, _, rfl, rfl, ?_⟩
        obtain ⟨kvs, d1, d2, d3, d4⟩ := sp4.dict
        refine ⟨_, rfl, _, rfl, ro, _, rfl, DGet.t d1 hb, _, rfl, ?_⟩
        by_cases cu : u ∈ q2.map (·.1)
        · rw [(d3 u).mpr cu]
          refine iteF ⟨q2, _, _, rfl, B2, eq2, fun e he => ?_, qd2, sp4, lq, el4, pp4, ht4⟩
          rw [tk2] at he
          rcases List.mem_append.mp he with h | h
          · exact tk e h
          · rw [List.mem_singleton.mp h]
            obtain ⟨y, hy, ey⟩ := List.mem_map.mp cu
            obtain ⟨b2, hb2⟩ := List.mem_iff_getElem?.mp hy
            exact ⟨b2, y, hb2, ey, B2.lim i b2 _ y (Nat.le_refl _) eq2 hb2⟩
        · have no : (valV kvs u).isSome = false := by
            cases z : (valV kvs u).isSome with
            | true => exact absurd ((d3 u).mp z) cu
            | false => rfl
          rw [no]
          obtain ⟨ts4, l1, l2⟩ := sp4.list
          have tl4 : ts4.length = q2.length := paired_len l2
          obtain ⟨r, g1, g2, g3, g4⟩ := d4 (k, row) (List.mem_of_getElem? eq2)
          have il2 : i < q2.length := (List.getElem?_eq_some_iff.mp eq2).1
          have q2l : q2.length ≤ dom.length := by
            have := nodup_leG B2.nd (m := dom) fun x hx => by
              obtain ⟨p, hp, rfl⟩ := List.mem_map.mp hx
              exact qd2 p hp
            rwa [List.length_map] at this
          have rl : row.length ≤ i := B2.short i _ eq2
          have gr := DGet.t d1 ht4
          rw [g1] at gr
          refine iteT ⟨_, rfl, _, rfl, ro, .ref r, rfl, gr, _, rfl, by show 1 ≤ sizeLine; rw [sizeLine_eq]; decide, fun n1 nn1 => ⟨r, n1, row, [lab], rfl, rfl, Sm.new nn1 _ _ g4, upd_same, by show row.length + 1 ≤ sizeLine; rw [sizeLine_eq]; omega, fun rn nrn => ?_⟩⟩
          have ms : Sm G4 (upd (upd G4 n1 (.lst [lab])) rn (.lst (row ++ [lab]))) := Sm.trans (Sm.new nn1) (Sm.new nrn)
          have er : upd (upd G4 n1 (.lst [lab])) rn (.lst (row ++ [lab])) rn = some (.lst (row ++ [lab])) := upd_same
          have nrn4 : G4 rn = none := none_of_sm (Sm.new nn1) nrn
          generalize upd (upd G4 n1 (.lst [lab])) rn (.lst (row ++ [lab])) = Gm at ms er ⊢
          have more := SpAt.more d1 d2 d3 d4 l1 l2 sp4.old sp4.nr sp4.nq ms er nrn4 hb cu
          have roq : ro ≠ qu := ne_of d1 l1 (fun z => nomatch z)
          have eq1 : upd Gm ro (.dT (putK kvs u (.ref rn))) qu = some (.lst (ts4.map V.ref)) := by
            rw [upd_ne (Ne.symm roq)]
            exact ms _ _ l1
          refine ⟨_, rfl, _, rfl, ro, _, rfl, DPut.t (ms _ _ d1) (ms _ _ hb) (by rw [sizeLine_eq]; omega), ?_⟩
          refine ⟨_, rfl, .inl ⟨rfl, _, .inl (.inl eq1)⟩, _, rfl, qu, _, .ref b, rfl, rfl, eq1, by rw [List.length_map, tl4, sizeLine_eq]; omega, ?_⟩
          have em : ts4.map V.ref ++ [V.ref b] = (ts4 ++ [b]).map V.ref := by rw [List.map_append]; rfl
          rw [em]
          have keepL : ∀ {c : Addr} {xs : List V}, G4 c = some (.lst xs) → c ≠ qu → upd (upd Gm ro (.dT (putK kvs u (.ref rn)))) qu (.lst ((ts4 ++ [b]).map V.ref)) c = some (.lst xs) := fun {c xs} e n => by
            rw [upd_ne n, upd_ne (ne_of e d1 (fun z => nomatch z))]
            exact ms _ _ e
          have keepT : ∀ {c : Addr} {xs : List V}, G4 c = some (.tup xs) → upd (upd Gm ro (.dT (putK kvs u (.ref rn)))) qu (.lst ((ts4 ++ [b]).map V.ref)) c = some (.tup xs) := fun {c xs} e => by
            rw [upd_ne (ne_of e l1 (fun z => nomatch z)), upd_ne (ne_of e d1 (fun z => nomatch z))]
            exact ms _ _ e
          refine ⟨q2 ++ [(u, row ++ [lab])], _, _, rfl, B2.more eq2 (List.mem_of_getElem? ee) cu, ?_, fun e he => ?_, fun p hp => ?_, more, lq, keepL el4 lq, pair_mono pp4 fun p _ e ⟨b2, z1, z2⟩ => ⟨b2, keepT z1, keepT z2⟩, keepT ht4⟩
          · rw [List.getElem?_append_left il2]
            exact eq2
          · rw [tk2] at he
            rcases List.mem_append.mp he with h | h
            · obtain ⟨b2, y, h1, h2, h3⟩ := tk e h
              exact ⟨b2, y, by rw [List.getElem?_append_left (List.getElem?_eq_some_iff.mp h1).1]; exact h1, h2, h3⟩
            · rw [List.mem_singleton.mp h]
              exact ⟨q2.length, (u, row ++ [lab]), by rw [List.getElem?_append_right (Nat.le_refl _), Nat.sub_self]; rfl, rfl, by simp⟩
          · rcases List.mem_append.mp hp with h | h
            · exact qd2 p h
            · rw [List.mem_singleton.mp h]
              exact hu
      · obtain ⟨q2, v7, v8, rfl, B2, eq2, tk, qd2, sp4, lq, el4, pp4, ht4⟩ := p
        have pl : ps.length = (mv k).length := paired_len pp4
        rw [List.length_map, pl, List.take_length] at tk
        exact ⟨q2, _, _, _, rfl, B2.next eq2 ef fun l2 u hm => tk (l2, u) hm, qd2, sp4⟩
  · rw [decide_eq_false c]
    refine iteF ?_
    have e : i = qq.length := by
      have := B.le
      omega
    subst e
    refine ⟨_, rfl, by show 2 ≤ sizeLine; rw [sizeLine_eq]; decide, fun tu ntu => ?_⟩
    have m3 := Sm.new (o := .tup [.ref ro, .non]) ntu
    exact q tu _ (sp.old.trans m3) (none_of_sm sp.old ntu) ⟨ro, qu, qq, _, sp.sm m3, Nat.le_trans ql d1000, upd_same, .inr ⟨rfl, B⟩⟩
end
end Dk
set_option Elab.async false
set_option linter.all false
set_option maxRecDepth 100000
set_option maxHeartbeats 4000000
namespace Dk
open PySem PySem.Spec PyProof.Rows L2 Er LamX NdefX Bf
/-! ### spread, shortest_row: called with nested functions -/
/-- the two functions tell mv and fd, as long as what stands at H stands -/
structure Tells (H : Hp) (mv : St2 → List (V × St2)) (fd : St2 → Bool) (dom : List St2) (rM rF : V → Hp → VK → Prop) : Prop where
  f : ∀ (t : Addr) (k : St2) (G : Hp) (Q : VK), Sm H G → k ∈ dom → G t = some (.tup (k.map kV)) → (∀ G', Sm G G' → Q (.bl (fd k)) G') → rF (.ref t) G Q
  m : ∀ (t : Addr) (k : St2) (G : Hp) (Q : VK), Sm H G → k ∈ dom → G t = some (.tup (k.map kV)) → (∀ l G', Sm G G' → G l = none → Mvs G' l (mv k) → Q (.ref l) G') → rM (.ref t) G Q
  cl : ∀ k ∈ dom, ∀ e ∈ mv k, e.2 ∈ dom
  few : dom.length ≤ 1000
/-- the function F stands at f -/
def Stands (H : Hp) (f : Addr) (F : NF) : Prop := H f = some (FnO f F) ∧ H F.c = some (CodeO F.c F.qual)
theorem Stands.sm {H G : Hp} {f : Addr} {F : NF} (s : Stands H f F) (m : Sm H G) : Stands G f F := ⟨m _ _ s.1, m _ _ s.2⟩
def tSpread (fM fF : Addr) (FM FF : NF) (wsM wsF : List (Option V)) (spM spF : List (Option V) → Sp) (t : TA) : TE := fun σ H Q => t σ H fun vs H1 => ∃ (t0 : Addr) (st : St2) (mv : St2 → List (V × St2)) (fd : St2 → Bool) (dom : List St2),
  vs = [.ref t0, .ref fM, .ref fF] ∧ Stands H1 fM FM ∧ Stands H1 fF FF ∧ Tells H1 mv fd dom (fun v G Q => spM wsM [v] G Q E0) (fun v G Q => spF wsF [v] G Q E0) ∧ H1 t0 = some (.tup (st.map kV)) ∧ st ∈ dom ∧
  ∀ (tu : Addr) (G : Hp), Sm H1 G → H1 tu = none → SpOut mv fd st H1 G tu → Q (.ref tu) G
theorem pe_spread {X : Cx} {fS : Addr} {dS : FuncData} {FM FF : NF} {fM fF : Addr} {psM frM psF frF : List Str} {wsM wsF : List (Option V)} {spM spF : List (Option V) → Sp} {t : TA} {e1 e2 e3 : Expr} {p pos : Pos}
    (FS : FnP X.K "spread" (top 14) fS dS) (gS : X.mg "spread" = some (.ref fS)) (ml : X.mg "len" = none) (hg : Gl X "spread") (hr : Room 2 X.A) (CM : CellsAt FM.cl frM wsM X.s_0.heap X.H_0) (CF : CellsAt FF.cl frF wsF X.s_0.heap X.H_0) (hx : X.ex = [])
    (NM : NOk X.prog X.w X.K X.mg X.base CX0 1 fM FM psM frM spM) (NF_ : NOk X.prog X.w X.K X.mg X.base CX0 1 fF FF psF frF spF) (ha : PA X [e1, e2, e3] t)
    (he : starEach [e1, e2, e3] X.env = (false, eval e1 X.env) :: starEach [e2, e3] X.env := by rfl) (hpl : (backTo pos (starEach [e2, e3] X.env)).any (·.1) = false := by rfl) :
    PE X (.Call (.Name "spread" p) [e1, e2, e3] [] pos) (tSpread fM fF FM FF wsM wsF spM spF t) := by
  refine ⟨fun ps s σ H Q I h => ?_⟩
  refine wpAny_Call_Name_kw (ld_glob I hg gS ?_ (by decide))
  refine PySem.W.callWith_K (h₀ := X.base) I.ok.mod.kin FS.kp (thn (ha.run pos ps s σ H _ I h) fun us s2 ⟨vs, H2, I2, rr, t0, st, mv, fd, dom, ev, sM, sF, T, h0, d0, q⟩ => ⟨I2.kIn, ?_⟩) he hpl
  subst ev
  have bR := L2.FunD.bindsA (ps := ["start", "moves", "found"]) FS fun _ _ _ _ _ _ us hl => match us, hl with
    | [_, _, _], _ => rfl
  obtain ⟨oc, od, dV, kV, doc, pm2, an, cdv, ct, osl, rfl, lk2, hcd, _, _⟩ := FS.ex
  have hr2 : Room 1 (X.A.deeper (envOfC "spread" (defScope (top 14)) s2.heap.objs.size fS cdv)) := hr.deeper _
  have hl : us.length = 3 := rr.length.symm
  show wpAny _ _ (call (.ref fS) us) _ _ _
  refine wpAny_call (codeAny_mono (run_ofS (CX := CX0) (N := nSp) (ps := ["start", "moves", "found"]) (us := us) (vs := [.ref t0, .ref fM, .ref fF]) (Q := Q) (E := E0) lk2 hcd scSp hr I2.env0 (bR s2 us hl) rr rfl fun _ => ?_) fun r s' hq => ?_)
  · refine spread_body (fM := fM) (fF := fF) (rM := fun v G Q => Stands G fM FM ∧ spM wsM [v] G Q E0) (rF := fun v G Q => Stands G fF FF ∧ spF wsF [v] G Q E0) (Q := Q) hr2 ml (fun q p pos => ?_) (fun q p pos => ?_)
      (fun t k G Q m hk ht q => ⟨sF.sm m, T.f t k G Q m hk ht q⟩) (fun t k G Q m hk ht q => ⟨sM.sm m, T.m t k G Q m hk ht q⟩) h0 d0 T.cl T.few q
    · have z := pe_callF (X := (cxOf CX0 X.prog X.w X.K X.mg X.base nSp "spread" (defScope (top 14)) fS cdv X.A X.stack s2 H2 E0).nox) (i := 2) (x := "found") (e := .Name "state" q) (es := []) (p := p) (pos := pos) (t := tCons (tVar 6) tNil) (cells_later CF hx I2) rfl NF_ hr2 (Nat.le_refl _) rfl (.inl rfl) (pa_cons (pv 6) pa_nil)
      exact ⟨fun ps s σ H Q I ⟨h1, v, h2, h3, h4⟩ => z.run ps s σ H Q I ⟨h1, h3.1, v, h2, h3.1, h3.2, h4⟩⟩
    · have z := pe_callF (X := (cxOf CX0 X.prog X.w X.K X.mg X.base nSp "spread" (defScope (top 14)) fS cdv X.A X.stack s2 H2 E0).nox) (i := 1) (x := "moves") (e := .Name "state" q) (es := []) (p := p) (pos := pos) (t := tCons (tVar 6) tNil) (cells_later CM hx I2) rfl NM hr2 (Nat.le_refl _) rfl (.inl rfl) (pa_cons (pv 6) pa_nil)
      exact ⟨fun ps s σ H Q I ⟨h1, v, h2, h3, h4⟩ => z.run ps s σ H Q I ⟨h1, h3.1, v, h2, h3.1, h3.2, h4⟩⟩
  · cases r with
    | error e => exact hq.elim
    | ok fl =>
      cases fl with
      | ret u => exact I2.after hq
      | next => exact False.elim hq
      | brk => exact False.elim hq
      | cont => exact False.elim hq
/-! ### shortest_row -/
/-- what comes of it: None, or a list that no shorter one betters -/
def ShOut (mv : St2 → List (V × St2)) (fd : St2 → Bool) (s : St2) (H G : Hp) (v : V) : Prop := (v = .non ∧ ∀ r k, Led mv s r k → fd k = false) ∨
  ∃ (rr : Addr) (row : List V) (k : St2), v = .ref rr ∧ G rr = some (.lst row) ∧ H rr = none ∧ row.length ≤ 1000 ∧ Led mv s row k ∧ fd k = true ∧ ∀ r2 k2, Led mv s r2 k2 → fd k2 = true → row.length ≤ r2.length
abbrev nSh : List Str := ["start", "moves", "found", "rows", "state"]
theorem scSh : FnScope nSh ["start", "moves", "found"] (defScope (top 15)) := ⟨rfl, rfl, rfl, by decide +kernel, rfl, by decide +kernel, by decide +kernel⟩
def tShort (mkM mkF : Addr → NF) (jsM jsF : List Nat) (spM spF : List (Option V) → Sp) (t : TA) : TE := fun σ H Q => t σ H fun vs H1 => ∃ (t0 fM fF cM cF : Addr) (st : St2) (mv : St2 → List (V × St2)) (fd : St2 → Bool) (dom : List St2),
  vs = [.ref t0, .ref fM, .ref fF] ∧ Stands H1 fM (mkM cM) ∧ Stands H1 fF (mkF cF) ∧ Tells H1 mv fd dom (fun v G Q => spM (jsM.map (slotAt σ)) [v] G Q E0) (fun v G Q => spF (jsF.map (slotAt σ)) [v] G Q E0) ∧ H1 t0 = some (.tup (st.map kV)) ∧ st ∈ dom ∧
  ∀ (v : V) (G : Hp), Sm H1 G → ShOut mv fd st H1 G v → Q v G
theorem pe_short {X : Cx} {fR fS : Addr} {dR dS : FuncData} {mkM mkF : Addr → NF} {clM clF : List (Str × Addr)} {psM frM psF frF : List Str} {jsM jsF : List Nat} {spM spF : List (Option V) → Sp} {t : TA} {e1 e2 e3 : Expr} {p pos : Pos}
    (FR : FnP X.K "shortest_row" (top 15) fR dR) (gR : X.mg "shortest_row" = some (.ref fR)) (FS : FnP X.K "spread" (top 14) fS dS) (gS : X.mg "spread" = some (.ref fS)) (ml : X.mg "len" = none) (hg : Gl X "shortest_row") (hr : Room 3 X.A)
    (hM : ∀ c, (mkM c).cl = clM) (hF : ∀ c, (mkF c).cl = clF) (cpM : X.Ok → Caps X clM frM jsM) (cpF : X.Ok → Caps X clF frF jsF)
    (NM : ∀ f c, NOk X.prog X.w X.K X.mg X.base CX0 1 f (mkM c) psM frM spM) (NF_ : ∀ f c, NOk X.prog X.w X.K X.mg X.base CX0 1 f (mkF c) psF frF spF) (ha : PA X [e1, e2, e3] t)
    (he : starEach [e1, e2, e3] X.env = (false, eval e1 X.env) :: starEach [e2, e3] X.env := by rfl) (hpl : (backTo pos (starEach [e2, e3] X.env)).any (·.1) = false := by rfl) :
    PE X (.Call (.Name "shortest_row" p) [e1, e2, e3] [] pos) (tShort mkM mkF jsM jsF spM spF t) := by
  refine ⟨fun ps s σ H Q I h => ?_⟩
  refine wpAny_Call_Name_kw (ld_glob I hg gR ?_ (by decide))
  refine PySem.W.callWith_K (h₀ := X.base) I.ok.mod.kin FR.kp (thn (ha.run pos ps s σ H _ I h) fun us s2 ⟨vs, H2, I2, rr, t0, fM, fF, cM, cF, st, mv, fd, dom, ev, sM, sF, T, h0, d0, q⟩ => ⟨I2.kIn, ?_⟩) he hpl
  subst ev
  have bR := L2.FunD.bindsA (ps := ["start", "moves", "found"]) FR fun _ _ _ _ _ _ us hl => match us, hl with
    | [_, _, _], _ => rfl
  obtain ⟨oc, od, dV, kV, doc, pm2, an, cdv, ct, osl, rfl, lk2, hcd, _, _⟩ := FR.ex
  have hr2 : Room 2 (X.A.deeper (envOfC "shortest_row" (defScope (top 15)) s2.heap.objs.size fR cdv)) := hr.deeper _
  have hl : us.length = 3 := rr.length.symm
  have CM : CellsAt (mkM cM).cl frM (jsM.map (slotAt σ)) s2.heap H2 := by
    rw [hM]
    exact cells_of I2 (cpM I2.ok)
  have CF : CellsAt (mkF cF).cl frF (jsF.map (slotAt σ)) s2.heap H2 := by
    rw [hF]
    exact cells_of I2 (cpF I2.ok)
  show wpAny _ _ (call (.ref fR) us) _ _ _
  refine wpAny_call (codeAny_mono (run_ofS (CX := CX0) (N := nSh) (ps := ["start", "moves", "found"]) (us := us) (vs := [.ref t0, .ref fM, .ref fF]) (Q := Q) (E := E0) lk2 hcd scSh hr I2.env0 (bR s2 us hl) rr rfl fun _ => ?_) fun r s' hq => ?_)
  · refine ⟨_, PSs.nox (pss_cons (ps_asg (by exact (pe_spread (fM := fM) (fF := fF) (FM := mkM cM) (FF := mkF cF) (X := (cxOf CX0 X.prog X.w X.K X.mg X.base nSh "shortest_row" (defScope (top 15)) fR cdv X.A X.stack s2 H2 E0).nox) FS gS ml rfl hr2 CM CF rfl (NM fM cM) (NF_ fF cF) (pa_cons (pv 0) (pa_cons (pv 1) (pa_cons (pv 2) pa_nil)))))
        (pg_tup rfl (pgs_cons (pg_name (i := 3) scSh.nd rfl (.inl rfl)) (pgs_cons (pg_name (i := 4) scSh.nd rfl (.inl rfl)) pgs_nil))))
      (pss_one (ps_ret (pe_ifExp (pt_cmpR op_isN (pv 4) pe_non (nomark _)) pe_non (by exact (pe_dget (hu_of hr2) (pv 3) (pv 4) (fun _ _ => rfl))))))), ?_⟩
    refine ⟨_, rfl, _, rfl, _, rfl, t0, st, mv, fd, dom, rfl, sM, sF, T, h0, d0, fun tu G m ntu out => ?_⟩
    obtain ⟨ro, qu, qq, x, sp, ql, etu, out⟩ := out
    refine ⟨tu, _, rfl, .inl (.inl etu), rfl, _, _, rfl, _, _, rfl, rfl, ?_⟩
    rcases out with ⟨i, t, k, row, B, rfl, et, eq, ef⟩ | ⟨rfl, B⟩
    · obtain ⟨kvs, d1, d2, d3, d4⟩ := sp.dict
      obtain ⟨r, g1, g2, g3, g4⟩ := d4 (k, row) (List.mem_of_getElem? eq)
      have gr := DGet.t d1 et
      rw [g1] at gr
      have rl : row.length ≤ i := B.short i _ eq
      have il : i < qq.length := (List.getElem?_eq_some_iff.mp eq).1
      refine ⟨_, rfl, rfl, _, rfl, ?_⟩
      rw [show decide (V.ref t = V.non) = false from rfl]
      exact iteF ⟨_, rfl, _, rfl, ro, .ref r, rfl, gr, q (.ref r) G m (.inr ⟨r, row, k, rfl, g4, g3, by omega, B.led _ (List.mem_of_getElem? eq), ef, fun r2 k2 h f2 => B.least eq h f2⟩)⟩
    · refine ⟨_, rfl, rfl, _, rfl, ?_⟩
      rw [show decide (V.non = V.non) = true from rfl]
      exact iteT (q .non G m (.inl ⟨rfl, fun r k h => B.never h⟩))
  · cases r with
    | error e => exact hq.elim
    | ok fl =>
      cases fl with
      | ret u => exact I2.after hq
      | next => exact False.elim hq
      | brk => exact False.elim hq
      | cont => exact False.elim hq
end Dk
set_option Elab.async false
set_option linter.all false
set_option maxRecDepth 100000
set_option maxHeartbeats 4000000
namespace Dk
open PySem PySem.Spec PyProof.Rows L2 Er
/-! ### list(d.values()) -/
def tListVals (td : TE) : TE := fun σ H Q => td σ H fun x H1 => ∃ a kvs, x = .ref a ∧ H1 a = some (.dK kvs) ∧ ∀ q, H1 q = none → Q (.ref q) (upd H1 q (.lst (kvs.map (·.2))))
section
variable {X : Cx} {e : Expr} {td : TE} {apos cpos p pos : Pos}
theorem pe_listVals (hc : X.calm = true) (hg : Gl X "list") (hm : X.mg "list" = none) (he : PE X e td) (hbase : attributeBase e "values" X.env (eval e X.env) = eval e X.env := by rfl) (hline : (apos.endLine == cpos.line) = true := by rfl)
    (na : starEach [Expr.Call (.Attribute e "values" apos) [] [] cpos] X.env = (false, eval (Expr.Call (.Attribute e "values" apos) [] [] cpos) X.env) :: starEach [] X.env := by rfl) :
    PE X (.Call (.Name "list" p) [.Call (.Attribute e "values" apos) [] [] cpos] [] pos) (tListVals td) := by
  refine ⟨fun ps s σ H Q I h => ?_⟩
  refine Call_ (ld_blt I hg hm boot_list (PyProof.Rows.callWith_type1 (args_cons ?_ na) na))
  refine wpAny_Call_method (T := "dict") (id := "dict.values") hbase rfl hline F.plainAttrs_dict F.slot_dict_values F.type_dict_values (thn (he.run ps s σ H _ I h) fun u s1 ⟨x, H1, I1, rx, a, kvs, ex, ha, q⟩ => ?_)
  subst ex
  obtain rfl : u = Value.ref a := rx
  obtain ⟨z, lo, vs, kv, hd⟩ := (show ObjOk X.prog X.w H1 s1.heap a (.dK kvs) from I1.hok a _ ha)
  obtain ⟨ep, at_⟩ := hd.dictAt
  have hl : kvs.length = vs.length := Paired.length kv
  refine ⟨at_.dictOf.typeIs, at_.dictOf.mapOf.noDict, ?_⟩
  have I2 : Inv X ps σ H1 { s1 with heap := s1.heap.push { cls := .type "dict_values", data := .fields #[.ref a] } } := I1.kept (t' := s1.toks) fun b ob q => Heap.get?_push_of_some _ q
  have at2 : (s1.heap.push { cls := .type "dict_values", data := .fields #[.ref a] }).DictAt (mixKind X.prog X.w) a vs ep := at_.keep fun b u e => Heap.get?_push_of_some _ e
  show wpAny _ _ (callWith cpos (.builtin "dict.values") [.ref a] [] []) _ X.xe s1
  refine method_meetsIn F.slot_dict_values F.entry_dict_values rfl (PySem.evalArgs_none ⟨rfl, at_.dictOf.typeIs, F.args_dict_values_1 _, _, meets_dict_values (mixKind X.prog X.w) a lo, ⟨vs, hd⟩, args_nil ?_⟩)
  refine PySem.W.kdl_call (PySem.W.kdl_values (knd := mixKind X.prog X.w) (kvs := vs) (ep := ep)) (I1.ok.hd hc) ⟨⟨_, Heap.get?_push_size _ rfl, rfl, rfl⟩, at2⟩ (by rw [← hl]; exact z) fun g tk acc c2 k hS i => ?_
  refine ⟨.ref _, upd H1 _ (.lst (kvs.map (·.2))), I2.laid k (Nat.le_refl _) (show ObjOk X.prog X.w _ _ _ (.lst (kvs.map (·.2))) from ⟨?_, acc.toList, c2, ?_, ?_⟩), rfl, q _ (I2.hok.fresh (Nat.le_refl _))⟩
  · rw [List.length_map]
    exact z
  · have el : acc.toList.length = acc.size := by simp
    refine vals_of_at (by rw [List.length_map, el, i.1, hl]) fun j x w e1 e2 => ?_
    obtain ⟨ky, hky⟩ := i.2 j w (by rw [← Array.getElem?_toList]; exact e2)
    obtain ⟨x2, h1, h2⟩ := KV.at' kv hky
    rw [List.getElem?_map, h1] at e1
    cases Option.some.inj e1
    exact h2
  · rw [Array.toArray_toList]
    exact hS
end
end Dk
set_option linter.all false
namespace Ap
/-! ### which are told apart, and in how many steps -/
section
variable {S D V : Type} [DecidableEq S] [DecidableEq V]
def led (nx : S → D → S) (z : S) (r : List D) : S := r.foldl nx z
/-- a row of k deeds parts two -/
def Sep (nx : S → D → S) (si : S → V) (ds : List D) (z y : S) (k : Nat) : Prop := ∃ r : List D, r.length = k ∧ (∀ d ∈ r, d ∈ ds) ∧ si (led nx z r) ≠ si (led nx y r)
/-- k is the least such number -/
def Min (nx : S → D → S) (si : S → V) (ds : List D) (z y : S) (k : Nat) : Prop := Sep nx si ds z y k ∧ ∀ j, j < k → ¬ Sep nx si ds z y j
/-- no row of at most k deeds parts two -/
def Eq (nx : S → D → S) (si : S → V) (ds : List D) (k : Nat) (z y : S) : Prop := ∀ j, j ≤ k → ¬ Sep nx si ds z y j
variable {nx : S → D → S} {si : S → V} {ds : List D}
theorem sep_zero {z y : S} : Sep nx si ds z y 0 ↔ si z ≠ si y := by
  constructor
  · rintro ⟨r, e, _, h⟩
    have : r = [] := List.eq_nil_of_length_eq_zero e
    subst this
    exact h
  · exact fun h => ⟨[], rfl, (fun d hd => nomatch hd), h⟩
theorem sep_succ {z y : S} {k : Nat} : Sep nx si ds z y (k + 1) ↔ ∃ d ∈ ds, Sep nx si ds (nx z d) (nx y d) k := by
  constructor
  · rintro ⟨r, e, h1, h2⟩
    cases r with
    | nil => cases e
    | cons d r => exact ⟨d, h1 d List.mem_cons_self, r, by simpa using e, fun x hx => h1 x (List.mem_cons_of_mem _ hx), h2⟩
  · rintro ⟨d, hd, r, e, h1, h2⟩
    exact ⟨d :: r, by simp [e], fun x hx => by
      rcases List.mem_cons.mp hx with h | h
      · rw [h]
        exact hd
      · exact h1 x h, h2⟩
theorem sep_symm {z y : S} {k : Nat} (h : Sep nx si ds z y k) : Sep nx si ds y z k := by
  obtain ⟨r, e, h1, h2⟩ := h
  exact ⟨r, e, h1, fun x => h2 x.symm⟩
theorem sep_trans {z y x : S} {k : Nat} (h : Sep nx si ds z y k) : Sep nx si ds z x k ∨ Sep nx si ds x y k := by
  obtain ⟨r, e, h1, h2⟩ := h
  by_cases c : si (led nx z r) = si (led nx x r)
  · exact .inr ⟨r, e, h1, by rw [← c]; exact h2⟩
  · exact .inl ⟨r, e, h1, c⟩
theorem sep_self {z : S} {k : Nat} : ¬ Sep nx si ds z z k := fun ⟨_, _, _, h⟩ => h rfl
theorem min_one {z y : S} {k j : Nat} (a : Min nx si ds z y k) (b : Min nx si ds z y j) : k = j := by
  rcases Nat.lt_trichotomy k j with c | c | c
  · exact absurd a.1 (b.2 k c)
  · exact c
  · exact absurd b.1 (a.2 j c)
theorem min_some {z y : S} : ∀ {k : Nat}, Sep nx si ds z y k → ∃ j, j ≤ k ∧ Min nx si ds z y j := by
  intro k
  induction k using Nat.strongRecOn with
  | ind k ih =>
    intro h
    by_cases c : ∃ j, j < k ∧ Sep nx si ds z y j
    · obtain ⟨j, hj, s⟩ := c
      obtain ⟨i, hi, m⟩ := ih j hj s
      exact ⟨i, by omega, m⟩
    · exact ⟨k, Nat.le_refl _, h, fun j hj s => c ⟨j, hj, s⟩⟩
theorem min_succ {z y : S} {k : Nat} (h : Min nx si ds z y (k + 1)) : ∃ d ∈ ds, Min nx si ds (nx z d) (nx y d) k := by
  obtain ⟨d, hd, s⟩ := sep_succ.mp h.1
  exact ⟨d, hd, s, fun j hj s2 => h.2 (j + 1) (by omega) (sep_succ.mpr ⟨d, hd, s2⟩)⟩
/-- where some need more than m, some need m + 1 -/
theorem min_next {ws : List S} (cl : ∀ z ∈ ws, ∀ d ∈ ds, nx z d ∈ ws) {m : Nat} : ∀ {k : Nat} {z y : S}, z ∈ ws → y ∈ ws → m < k → Min nx si ds z y k → ∃ z2 ∈ ws, ∃ y2 ∈ ws, Min nx si ds z2 y2 (m + 1) := by
  intro k
  induction k with
  | zero => intro z y _ _ h
            exact absurd h (Nat.not_lt_zero _)
  | succ k ih =>
    intro z y hz hy hk hm
    by_cases c : m = k
    · subst c
      exact ⟨z, hz, y, hy, hm⟩
    · obtain ⟨d, hd, m2⟩ := min_succ hm
      exact ih (cl z hz d hd) (cl y hy d hd) (by omega) m2
/-! ### how many rounds there can be -/
theorem countP_lt {α : Type} {p q : α → Bool} : ∀ {l : List α}, (∀ x ∈ l, p x = true → q x = true) → (∃ x ∈ l, q x = true ∧ p x = false) → l.countP p < l.countP q
  | [], _, ⟨x, hx, _⟩ => nomatch hx
  | a :: l, h, ⟨x, hx, h1, h2⟩ => by
    have le : l.countP p ≤ l.countP q := List.countP_mono_left fun y hy => h y (List.mem_cons_of_mem _ hy)
    rw [List.countP_cons, List.countP_cons]
    rcases List.mem_cons.mp hx with e | e
    · subst e
      rw [h1, h2]
      simp
      omega
    · have ih := countP_lt (l := l) (fun y hy => h y (List.mem_cons_of_mem _ hy)) ⟨x, e, h1, h2⟩
      have ha := h a List.mem_cons_self
      cases pa : p a with
      | true =>
        rw [ha pa]
        simp
        omega
      | false =>
        cases q a <;> simp <;> omega
open Classical in
/-- the first of its lot -/
noncomputable def rep (nx : S → D → S) (si : S → V) (ds : List D) (ws : List S) (k : Nat) (i : Nat) : Bool := decide (∀ j x y, j < i → ws[j]? = some x → ws[i]? = some y → ¬ Eq nx si ds k x y)
open Classical in
theorem rep_iff {ws : List S} {k i : Nat} : rep nx si ds ws k i = true ↔ ∀ j x y, j < i → ws[j]? = some x → ws[i]? = some y → ¬ Eq nx si ds k x y := by
  unfold rep
  exact decide_eq_true_iff
theorem rep_not {ws : List S} {k i : Nat} : rep nx si ds ws k i = false ↔ ¬ ∀ j x y, j < i → ws[j]? = some x → ws[i]? = some y → ¬ Eq nx si ds k x y := by
  rw [← rep_iff (ws := ws) (k := k) (i := i)]
  cases rep nx si ds ws k i <;> simp
noncomputable def lots (nx : S → D → S) (si : S → V) (ds : List D) (ws : List S) (k : Nat) : Nat := (List.range ws.length).countP (rep nx si ds ws k)
theorem lots_le {ws : List S} {k : Nat} : lots nx si ds ws k ≤ ws.length := by
  have := List.countP_le_length (p := rep nx si ds ws k) (l := List.range ws.length)
  rw [List.length_range] at this
  exact this
theorem lots_some {ws : List S} {k : Nat} (h : 1 ≤ ws.length) : 1 ≤ lots nx si ds ws k := by
  refine List.countP_pos_iff.mpr ⟨0, List.mem_range.mpr h, ?_⟩
  rw [rep_iff]
  exact fun j x y hj => absurd hj (Nat.not_lt_zero _)
theorem eq_symm {k : Nat} {z y : S} (h : Eq nx si ds k z y) : Eq nx si ds k y z := fun j hj s => h j hj (sep_symm s)
theorem eq_trans {k : Nat} {z y x : S} (h : Eq nx si ds k z y) (g : Eq nx si ds k y x) : Eq nx si ds k z x := fun j hj s => by
  rcases sep_trans (x := y) s with a | a
  · exact h j hj a
  · exact g j hj a
theorem eq_less {k j : Nat} {z y : S} (h : Eq nx si ds k z y) (l : j ≤ k) : Eq nx si ds j z y := fun i hi => h i (Nat.le_trans hi l)
theorem eq_refl {k : Nat} {z : S} : Eq nx si ds k z z := fun _ _ => sep_self
/-- the first one that is like one -/
theorem rep_of {ws : List S} {k : Nat} {z : S} : ∀ {i : Nat}, ws[i]? = some z → ∃ (j : Nat) (x : S), j ≤ i ∧ ws[j]? = some x ∧ Eq nx si ds k x z ∧ rep nx si ds ws k j = true := by
  intro i
  induction i using Nat.strongRecOn generalizing z with
  | ind i ih =>
    intro e
    cases c : rep nx si ds ws k i with
    | true => exact ⟨i, z, Nat.le_refl _, e, eq_refl, c⟩
    | false =>
      rw [rep_not] at c
      have ⟨j, x, y, hj, e1, e2, q⟩ : ∃ j x y, j < i ∧ ws[j]? = some x ∧ ws[i]? = some y ∧ Eq nx si ds k x y := by
        refine Classical.byContradiction fun n => c fun j x y h1 h2 h3 h4 => n ⟨j, x, y, h1, h2, h3, h4⟩
      rw [e] at e2
      cases Option.some.inj e2
      obtain ⟨j2, x2, h1, h2, h3, h4⟩ := ih j hj e1
      exact ⟨j2, x2, by omega, h2, eq_trans h3 q, h4⟩
theorem lots_more {ws : List S} {k : Nat} {z y : S} (hz : z ∈ ws) (hy : y ∈ ws) (h : Min nx si ds z y (k + 1)) : lots nx si ds ws k < lots nx si ds ws (k + 1) := by
  refine countP_lt (fun i _ c => ?_) ?_
  · rw [rep_iff] at c ⊢
    exact fun j x y h1 h2 h3 h4 => c j x y h1 h2 h3 (eq_less h4 (Nat.le_succ _))
  · obtain ⟨i, hi⟩ := List.mem_iff_getElem?.mp hz
    obtain ⟨i2, hi2⟩ := List.mem_iff_getElem?.mp hy
    have zy : Eq nx si ds k z y := fun j hj => h.2 j (by omega)
    have nzy : ¬ Eq nx si ds (k + 1) z y := fun e => e (k + 1) (Nat.le_refl _) h.1
    obtain ⟨a, x, _, ea, ax, ra⟩ := rep_of (nx := nx) (si := si) (ds := ds) (k := k) hi
    -- one of both is no longer like x
    obtain ⟨v, iv, ev, vx, nvx⟩ : ∃ (v : S) (iv : Nat), ws[iv]? = some v ∧ Eq nx si ds k x v ∧ ¬ Eq nx si ds (k + 1) x v := by
      by_cases c : Eq nx si ds (k + 1) x z
      · exact ⟨y, i2, hi2, eq_trans ax zy, fun e => nzy (eq_trans (eq_symm c) e)⟩
      · exact ⟨z, i, hi, ax, c⟩
    obtain ⟨b, u, _, eb, bu, rb⟩ := rep_of (nx := nx) (si := si) (ds := ds) (k := k + 1) ev
    refine ⟨b, List.mem_range.mpr (List.getElem?_eq_some_iff.mp eb).1, rb, ?_⟩
    have xu : Eq nx si ds k x u := eq_trans vx (eq_symm (eq_less bu (Nat.le_succ _)))
    have nxu : x ≠ u := fun e => nvx (by rw [e]; exact bu)
    -- a stands ahead of b
    have ab : a < b := by
      rcases Nat.lt_trichotomy a b with c | c | c
      · exact c
      · subst c
        rw [ea] at eb
        exact absurd (Option.some.inj eb) nxu
      · rw [rep_iff] at ra
        exact absurd (eq_symm xu) (ra b u x c eb ea)
    rw [rep_not]
    exact fun f => f a x u ab ea eb xu
end
end Ap
set_option linter.all false
namespace Lo
/-! ### numbers in the sequence in which they are met -/
section
variable {S κ : Type} [DecidableEq κ]
def seen (f : S → κ) (ws : List S) : List κ := ws.foldl (fun acc z => if f z ∈ acc then acc else acc ++ [f z]) []
theorem seen_nil {f : S → κ} : seen f [] = [] := rfl
theorem seen_snoc {f : S → κ} {ws : List S} {z : S} : seen f (ws ++ [z]) = if f z ∈ seen f ws then seen f ws else seen f ws ++ [f z] := by
  unfold seen
  rw [List.foldl_append]
  rfl
theorem rev_ind {α : Type} {p : List α → Prop} (h0 : p []) (h1 : ∀ l a, p l → p (l ++ [a])) : ∀ l, p l := by
  intro l
  have : ∀ l : List α, p l.reverse := fun l => by
    induction l with
    | nil => exact h0
    | cons a l ih =>
      rw [List.reverse_cons]
      exact h1 _ _ ih
  have h := this l.reverse
  rw [List.reverse_reverse] at h
  exact h
theorem mem_seen0 {f : S → κ} {k : κ} : ∀ ws : List S, k ∈ seen f ws ↔ ∃ z ∈ ws, f z = k := by
  refine rev_ind ?_ fun ws a ih => ?_
  · rw [seen_nil]
    exact ⟨fun h => (List.not_mem_nil h).elim, fun ⟨_, h, _⟩ => (List.not_mem_nil h).elim⟩
  · rw [seen_snoc]
    by_cases c : f a ∈ seen f ws
    · rw [if_pos c, ih]
      refine ⟨fun ⟨z, hz, e⟩ => ⟨z, List.mem_append_left _ hz, e⟩, fun ⟨z, hz, e⟩ => ?_⟩
      rcases List.mem_append.mp hz with h | h
      · exact ⟨z, h, e⟩
      · rw [List.mem_singleton.mp h] at e
        exact ih.mp (e ▸ c)
    · rw [if_neg c, List.mem_append, ih]
      refine ⟨fun h => ?_, fun ⟨z, hz, e⟩ => ?_⟩
      · rcases h with ⟨z, hz, e⟩ | h
        · exact ⟨z, List.mem_append_left _ hz, e⟩
        · exact ⟨a, List.mem_append_right _ (List.mem_singleton.mpr rfl), (List.mem_singleton.mp h).symm⟩
      · rcases List.mem_append.mp hz with h | h
        · exact .inl ⟨z, h, e⟩
        · rw [List.mem_singleton.mp h] at e
          exact .inr (List.mem_singleton.mpr e.symm)
theorem mem_seen {f : S → κ} {k : κ} {ws : List S} : k ∈ seen f ws ↔ ∃ z ∈ ws, f z = k := mem_seen0 ws
theorem seen_more {f : S → κ} {ws : List S} : ∀ vs : List S, ∃ t, seen f (ws ++ vs) = seen f ws ++ t := by
  refine rev_ind ⟨[], by rw [List.append_nil, List.append_nil]⟩ fun vs a ⟨t, ih⟩ => ?_
  rw [← List.append_assoc, seen_snoc, ih]
  by_cases c : f a ∈ seen f ws ++ t
  · exact ⟨t, by rw [if_pos c]⟩
  · exact ⟨t ++ [f a], by rw [if_neg c, List.append_assoc]⟩
theorem seen_len0 {f : S → κ} : ∀ ws : List S, (seen f ws).length ≤ ws.length := by
  refine rev_ind (Nat.le_refl _) fun ws a ih => ?_
  rw [seen_snoc]
  by_cases c : f a ∈ seen f ws
  · rw [if_pos c, List.length_append]
    omega
  · rw [if_neg c, List.length_append, List.length_append]
    exact Nat.add_le_add_right ih _
theorem seen_len {f : S → κ} {ws : List S} : (seen f ws).length ≤ ws.length := seen_len0 ws
/-- the number of a thing -/
def num (f : S → κ) (ws : List S) (z : S) : Nat := (seen f ws).idxOf (f z)
theorem num_iff {f : S → κ} {ws : List S} {z y : S} (hz : z ∈ ws) (hy : y ∈ ws) : num f ws z = num f ws y ↔ f z = f y := by
  have mz : f z ∈ seen f ws := mem_seen.mpr ⟨z, hz, rfl⟩
  have my : f y ∈ seen f ws := mem_seen.mpr ⟨y, hy, rfl⟩
  refine ⟨fun h => ?_, fun h => by unfold num; rw [h]⟩
  have lz := List.idxOf_lt_length_of_mem mz
  have ly := List.idxOf_lt_length_of_mem my
  have e1 := List.getElem_idxOf lz
  have e2 := List.getElem_idxOf ly
  unfold num at h
  rw [← e1, ← e2]
  congr 1
theorem num_lt {f : S → κ} {ws : List S} {z : S} (hz : z ∈ ws) : num f ws z < (seen f ws).length := List.idxOf_lt_length_of_mem (mem_seen.mpr ⟨z, hz, rfl⟩)
theorem num_more {f : S → κ} {ws vs : List S} {z : S} (hz : z ∈ ws) : num f (ws ++ vs) z = num f ws z := by
  obtain ⟨t, e⟩ := seen_more (f := f) (ws := ws) vs
  unfold num
  rw [e, List.idxOf_append, if_pos (mem_seen.mpr ⟨z, hz, rfl⟩)]
theorem num_take {f : S → κ} {ws : List S} {i : Nat} {z : S} (hz : z ∈ ws.take i) : num f ws z = num f (ws.take i) z := by
  have e := num_more (f := f) (vs := ws.drop i) hz
  rw [List.take_append_drop] at e
  exact e
end
/-! ### how many there are -/
section
variable {S D V κ : Type} [DecidableEq S] [DecidableEq V] [DecidableEq κ] {nx : S → D → S} {si : S → V} {ds : List D} {h : S → κ} {ws : List S} {k : Nat}
theorem seen_lots (e : ∀ z ∈ ws, ∀ y ∈ ws, h z = h y ↔ Ap.Eq nx si ds k z y) : (seen h ws).length = Ap.lots nx si ds ws k := by
  have main : ∀ i, i ≤ ws.length → (seen h (ws.take i)).length = (List.range i).countP (Ap.rep nx si ds ws k) := by
    intro i
    induction i with
    | zero => intro _; rfl
    | succ i ih =>
      intro hi
      have ih := ih (by omega)
      have ei : ws[i]? = some (ws[i]'(by omega)) := List.getElem?_eq_getElem _
      generalize ws[i]'(by omega) = z at ei
      have tk : ws.take (i + 1) = ws.take i ++ [z] := by
        rw [List.take_add_one, ei]
        rfl
      have hz : z ∈ ws := List.mem_of_getElem? ei
      rw [tk, seen_snoc, List.range_succ, List.countP_append, ← ih]
      have one : (h z ∈ seen h (ws.take i)) ↔ Ap.rep nx si ds ws k i = false := by
        rw [mem_seen, Ap.rep_not]
        refine ⟨fun ⟨y, hy, e1⟩ g => ?_, fun g => ?_⟩
        · obtain ⟨j, hj, e2⟩ := List.mem_take_iff_getElem.mp hy
          have jl : j < i := by omega
          exact g j y z jl (by rw [List.getElem?_eq_getElem (by omega), e2]) ei ((e y (List.mem_of_mem_take hy) z hz).mp e1)
        · refine Classical.byContradiction fun n => g fun j x y hj e1 e2 q => ?_
          rw [ei] at e2
          cases Option.some.inj e2
          have hx : x ∈ ws := List.mem_of_getElem? e1
          exact n ⟨x, List.mem_take_iff_getElem.mpr ⟨j, by have := (List.getElem?_eq_some_iff.mp e1).1; omega, (List.getElem?_eq_some_iff.mp e1).2⟩, (e x hx z hz).mpr q⟩
      by_cases c : h z ∈ seen h (ws.take i)
      · rw [if_pos c, List.countP_cons, one.mp c]
        simp
      · rw [if_neg c, List.length_append, List.countP_cons]
        have : Ap.rep nx si ds ws k i = true := by
          cases r : Ap.rep nx si ds ws k i with
          | true => rfl
          | false => exact absurd (one.mpr r) c
        rw [this]
        simp
  have e := main ws.length (Nat.le_refl _)
  rw [List.take_length] at e
  exact e
/-- all are alone in their lots -/
theorem lots_all (nd : ws.Nodup) (full : Ap.lots nx si ds ws k = ws.length) {z y : S} (hz : z ∈ ws) (hy : y ∈ ws) (e : Ap.Eq nx si ds k z y) : z = y := by
  have all : ∀ i ∈ List.range ws.length, Ap.rep nx si ds ws k i = true := by
    refine List.countP_eq_length.mp ?_
    rw [List.length_range]
    exact full
  obtain ⟨i, hi⟩ := List.mem_iff_getElem?.mp hz
  obtain ⟨j, hj⟩ := List.mem_iff_getElem?.mp hy
  have il := (List.getElem?_eq_some_iff.mp hi).1
  have jl := (List.getElem?_eq_some_iff.mp hj).1
  have ri := Ap.rep_iff.mp (all i (List.mem_range.mpr il))
  have rj := Ap.rep_iff.mp (all j (List.mem_range.mpr jl))
  rcases Nat.lt_trichotomy i j with c | c | c
  · exact absurd e (rj i z y c hi hj)
  · rw [c, hj] at hi
    exact (Option.some.inj hi).symm
  · exact absurd (Ap.eq_symm e) (ri j y z c hj hi)
/-- one step further -/
theorem eq_succ {z y : S} : Ap.Eq nx si ds (k + 1) z y ↔ Ap.Eq nx si ds k z y ∧ ∀ d ∈ ds, Ap.Eq nx si ds k (nx z d) (nx y d) := by
  constructor
  · intro h
    exact ⟨fun j hj => h j (by omega), fun d hd j hj s => h (j + 1) (by omega) (Ap.sep_succ.mpr ⟨d, hd, s⟩)⟩
  · rintro ⟨h0, h1⟩ j hj s
    cases j with
    | zero => exact h0 0 (Nat.zero_le _) s
    | succ j =>
      obtain ⟨d, hd, s2⟩ := Ap.sep_succ.mp s
      exact h1 d hd j (by omega) s2
theorem eq_zero {z y : S} : Ap.Eq nx si ds 0 z y ↔ si z = si y := by
  constructor
  · intro h
    exact Classical.byContradiction fun n => h 0 (Nat.le_refl _) (Ap.sep_zero.mpr n)
  · intro e j hj s
    have : j = 0 := by omega
    subst this
    exact Ap.sep_zero.mp s e
/-- where no lots are parted any more, none are parted ever -/
theorem eq_still (cl : ∀ z ∈ ws, ∀ d ∈ ds, nx z d ∈ ws) (st : Ap.lots nx si ds ws (k + 1) ≤ Ap.lots nx si ds ws k) {z y : S} (hz : z ∈ ws) (hy : y ∈ ws) : Ap.Eq nx si ds (k + 1) z y ↔ ∀ j, ¬ Ap.Sep nx si ds z y j := by
  constructor
  · intro e j s
    obtain ⟨i, _, m⟩ := Ap.min_some s
    by_cases c : i ≤ k + 1
    · exact e i c m.1
    · obtain ⟨z2, hz2, y2, hy2, m2⟩ := Ap.min_next cl (m := k) hz hy (by omega) m
      have := Ap.lots_more (ws := ws) hz2 hy2 m2
      omega
  · exact fun h j _ => h j
theorem eq_alone (nd : ws.Nodup) (full : Ap.lots nx si ds ws k = ws.length) {z y : S} (hz : z ∈ ws) (hy : y ∈ ws) : Ap.Eq nx si ds k z y ↔ ∀ j, ¬ Ap.Sep nx si ds z y j := by
  constructor
  · intro e j s
    rw [lots_all nd full hz hy e] at s
    exact Ap.sep_self s
  · exact fun h j _ => h j
end
end Lo
set_option Elab.async false
set_option linter.all false
set_option maxRecDepth 100000
set_option maxHeartbeats 4000000
namespace Dk
open PySem PySem.Spec PyProof.Rows L2 Er
/-! ### setdefault by tuples; len(set(..)) of ints; tables of numbers -/
/-- each thing's place -/
def tabOf {κ : Type} (l : List κ) : List (κ × V) := l.mapIdx fun i k => (k, V.int ((i : Nat) : Int))
section
variable {κ : Type} [DecidableEq κ] {l : List κ} {k : κ} {v : V}
theorem tab_len : (tabOf l).length = l.length := by
  unfold tabOf
  rw [List.length_mapIdx]
theorem tab_snoc : tabOf (l ++ [k]) = tabOf l ++ [(k, V.int ((l.length : Nat) : Int))] := by
  unfold tabOf
  rw [List.mapIdx_concat]
theorem val_snoc {kvs : List (κ × V)} : valV (kvs ++ [(k, v)]) k = (valV kvs k).or (some v) := by
  unfold valV
  rw [List.find?_append, List.find?_cons_of_pos (by exact decide_eq_true rfl)]
  cases List.find? (fun kv => decide (kv.1 = k)) kvs <;> rfl
theorem val_snoc_ne {kvs : List (κ × V)} {j : κ} (n : j ≠ k) : valV (kvs ++ [(j, v)]) k = valV kvs k := by
  unfold valV
  rw [List.find?_append, List.find?_cons_of_neg (by simpa using n)]
  cases List.find? (fun kv => decide (kv.1 = k)) kvs <;> rfl
theorem tab_out0 : ∀ l : List κ, k ∉ l → valV (tabOf l) k = none := by
  refine Lo.rev_ind (fun _ => rfl) fun l a ih n => ?_
  rw [tab_snoc, val_snoc_ne (fun e => n (List.mem_append_right _ (List.mem_singleton.mpr e.symm)))]
  exact ih fun h => n (List.mem_append_left _ h)
theorem tab_out (n : k ∉ l) : valV (tabOf l) k = none := tab_out0 l n
theorem tab_in0 : ∀ l : List κ, k ∈ l → valV (tabOf l) k = some (V.int ((l.idxOf k : Nat) : Int)) := by
  refine Lo.rev_ind (fun h => (List.not_mem_nil h).elim) fun l a ih h => ?_
  rw [tab_snoc, List.idxOf_append]
  by_cases c : k ∈ l
  · rw [if_pos c]
    by_cases e : a = k
    · subst e
      rw [val_snoc, ih c]
      rfl
    · rw [val_snoc_ne e, ih c]
  · have e : k = a := List.mem_singleton.mp ((List.mem_append.mp h).resolve_left c)
    subst e
    rw [if_neg c, val_snoc, tab_out c]
    show some _ = some _
    congr 2
    simp
theorem tab_in (h : k ∈ l) : valV (tabOf l) k = some (V.int ((l.idxOf k : Nat) : Int)) := tab_in0 l h
theorem tab_put (n : k ∉ l) : putK (tabOf l) k (V.int ((l.length : Nat) : Int)) = tabOf (l ++ [k]) := by
  rw [tab_snoc]
  unfold putK
  rw [valV_any, tab_out n]
  rfl
end
/-- d.setdefault(y, z), d by tuples -/
def tDSetT (td ty tx : TE) : TE := fun σ H Q => td σ H fun x H1 => ∃ a, x = .ref a ∧ IsD H1 a ∧ ty σ H1 fun y H2 => tx σ H2 fun z H3 => ∃ (kvs : List (List Key × V)) (k : List Key) (b : Addr), y = .ref b ∧ H3 a = some (.dT kvs) ∧ H3 b = some (.tup (k.map kV)) ∧ kvs.length < sizeLine ∧
  (∀ v, valV kvs k = some v → Q v H3) ∧ (valV kvs k = none → Q z (upd H3 a (.dT (putK kvs k z))))
section
variable {X : Cx} {o e f : Expr} {td ty tx : TE} {apos cpos : Pos}
theorem pe_dsetT (hu : X.A.units + 1 < cLine) (ho : PE X o td) (he : PE X e ty) (hf : PE X f tx) (m : M2 X o "setdefault" apos e f cpos) : PE X (.Call (.Attribute o "setdefault" apos) [e, f] [] cpos) (tDSetT td ty tx) := by
  refine ⟨fun pins s σ H Q I h => wpAny_Call_method m.base m.few m.line PySem.F.plainAttrs_dict PySem.F.slot_dict_setdefault PySem.F.type_dict_setdefault (thn (ho.run pins s σ H _ I h) fun u s1 ⟨x, H1, I1, rx, a, ex, d, q1⟩ => ?_)⟩
  subst ex
  obtain rfl : u = Value.ref a := rx
  obtain ⟨t1, t2, _⟩ := isD_at I1 d
  refine ⟨t1, t2, ?_⟩
  rw [m.trees]
  refine Calls.callWith_builtin rfl (Calls.evalArgs_plain (Calls.spliced_cons (thn (he.run pins s1 σ H1 _ I1 q1) fun iv s2 ⟨y, H2, I2, ry, q2⟩ => Calls.spliced_cons (thn (hf.run pins s2 σ H2 _ I2 q2) fun fv s3 ⟨z, H3, I3, rz, kvs, k, b, ey, ea, eb, hl, q3, q4⟩ => Calls.spliced_nil ?_))))
  subst ey
  cases (show iv = Value.ref b from ry)
  obtain ⟨zz, hd, xs, rel, dd⟩ := dt_of I3.hok ea
  refine call_setdefault_heap (knd := tupleKind (mixKind X.prog X.w)) (tupleKind_room_in1 hu) (key_of I3.hok eb) hd dd (fun p hp => ?_) (fun hn h' dd' hs => ?_) (hsz := by rw [← Paired.length rel]; exact zz)
  · have r := rel.val k
    rw [hp] at r
    cases ev : valV kvs k with
    | none =>
      rw [ev] at r
      exact (show False from r).elim
    | some v =>
      rw [ev] at r
      exact ⟨v, H3, I3.tok _, r, q3 v ev⟩
  · have r := rel.val k
    rw [hn] at r
    cases ev : valV kvs k with
    | some v =>
      rw [ev] at r
      exact (show False from r).elim
    | none =>
      have hl2 : (putK kvs k z).length ≤ sizeLine := by
        have := length_putK kvs k z
        omega
      obtain ⟨q, es, ep, hq, h2, h3, h4, _, h5⟩ := dd'
      refine ⟨z, _, d_write (ob := .dT (putK kvs k z)) I3 (by rw [ea]; exact True.intro) hs ⟨q, hq⟩ ⟨hl2, hd, _, (rel.put k eb rz).keeps fun c ys ec => ?_, q, es, ep, hq, h2, h3, h4, h5⟩, rz, q4 ev⟩
      rw [upd_ne (ne_of ec ea (fun w => nomatch w))]
      exact ec
end
/-! ### len(set(xs)) of ints -/
theorem met_seen (ns : List Int) : ∀ i, i ≤ ns.length → firstMet (fun i => ns.getD i 0) i = Lo.seen id (ns.take i)
  | 0, _ => rfl
  | i + 1, hi => by
    have ei : ns[i]? = some (ns[i]'hi) := List.getElem?_eq_getElem _
    have ed : ns.getD i 0 = ns[i]'hi := by
      rw [List.getD_eq_getElem?_getD, ei]
      rfl
    have tk : ns.take (i + 1) = ns.take i ++ [ns[i]'hi] := by
      rw [List.take_add_one, ei]
      rfl
    rw [firstMet_succ, met_seen ns i (by omega), tk, Lo.seen_snoc, ed]
    unfold step_dedup
    by_cases c : ns[i]'hi ∈ Lo.seen id (ns.take i)
    · rw [if_pos (show id (ns[i]'hi) ∈ _ from c), if_pos (List.any_eq_true.mpr ⟨_, c, by simp⟩)]
    · rw [if_neg (show ¬ id (ns[i]'hi) ∈ _ from c), if_neg (fun h => by
        obtain ⟨x, hx, e⟩ := List.any_eq_true.mp h
        exact c ((by simpa using e : x = _) ▸ hx))]
      rfl
def tLenNums (K : PySem.W.Frag) (ta : TE) : TE := fun σ H Q => ta σ H fun x H1 => ∃ (l : Addr) (ns : List Int), x = .ref l ∧ SqL K H1 l (ns.map V.int) ∧ ns.length ≤ 1000 ∧ Q (.int ((Lo.seen id ns).length : Nat)) H1
theorem pe_lenNums {X : Cx} {a : Expr} {ta : TE} {p p2 q pos : Pos} (hc : X.calm = true) (hg : Gl X "len") (hm : X.mg "len" = none) (hg2 : Gl X "set") (hm2 : X.mg "set" = none) (ha : PE X a ta)
    (na : starEach [a] X.env = (false, eval a X.env) :: starEach [] X.env := by rfl) : PE X (.Call (.Name "len" p) [.Call (.Name "set" p2) [a] [] q] [] pos) (tLenNums X.K ta) := by
  refine ⟨fun pins s σ H Q I h => Call_ (ld_blt I hg hm PySem.boot_len ?_)⟩
  refine PyProof.Rows.callWith_builtin1 (PyProof.Rows.args_cons ?_ rfl) rfl rfl
  refine Call_ (ld_blt I hg2 hm2 PyProof.Rows.boot_set ?_)
  refine PyProof.Rows.callWith_type1 (PyProof.Rows.args_cons (thn (ha.run pins s σ H _ I h) fun v s1 ⟨x, H1, I1, r1, l, ns, ex, hq, few, q1⟩ => PyProof.Rows.args_nil ?_) na) na rfl
  subst ex
  cases r1
  obtain ⟨its, r, pl, _⟩ := I1.list hq
  have hn : its.toArray.size = ns.length := by rw [List.size_toArray, ← r.length, List.length_map]
  refine call_set_list (I1.ok.hd hc) pl.isList (ns := ns) (by simpa using RZ.intsAre_vals r) (by unfold scanBound; omega) fun h2 tk got keep => ?_
  refine PyProof.Rows.args_nil ?_
  rw [hn, met_seen ns ns.length (Nat.le_refl _), List.take_length] at got
  obtain ⟨o, es, ep, t, ho, hex, hd, _, _, _, hf, hn2⟩ := got
  have le := Lo.seen_len (f := id) (ws := ns)
  have I2 : L2.Inv X pins σ H1 { s1 with heap := h2, toks := tk } := I1.kept fun b o e => keep b o (Heap.lt_size e) e
  refine call_len_set ho hex hd hf (by rw [hn2] <;> omega) ⟨.int ((Lo.seen id ns).length : Nat), H1, I2.tok _, ⟨_, by rw [hn2]⟩, q1⟩
end Dk
set_option Elab.async false
set_option linter.all false
set_option maxRecDepth 100000
set_option maxHeartbeats 8000000
namespace Dk
open PySem PySem.Spec PyProof.Rows L2 Er LamX NdefX
open PySem.ErK (EC)
def pr (z y : Str) : St2 := [.inr z, .inr y]
def look (ns ls : List Str) (z : Str) : Str := ls.getD (ns.idxOf z) ⟨#[]⟩
theorem look_at {ns ls : List Str} {z : Str} (e : ls.length = ns.length) (hz : z ∈ ns) : valV (dkv ns (ls.map V.str)) (.inr z) = some (.str (look ns ls z)) := by
  have il := idx_lt hz
  rw [dkv_get (by rw [List.length_map, e]) hz, List.getElem?_map]
  unfold look
  rw [List.getD_eq_getElem?_getD, List.getElem?_eq_getElem (by omega)]
  rfl
def fdP (lk : Str → Str) : St2 → Bool
  | [.inr z, .inr y] => decide (lk z ≠ lk y)
  | _ => false
structure MvAt (H : Hp) (mo : Addr) (ns ds : List Str) (bs : List Addr) (nx : Str → Str → Str) : Prop where
  at_ : H mo = some (.dK (dkv ns (bs.map V.ref)))
  rows : Paired (fun b z => b ≠ mo ∧ H b = some (.dK (dkv ds ((ds.map (nx z)).map V.str)))) bs ns
  few : ns.length ≤ 9
  deeds : ds.length ≤ 4
  dnd : ds.Nodup
theorem MvAt.sm {H G : Hp} {mo : Addr} {ns ds : List Str} {bs : List Addr} {nx : Str → Str → Str} (m : MvAt H mo ns ds bs nx) (s : Sm H G) : MvAt G mo ns ds bs nx := ⟨s _ _ m.at_, pair_mono m.rows fun b _ z e => ⟨e.1, s _ _ e.2⟩, m.few, m.deeds, m.dnd⟩
theorem MvAt.row {H : Hp} {mo : Addr} {ns ds : List Str} {bs : List Addr} {nx : Str → Str → Str} (m : MvAt H mo ns ds bs nx) {z : Str} (hz : z ∈ ns) : ∃ b, valV (dkv ns (bs.map V.ref)) (.inr z) = some (.ref b) ∧ b ≠ mo ∧ H b = some (.dK (dkv ds ((ds.map (nx z)).map V.str))) := by
  have bl : bs.length = ns.length := paired_len m.rows
  have il := idx_lt hz
  have e1 : bs[ns.idxOf z]? = some (bs[ns.idxOf z]'(by omega)) := List.getElem?_eq_getElem _
  obtain ⟨z2, e2, e3⟩ := pair_at m.rows e1
  rw [List.getElem?_eq_getElem il, List.getElem_idxOf il] at e2
  cases Option.some.inj e2
  exact ⟨_, by rw [dkv_get (by rw [List.length_map, bl]) hz, List.getElem?_map, e1]; rfl, e3⟩
theorem row_at {ds : List Str} {f : Str → Str} {d : Str} (hd : d ∈ ds) : valV (dkv ds ((ds.map f).map V.str)) (.inr d) = some (.str (f d)) := by
  rw [look_at (by rw [List.length_map]) hd]
  unfold look
  have il := idx_lt hd
  rw [List.getD_eq_getElem?_getD, List.getElem?_map, List.getElem?_eq_getElem il, List.getElem_idxOf il]
  rfl
theorem Rd.sm {H G : Hp} {a : Addr} {u : HO} (r : Rd H a u) (m : Sm H G) : Rd G a u := by
  rcases r with h | ⟨o, h⟩
  · exact .inl (m _ _ h)
  · exact .inr ⟨o, m _ _ h⟩
def pairs (ns : List Str) : List St2 := ns.flatMap fun z => ns.map fun y => pr z y
theorem pairs_mem {ns : List Str} {k : St2} : k ∈ pairs ns ↔ ∃ z ∈ ns, ∃ y ∈ ns, k = pr z y := by
  unfold pairs
  rw [List.mem_flatMap]
  constructor
  · rintro ⟨z, hz, h⟩
    obtain ⟨y, hy, rfl⟩ := List.mem_map.mp h
    exact ⟨z, hz, y, hy, rfl⟩
  · rintro ⟨z, hz, y, hy, rfl⟩
    exact ⟨z, hz, List.mem_map.mpr ⟨y, hy, rfl⟩⟩
theorem flat_len {α β : Type} (f : α → List β) (m : Nat) : ∀ {l : List α}, (∀ x ∈ l, (f x).length ≤ m) → (l.flatMap f).length ≤ l.length * m
  | [], _ => Nat.zero_le _
  | x :: l, h => by
    have ih := flat_len f m (l := l) fun y hy => h y (List.mem_cons_of_mem _ hy)
    have hx := h x List.mem_cons_self
    rw [List.flatMap_cons, List.length_append, List.length_cons, Nat.succ_mul]
    omega
theorem pairs_few {ns : List Str} (h : ns.length ≤ 9) : (pairs ns).length ≤ 1000 := by
  have z := flat_len (fun z => ns.map fun y => pr z y) 9 (l := ns) fun x _ => by
    rw [List.length_map]
    exact h
  unfold pairs
  omega
/-! ### Desk.standings; desk_leads, desk_moves, desk_sights -/
def spStd (C : Addr) : Sp := fun vs H Q _ => ∃ (x dx st ld si : Addr), vs = [.ref x] ∧ H x = some (.ins C dx (fldsOf st ld si)) ∧ Q (.ref st) H
abbrev nSelf : List Str := ["self"]
theorem scStd : FnScope nSelf nSelf (defScope (meth 1)) := ⟨rfl, rfl, rfl, by decide +kernel, rfl, by decide +kernel, by decide +kernel⟩
/-- a dict comprehension over a dict's items -/
theorem dc_items {K : PySem.W.Frag} {d : Addr} {od : Obj} {kvs : List (Key × V)} {i j : Nat} {tk tv : TE} {σ : L2.St} {H1 : Hp} {Q : Addr → Hp → Prop} (w1 : ∀ v u, wipe ((((wipe σ [i, j]).set i (some v)).set j (some u))) [i, j] = wipe σ [i, j]) (Pv : Addr → Nat → Hp → Prop)
    (h0 : ∀ D, H1 D = none → Pv D 0 (upd H1 D (.dK []))) (hG : ∀ D n H, n ≤ kvs.length → Pv D n H → H d = some (.frz od (.dK kvs)))
    (hs : ∀ D n k v H H', H1 D = none → kvs[n]? = some (k, v) → Pv D n H → Sm H H' → tk (((wipe σ [i, j]).set i (some (kV k))).set j (some v)) H' fun y H4 => tv (((wipe σ [i, j]).set i (some (kV k))).set j (some v)) H4 fun z H5 => ∃ ks k2, y = kV k2 ∧ H5 D = some (.dK ks) ∧ ks.length < sizeLine ∧ Pv D (n + 1) (upd H5 D (.dK (putK ks k2 z))))
    (hd : ∀ D H, H1 D = none → Pv D kvs.length H → Q D H) : DcR (gTup K 2 (gCons (gName i) (gCons (gName j) gNil))) tk tv σ [i, j] H1 Q (Iti d od kvs) := by
  intro D nD
  have w := walk_items (d := d) (o := od) (kvs := kvs)
  refine ⟨fun n m H => m = kvs.length - n ∧ n ≤ kvs.length ∧ Pv D n H, ⟨kvs.length, rfl, Nat.zero_le _, h0 D nD⟩, ?_⟩
  rintro n m H ⟨rfl, hn, p⟩
  have q := hG D n H hn p
  by_cases lt : n < kvs.length
  · refine .inr ⟨w.goes n H lt q, Pv D (n + 1), fun H' p2 => ⟨kvs.length - (n + 1), by omega, rfl, lt, p2⟩, fun x H' y => ?_⟩
    obtain ⟨T, x1, x2, rfl, hT, rfl, e1, e2⟩ := w.yields n H x H' lt q y
    have ek : kvs[n]? = some (kvs[n]'lt) := List.getElem?_eq_getElem lt
    generalize kvs[n]'lt = kv at ek
    obtain ⟨k, v⟩ := kv
    have e1 : Option.map (fun kv : Key × V => kV kv.1) kvs[n]? = some x1 := e1
    have e2 : Option.map Prod.snd kvs[n]? = some x2 := e2
    rw [ek] at e1 e2
    have z1 : kV k = x1 := Option.some.inj (show some (kV k) = some x1 from e1)
    have z2 : v = x2 := Option.some.inj (show some v = some x2 from e2)
    subst z1 z2
    refine ⟨T, _, rfl, .inl (.inl upd_same), rfl, _, _, rfl, _, _, rfl, rfl, w1 _ _, ?_⟩
    unfold tYes
    dsimp only
    rw [if_pos rfl]
    exact hs D n k v H _ nD ek p (Sm.new hT)
  · have e : n = kvs.length := by omega
    subst e
    exact .inl ⟨w.stops H q, hd D H nD p⟩
def rDictD : List V → Hp → VK → Prop := fun xs H Q => ∃ (a : Addr) (kvs : List (Key × V)), xs = [.ref a] ∧ Rd H a (.dK kvs) ∧ ∀ p, H p = none → Q (.ref p) (upd H p (.dK kvs))
def spDl (K : PySem.W.Frag) (C : Addr) : Sp := fun vs H Q _ => ∃ (x : Addr) (ws ds : List Str) (tb : List (List Str)) (ls : List Str) (m : Nat), vs = [.ref x] ∧ DeskOb K C H x ws ds tb ls ∧ DkIs m ws ds tb ls ∧
  ∀ (q : Addr) (as : List Addr) H', Sm H H' → H q = none → H' q = some (.dK (dkv ds (as.map V.ref))) → Paired (fun a vs => a ≠ q ∧ H' a = some (.dK (dkv ws (vs.map V.str)))) as tb → Q (.ref q) H'
abbrev nDl : List Str := ["desk", "deed", "lead"]
theorem scDl : FnScope nDl ["desk"] (defScope (top 26)) := ⟨rfl, rfl, rfl, by decide +kernel, rfl, by decide +kernel, by decide +kernel⟩
/-- the dict of dicts that desk_moves tells -/
def spMv (K : PySem.W.Frag) (C : Addr) : Sp := fun vs H Q _ => ∃ (x : Addr) (ws ds : List Str) (tb : List (List Str)) (ls : List Str) (m : Nat), vs = [.ref x] ∧ DeskOb K C H x ws ds tb ls ∧ DkIs m ws ds tb ls ∧ m ≤ 9 ∧
  ∀ (q : Addr) (bs : List Addr) H', Sm H H' → H q = none → MvAt H' q ws ds bs (nxt ws ds tb) → Q (.ref q) H'
abbrev nMv : List Str := ["desk", "leads", "one", "deed"]
theorem scMv : FnScope nMv ["desk"] (defScope (top 27)) := ⟨rfl, rfl, rfl, by decide +kernel, rfl, by decide +kernel, by decide +kernel⟩
abbrev scMv1 : Scope := { kind := .function, names := [(".0", .local), ("one", .cell), ("leads", .cell)], isGenerator := false, isCoroutine := false }
def spSi (K : PySem.W.Frag) (C : Addr) : Sp := fun vs H Q _ => ∃ (x : Addr) (ws ds : List Str) (tb : List (List Str)) (ls : List Str) (m : Nat), vs = [.ref x] ∧ DeskOb K C H x ws ds tb ls ∧ DkIs m ws ds tb ls ∧ m ≤ 9 ∧
  ∀ (q : Addr) H', Sm H H' → H q = none → H' q = some (.dK (dkv ws (ls.map V.str))) → Q (.ref q) H'
abbrev nSi : List Str := ["desk", "standing"]
theorem scSi : FnScope nSi ["desk"] (defScope (top 28)) := ⟨rfl, rfl, rfl, by decide +kernel, rfl, by decide +kernel, by decide +kernel⟩
/-- Desk.sight of a standing -/
def spSight0 (K : PySem.W.Frag) (C : Addr) : Sp := fun vs H Q _ => ∃ (x : Addr) (z l : Str) (ws ds : List Str) (tb : List (List Str)) (ls : List Str), vs = [.ref x, .str z] ∧ DeskOb K C H x ws ds tb ls ∧ ls.length = ws.length ∧ z ∈ ws ∧ ls[ws.idxOf z]? = some l ∧ Q (.str l) H
section
variable {P : Program} {w : World} {K : PySem.W.Frag} {mg : Str → Option Value} {base : Heap} {f C fO fL fS pS gS : Addr} {fd dO dL dS dG : FuncData}
theorem ok_std (F : FunD K "standings" "Desk.standings" (defArgs (meth 1)) (defBody (meth 1)) (defScope (meth 1)) [] [] f fd) (hC : Cls K C) (n1 : NoAttr K C "_standings") : FnOk P w K mg base CX0 1 f fd nSelf (spStd C) := by
  refine F.ok (CX := CX0) scStd (fun vs H Q E h => ?_) (fun cdv A outer s H vs Q E hr h => ?_)
  · obtain ⟨x, dx, st, ld, si, rfl, _⟩ := h
    rfl
  · refine ⟨_, PSs.nox (pss_one (ps_ret (by exact (pe_fld (pv 0) rfl)))), ?_⟩
    obtain ⟨x, dx, st, ld, si, rfl, hx, q⟩ := h
    exact ⟨_, rfl, x, C, dx, _, _, rfl, hx, hC, n1, rfl, q⟩
theorem bStd (F : FunD K "standings" "Desk.standings" (defArgs (meth 1)) (defBody (meth 1)) (defScope (meth 1)) [] [] f fd) : Binds K fd nSelf [] := F.bindsN fun _ _ _ _ _ _ us hl => match us, hl with
  | [_], _ => rfl
theorem ok_sight0 (F : FunD K "sight" "Desk.sight" (defArgs (meth 5)) (defBody (meth 5)) (defScope (meth 5)) [] [] f fd) (hC : Cls K C) (n1 : NoAttr K C "_standings") (n3 : NoAttr K C "_sights")
    (GO : FnOk P w K mg base CX0 1 fO dO nOneOf (spOneOf K)) (FO : FnP K "is_one_of" (top 9) fO dO) (gO : mg "is_one_of" = some (.ref fO)) : FnOk P w K mg base CX0 2 f fd nSight (spSight0 K C) := by
  refine F.ok (CX := CX0) scSight (fun vs H Q E h => ?_) (fun cdv A outer s H vs Q E hr h => ?_)
  · obtain ⟨x, z, l, ws, ds, tb, ls, rfl, _⟩ := h
    rfl
  · refine ⟨_, PSs.nox (pss_cons (ps_if (pt_not (pt_val (by exact (pe_call GO hr rfl gO FO.kp (bOne FO) .nil pass0 (pa_cons (pv 1) (pa_cons (by exact (pe_fld (pv 0) rfl)) pa_nil)))))) (pss_one ps_never) pss_nil)
      (pss_one (ps_ret (by exact (pe_dget (hu_of hr) (by exact (pe_fld (pv 0) rfl)) (pv 1) (fun _ _ => rfl)))))), ?_⟩
    obtain ⟨x, z, l, ws, ds, tb, ls, rfl, ⟨dx, st, ld, si, as, hx, hst, hld, hsi, pr⟩, ll, hz, el, q⟩ := h
    refine ⟨_, rfl, _, rfl, x, C, dx, _, _, rfl, hx, hC, n1, rfl, .str z, st, rfl, .inl ⟨z, ws, rfl, .inr (.inl hst), _, rfl, ?_⟩⟩
    rw [decide_eq_true hz]
    refine iteF ⟨_, rfl, x, C, dx, _, _, rfl, hx, hC, n3, rfl, _, rfl, si, .str l, rfl, .inl ⟨_, .inr z, .inl hsi, rfl, ?_⟩, q⟩
    rw [dkv_get (by rw [List.length_map, ll]) hz, List.getElem?_map, el]
    rfl
theorem ok_dl (F : FnP K "desk_leads" (top 26) f fd) (hC : Cls K C) (n2 : NoAttr K C "_leads") (md : mg "dict" = none) : FnOk P w K mg base CX0 1 f fd ["desk"] (spDl K C) := by
  refine F.ok (CX := CX0) scDl (fun vs H Q E h => ?_) (fun cdv A outer s H vs Q E hr h => ?_)
  · obtain ⟨x, ws, ds, tb, ls, m, rfl, _⟩ := h
    rfl
  · refine ⟨_, PSs.nox (pss_one (ps_ret (pe_lock (by exact (pe_dc (own := [("deed", 1), ("lead", 2)]) (g := gTup K 2 (gCons (gName 1) (gCons (gName 2) gNil))) (tt := tYes) (tk := tVar 1) (tv := tCB rDictD (tCons (tVar 2) tNil)) rfl scDl.nd (pi_items (by exact (pe_fld (pv 0) rfl)))
      (blkOk_by (N := nDl) (sc := defScope (top 26)) (by decide +kernel)) (fun _ _ _ _ _ => by exact (pg_tup rfl (pgs_cons (pg_name (i := 1) scDl.nd rfl (Or.inl rfl)) (pgs_cons (pg_name (i := 2) scDl.nd rfl (Or.inl rfl)) pgs_nil)))) (fun _ _ _ _ _ => pts_nil) (fun _ _ _ _ _ => by exact (pv 1))
      (fun _ _ _ _ _ => by exact (pe_callTy call_dictD rfl md PyProof.Rows.boot_dict (pa_cons (by exact (pv 2)) pa_nil)))))))), ?_⟩
    obtain ⟨x, ws, ds, tb, ls, m, rfl, ⟨dx, st, ld, si, as, hx, hst, hld, hsi, pr⟩, is, q⟩ := h
    have al : as.length = ds.length := by rw [paired_len pr, is.rows]
    have d4 := is.dmost
    have kl : (dkv ds (as.map V.ref)).length = ds.length := dkv_len (by rw [List.length_map, al])
    refine ⟨ld, _, hld, True.intro, fun od => ?_⟩
    have lx : x ≠ ld := ne_of hx hld (fun z => nomatch z)
    have prL : Paired (fun a vs => a ≠ ld ∧ upd H ld (.frz od (.dK (dkv ds (as.map V.ref)))) a = some (.dK (dkv ws (vs.map V.str)))) as tb := paired_of (paired_len pr) fun j a vs e1 e2 => by
      obtain ⟨vs2, e3, e4⟩ := pair_at pr e1
      rw [e2] at e3
      have e5 := Option.some.inj e3
      subst e5
      have ne : a ≠ ld := fun z => by
        rw [z, hld] at e4
        exact dkv_ne is.some (is.row vs (List.mem_of_getElem? e2)).1 (HO.dK.inj (Option.some.inj e4)).symm
      exact ⟨ne, by rw [upd_ne ne]; exact e4⟩
    have xL : upd H ld (.frz od (.dK (dkv ds (as.map V.ref)))) x = some (.ins C dx (fldsOf st ld si)) := by
      rw [upd_ne lx]
      exact hx
    have dL : upd H ld (.frz od (.dK (dkv ds (as.map V.ref)))) ld = some (.frz od (.dK (dkv ds (as.map V.ref)))) := upd_same
    have unl : ∀ G, Sm (upd H ld (.frz od (.dK (dkv ds (as.map V.ref))))) G → Sm H (upd G ld (.dK (dkv ds (as.map V.ref)))) := fun G m => sm_unlock hld m
    generalize upd H ld (.frz od (.dK (dkv ds (as.map V.ref)))) = L at prL xL dL unl ⊢
    refine ⟨_, rfl, x, C, dx, _, _, rfl, xL, hC, n2, rfl, ld, od, _, rfl, dL, ?_⟩
    refine dc_items (fun _ _ => rfl) (fun D n G => ∃ es : List Addr, es.length = n ∧ G D = some (.dK (dkv (ds.take n) (es.map V.ref))) ∧ Paired (fun e vs => e ≠ D ∧ e ≠ ld ∧ G e = some (.dK (dkv ws (vs.map V.str)))) es (tb.take n) ∧ Sm L G)
      (fun D nD => ⟨[], rfl, upd_same, .nil, Sm.new nD⟩) (fun D n G _ ⟨_, _, _, _, m⟩ => m _ _ dL) (fun D n k v G G' nD ek p m => ?_) (fun D G nD p => ?_)
    · obtain ⟨es, el, eD, pe, mm⟩ := p
      obtain ⟨d, ed, rfl, ev⟩ := dkv_at ek
      obtain ⟨a, ea, rfl⟩ : ∃ a, as[n]? = some a ∧ v = .ref a := by
        rw [List.getElem?_map] at ev
        cases e : as[n]? with
        | none =>
          rw [e] at ev
          cases ev
        | some a =>
          rw [e] at ev
          exact ⟨a, rfl, (Option.some.inj ev).symm⟩
      obtain ⟨vs, et, an, ha⟩ := pair_at prL ea
      have m2 := mm.trans m
      refine ⟨_, rfl, _, rfl, a, _, rfl, .inl (m2 _ _ ha), fun e ne => ?_⟩
      have eD2 := m _ _ eD
      have De : D ≠ e := ne_of_none eD2 ne
      have m3 := Sm.new (o := .dK (dkv ws (vs.map V.str))) ne
      have il : n < ds.length := (List.getElem?_eq_some_iff.mp ed).1
      have tk : ds.take (n + 1) = ds.take n ++ [d] := by
        rw [List.take_add_one, ed]
        rfl
      have tt : tb.take (n + 1) = tb.take n ++ [vs] := by
        rw [List.take_add_one, et]
        rfl
      have l1 : es.length = (ds.take n).length := by
        rw [List.length_take]
        omega
      have eld : e ≠ ld := fun z => by
        rw [z, m2 _ _ dL] at ne
        cases ne
      refine ⟨_, .inr d, rfl, m3 _ _ eD2, by rw [dkv_len (by rw [List.length_map]; omega), List.length_take, sizeLine_eq]; omega, es ++ [e], by rw [List.length_append, el]; rfl, ?_, ?_, ?_⟩
      · rw [upd_same, put_dkv l1 (by rw [← tk]; exact is.dnd.sublist (List.take_sublist _ _)), tk]
      · rw [tt]
        refine pair_more (pair_mono pe fun b _ t eb => ⟨eb.1, eb.2.1, ?_⟩) ⟨Ne.symm De, eld, ?_⟩
        · rw [upd_ne eb.1]
          exact m3 _ _ (m _ _ eb.2.2)
        · rw [upd_ne (Ne.symm De)]
          exact upd_same
      · intro b o eb
        rw [upd_ne (ne_of_none eb nD)]
        exact m3 _ _ (m2 _ _ eb)
    · obtain ⟨es, el, eD, pe, mm⟩ := p
      rw [kl] at el eD pe
      rw [List.take_length] at eD
      rw [List.take_of_length_le (by rw [is.rows]; exact Nat.le_refl _)] at pe
      have Dl : D ≠ ld := fun z => by
        rw [z, dL] at nD
        cases nD
      refine ⟨mm _ _ dL, q D es _ (unl G mm) (none_of_sm (unl L (Sm.refl L)) (by rw [upd_ne Dl]; exact nD)) (by rw [upd_ne Dl]; exact eD) (pair_mono pe fun e _ vs h => ⟨h.1, by rw [upd_ne h.2.1]; exact h.2.2⟩)⟩
theorem bDl (F : FnP K "desk_leads" (top 26) f fd) : Binds K fd ["desk"] [] := F.bindsN fun _ _ _ _ _ _ us hl => match us, hl with
  | [_], _ => rfl
end

theorem put_dkvV {ds : List Str} {us : List V} {d : Str} {v : V} (e : us.length = ds.length) (nd : (ds ++ [d]).Nodup) : putK (dkv ds us) (.inr d) v = dkv (ds ++ [d]) (us ++ [v]) := by
  rw [put_new]
  · unfold dkv
    rw [List.map_append, List.zip_append (by rw [List.length_map, e])]
    rfl
  · rw [dkv_keys e.symm]
    intro z
    obtain ⟨x, hx, ex⟩ := List.mem_map.mp z
    have ex2 : x = d := Sum.inr.inj ex
    exact (List.nodup_append.mp nd).2.2 x hx d List.mem_cons_self ex2
/-- {k: e for k in d} -/
theorem dc_keysS {d : Addr} {od : Obj} {ds : List Str} {us : List V} {tv : TE} {fv : Str → V} {σ : L2.St} {i : Nat} {H1 : Hp} {Q : Addr → Hp → Prop} (hd : H1 d = some (.frz od (.dK (dkv ds us)))) (ul : us.length = ds.length) (nd : ds.Nodup) (hn : ds.length ≤ 1000)
    (w1 : ∀ v, wipe ((wipe σ [i]).set i (some v)) [i] = wipe σ [i]) (s1 : ∀ v, ((wipe σ [i]).set i (some v))[i]? = some (some v))
    (ev : ∀ (z : Str) (H2 : Hp) (Q : VK), z ∈ ds → Sm H1 H2 → Q (fv z) H2 → tv ((wipe σ [i]).set i (some (.str z))) H2 Q)
    (q : ∀ (D : Addr) (H2 : Hp), Sm H1 H2 → H1 D = none → H2 D = some (.dK (dkv ds (ds.map fv))) → Q D H2) : DcR (gName i) (tVar i) tv σ [i] H1 Q (Itk d od (dkv ds us)) := by
  have kl : (dkv ds us).length = ds.length := dkv_len ul
  refine dc_it walk_keys w1 (fun D j H => H D = some (.dK (dkv (ds.take j) ((ds.take j).map fv))) ∧ Sm H1 H) (fun D nD => ⟨upd_same, Sm.new nD⟩) (fun D j H _ p => p.2 _ _ hd) (fun D j x H H' nD hj p y => ?_) (fun D H nD p => ?_)
  · obtain ⟨ed, sm⟩ := p
    obtain ⟨rfl, k, v, ekv, rfl⟩ := y
    obtain ⟨z, ez, rfl, _⟩ := dkv_at ekv
    have tk : ds.take (j + 1) = ds.take j ++ [z] := by
      rw [List.take_add_one, ez]
      rfl
    refine ⟨_, s1 _, ev z _ _ (List.mem_of_getElem? ez) sm ⟨_, .inr z, rfl, ed, ?_, ?_, ?_⟩⟩
    · rw [dkv_len (by rw [List.length_map]), List.length_take, sizeLine_eq]
      omega
    · rw [upd_same, put_dkvV (by rw [List.length_map]) (by rw [← tk]; exact nd.sublist (List.take_sublist _ _)), tk, List.map_append]
      rfl
    · intro b o e
      rw [upd_ne (ne_of_none e nD)]
      exact sm _ _ e
  · obtain ⟨ed, sm⟩ := p
    rw [kl, List.take_length] at ed
    exact q D H sm nD ed
section
variable {P : Program} {w : World} {K : PySem.W.Frag} {mg : Str → Option Value} {base : Heap} {f C fO fL fS pS gS : Addr} {fd dO dL dS dG : FuncData}
theorem ok_mv (F : FnP K "desk_moves" (top 27) f fd) (hC : Cls K C) (PS_ : PropOf K C "standings" pS gS) (GG : FnOk P w K mg base CX0 1 gS dG nSelf (spStd C)) (bG : Binds K dG nSelf [])
    (GL : FnOk P w K mg base CX0 1 fL dL ["desk"] (spDl K C)) (FL : FnP K "desk_leads" (top 26) fL dL) (gL : mg "desk_leads" = some (.ref fL)) : FnOk P w K mg base CX0 3 f fd ["desk"] (spMv K C) := by
  refine F.ok (CX := CX0) scMv (fun vs H Q E h => ?_) (fun cdv A outer s H vs Q E hr h => ?_)
  · obtain ⟨x, ws, ds, tb, ls, m, rfl, _⟩ := h
    rfl
  · have hr1 := hr.mono (show 1 ≤ 2 by decide)
    refine ⟨_, PSs.nox (pss_cons (ps_set (i := 1) scMv.nd rfl (.inr rfl) (by exact (pe_call GL hr1 rfl gL FL.kp (bDl FL) .nil pass0 (pa_cons (pv 0) pa_nil))))
      (pss_one (ps_ret (by exact (pe_dc (own := [("one", 2)]) (g := gName 2) (tt := tYes) (tk := tVar 2) (tv := tLockE (tDc (iKeys (tVar 1)) (gName 3) tYes (tVar 3) (tDGet (tDGet (tVar 1) (tVar 3)) (tVar 2)) [3])) rfl scMv.nd (pi_seq (by exact (pe_prop (pv 0) hC PS_ GG hr bG .nil pass0 rfl)))
        (blkOk_by (N := nMv) (sc := defScope (top 27)) (by decide +kernel)) (fun _ _ _ _ _ => pg_name (i := 2) scMv.nd rfl (Or.inr rfl)) (fun _ _ _ _ _ => pts_nil) (fun _ _ _ _ _ => by exact (pv 2))
        (fun _ _ _ _ _ => by exact (pe_lock (by exact (pe_dc (own := [("deed", 3)]) (g := gName 3) (tt := tYes) (tk := tVar 3) (tv := tDGet (tDGet (tVar 1) (tVar 3)) (tVar 2)) rfl scMv.nd (pi_keys (by exact (pv 1)))
          (blkOk_by (N := nMv) (sc := scMv1) (by decide +kernel)) (fun _ _ _ _ _ => pg_name (i := 3) scMv.nd rfl (Or.inl rfl)) (fun _ _ _ _ _ => pts_nil) (fun _ _ _ _ _ => by exact (pv 3))
          (fun _ _ _ _ _ => by exact (pe_dget (hu_of hr) (by exact (pe_dget (hu_of hr) (by exact (pv 1)) (by exact (pv 3)) (fun _ _ => rfl))) (by exact (pv 2)) (fun _ _ => rfl)))))))))))), ?_⟩
    obtain ⟨x, ws, ds, tb, ls, m, rfl, ob, is, m9, q⟩ := h
    refine ⟨_, rfl, x, ws, ds, tb, ls, m, rfl, ob, is, fun lq as H1 m1 nq e1 pr1 => ?_⟩
    obtain ⟨dx, st, ld, si, as0, hx, hst, hld, hsi, _⟩ := ob.sm m1
    have al : as.length = ds.length := by rw [paired_len pr1, is.rows]
    have d4 := is.dmost
    have w9 := is.most
    refine ⟨_, rfl, x, dx, _, rfl, hx, x, dx, st, ld, si, rfl, hx, st, ws.map V.str, rfl, .inr ⟨hst, ?_⟩⟩
    refine dc_it walk_tup (fun _ => rfl) (fun D j G => ∃ bs : List Addr, bs.length = j ∧ G D = some (.dK (dkv (ws.take j) (bs.map V.ref))) ∧ Paired (fun b z => b ≠ D ∧ G b = some (.dK (dkv ds ((ds.map (nxt ws ds tb z)).map V.str)))) bs (ws.take j) ∧ Sm H1 G)
      (fun D nD => ⟨[], rfl, upd_same, .nil, Sm.new nD⟩) (fun D j G _ ⟨_, _, _, _, mm⟩ => SqT.sm hst mm) (fun D j x0 G G' nD hj p y => ?_) (fun D G nD p => ?_)
    · obtain ⟨bs, bl, eD, pb, mm⟩ := p
      obtain ⟨rfl, ex⟩ := y
      obtain ⟨z, ez, rfl⟩ : ∃ z, ws[j]? = some z ∧ x0 = .str z := by
        rw [List.getElem?_map] at ex
        cases e : ws[j]? with
        | none =>
          rw [e] at ex
          cases ex
        | some d =>
          rw [e] at ex
          exact ⟨d, rfl, (Option.some.inj ex).symm⟩
      have hz := List.mem_of_getElem? ez
      have eG := mm _ _ e1
      refine ⟨_, rfl, lq, _, eG, True.intro, fun od => ⟨_, rfl, lq, od, rfl, .inl ⟨_, upd_same, ?_⟩⟩⟩
      have prL : Paired (fun a vs => upd G' lq (.frz od (.dK (dkv ds (as.map V.ref)))) a = some (.dK (dkv ws (vs.map V.str)))) as tb := pair_mono pr1 fun a _ vs e => by
        rw [upd_ne e.1]
        exact mm _ _ e.2
      have lL : upd G' lq (.frz od (.dK (dkv ds (as.map V.ref)))) lq = some (.frz od (.dK (dkv ds (as.map V.ref)))) := upd_same
      have Dlq : D ≠ lq := fun z => by
        rw [z, e1] at nD
        cases nD
      have unl : ∀ G2, Sm (upd G' lq (.frz od (.dK (dkv ds (as.map V.ref))))) G2 → Sm G' (upd G2 lq (.dK (dkv ds (as.map V.ref)))) := fun G2 m => sm_unlock eG m
      generalize upd G' lq (.frz od (.dK (dkv ds (as.map V.ref)))) = L at prL lL unl ⊢
      refine dc_keysS (fv := fun d => .str (nxt ws ds tb z d)) lL (by rw [List.length_map, al]) is.dnd (by omega) (fun _ => rfl) (fun _ => rfl) (fun d G2 Q2 hd m2 q2 => ?_) (fun e G2 m2 ne ee => ?_)
      · obtain ⟨a, b1, b2, _⟩ := ob_step (pair_mono prL fun a _ vs e => m2 _ _ e) is hd hz
        exact ⟨_, rfl, _, rfl, lq, .ref a, rfl, .inl ⟨_, .inr d, .inr ⟨od, m2 _ _ lL⟩, rfl, b1.symm⟩, _, rfl, a, _, rfl, b2, q2⟩
      · have mu := unl G2 m2
        have eD2 := mu _ _ eD
        have elq : e ≠ lq := fun z => by
          rw [z, lL] at ne
          cases ne
        have ee2 : upd G2 lq (.dK (dkv ds (as.map V.ref))) e = some (.dK (dkv ds ((ds.map (nxt ws ds tb z)).map V.str))) := by
          rw [upd_ne elq, ee, List.map_map]
          rfl
        have neG : G' e = none := none_of_sm (unl L (Sm.refl L)) (by rw [upd_ne elq]; exact ne)
        have eDe : e ≠ D := fun z => by
          rw [z, eD] at neG
          cases neG
        refine ⟨m2 _ _ lL, ?_⟩
        generalize upd G2 lq (.dK (dkv ds (as.map V.ref))) = G3 at mu eD2 ee2 ⊢
        have jl : j < ws.length := (List.getElem?_eq_some_iff.mp ez).1
        have tk : ws.take (j + 1) = ws.take j ++ [z] := by
          rw [List.take_add_one, ez]
          rfl
        have l1 : bs.length = (ws.take j).length := by
          rw [List.length_take]
          omega
        refine ⟨_, .inr z, rfl, eD2, by rw [dkv_len (by rw [List.length_map]; omega), List.length_take, sizeLine_eq]; omega, bs ++ [e], by rw [List.length_append, bl]; rfl, ?_, ?_, ?_⟩
        · rw [upd_same, put_dkv l1 (by rw [← tk]; exact is.nd.sublist (List.take_sublist _ _)), tk]
        · rw [tk]
          refine pair_more (pair_mono pb fun b _ t eb => ⟨eb.1, ?_⟩) ⟨eDe, ?_⟩
          · rw [upd_ne eb.1]
            exact mu _ _ eb.2
          · rw [upd_ne eDe]
            exact ee2
        · intro b o eb
          rw [upd_ne (ne_of_none eb nD)]
          exact mu _ _ (mm _ _ eb)
    · obtain ⟨bs, bl, eD, pb, mm⟩ := p
      rw [List.length_map, List.take_length] at eD pb
      exact q D bs G (m1.trans mm) (none_of_sm m1 nD) ⟨eD, pb, by omega, d4, is.dnd⟩
theorem ok_si (F : FnP K "desk_sights" (top 28) f fd) (hC : Cls K C) (PS_ : PropOf K C "standings" pS gS) (GG : FnOk P w K mg base CX0 1 gS dG nSelf (spStd C)) (bG : Binds K dG nSelf [])
    (M : Meth K C "sight" fS) (GS : FnOk P w K mg base CX0 2 fS dS nSight (spSight0 K C)) (FS : FunD K "sight" "Desk.sight" (defArgs (meth 5)) (defBody (meth 5)) (defScope (meth 5)) [] [] fS dS) : FnOk P w K mg base CX0 3 f fd ["desk"] (spSi K C) := by
  refine F.ok (CX := CX0) scSi (fun vs H Q E h => ?_) (fun cdv A outer s H vs Q E hr h => ?_)
  · obtain ⟨x, ws, ds, tb, ls, m, rfl, _⟩ := h
    rfl
  · refine ⟨_, PSs.nox (pss_one (ps_ret (by exact (pe_dc (own := [("standing", 1)]) (g := gName 1) (tt := tYes) (tk := tVar 1) (tv := tMeth C "sight" (spSight0 K C) [] E0 (tVar 0) (tCons (tVar 1) tNil)) rfl scSi.nd (pi_seq (by exact (pe_prop (pv 0) hC PS_ GG hr bG .nil pass0 rfl)))
        (blkOk_by (N := nSi) (sc := defScope (top 28)) (by decide +kernel)) (fun _ _ _ _ _ => pg_name (i := 1) scSi.nd rfl (Or.inl rfl)) (fun _ _ _ _ _ => pts_nil) (fun _ _ _ _ _ => by exact (pv 1))
        (fun _ _ _ _ _ => by exact (pe_meth (by exact (pv 0)) hC M GS hr (bSight FS) .nil pass0 (pa_cons (by exact (pv 1)) pa_nil))))))), ?_⟩
    obtain ⟨x, ws, ds, tb, ls, m, rfl, ob, is, m9, q⟩ := h
    obtain ⟨dx, st, ld, si, as, hx, hst, hld, hsi, _⟩ := id ob
    have w9 := is.most
    refine ⟨_, rfl, x, dx, _, rfl, hx, x, dx, st, ld, si, rfl, hx, st, ws.map V.str, rfl, ?_⟩
    have z := dc_names (K := K) (a := st) (ws := ws) (i := 1) (σ := [some (.ref x), none]) (tv := tMeth C "sight" (spSight0 K C) [] E0 (tVar 0) (tCons (tVar 1) tNil)) (H1 := H) (fv := fun j => .str (ls.getD j ⟨#[]⟩)) (Q := fun D G => Q (.ref D) G) (.inr hst) is.nd (by omega) (fun _ => rfl) (fun _ => rfl) (fun j z G Q2 ez m2 q2 => ?_) (fun D G m2 nD eD => ?_)
    · rcases z with z | z
      · exact .inl z
      · exact .inr z
    · have jl : j < ls.length := by
        rw [is.looks]
        exact (List.getElem?_eq_some_iff.mp ez).1
      have el : ls[j]? = some (ls[j]'jl) := List.getElem?_eq_getElem jl
      rw [List.getD_eq_getElem?_getD, el] at q2
      exact ⟨_, rfl, x, dx, _, rfl, m2 _ _ hx, rfl, _, rfl, x, z, ls[j]'jl, ws, ds, tb, ls, rfl, ob.sm m2, is.looks, List.mem_of_getElem? ez, by rw [idx_of is.nd ez]; exact el, q2⟩
    · refine q D G m2 nD ?_
      rw [eD]
      congr 2
      refine congrArg (dkv ws) (List.ext_getElem (by rw [List.length_map, List.length_range, List.length_map, is.looks]) fun j h1 h2 => ?_)
      rw [List.length_map] at h2
      rw [List.getElem_map, List.getElem_range, List.getElem_map, List.getD_eq_getElem?_getD, List.getElem?_eq_getElem h2]
      rfl
theorem bMv (F : FnP K "desk_moves" (top 27) f fd) : Binds K fd ["desk"] [] := F.bindsN fun _ _ _ _ _ _ us hl => match us, hl with
  | [_], _ => rfl
theorem bSi (F : FnP K "desk_sights" (top 28) f fd) : Binds K fd ["desk"] [] := F.bindsN fun _ _ _ _ _ _ us hl => match us, hl with
  | [_], _ => rfl
end

/-! ### _law_apart -/
/-- for each standing a list of those to which the deeds lead -/
structure NxAt (H : Hp) (n : Addr) (ws ds : List Str) (bs : List Addr) (nx : Str → Str → Str) : Prop where
  at_ : H n = some (.dK (dkv ws (bs.map V.ref)))
  rows : Paired (fun b z => H b = some (.lst ((ds.map (nx z)).map V.str))) bs ws
theorem NxAt.sm {H G : Hp} {n : Addr} {ws ds : List Str} {bs : List Addr} {nx : Str → Str → Str} (h : NxAt H n ws ds bs nx) (m : Sm H G) : NxAt G n ws ds bs nx := ⟨m _ _ h.at_, pair_mono h.rows fun b _ z e => m _ _ e⟩
theorem NxAt.row {H : Hp} {n : Addr} {ws ds : List Str} {bs : List Addr} {nx : Str → Str → Str} (m : NxAt H n ws ds bs nx) {z : Str} (hz : z ∈ ws) : ∃ b, valV (dkv ws (bs.map V.ref)) (.inr z) = some (.ref b) ∧ H b = some (.lst ((ds.map (nx z)).map V.str)) := by
  have bl : bs.length = ws.length := paired_len m.rows
  have il := idx_lt hz
  have e1 : bs[ws.idxOf z]? = some (bs[ws.idxOf z]'(by omega)) := List.getElem?_eq_getElem _
  obtain ⟨z2, e2, e3⟩ := pair_at m.rows e1
  rw [List.getElem?_eq_getElem il, List.getElem_idxOf il] at e2
  cases Option.some.inj e2
  exact ⟨_, by rw [dkv_get (by rw [List.length_map, bl]) hz, List.getElem?_map, e1]; rfl, e3⟩
/-- what the table tells of the pairs that at most m deeds part -/
def FarTo (nx : Str → Str → Str) (lk : Str → Str) (ws ds : List Str) (m : Nat) (far : List (St2 × V)) : Prop := ∀ z ∈ ws, ∀ y ∈ ws, (∀ k, k ≤ m → Ap.Min nx lk ds z y k → valV far (pr z y) = some (.int k)) ∧ ((∀ k, k ≤ m → ¬ Ap.Min nx lk ds z y k) → valV far (pr z y) = none)
def FarAll (nx : Str → Str → Str) (lk : Str → Str) (ws ds : List Str) (far : List (St2 × V)) : Prop := ∀ z ∈ ws, ∀ y ∈ ws, (∀ k, Ap.Min nx lk ds z y k → valV far (pr z y) = some (.int k)) ∧ ((∀ k, ¬ Ap.Sep nx lk ds z y k) → valV far (pr z y) = none)
theorem pr_inj {z y z2 y2 : Str} (h : pr z y = pr z2 y2) : z = z2 ∧ y = y2 := by
  unfold pr at h
  have h1 := (List.cons.inj h).1
  have h2 := (List.cons.inj (List.cons.inj h).2).1
  exact ⟨Sum.inr.inj h1, Sum.inr.inj h2⟩
theorem some_of_far {nx : Str → Str → Str} {lk : Str → Str} {ws ds : List Str} {m : Nat} {far : List (St2 × V)} (F : FarTo nx lk ws ds m far) {z y : Str} (hz : z ∈ ws) (hy : y ∈ ws) (h : (valV far (pr z y)).isSome = true) : ∃ k, k ≤ m ∧ Ap.Min nx lk ds z y k := by
  refine Classical.byContradiction fun n => ?_
  rw [(F z hz y hy).2 fun k hk hm => n ⟨k, hk, hm⟩] at h
  cases h
theorem far_next {nx : Str → Str → Str} {lk : Str → Str} {ws ds : List Str} {m : Nat} {far : List (St2 × V)} (F : FarTo nx lk ws ds m far) (cl : ∀ z ∈ ws, ∀ d ∈ ds, nx z d ∈ ws) {z y : Str} (hz : z ∈ ws) (hy : y ∈ ws) (h : valV far (pr z y) = none) :
    (∃ d ∈ ds, (valV far (pr (nx z d) (nx y d))).isSome = true) ↔ Ap.Min nx lk ds z y (m + 1) := by
  constructor
  · rintro ⟨d, hd, e⟩
    obtain ⟨k, hk, mk⟩ := some_of_far F (cl z hz d hd) (cl y hy d hd) e
    obtain ⟨j, hj, mj⟩ := Ap.min_some (Ap.sep_succ.mpr ⟨d, hd, mk.1⟩)
    by_cases c : j ≤ m
    · rw [(F z hz y hy).1 j c mj] at h
      cases h
    · have e : j = m + 1 := by omega
      rw [e] at mj
      exact mj
  · intro hm
    obtain ⟨d, hd, m2⟩ := Ap.min_succ hm
    exact ⟨d, hd, by rw [(F _ (cl z hz d hd) _ (cl y hy d hd)).1 m (Nat.le_refl _) m2]; rfl⟩
theorem far_not {nx : Str → Str → Str} {lk : Str → Str} {ws ds : List Str} {m : Nat} {far : List (St2 × V)} (F : FarTo nx lk ws ds m far) {z y : Str} (hz : z ∈ ws) (hy : y ∈ ws) (h : (valV far (pr z y)).isSome = true) : ¬ Ap.Min nx lk ds z y (m + 1) := fun hm => by
  obtain ⟨k, hk, mk⟩ := some_of_far F hz hy h
  have := Ap.min_one hm mk
  omega
theorem dp_prs {K : PySem.W.Frag} {G : Hp} {ts : List Addr} {ps : List St2} (h : Paired (fun t (k : St2) => G t = some (.tup (k.map kV)) ∧ ∃ z y, k = pr z y ∧ IsWord z ∧ IsWord y) ts ps) : ∃ ds, DpAll K G (ts.map V.ref) ds ∧ PyData.canLayAll0 ds = true ∧ PyData.depthAll ds ≤ 2 ∧ ds.length = ps.length := by
  induction h with
  | nil => exact ⟨[], .nil, by simp [PyData.canLayAll0], by simp [PyData.depthAll], rfl⟩
  | @cons t k ts ps h _ ih =>
    obtain ⟨ds, i1, i2, i3, i4⟩ := ih
    obtain ⟨e, z, y, rfl, hz, hy⟩ := h
    have l := lay_strs (ws := [z, y]) fun x hx => by
      rcases List.mem_cons.mp hx with a | a
      · rw [a]
        exact hz
      · rw [List.mem_singleton.mp a]
        exact hy
    refine ⟨.tuple ([z, y].map PyData.str) :: ds, .cons (.tup (.inl (.inl e)) (dp_strs [z, y])) i1, ?_, ?_, by simp [i4]⟩
    · simp only [PyData.canLayAll0, PyData.canLay0, l.1, i2, Bool.and_true]
    · have := l.2
      simp only [PyData.depthAll, PyData.depth]
      omega
theorem shaped_two {ds : List PyData} (h1 : PyData.canLayAll0 ds = true) (h2 : PyData.depthAll ds ≤ 2) : SeqAt.shaped (.list ds) = true := by
  unfold SeqAt.shaped
  have c : (PyData.list ds).canLay0 = true := by simpa [PyData.canLay0] using h1
  rw [c, Bool.true_and]
  refine decide_eq_true ?_
  simp only [PyData.depth]
  omega
theorem shaped_nil : SeqAt.shaped (.list []) = true := shaped_two (by simp [PyData.canLayAll0]) (by simp [PyData.depthAll])
theorem pairs_take {ws : List Str} {i : Nat} {z : Str} (h : ws[i]? = some z) : pairs (ws.take (i + 1)) = pairs (ws.take (i + 1)) := rfl
/-- the pairs gone through: all of the first i, and of the next one the first j -/
def gone (ws : List Str) (i : Nat) : List St2 := (ws.take i).flatMap fun z => ws.map fun y => pr z y
theorem gone_next {ws : List Str} {i : Nat} {z : Str} (h : ws[i]? = some z) : gone ws (i + 1) = gone ws i ++ ws.map (pr z) := by
  unfold gone
  rw [List.take_add_one, h, List.flatMap_append]
  simp
theorem gone_all {ws : List Str} : gone ws ws.length = pairs ws := by
  unfold gone pairs
  rw [List.take_length]
def spApart (K : PySem.W.Frag) : Sp := fun vs H Q _ => ∃ (nm vi n : Addr) (ws ds ls : List Str) (bs : List Addr) (nx : Str → Str → Str), vs = [.ref nm, .ref vi, .ref n] ∧ SqL K H nm (ws.map V.str) ∧ 1 ≤ ws.length ∧ ws.length ≤ 9 ∧ ds.length ≤ 4 ∧ ws.Nodup ∧ (∀ z ∈ ws, IsWord z) ∧
  H vi = some (.dK (dkv ws (ls.map V.str))) ∧ ls.length = ws.length ∧ NxAt H n ws ds bs nx ∧ (∀ z ∈ ws, ∀ d ∈ ds, nx z d ∈ ws) ∧ ∀ (q : Addr) (far : List (St2 × V)) G, Sm H G → H q = none → G q = some (.dT far) → FarAll nx (look ws ls) ws ds far → Q (.ref q) G
abbrev nApart : List Str := ["_law_names_here", "_law_visible", "_law_nexts_here", "_law_far", "_law_one", "_law_other", "_law_many_here", "_law_more", "_law_pair", "_law_at"]
theorem scApart : FnScope nApart ["_law_names_here", "_law_visible", "_law_nexts_here"] (defScope (top 51)) := ⟨rfl, rfl, rfl, by decide +kernel, rfl, by decide +kernel, by decide +kernel⟩
section
variable {P : Program} {w : World} {K : PySem.W.Frag} {mg : Str → Option Value} {base : Heap} {f : Addr} {fd : FuncData}
open Classical in
theorem ok_apart (F : FnP K "_law_apart" (top 51) f fd) (ml : mg "len" = none) (mR : mg "range" = none) : FnOk P w K mg base CX0 1 f fd ["_law_names_here", "_law_visible", "_law_nexts_here"] (spApart K) := by
  refine F.ok (CX := CX0) scApart (fun vs H Q E h => ?_) (fun cdv A outer s H vs Q E hr h => ?_)
  · obtain ⟨nm, vi, n, ws, ds, ls, bs, nx, rfl, _⟩ := h
    rfl
  · refine ⟨_, PSs.nox (pss_cons (ps_set (i := 3) scApart.nd rfl (.inr rfl) pe_dnewT)
      (pss_cons (ps_for PassesOwn.never rfl (pi_list (pv 0)) (pg_name (i := 4) scApart.nd rfl (.inr rfl))
        (pss_one (ps_for PassesOwn.never rfl (pi_list (pv 0)) (pg_name (i := 5) scApart.nd rfl (.inr rfl))
          (pss_one (ps_if (pt_cmpR op_ne (by exact (pe_dget (hu_of hr) (pv 1) (pv 4) (fun _ _ => rfl))) (by exact (pe_dget (hu_of hr) (pv 1) (pv 5) (fun _ _ => rfl))) (nomark _))
            (pss_one (ps_dput (hu_of hr) (pv 3) (pe_tup (pa_cons (pv 4) (pa_cons (pv 5) pa_nil))) pe_int (by rfl))) pss_nil)))))
      (pss_cons (ps_for PassesOwn.never rfl (pi_range2 rfl mR (pa_cons pe_int (pa_cons (pe_op op_add (pe_callB call_len rfl ml boot_len (pa_cons (pv 0) pa_nil)) pe_int) pa_nil))) (pg_name (i := 6) scApart.nd rfl (.inl rfl))
        (pss_cons (ps_set (i := 7) scApart.nd rfl (.inl rfl) (pe_lst pa_nil))
        (pss_cons (ps_for PassesOwn.never rfl (pi_list (pv 0)) (pg_name (i := 4) scApart.nd rfl (.inr rfl))
          (pss_one (ps_for PassesOwn.never rfl (pi_list (pv 0)) (pg_name (i := 5) scApart.nd rfl (.inr rfl))
            (pss_one (ps_if (pt_cmp (pc_dnotin (hu_of hr) (pe_tup (pa_cons (pv 4) (pa_cons (pv 5) pa_nil))) (pv 3)))
              (pss_one (ps_if (pt_cmpR (op_neD hr.units) (by exact (pe_lc (own := [("_law_at", 9)]) (g := gName 9) (tt := tB (tDIn (tTup (tCons (tOp (rIxL K) (tDGet (tVar 2) (tVar 4)) (tVar 9)) (tCons (tOp (rIxL K) (tDGet (tVar 2) (tVar 5)) (tVar 9)) tNil))) (tVar 3))) (te := tVar 9) rfl scApart.nd
                  (pi_range1 rfl mR (pa_cons (pe_callB call_len rfl ml boot_len (pa_cons (by exact (pe_dget (hu_of hr) (pv 2) (pv 4) (fun _ _ => rfl))) pa_nil)) pa_nil))
                  (blkOk_by (N := nApart) (sc := defScope (top 51)) (by decide +kernel)) (fun _ _ _ _ _ => pg_name (i := 9) scApart.nd rfl (Or.inl rfl))
                  (fun _ _ _ _ _ => pts_one (by exact (pt_cmp (pc_din (hu_of hr) (by exact (pe_tup (pa_cons (by exact (pe_ix ix_list (by exact (pe_dget (hu_of hr) (by exact (pv 2)) (by exact (pv 4)) (fun _ _ => rfl))) (by exact (pv 9)) (fun _ _ => rfl))) (pa_cons (by exact (pe_ix ix_list (by exact (pe_dget (hu_of hr) (by exact (pv 2)) (by exact (pv 5)) (fun _ _ => rfl))) (by exact (pv 9)) (fun _ _ => rfl))) pa_nil)))) (by exact (pv 3))) (by rfl))))
                  (fun _ _ _ _ _ => by exact (pv 9)))) (pe_lst pa_nil) (nomark _))
                (pss_one (ps_expr (pe_bm PySem.F.plainAttrs_list PySem.F.slot_list_append PySem.F.type_list_append mt_append (pv 7) (pa_cons (pe_tup (pa_cons (pv 4) (pa_cons (pv 5) pa_nil))) pa_nil)))) pss_nil)) pss_nil)))))
        (pss_cons (ps_if (pt_cmpR (op_eqD hr.units) (pv 7) (pe_lst pa_nil) (nomark _)) (pss_one (ps_ret (pv 3))) pss_nil)
        (pss_one (ps_for PassesOwn.never rfl (pi_list (pv 7)) (pg_name (i := 8) scApart.nd rfl (.inl rfl)) (pss_one (ps_dput (hu_of hr) (pv 3) (pv 8) (pv 6) (by rfl))))))))) 
      (pss_one (ps_ret (pv 3)))))), ?_⟩
    obtain ⟨nm, vi, n, ws, ds, ls, bs, nx, rfl, hnm, w1, w9, d4, wnd, wword, hvi, ll, hnx, cl, q⟩ := h
    intro fo nfo
    have m0 := Sm.new (o := .dT []) nfo
    have sz : ∀ n : Nat, n ≤ 1000 → n ≤ sizeLine := fun n z => by
      rw [sizeLine_eq]
      omega
    have up : ∀ {G : Hp} {o : HO}, Sm H G → Sm H (upd G fo o) := fun {G o} m b u e => by
      rw [upd_ne (ne_of_none e nfo)]
      exact m _ _ e
    have word : ∀ {i : Nat} {v : V}, (ws.map V.str)[i]? = some v → ∃ z, ws[i]? = some z ∧ v = .str z := fun {i v} ex => by
      rw [List.getElem?_map] at ex
      cases e : ws[i]? with
      | none =>
        rw [e] at ex
        cases ex
      | some d =>
        rw [e] at ex
        exact ⟨d, rfl, (Option.some.inj ex).symm⟩
    have plen : (pairs ws).length ≤ 1000 := pairs_few w9
    have glen : ∀ i, (gone ws i).length ≤ 1000 := fun i => by
      unfold gone
      have z := flat_len (fun z => ws.map fun y => pr z y) 9 (l := ws.take i) fun x _ => by
        rw [List.length_map]
        exact w9
      rw [List.length_take] at z
      omega
    -- the first loops
    refine ⟨_, rfl, nm, rfl, ⟨_, SqL.sm hnm m0⟩, ?_⟩
    refine for_it (walk_list (xs := ws.map V.str)) (fun i σ G => ∃ (v4 v5 : Option V) (far : List (St2 × V)), σ = [some (.ref nm), some (.ref vi), some (.ref n), some (.ref fo), v4, v5, none, none, none, none] ∧ G fo = some (.dT far) ∧ far.length ≤ (gone ws i).length ∧
        (∀ k : St2, valV far k = if k ∈ gone ws i ∧ fdP (look ws ls) k = true then some (V.int 0) else none) ∧ Sm H G)
      ⟨none, none, [], rfl, upd_same, Nat.zero_le _, fun k => (by rw [valV_nil, if_neg (fun z => nomatch z.1)]), m0⟩ (fun i σ G _ ⟨_, _, _, _, _, _, _, m⟩ => SqL.sm hnm m) (fun i v σ G G' hi p yy => ?_) (fun σ G p => ?_)
    · obtain ⟨v4, v5, far, rfl, ef, fl, fv, m⟩ := p
      obtain ⟨rfl, ex⟩ := yy
      obtain ⟨z, ez, rfl⟩ := word ex
      have hz := List.mem_of_getElem? ez
      refine ⟨_, rfl, nm, rfl, ⟨_, SqL.sm hnm m⟩, ?_⟩
      refine for_it (walk_list (xs := ws.map V.str)) (fun j σ G => ∃ (v5 : Option V) (far : List (St2 × V)), σ = [some (.ref nm), some (.ref vi), some (.ref n), some (.ref fo), some (.str z), v5, none, none, none, none] ∧ G fo = some (.dT far) ∧ far.length ≤ (gone ws i).length + j ∧
          (∀ k : St2, valV far k = if k ∈ gone ws i ++ (ws.take j).map (pr z) ∧ fdP (look ws ls) k = true then some (V.int 0) else none) ∧ Sm H G)
        ⟨v5, far, rfl, ef, fl, fun k => by rw [fv k]; simp, m⟩ (fun j σ G _ ⟨_, _, _, _, _, _, m⟩ => SqL.sm hnm m) (fun j v σ G G' hj p yy => ?_) (fun σ G p => ?_)
      · obtain ⟨v5, far, rfl, ef, fl, fv, m⟩ := p
        obtain ⟨rfl, ex⟩ := yy
        obtain ⟨y, ey, rfl⟩ := word ex
        have hy := List.mem_of_getElem? ey
        have gi := glen i
        have jl : j < ws.length := (List.getElem?_eq_some_iff.mp ey).1
        have tk : gone ws i ++ (ws.take (j + 1)).map (pr z) = (gone ws i ++ (ws.take j).map (pr z)) ++ [pr z y] := by
          rw [List.take_add_one, ey, List.map_append, List.append_assoc]
          rfl
        refine ⟨_, rfl, _, rfl, vi, .str (look ws ls z), rfl, .inl ⟨_, .inr z, .inl (m _ _ hvi), rfl, (look_at ll hz).symm⟩, _, rfl, _, rfl, vi, .str (look ws ls y), rfl, .inl ⟨_, .inr y, .inl (m _ _ hvi), rfl, (look_at ll hy).symm⟩, rfl, _, rfl, ?_⟩
        by_cases c : look ws ls z = look ws ls y
        · rw [c, decide_eq_true rfl]
          refine iteF ⟨_, far, rfl, ef, by omega, fun k => ?_, m⟩
          rw [fv k, tk]
          congr 1
          rw [List.mem_append (t := [pr z y])]
          refine propext ⟨fun h => ⟨.inl h.1, h.2⟩, fun h => ⟨?_, h.2⟩⟩
          rcases h.1 with a | a
          · exact a
          · rw [List.mem_singleton.mp a] at h
            have := of_decide_eq_true (show decide (look ws ls z ≠ look ws ls y) = true from h.2)
            exact absurd c this
        · rw [decide_eq_false (fun x => c (V.str.inj x))]
          refine iteT ⟨_, rfl, _, rfl, _, rfl, sz _ (by show 2 ≤ 1000; decide), fun t nt => ?_⟩
          have mt := Sm.new (o := .tup [.str z, .str y]) nt
          refine ⟨fo, _, rfl, DPut.t (k := pr z y) (mt _ _ ef) upd_same (by rw [sizeLine_eq]; omega), _, _, rfl, upd_same, ?_, fun k => ?_, up (m.trans mt)⟩
          · exact Nat.le_trans (length_putK far (pr z y) (.int 0)) (by omega)
          · rw [valV_put, fv k, tk]
            by_cases e : k = pr z y
            · subst e
              rw [if_pos rfl, if_pos]
              exact ⟨List.mem_append_right _ (List.mem_singleton.mpr rfl), decide_eq_true c⟩
            · rw [if_neg e]
              congr 1
              rw [List.mem_append (t := [pr z y])]
              refine propext ⟨fun h => ⟨.inl h.1, h.2⟩, fun h => ⟨h.1.resolve_right fun a => e (List.mem_singleton.mp a), h.2⟩⟩
      · obtain ⟨v5, far, rfl, ef, fl, fv, m⟩ := p
        rw [List.length_map] at fl fv
        refine ⟨_, _, far, rfl, ef, ?_, fun k => ?_, m⟩
        · rw [gone_next ez, List.length_append, List.length_map]
          exact fl
        · rw [fv k, gone_next ez, List.take_length]
    · obtain ⟨v4, v5, far, rfl, ef, fl, fv, m⟩ := p
      rw [List.length_map] at fl fv
      rw [gone_all] at fl fv
      have F0 : FarTo nx (look ws ls) ws ds 0 far := fun z hz y hy => by
        have mem : pr z y ∈ pairs ws := pairs_mem.mpr ⟨z, hz, y, hy, rfl⟩
        refine ⟨fun k hk hm => ?_, fun h => ?_⟩
        · have e : k = 0 := by omega
          subst e
          rw [fv, if_pos ⟨mem, decide_eq_true (Ap.sep_zero.mp hm.1)⟩]
          rfl
        · rw [fv, if_neg]
          rintro ⟨_, c⟩
          have c2 : look ws ls z ≠ look ws ls y := of_decide_eq_true (show decide (look ws ls z ≠ look ws ls y) = true from c)
          exact h 0 (Nat.le_refl _) ⟨Ap.sep_zero.mpr c2, fun j hj => absurd hj (Nat.not_lt_zero _)⟩
      refine ⟨_, rfl, .ref nm, ws.length, rfl, .inl ⟨_, SqL.sm hnm m, by rw [List.length_map]⟩, _, _, rfl, rfl, _, _, rfl, ⟨by omega, by omega, by omega, by omega⟩, ?_⟩
      have en : (((ws.length : Nat) : Int) + 1 - 1).toNat = ws.length := by omega
      rw [en]
      refine for_range (lo := 1) (n := ws.length) (fun i σ G => ∃ (v4 v5 v6 v7 v8 : Option V) (far : List (St2 × V)), σ = [some (.ref nm), some (.ref vi), some (.ref n), some (.ref fo), v4, v5, v6, v7, v8, none] ∧ G fo = some (.dT far) ∧ far.length ≤ 1000 * (i + 1) ∧ FarTo nx (look ws ls) ws ds i far ∧ i + 1 ≤ Ap.lots nx (look ws ls) ds ws i ∧ Sm H G)
        ⟨v4, v5, none, none, none, far, rfl, ef, by omega, F0, Ap.lots_some w1, m⟩ (fun i σ G hi p => ?_) (fun σ G p => ?_)
      · clear fl fv F0 ef m v4 v5 far
        obtain ⟨v4, v5, v6, v7, v8, far, rfl, ef, fl, FT, lo, m⟩ := p
        refine ⟨Nat.zero_le _, fun mo nmo => ?_⟩
        have nmoH : H mo = none := none_of_sm m nmo
        have fmo : fo ≠ mo := ne_of_none ef nmo
        have mm := m.trans (Sm.new (o := .lst []) nmo)
        have efo : upd G mo (.lst []) fo = some (.dT far) := Sm.new nmo _ _ ef
        have emo : upd G mo (.lst []) mo = some (.lst []) := upd_same
        generalize upd G mo (.lst []) = G1 at mm efo emo ⊢
        clear nmo ef m
        have keepM : ∀ {G : Hp} {o : HO}, Sm H G → Sm H (upd G mo o) := fun {G o} m b u e => by
          rw [upd_ne (ne_of_none e nmoH)]
          exact m _ _ e
        refine ⟨_, rfl, nm, rfl, ⟨_, SqL.sm hnm mm⟩, ?_⟩
        refine for_it (walk_list (xs := ws.map V.str)) (fun a σ G => ∃ (v4 v5 : Option V) (ts : List Addr) (ps : List St2), σ = [some (.ref nm), some (.ref vi), some (.ref n), some (.ref fo), v4, v5, some (.int (1 + (i : Nat))), some (.ref mo), v8, none] ∧ G fo = some (.dT far) ∧ G mo = some (.lst (ts.map V.ref)) ∧
            Paired (fun t (k : St2) => G t = some (.tup (k.map kV)) ∧ ∃ z y, k = pr z y ∧ z ∈ ws ∧ y ∈ ws) ts ps ∧ ps.length ≤ (gone ws a).length ∧ (∀ z ∈ ws, ∀ y ∈ ws, pr z y ∈ ps ↔ pr z y ∈ gone ws a ∧ Ap.Min nx (look ws ls) ds z y (i + 1)) ∧ Sm H G)
          ⟨v4, v5, [], [], rfl, efo, emo, .nil, Nat.zero_le _, fun z _ y _ => ⟨(fun h => nomatch h), fun h => nomatch h.1⟩, mm⟩ (fun a σ G _ ⟨_, _, _, _, _, _, _, _, _, _, m⟩ => SqL.sm hnm m) (fun a v σ G G' ha p yy => ?_) (fun σ G p => ?_)
        · obtain ⟨v4, v5, ts, ps, rfl, efo, emo, pp, pl, pm, m⟩ := p
          obtain ⟨rfl, ex⟩ := yy
          obtain ⟨z, ez, rfl⟩ := word ex
          have hz := List.mem_of_getElem? ez
          refine ⟨_, rfl, nm, rfl, ⟨_, SqL.sm hnm m⟩, ?_⟩
          refine for_it (walk_list (xs := ws.map V.str)) (fun j σ G => ∃ (v5 : Option V) (ts : List Addr) (ps : List St2), σ = [some (.ref nm), some (.ref vi), some (.ref n), some (.ref fo), some (.str z), v5, some (.int (1 + (i : Nat))), some (.ref mo), v8, none] ∧ G fo = some (.dT far) ∧ G mo = some (.lst (ts.map V.ref)) ∧
              Paired (fun t (k : St2) => G t = some (.tup (k.map kV)) ∧ ∃ z y, k = pr z y ∧ z ∈ ws ∧ y ∈ ws) ts ps ∧ ps.length ≤ (gone ws a).length + j ∧ (∀ z2 ∈ ws, ∀ y2 ∈ ws, pr z2 y2 ∈ ps ↔ pr z2 y2 ∈ gone ws a ++ (ws.take j).map (pr z) ∧ Ap.Min nx (look ws ls) ds z2 y2 (i + 1)) ∧ Sm H G)
            ⟨v5, ts, ps, rfl, efo, emo, pp, pl, fun z2 h2 y2 h3 => by rw [pm z2 h2 y2 h3]; simp, m⟩ (fun j σ G _ ⟨_, _, _, _, _, _, _, _, _, m⟩ => SqL.sm hnm m) (fun j v σ G G' hj p yy => ?_) (fun σ G p => ?_)
          · clear pp pl pm efo emo m v5 ts ps ex
            obtain ⟨v5, ts, ps, rfl, efo, emo, pp, pl, pm, m⟩ := p
            obtain ⟨rfl, ex⟩ := yy
            obtain ⟨y, ey, rfl⟩ := word ex
            have hy := List.mem_of_getElem? ey
            have gi := glen a
            have jl : j < ws.length := (List.getElem?_eq_some_iff.mp ey).1
            have tl : ts.length = ps.length := paired_len pp
            have tk : gone ws a ++ (ws.take (j + 1)).map (pr z) = (gone ws a ++ (ws.take j).map (pr z)) ++ [pr z y] := by
              rw [List.take_add_one, ey, List.map_append, List.append_assoc]
              rfl
            -- what follows where the pair is left out
            have stay : ∀ G2, Sm G' G2 → ¬ Ap.Min nx (look ws ls) ds z y (i + 1) → ∃ (v5 : Option V) (ts : List Addr) (ps : List St2), [some (V.ref nm), some (.ref vi), some (.ref n), some (.ref fo), some (.str z), some (.str y), some (.int (1 + (i : Nat))), some (.ref mo), v8, none] = [some (.ref nm), some (.ref vi), some (.ref n), some (.ref fo), some (.str z), v5, some (.int (1 + (i : Nat))), some (.ref mo), v8, none] ∧ G2 fo = some (.dT far) ∧ G2 mo = some (.lst (ts.map V.ref)) ∧
                Paired (fun t (k : St2) => G2 t = some (.tup (k.map kV)) ∧ ∃ z y, k = pr z y ∧ z ∈ ws ∧ y ∈ ws) ts ps ∧ ps.length ≤ (gone ws a).length + (j + 1) ∧ (∀ z2 ∈ ws, ∀ y2 ∈ ws, pr z2 y2 ∈ ps ↔ pr z2 y2 ∈ gone ws a ++ (ws.take (j + 1)).map (pr z) ∧ Ap.Min nx (look ws ls) ds z2 y2 (i + 1)) ∧ Sm H G2 := fun G2 m2 no => by
              refine ⟨_, ts, ps, rfl, m2 _ _ efo, m2 _ _ emo, pair_mono pp fun t _ k e => ⟨m2 _ _ e.1, e.2⟩, by omega, fun z2 h2 y2 h3 => ?_, m.trans m2⟩
              rw [pm z2 h2 y2 h3, tk, List.mem_append (t := [pr z y])]
              refine ⟨fun h => ⟨.inl h.1, h.2⟩, fun h => ⟨h.1.resolve_right fun e => ?_, h.2⟩⟩
              obtain ⟨rfl, rfl⟩ := pr_inj (List.mem_singleton.mp e)
              exact no h.2
            refine ⟨_, rfl, _, rfl, sz _ (by show 2 ≤ 1000; decide), fun t nt => ⟨_, rfl, fo, _, rfl, DGet.t (k := pr z y) (Sm.new nt _ _ efo) upd_same, _, rfl, ?_⟩⟩
            have mt := Sm.new (o := .tup [.str z, .str y]) nt
            generalize upd G' t (.tup [.str z, .str y]) = G2 at mt ⊢
            cases ev : (valV far (pr z y)).isSome with
            | true => exact iteF (stay G2 mt (far_not FT hz hy ev))
            | false =>
              have vn : valV far (pr z y) = none := by
                cases e : valV far (pr z y) with
                | none => rfl
                | some x =>
                  rw [e] at ev
                  cases ev
              have next := far_next FT cl hz hy vn
              obtain ⟨b, vb, hb⟩ := hnx.row hz
              obtain ⟨b', vb', hb'⟩ := hnx.row hy
              have m2 := m.trans mt
              refine iteT ⟨_, rfl, _, rfl, n, .ref b, rfl, .inl ⟨_, .inr z, .inl (m2 _ _ hnx.at_), rfl, vb.symm⟩, .ref b, ds.length, rfl, .inl ⟨_, .inl (.inl (m2 _ _ hb)), by rw [List.length_map, List.length_map]⟩, _, rfl, by omega, by omega, fun D nD => ?_⟩
              have ed : (((ds.length : Nat) : Int)).toNat = ds.length := by omega
              rw [ed]
              refine lc_range (lo := 0) (n := ds.length) (fun c G3 => ∃ acc : List Int, G3 D = some (.lst (acc.map V.int)) ∧ acc.length ≤ c ∧ (acc ≠ [] ↔ ∃ d ∈ ds.take c, (valV far (pr (nx z d) (nx y d))).isSome = true) ∧ Sm G2 G3)
                ⟨[], upd_same, Nat.le_refl _, ⟨fun h => absurd rfl h, fun ⟨d, hd, _⟩ => nomatch hd⟩, Sm.new nD⟩ (fun c G3 hc p => ?_) (fun G3 p => ?_)
              · obtain ⟨acc, eD, al, ae, m3⟩ := p
                have edc : ds[c]? = some (ds[c]'hc) := List.getElem?_eq_getElem hc
                generalize ds[c]'hc = d at edc
                have m4 := m2.trans m3
                have e0 : (0 : Int) + ((c : Nat) : Int) = ((c : Nat) : Int) := Int.zero_add _
                rw [e0]
                have r1 : ((ds.map (nx z)).map V.str)[c]? = some (.str (nx z d)) := by
                  rw [List.getElem?_map, List.getElem?_map, edc]
                  rfl
                have r2 : ((ds.map (nx y)).map V.str)[c]? = some (.str (nx y d)) := by
                  rw [List.getElem?_map, List.getElem?_map, edc]
                  rfl
                have tkd : ds.take (c + 1) = ds.take c ++ [d] := by
                  rw [List.take_add_one, edc]
                  rfl
                refine ⟨rfl, _, rfl, _, rfl, n, .ref b, rfl, .inl ⟨_, .inr z, .inl (m4 _ _ hnx.at_), rfl, vb.symm⟩, _, rfl, b, _, c, _, rfl, rfl, .inl (.inl (m4 _ _ hb)), atI_nat r1, _, rfl, _, rfl, n, .ref b', rfl, .inl ⟨_, .inr y, .inl (m4 _ _ hnx.at_), rfl, vb'.symm⟩, _, rfl, b', _, c, _, rfl, rfl, .inl (.inl (m4 _ _ hb')), atI_nat r2, sz _ (by show 2 ≤ 1000; decide), fun u nu => ?_⟩
                have mu := Sm.new (o := .tup [.str (nx z d), .str (nx y d)]) nu
                refine ⟨_, rfl, fo, _, rfl, DGet.t (k := pr (nx z d) (nx y d)) (mu _ _ (m3 _ _ (mt _ _ efo))) upd_same, _, rfl, ?_⟩
                cases ev2 : (valV far (pr (nx z d) (nx y d))).isSome with
                | true =>
                  refine iteT ⟨_, rfl, _, mu _ _ eD, by rw [List.length_map, sizeLine_eq]; omega, acc ++ [((c : Nat) : Int)], ?_, by rw [List.length_append]; show acc.length + 1 ≤ c + 1; omega, ⟨fun _ => ⟨d, by rw [tkd]; exact List.mem_append_right _ (List.mem_singleton.mpr rfl), ev2⟩, fun _ => by simp⟩, fun b0 o e => ?_⟩
                  · rw [upd_same, List.map_append]
                    rfl
                  · rw [upd_ne (ne_of_none e nD)]
                    exact mu _ _ (m3 _ _ e)
                | false =>
                  refine iteF ⟨acc, mu _ _ eD, by omega, ?_, m3.trans mu⟩
                  rw [ae, tkd]
                  constructor
                  · rintro ⟨d2, h1, h2⟩
                    exact ⟨d2, List.mem_append_left _ h1, h2⟩
                  · rintro ⟨d2, h1, h2⟩
                    rcases List.mem_append.mp h1 with a | a
                    · exact ⟨d2, a, h2⟩
                    · rw [List.mem_singleton.mp a, ev2] at h2
                      cases h2
              · obtain ⟨acc, eD, al, ae, m3⟩ := p
                rw [List.take_length] at ae
                refine ⟨Nat.zero_le _, fun e2 ne2 => ?_⟩
                have m4 := m3.trans (Sm.new (o := .lst []) ne2)
                have eD2 := Sm.new (o := .lst []) ne2 _ _ eD
                obtain ⟨dd, h1, h2, h3, h4⟩ := fl_dp (K := K) (H := upd G3 e2 (.lst [])) (xs := acc.map V.int) fun x hx => by
                  obtain ⟨i0, _, rfl⟩ := List.mem_map.mp hx
                  exact ⟨_, .int i0⟩
                refine ⟨.list dd, .list [], .lst (.inl (.inl eD2)) h1, .lst (.inl (.inl upd_same)) .nil, shaped_of h2 h3, shaped_nil, _, rfl, ?_⟩
                rw [eqv_nil]
                rw [List.length_map] at h4
                generalize upd G3 e2 (.lst []) = G4 at m4 ⊢
                have mA := mt.trans m4
                cases acc with
                | nil =>
                  have dn : dd = [] := List.eq_nil_of_length_eq_zero h4
                  subst dn
                  exact iteF (stay G4 mA fun hm => absurd rfl (ae.mpr (next.mpr hm)))
                | cons i0 acc =>
                  have de : dd.isEmpty = false := by
                    cases dd with
                    | nil => cases h4
                    | cons _ _ => rfl
                  rw [de]
                  have hm := next.mp (ae.mp (by simp))
                  have emo4 := mA _ _ emo
                  refine iteT ⟨_, rfl, .inl ⟨rfl, _, .inl (.inl emo4)⟩, _, rfl, _, rfl, sz _ (by show 2 ≤ 1000; decide), fun t2 nt2 => ?_⟩
                  have m5 := mA.trans (Sm.new (o := .tup [.str z, .str y]) nt2)
                  have et2 : upd G4 t2 (.tup [.str z, .str y]) t2 = some (.tup ((pr z y).map kV)) := upd_same
                  generalize upd G4 t2 (.tup [.str z, .str y]) = G5 at m5 et2 ⊢
                  have emo5 := m5 _ _ emo
                  have tup : ∀ {c : Addr} {xs : List V}, G5 c = some (.tup xs) → upd G5 mo (.lst ((ts ++ [t2]).map V.ref)) c = some (.tup xs) := fun {c xs} e => by
                    rw [upd_ne (ne_of e emo5 (fun z => nomatch z))]
                    exact e
                  have em : ts.map V.ref ++ [V.ref t2] = (ts ++ [t2]).map V.ref := by rw [List.map_append]; rfl
                  refine ⟨mo, _, .ref t2, rfl, rfl, emo5, by rw [List.length_map, sizeLine_eq]; omega, ?_⟩
                  rw [em]
                  refine ⟨_, ts ++ [t2], ps ++ [pr z y], rfl, ?_, upd_same, pair_more (pair_mono pp fun t _ k e => ⟨tup (m5 _ _ e.1), e.2⟩) ⟨tup et2, z, y, rfl, hz, hy⟩, by rw [List.length_append]; show ps.length + 1 ≤ _; omega, fun z2 h2 y2 h3 => ?_, keepM (m.trans m5)⟩
                  · rw [upd_ne fmo]
                    exact m5 _ _ efo
                  · rw [List.mem_append, pm z2 h2 y2 h3, tk, List.mem_append (t := [pr z y])]
                    refine ⟨fun h => ?_, fun h => ?_⟩
                    · rcases h with h | h
                      · exact ⟨.inl h.1, h.2⟩
                      · obtain ⟨rfl, rfl⟩ := pr_inj (List.mem_singleton.mp h)
                        exact ⟨.inr h, hm⟩
                    · rcases h.1 with a | a
                      · exact .inl ⟨a, h.2⟩
                      · exact .inr a
          · obtain ⟨v5, ts, ps, rfl, efo, emo, pp, pl, pm, m⟩ := p
            rw [List.length_map] at pl pm
            refine ⟨_, _, ts, ps, rfl, efo, emo, pp, ?_, fun z2 h2 y2 h3 => ?_, m⟩
            · rw [gone_next ez, List.length_append, List.length_map]
              exact pl
            · rw [pm z2 h2 y2 h3, gone_next ez, List.take_length]
        · obtain ⟨v4, v5, ts, ps, rfl, efo, emo, pp, pl, pm, m⟩ := p
          rw [List.length_map] at pl pm
          rw [gone_all] at pl pm
          have tl : ts.length = ps.length := paired_len pp
          refine ⟨_, rfl, Nat.zero_le _, fun e2 ne2 => ?_⟩
          have me := Sm.new (o := .lst []) ne2
          have ppD : Paired (fun t (k : St2) => upd G e2 (.lst []) t = some (.tup (k.map kV)) ∧ ∃ z y, k = pr z y ∧ IsWord z ∧ IsWord y) ts ps := pair_mono pp fun t _ k ⟨e, z, y, e3, hz, hy⟩ => ⟨me _ _ e, z, y, e3, wword z hz, wword y hy⟩
          obtain ⟨dd, h1, h2, h3, h4⟩ := dp_prs (K := K) ppD
          have emo2 := me _ _ emo
          have efo2 := me _ _ efo
          have m2 := m.trans me
          have pp2 : Paired (fun t (k : St2) => upd G e2 (.lst []) t = some (.tup (k.map kV))) ts ps := pair_mono pp fun t _ k e => me _ _ e.1
          refine ⟨.list dd, .list [], .lst (.inl (.inl emo2)) h1, .lst (.inl (.inl upd_same)) .nil, shaped_two h2 h3, shaped_nil, _, rfl, ?_⟩
          rw [eqv_nil]
          generalize upd G e2 (.lst []) = G2 at emo2 efo2 m2 pp2 ⊢
          cases ps with
          | nil =>
            have dn : dd = [] := List.eq_nil_of_length_eq_zero h4
            subst dn
            have none_next : ∀ z ∈ ws, ∀ y ∈ ws, ¬ Ap.Min nx (look ws ls) ds z y (i + 1) := fun z hz y hy hm => nomatch (pm z hz y hy).mpr ⟨pairs_mem.mpr ⟨z, hz, y, hy, rfl⟩, hm⟩
            refine iteT ⟨_, rfl, q fo far G2 m2 nfo efo2 fun z hz y hy => ⟨fun k hm => ?_, fun h => (FT z hz y hy).2 fun k _ hm => h k hm.1⟩⟩
            by_cases c : k ≤ i
            · exact (FT z hz y hy).1 k c hm
            · obtain ⟨z2, hz2, y2, hy2, hm2⟩ := Ap.min_next cl hz hy (show i < k by omega) hm
              exact absurd hm2 (none_next z2 hz2 y2 hy2)
          | cons k0 ps =>
            have de : dd.isEmpty = false := by
              cases dd with
              | nil => cases h4
              | cons _ _ => rfl
            rw [de]
            refine iteF ?_
            refine ⟨_, rfl, mo, rfl, ⟨_, .inl (.inl emo2)⟩, ?_⟩
            refine for_it (walk_list (xs := ts.map V.ref)) (fun j σ G => ∃ (v8 : Option V) (far2 : List (St2 × V)), σ = [some (.ref nm), some (.ref vi), some (.ref n), some (.ref fo), v4, v5, some (.int (1 + (i : Nat))), some (.ref mo), v8, none] ∧ G fo = some (.dT far2) ∧ far2.length ≤ far.length + j ∧
                (∀ k : St2, valV far2 k = if k ∈ (k0 :: ps).take j then some (V.int (1 + (i : Nat))) else valV far k) ∧ G mo = some (.lst (ts.map V.ref)) ∧ Paired (fun t (k : St2) => G t = some (.tup (k.map kV))) ts (k0 :: ps) ∧ Sm H G)
              ⟨v8, far, rfl, efo2, Nat.le_refl _, fun k => by rw [List.take_zero, if_neg (List.not_mem_nil)], emo2, pp2, m2⟩ (fun j σ G _ ⟨_, _, _, _, _, _, e, _⟩ => .inl (.inl e)) (fun j v σ G G' hj p yy => ?_) (fun σ G p => ?_)
            · obtain ⟨v8, far2, rfl, ef2, fl2, fv2, emo3, pp3, m3⟩ := p
              obtain ⟨rfl, ex⟩ := yy
              obtain ⟨t, et, rfl⟩ : ∃ a, ts[j]? = some a ∧ v = .ref a := by
                rw [List.getElem?_map] at ex
                cases e : ts[j]? with
                | none =>
                  rw [e] at ex
                  cases ex
                | some a =>
                  rw [e] at ex
                  exact ⟨a, rfl, (Option.some.inj ex).symm⟩
              obtain ⟨k1, ek, et2⟩ := pair_at pp3 et
              have jl : j < (k0 :: ps).length := (List.getElem?_eq_some_iff.mp ek).1
              have tk : (k0 :: ps).take (j + 1) = (k0 :: ps).take j ++ [k1] := by
                rw [List.take_add_one, ek]
                rfl
              have big : far2.length < sizeLine := by
                rw [sizeLine_eq]
                omega
              refine ⟨_, rfl, _, rfl, _, rfl, fo, _, rfl, DPut.t ef2 et2 big, _, _, rfl, upd_same, Nat.le_trans (length_putK far2 k1 _) (by omega), fun k => ?_, ?_, pair_mono pp3 fun t _ k e => ?_, up m3⟩
              · rw [valV_put, fv2 k, tk]
                by_cases e : k = k1
                · rw [if_pos e, if_pos (List.mem_append_right _ (List.mem_singleton.mpr e))]
                · rw [if_neg e]
                  congr 1
                  rw [List.mem_append]
                  exact propext ⟨.inl, fun h => h.resolve_right fun a => e (List.mem_singleton.mp a)⟩
              · rw [upd_ne (Ne.symm fmo)]
                exact emo3
              · rw [upd_ne (ne_of e ef2 (fun z => nomatch z))]
                exact e
            · obtain ⟨v8, far2, rfl, ef2, fl2, fv2, emo3, pp3, m3⟩ := p
              rw [List.length_map, tl] at fl2 fv2
              rw [List.take_length] at fv2
              have hk0 : k0 ∈ k0 :: ps := List.mem_cons_self
              obtain ⟨t0, z0, y0, e0, hz0, hy0⟩ : ∃ (t0 : Addr) (z0 y0 : Str), k0 = pr z0 y0 ∧ z0 ∈ ws ∧ y0 ∈ ws := by
                cases ts with
                | nil => cases tl
                | cons t ts =>
                  obtain ⟨k, e, _, z, y, e2, hz, hy⟩ := pair_at (j := 0) pp rfl
                  cases Option.some.inj (show some k0 = some k from e)
                  exact ⟨t, z, y, e2, hz, hy⟩
              have hm0 : Ap.Min nx (look ws ls) ds z0 y0 (i + 1) := by
                rw [e0] at hk0
                have := (pm z0 hz0 y0 hy0).mp (by rw [e0]; exact List.mem_cons_self)
                exact this.2
              have lm := Ap.lots_more hz0 hy0 hm0
              refine ⟨v4, v5, _, _, _, far2, rfl, ef2, by omega, fun z hz y hy => ⟨fun k hk hm => ?_, fun h => ?_⟩, by omega, m3⟩
              · rw [fv2]
                have mem : pr z y ∈ pairs ws := pairs_mem.mpr ⟨z, hz, y, hy, rfl⟩
                by_cases c : k = i + 1
                · subst c
                  rw [if_pos ((pm z hz y hy).mpr ⟨mem, hm⟩)]
                  congr 2
                  omega
                · rw [if_neg fun h => c (Ap.min_one hm ((pm z hz y hy).mp h).2)]
                  exact (FT z hz y hy).1 k (by omega) hm
              · rw [fv2, if_neg fun h2 => h (i + 1) (Nat.le_refl _) ((pm z hz y hy).mp h2).2]
                exact (FT z hz y hy).2 fun k hk => h k (by omega)
      · obtain ⟨v4, v5, v6, v7, v8, far, rfl, ef, fl, FT, lo, m⟩ := p
        have := Ap.lots_le (nx := nx) (si := look ws ls) (ds := ds) (ws := ws) (k := ws.length)
        omega
end
end Dk
set_option Elab.async false
set_option linter.all false
set_option maxRecDepth 100000
set_option maxHeartbeats 8000000
namespace Dk
open PySem PySem.Spec PyProof.Rows L2 Er LamX NdefX
/-! ### numbered -/
/-- the numbers of standings, by what is seen of them -/
def nums {κ : Type} [DecidableEq κ] (f : Str → κ) (ws : List Str) : List V := ws.map fun z => V.int ((Lo.num f ws z : Nat) : Int)
theorem nums_len {κ : Type} [DecidableEq κ] {f : Str → κ} {ws : List Str} : (nums f ws).length = ws.length := by
  unfold nums
  rw [List.length_map]
theorem nums_snoc {κ : Type} [DecidableEq κ] {f : Str → κ} {ws : List Str} {z : Str} : nums f (ws ++ [z]) = nums f ws ++ [V.int ((Lo.num f (ws ++ [z]) z : Nat) : Int)] := by
  unfold nums
  rw [List.map_append]
  congr 1
  exact List.map_congr_left fun y hy => by rw [Lo.num_more hy]
theorem num_new {κ : Type} [DecidableEq κ] {f : Str → κ} {ws : List Str} {z : Str} (n : f z ∉ Lo.seen f ws) : Lo.num f (ws ++ [z]) z = (Lo.seen f ws).length := by
  unfold Lo.num
  rw [Lo.seen_snoc, if_neg n, List.idxOf_append, if_neg n]
  simp
theorem num_old {κ : Type} [DecidableEq κ] {f : Str → κ} {ws : List Str} {z : Str} (h : f z ∈ Lo.seen f ws) : Lo.num f (ws ++ [z]) z = (Lo.seen f ws).idxOf (f z) := by
  unfold Lo.num
  rw [Lo.seen_snoc, if_pos h]
abbrev nNu : List Str := ["nodes", "signs", "numbers", "lots", "node"]
theorem scNu : FnScope nNu ["nodes", "signs"] (defScope (top 16)) := ⟨rfl, rfl, rfl, by decide +kernel, rfl, by decide +kernel, by decide +kernel⟩
/-- by texts or numbers -/
def spNum1 (K : PySem.W.Frag) : Sp := fun vs H Q _ => ∃ (n sg : Addr) (ws : List Str) (kvs : List (Key × V)) (f : Str → Key), vs = [.ref n, .ref sg] ∧ SqT K H n (ws.map V.str) ∧ ws.length ≤ 1000 ∧ ws.Nodup ∧ H sg = some (.dK kvs) ∧ (∀ z ∈ ws, valV kvs (.inr z) = some (kV (f z))) ∧
  ∀ (q : Addr) G, Sm H G → H q = none → G q = some (.dK (dkv ws (nums f ws))) → Q (.ref q) G
/-- by tuples -/
def spNum2 (K : PySem.W.Frag) : Sp := fun vs H Q _ => ∃ (n sg : Addr) (ws : List Str) (kvs : List (Key × V)) (f : Str → List Key), vs = [.ref n, .ref sg] ∧ SqT K H n (ws.map V.str) ∧ ws.length ≤ 1000 ∧ ws.Nodup ∧ H sg = some (.dK kvs) ∧ (∀ z ∈ ws, ∃ b, valV kvs (.inr z) = some (.ref b) ∧ H b = some (.tup ((f z).map kV))) ∧
  ∀ (q : Addr) G, Sm H G → H q = none → G q = some (.dK (dkv ws (nums f ws))) → Q (.ref q) G
section
variable {P : Program} {w : World} {K : PySem.W.Frag} {mg : Str → Option Value} {base : Heap} {f : Addr} {fd : FuncData}
theorem bNu (F : FnP K "numbered" (top 16) f fd) : Binds K fd ["nodes", "signs"] [] := F.bindsN fun _ _ _ _ _ _ us hl => match us, hl with
  | [_, _], _ => rfl
theorem ok_num1 (F : FnP K "numbered" (top 16) f fd) (ml : mg "len" = none) : FnOk P w K mg base CX0 1 f fd ["nodes", "signs"] (spNum1 K) := by
  refine F.ok (CX := CX0) scNu (fun vs H Q E h => ?_) (fun cdv A outer s H vs Q E hr h => ?_)
  · obtain ⟨n, sg, ws, kvs, f, rfl, _⟩ := h
    rfl
  · refine ⟨_, PSs.nox (pss_cons (ps_set (i := 2) scNu.nd rfl (.inl rfl) pe_dnewK)
      (pss_cons (ps_set (i := 3) scNu.nd rfl (.inl rfl) pe_dnewK)
      (pss_cons (ps_for PassesOwn.never rfl (pi_seq (pv 0)) (pg_name (i := 4) scNu.nd rfl (.inl rfl))
        (pss_one (ps_dput (hu_of hr) (pv 3) (pv 4) (by exact (pe_dsetd (pv 2) (by exact (pe_dget (hu_of hr) (pv 1) (pv 4) (fun _ _ => rfl))) (pe_callB call_lenD rfl ml boot_len (pa_cons (pv 2) pa_nil)) ⟨rfl, rfl, rfl, rfl⟩)) (by rfl))))
      (pss_one (ps_ret (pv 3)))))), ?_⟩
    obtain ⟨n, sg, ws, kvs, f, rfl, hn, w1000, nd, hsg, hf, q⟩ := h
    refine fun nu nnu => fun lo nlo => ?_
    have m0 := Sm.trans (Sm.new (o := .dK []) nnu) (Sm.new (o := .dK []) nlo)
    have enu := Sm.new (o := .dK []) nlo _ _ (upd_same (H := H) (a := nu) (o := .dK []))
    have elo := upd_same (H := upd H nu (.dK [])) (a := lo) (o := .dK [])
    have nlo2 : H lo = none := none_of_sm (Sm.new nnu) nlo
    have ne : nu ≠ lo := fun z => by
      rw [← z, upd_same] at nlo
      cases nlo
    generalize upd (upd H nu (.dK [])) lo (.dK []) = H1 at m0 enu elo ⊢
    refine ⟨_, rfl, n, ws.map V.str, rfl, .inr ⟨SqT.sm hn m0, ?_⟩⟩
    refine for_it walk_tup (fun i σ G => ∃ v4 : Option V, σ = [some (.ref n), some (.ref sg), some (.ref nu), some (.ref lo), v4] ∧ G nu = some (.dK (tabOf (Lo.seen f (ws.take i)))) ∧ G lo = some (.dK (dkv (ws.take i) (nums f (ws.take i)))) ∧ Sm H G)
      ⟨none, rfl, enu, elo, m0⟩ (fun i σ G _ ⟨_, _, _, _, m⟩ => SqT.sm hn m) (fun i v σ G G' hi p yy => ?_) (fun σ G p => ?_)
    · obtain ⟨v4, rfl, eN, eL, m⟩ := p
      obtain ⟨rfl, ex⟩ := yy
      obtain ⟨z, ez, rfl⟩ : ∃ z, ws[i]? = some z ∧ v = .str z := by
        rw [List.getElem?_map] at ex
        cases e : ws[i]? with
        | none =>
          rw [e] at ex
          cases ex
        | some d =>
          rw [e] at ex
          exact ⟨d, rfl, (Option.some.inj ex).symm⟩
      have hz := List.mem_of_getElem? ez
      have il := (List.getElem?_eq_some_iff.mp ez).1
      have tk : ws.take (i + 1) = ws.take i ++ [z] := by
        rw [List.take_add_one, ez]
        rfl
      have ndt : (ws.take i ++ [z]).Nodup := by
        rw [← tk]
        exact nd.sublist (List.take_sublist _ _)
      have tl : (ws.take i).length = i := by
        rw [List.length_take]
        omega
      have sl := Lo.seen_len (f := f) (ws := ws.take i)
      have big : (dkv (ws.take i) (nums f (ws.take i))).length < sizeLine := by
        rw [dkv_len nums_len, tl, sizeLine_eq]
        omega
      have keep : ∀ {o o2 : HO}, Sm H (upd (upd G' nu o) lo o2) := fun {o o2} b ob e => by
        rw [upd_ne (fun z => by rw [z, nlo2] at e; cases e), upd_ne (fun z => by rw [z, nnu] at e; cases e)]
        exact m _ _ e
      refine ⟨_, rfl, nu, rfl, .inl ⟨_, .inl eN⟩, _, rfl, _, rfl, sg, kV (f z), rfl, .inl ⟨_, .inr z, .inl (m _ _ hsg), rfl, (hf z hz).symm⟩, _, rfl, nu, _, rfl, eN, _, f z, eN, rfl, ?_, fun v hv => ?_, fun hv => ?_⟩
      · rw [tab_len, sizeLine_eq]
        omega
      · have c : f z ∈ Lo.seen f (ws.take i) := Classical.byContradiction fun n => by
          rw [tab_out n] at hv
          cases hv
        rw [tab_in c] at hv
        cases Option.some.inj hv
        refine ⟨_, rfl, _, rfl, lo, _, rfl, .k (k := .inr z) eL big, _, rfl, ?_, ?_, fun b ob e => ?_⟩
        · rw [upd_ne ne, tk, Lo.seen_snoc, if_pos c]
          exact eN
        · rw [upd_same, put_dkvV nums_len ndt, tk, nums_snoc, num_old c]
        · rw [upd_ne (fun z => by rw [z, nlo2] at e; cases e)]
          exact m _ _ e
      · have c : f z ∉ Lo.seen f (ws.take i) := fun c => by
          rw [tab_in c] at hv
          cases hv
        have ev : V.int (((tabOf (Lo.seen f (ws.take i))).length : Nat) : Int) = V.int (((Lo.seen f (ws.take i)).length : Nat) : Int) := by rw [tab_len]
        rw [ev, tab_put c]
        refine ⟨_, rfl, _, rfl, lo, _, rfl, .k (k := .inr z) (by rw [upd_ne (Ne.symm ne)]; exact eL) big, _, rfl, ?_, ?_, keep⟩
        · rw [upd_ne ne, upd_same, tk, Lo.seen_snoc, if_neg c]
        · rw [upd_same, put_dkvV nums_len ndt, tk, nums_snoc, num_new c]
    · obtain ⟨v4, rfl, eN, eL, m⟩ := p
      rw [List.length_map, List.take_length] at eL
      exact ⟨_, rfl, q lo G m nlo2 eL⟩
theorem ok_num2 (F : FnP K "numbered" (top 16) f fd) (ml : mg "len" = none) : FnOk P w K mg base CX0 1 f fd ["nodes", "signs"] (spNum2 K) := by
  refine F.ok (CX := CX0) scNu (fun vs H Q E h => ?_) (fun cdv A outer s H vs Q E hr h => ?_)
  · obtain ⟨n, sg, ws, kvs, f, rfl, _⟩ := h
    rfl
  · refine ⟨_, PSs.nox (pss_cons (ps_set (i := 2) scNu.nd rfl (.inl rfl) pe_dnewT)
      (pss_cons (ps_set (i := 3) scNu.nd rfl (.inl rfl) pe_dnewK)
      (pss_cons (ps_for PassesOwn.never rfl (pi_seq (pv 0)) (pg_name (i := 4) scNu.nd rfl (.inl rfl))
        (pss_one (ps_dput (hu_of hr) (pv 3) (pv 4) (by exact (pe_dsetT (hu_of hr) (pv 2) (by exact (pe_dget (hu_of hr) (pv 1) (pv 4) (fun _ _ => rfl))) (pe_callB call_len_dT rfl ml boot_len (pa_cons (pv 2) pa_nil)) ⟨rfl, rfl, rfl, rfl⟩)) (by rfl))))
      (pss_one (ps_ret (pv 3)))))), ?_⟩
    obtain ⟨n, sg, ws, kvs, f, rfl, hn, w1000, nd, hsg, hf, q⟩ := h
    refine fun nu nnu => fun lo nlo => ?_
    have m0 := Sm.trans (Sm.new (o := .dT []) nnu) (Sm.new (o := .dK []) nlo)
    have enu := Sm.new (o := .dK []) nlo _ _ (upd_same (H := H) (a := nu) (o := .dT []))
    have elo := upd_same (H := upd H nu (.dT [])) (a := lo) (o := .dK [])
    have nlo2 : H lo = none := none_of_sm (Sm.new nnu) nlo
    have ne : nu ≠ lo := fun z => by
      rw [← z, upd_same] at nlo
      cases nlo
    generalize upd (upd H nu (.dT [])) lo (.dK []) = H1 at m0 enu elo ⊢
    refine ⟨_, rfl, n, ws.map V.str, rfl, .inr ⟨SqT.sm hn m0, ?_⟩⟩
    refine for_it walk_tup (fun i σ G => ∃ v4 : Option V, σ = [some (.ref n), some (.ref sg), some (.ref nu), some (.ref lo), v4] ∧ G nu = some (.dT (tabOf (Lo.seen f (ws.take i)))) ∧ G lo = some (.dK (dkv (ws.take i) (nums f (ws.take i)))) ∧ Sm H G)
      ⟨none, rfl, enu, elo, m0⟩ (fun i σ G _ ⟨_, _, _, _, m⟩ => SqT.sm hn m) (fun i v σ G G' hi p yy => ?_) (fun σ G p => ?_)
    · obtain ⟨v4, rfl, eN, eL, m⟩ := p
      obtain ⟨rfl, ex⟩ := yy
      obtain ⟨z, ez, rfl⟩ : ∃ z, ws[i]? = some z ∧ v = .str z := by
        rw [List.getElem?_map] at ex
        cases e : ws[i]? with
        | none =>
          rw [e] at ex
          cases ex
        | some d =>
          rw [e] at ex
          exact ⟨d, rfl, (Option.some.inj ex).symm⟩
      have hz := List.mem_of_getElem? ez
      have il := (List.getElem?_eq_some_iff.mp ez).1
      have tk : ws.take (i + 1) = ws.take i ++ [z] := by
        rw [List.take_add_one, ez]
        rfl
      have ndt : (ws.take i ++ [z]).Nodup := by
        rw [← tk]
        exact nd.sublist (List.take_sublist _ _)
      have tl : (ws.take i).length = i := by
        rw [List.length_take]
        omega
      have sl := Lo.seen_len (f := f) (ws := ws.take i)
      have big : (dkv (ws.take i) (nums f (ws.take i))).length < sizeLine := by
        rw [dkv_len nums_len, tl, sizeLine_eq]
        omega
      have keep : ∀ {o o2 : HO}, Sm H (upd (upd G' nu o) lo o2) := fun {o o2} b ob e => by
        rw [upd_ne (fun z => by rw [z, nlo2] at e; cases e), upd_ne (fun z => by rw [z, nnu] at e; cases e)]
        exact m _ _ e
      obtain ⟨b, vb, hb⟩ := hf z hz
      refine ⟨_, rfl, nu, rfl, .inr ⟨_, .inl eN⟩, _, rfl, _, rfl, sg, .ref b, rfl, .inl ⟨_, .inr z, .inl (m _ _ hsg), rfl, vb.symm⟩, _, rfl, nu, _, rfl, eN, _, f z, b, rfl, eN, m _ _ hb, ?_, fun v hv => ?_, fun hv => ?_⟩
      · rw [tab_len, sizeLine_eq]
        omega
      · have c : f z ∈ Lo.seen f (ws.take i) := Classical.byContradiction fun n => by
          rw [tab_out n] at hv
          cases hv
        rw [tab_in c] at hv
        cases Option.some.inj hv
        refine ⟨_, rfl, _, rfl, lo, _, rfl, .k (k := .inr z) eL big, _, rfl, ?_, ?_, fun b ob e => ?_⟩
        · rw [upd_ne ne, tk, Lo.seen_snoc, if_pos c]
          exact eN
        · rw [upd_same, put_dkvV nums_len ndt, tk, nums_snoc, num_old c]
        · rw [upd_ne (fun z => by rw [z, nlo2] at e; cases e)]
          exact m _ _ e
      · have c : f z ∉ Lo.seen f (ws.take i) := fun c => by
          rw [tab_in c] at hv
          cases hv
        have ev : V.int (((tabOf (Lo.seen f (ws.take i))).length : Nat) : Int) = V.int (((Lo.seen f (ws.take i)).length : Nat) : Int) := by rw [tab_len]
        rw [ev, tab_put c]
        refine ⟨_, rfl, _, rfl, lo, _, rfl, .k (k := .inr z) (by rw [upd_ne (Ne.symm ne)]; exact eL) big, _, rfl, ?_, ?_, keep⟩
        · rw [upd_ne ne, upd_same, tk, Lo.seen_snoc, if_neg c]
        · rw [upd_same, put_dkvV nums_len ndt, tk, nums_snoc, num_new c]
    · obtain ⟨v4, rfl, eN, eL, m⟩ := p
      rw [List.length_map, List.take_length] at eL
      exact ⟨_, rfl, q lo G m nlo2 eL⟩
end
end Dk
set_option Elab.async false
set_option linter.all false
set_option maxRecDepth 100000
set_option maxHeartbeats 8000000
namespace Dk
open PySem PySem.Spec PyProof.Rows L2 Er LamX NdefX
/-! ### count_lots, lot_numbers -/
/-- standings and their numbers -/
def numO (ws : List Str) (nu : Str → Nat) : HO := .dK (dkv ws (ws.map fun z => V.int ((nu z : Nat) : Int)))
def many (ws : List Str) (nu : Str → Nat) : Nat := (Lo.seen (fun z => ((nu z : Nat) : Int)) ws).length
theorem seen_map {S κ : Type} [DecidableEq κ] {h : S → κ} {ws : List S} : Lo.seen id (ws.map h) = Lo.seen h ws := by
  unfold Lo.seen
  rw [List.foldl_map]
  rfl
def spCl : Sp := fun vs H Q _ => ∃ (l : Addr) (ws : List Str) (nu : Str → Nat), vs = [.ref l] ∧ H l = some (numO ws nu) ∧ ws.length ≤ 1000 ∧ ∀ G, Sm H G → Q (.int (many ws nu : Nat)) G
abbrev nCl : List Str := ["lots"]
theorem scCl : FnScope nCl nCl (defScope (top 18)) := ⟨rfl, rfl, rfl, by decide +kernel, rfl, by decide +kernel, by decide +kernel⟩
/-- tuple(xs), xs a list that stands: a new one -/
def rTupO (K : PySem.W.Frag) : List V → Hp → VK → Prop := fun vs H Q => ∃ (a : Addr) (xs : List V), vs = [.ref a] ∧ H a = some (.lst xs) ∧ ∀ t, H t = none → Q (.ref t) (upd H t (.tup xs))
theorem call_tupO {X : Cx} : CallR X (.type "tuple") (rTupO X.K) := by
  intro pins s σ H vs us Q I r h
  obtain ⟨a, xs, e, ha, q⟩ := h
  exact call_tuple_of pins s σ H vs us Q I r ⟨a, xs, e, .inl ⟨.inl (.inl ha), q⟩⟩
abbrev nLn : List Str := ["nodes", "signs", "moves", "behind", "lots", "many", "node", "one"]
theorem scLn : FnScope nLn ["nodes", "signs", "moves"] (defScope (top 17)) := ⟨rfl, rfl, rfl, by decide +kernel, rfl, by decide +kernel, by decide +kernel⟩
abbrev scLn1 : Scope := { kind := .function, names := [(".0", .local), ("node", .local), ("tuple", .globalImplicit), ("behind", .cell), ("lots", .cell)], isGenerator := false, isCoroutine := false }
/-- for each standing it and those to which the deeds lead -/
structure BeAt (H : Hp) (be : Addr) (ws ds : List Str) (cs : List Addr) (nx : Str → Str → Str) : Prop where
  at_ : H be = some (.dK (dkv ws (cs.map V.ref)))
  rows : Paired (fun c z => H c = some (.lst ((z :: ds.map (nx z)).map V.str))) cs ws
theorem BeAt.sm {H G : Hp} {be : Addr} {ws ds : List Str} {cs : List Addr} {nx : Str → Str → Str} (h : BeAt H be ws ds cs nx) (m : Sm H G) : BeAt G be ws ds cs nx := ⟨m _ _ h.at_, pair_mono h.rows fun b _ z e => m _ _ e⟩
theorem BeAt.row {H : Hp} {be : Addr} {ws ds : List Str} {cs : List Addr} {nx : Str → Str → Str} (m : BeAt H be ws ds cs nx) {z : Str} (hz : z ∈ ws) : ∃ c, valV (dkv ws (cs.map V.ref)) (.inr z) = some (.ref c) ∧ H c = some (.lst ((z :: ds.map (nx z)).map V.str)) := by
  have bl : cs.length = ws.length := paired_len m.rows
  have il := idx_lt hz
  have e1 : cs[ws.idxOf z]? = some (cs[ws.idxOf z]'(by omega)) := List.getElem?_eq_getElem _
  obtain ⟨z2, e2, e3⟩ := pair_at m.rows e1
  rw [List.getElem?_eq_getElem il, List.getElem_idxOf il] at e2
  cases Option.some.inj e2
  exact ⟨_, by rw [dkv_get (by rw [List.length_map, bl]) hz, List.getElem?_map, e1]; rfl, e3⟩
theorem num_at {ws : List Str} {nu : Str → Nat} {z : Str} (hz : z ∈ ws) : valV (dkv ws (ws.map fun z => V.int ((nu z : Nat) : Int))) (.inr z) = some (.int ((nu z : Nat) : Int)) := by
  have il := idx_lt hz
  rw [dkv_get (by rw [List.length_map]) hz, List.getElem?_map, List.getElem?_eq_getElem il, List.getElem_idxOf il]
  rfl
/-- numbers are the same just where no row parts two -/
def Alk (nx : Str → Str → Str) (lk : Str → Str) (ds ws : List Str) (nu : Str → Nat) : Prop := ∀ z ∈ ws, ∀ y ∈ ws, nu z = nu y ↔ ∀ k, ¬ Ap.Sep nx lk ds z y k
theorem many_lots {nx : Str → Str → Str} {lk : Str → Str} {ds ws : List Str} {nu : Str → Nat} {k : Nat} (h : ∀ z ∈ ws, ∀ y ∈ ws, nu z = nu y ↔ Ap.Eq nx lk ds k z y) : many ws nu = Ap.lots nx lk ds ws k :=
  Lo.seen_lots fun z hz y hy => ⟨fun e => (h z hz y hy).mp (by omega), fun e => by rw [(h z hz y hy).mpr e]⟩
/-- what a standing and those behind it have for numbers -/
def behind (nx : Str → Str → Str) (ds : List Str) (nu : Str → Nat) (z : Str) : List Key := (z :: ds.map (nx z)).map fun y => .inl ((nu y : Nat) : Int)
theorem behind_iff {nx : Str → Str → Str} {ds : List Str} {nu : Str → Nat} {z y : Str} : behind nx ds nu z = behind nx ds nu y ↔ nu z = nu y ∧ ∀ d ∈ ds, nu (nx z d) = nu (nx y d) := by
  unfold behind
  rw [List.map_cons, List.map_cons, List.map_map, List.map_map]
  constructor
  · intro h
    have h1 := (List.cons.inj h).1
    have h2 := (List.cons.inj h).2
    have e1 : ((nu z : Nat) : Int) = ((nu y : Nat) : Int) := Sum.inl.inj h1
    refine ⟨by omega, fun d hd => ?_⟩
    have h3 := List.map_inj_left.mp h2 d hd
    have e2 : ((nu (nx z d) : Nat) : Int) = ((nu (nx y d) : Nat) : Int) := Sum.inl.inj h3
    omega
  · rintro ⟨h1, h2⟩
    rw [h1]
    congr 1
    exact List.map_congr_left fun d hd => by
      show (Sum.inl ((nu (nx z d) : Nat) : Int) : Key) = Sum.inl ((nu (nx y d) : Nat) : Int)
      rw [h2 d hd]
def spLn (K : PySem.W.Frag) : Sp := fun vs H Q _ => ∃ (n sg mo : Addr) (ws ds ls : List Str) (bs : List Addr) (nx : Str → Str → Str), vs = [.ref n, .ref sg, .ref mo] ∧ SqT K H n (ws.map V.str) ∧ 1 ≤ ws.length ∧ ws.length ≤ 9 ∧ ds.length ≤ 4 ∧ ws.Nodup ∧
  H sg = some (.dK (dkv ws (ls.map V.str))) ∧ ls.length = ws.length ∧ MvAt H mo ws ds bs nx ∧ (∀ z ∈ ws, ∀ d ∈ ds, nx z d ∈ ws) ∧ ∀ (q : Addr) (nu : Str → Nat) G, Sm H G → H q = none → G q = some (numO ws nu) → Alk nx (look ws ls) ds ws nu → Q (.ref q) G
section
variable {P : Program} {w : World} {K : PySem.W.Frag} {mg : Str → Option Value} {base : Heap} {f fN fC : Addr} {fd dN dC : FuncData}
theorem bCl (F : FnP K "count_lots" (top 18) f fd) : Binds K fd nCl [] := F.bindsN fun _ _ _ _ _ _ us hl => match us, hl with
  | [_], _ => rfl
theorem bLn (F : FnP K "lot_numbers" (top 17) f fd) : Binds K fd ["nodes", "signs", "moves"] [] := F.bindsN fun _ _ _ _ _ _ us hl => match us, hl with
  | [_, _, _], _ => rfl
theorem ok_cl (F : FnP K "count_lots" (top 18) f fd) (ml : mg "len" = none) (mS : mg "set" = none) (mL : mg "list" = none) : FnOk P w K mg base CX0 1 f fd nCl spCl := by
  refine F.ok (CX := CX0) scCl (fun vs H Q E h => ?_) (fun cdv A outer s H vs Q E hr h => ?_)
  · obtain ⟨l, ws, nu, rfl, _⟩ := h
    rfl
  · refine ⟨_, PSs.nox (pss_one (ps_ret (by exact (pe_lenNums rfl rfl ml rfl mS (pe_listVals rfl rfl mL (pv 0)))))), ?_⟩
    obtain ⟨l, ws, nu, rfl, hl, few, q⟩ := h
    refine ⟨_, rfl, l, _, rfl, hl, fun p np => ⟨p, ws.map fun z => ((nu z : Nat) : Int), rfl, .inl (.inl ?_), by rw [List.length_map]; exact few, ?_⟩⟩
    · rw [upd_same, show (dkv ws (ws.map fun z => V.int ((nu z : Nat) : Int))).map (·.2) = ws.map fun z => V.int ((nu z : Nat) : Int) from List.map_snd_zip (by rw [List.length_map, List.length_map]; exact Nat.le_refl _), List.map_map]
      rfl
    · rw [seen_map]
      exact q _ (Sm.new np)
theorem ok_ln (F : FnP K "lot_numbers" (top 17) f fd) (ml : mg "len" = none) (mL : mg "list" = none) (mT : mg "tuple" = none)
    (GN : FnOk P w K mg base CX0 1 fN dN ["nodes", "signs"] (spNum1 K)) (GN2 : FnOk P w K mg base CX0 1 fN dN ["nodes", "signs"] (spNum2 K)) (FN : FnP K "numbered" (top 16) fN dN) (gN : mg "numbered" = some (.ref fN))
    (GC : FnOk P w K mg base CX0 1 fC dC nCl spCl) (FC : FnP K "count_lots" (top 18) fC dC) (gC : mg "count_lots" = some (.ref fC)) : FnOk P w K mg base CX0 2 f fd ["nodes", "signs", "moves"] (spLn K) := by
  refine F.ok (CX := CX0) scLn (fun vs H Q E h => ?_) (fun cdv A outer s H vs Q E hr h => ?_)
  · obtain ⟨n, sg, mo, ws, ds, ls, bs, nx, rfl, _⟩ := h
    rfl
  · refine ⟨_, PSs.nox (pss_cons (ps_set (i := 3) scLn.nd rfl (.inr rfl) (by exact (pe_dc (own := [("node", 6)]) (g := gName 6) (tt := tYes) (tk := tVar 6) (tv := tOp rCat (tLst (tCons (tVar 6) tNil)) (tListVals (tDGet (tVar 2) (tVar 6)))) rfl scLn.nd (pi_seq (pv 0)) (blkOk_by (N := nLn) (sc := defScope (top 17)) (by decide +kernel)) (fun _ _ _ _ _ => pg_name (i := 6) scLn.nd rfl (Or.inl rfl)) (fun _ _ _ _ _ => pts_nil) (fun _ _ _ _ _ => (by exact (pv 6))) (fun _ _ _ _ _ => by exact (pe_op op_cat (pe_lst (pa_cons (by exact (pv 6)) pa_nil)) (by exact (pe_listVals rfl rfl mL (by exact (pe_dget (hu_of hr) (by exact (pv 2)) (by exact (pv 6)) (fun _ _ => rfl))))))))))
      (pss_cons (ps_set (i := 4) scLn.nd rfl (.inr rfl) (by exact (pe_call GN hr rfl gN FN.kp (bNu FN) .nil pass0 (pa_cons (pv 0) (pa_cons (pv 1) pa_nil)))))
      (pss_cons (ps_set (i := 5) scLn.nd rfl (.inl rfl) pe_int)
      (pss_cons (ps_while PassesOwn.never (pt_chain op_lt op_lt (pv 5) (by exact (pe_call GC hr rfl gC FC.kp (bCl FC) .nil pass0 (pa_cons (pv 4) pa_nil))) (pe_callB call_len rfl ml boot_len (pa_cons (pv 0) pa_nil))) (pss_cons (ps_set (i := 5) scLn.nd rfl (.inl rfl) (by exact (pe_call GC hr rfl gC FC.kp (bCl FC) .nil pass0 (pa_cons (pv 4) pa_nil))))
      (pss_one (ps_set (i := 4) scLn.nd rfl (.inr rfl) (by exact (pe_call GN2 hr rfl gN FN.kp (bNu FN) .nil pass0 (pa_cons (pv 0) (pa_cons (by exact (pe_dc (own := [("node", 6)]) (g := gName 6) (tt := tYes) (tk := tVar 6) (tv := tCB (rTupO K) (tCons (tLc (iList K (tDGet (tVar 3) (tVar 6))) (gName 7) tYes (tDGet (tVar 4) (tVar 7)) [7]) tNil)) rfl scLn.nd (pi_seq (pv 0)) (blkOk_by (N := nLn) (sc := defScope (top 17)) (by decide +kernel)) (fun _ _ _ _ _ => pg_name (i := 6) scLn.nd rfl (Or.inl rfl)) (fun _ _ _ _ _ => pts_nil) (fun _ _ _ _ _ => (by exact (pv 6))) (fun _ _ _ _ _ => by exact (pe_callTy call_tupO rfl mT PyProof.Rows.boot_tuple (pa_cons (by exact (pe_lc (own := [("one", 7)]) (g := gName 7) (tt := tYes) (te := tDGet (tVar 4) (tVar 7)) rfl scLn.nd (pi_list (by exact (pe_dget (hu_of hr) (by exact (pv 3)) (by exact (pv 6)) (fun _ _ => rfl)))) (blkOk_by (N := nLn) (sc := scLn1) (by decide +kernel)) (fun _ _ _ _ _ => pg_name (i := 7) scLn.nd rfl (Or.inl rfl)) (fun _ _ _ _ _ => pts_nil) (fun _ _ _ _ _ => (by exact (pe_dget (hu_of hr) (by exact (pv 4)) (by exact (pv 7)) (fun _ _ => rfl)))))) pa_nil))))) pa_nil))))))))
      (pss_one (ps_ret (pv 4))))))), ?_⟩
    obtain ⟨n, sg, mo, ws, ds, ls, bs, nx, rfl, hn, w1, w9, d4, nd, hsg, ll, hmo, cl, q⟩ := h
    have sz : ∀ n : Nat, n ≤ 1000 → n ≤ sizeLine := fun n z => by
      rw [sizeLine_eq]
      omega
    have str_of : ∀ {i : Nat} {x : V}, (ws.map V.str)[i]? = some x → ∃ z, ws[i]? = some z ∧ x = .str z := fun {i x} ex => by
      rw [List.getElem?_map] at ex
      cases e : ws[i]? with
      | none =>
        rw [e] at ex
        cases ex
      | some d =>
        rw [e] at ex
        exact ⟨d, rfl, (Option.some.inj ex).symm⟩
    -- those behind each
    refine ⟨_, rfl, n, ws.map V.str, rfl, .inr ⟨hn, ?_⟩⟩
    refine dc_it walk_tup (fun _ => rfl) (fun D j G => ∃ cs : List Addr, cs.length = j ∧ G D = some (.dK (dkv (ws.take j) (cs.map V.ref))) ∧ Paired (fun c z => c ≠ D ∧ G c = some (.lst ((z :: ds.map (nx z)).map V.str))) cs (ws.take j) ∧ Sm H G)
      (fun D nD => ⟨[], rfl, upd_same, .nil, Sm.new nD⟩) (fun D j G _ ⟨_, _, _, _, mm⟩ => SqT.sm hn mm) (fun D j x0 G G' nD hj p y => ?_) (fun be G nD p => ?_)
    · obtain ⟨cs, cl1, eD, pc, mm⟩ := p
      obtain ⟨rfl, ex⟩ := y
      obtain ⟨z, ez, rfl⟩ := str_of ex
      have hz := List.mem_of_getElem? ez
      have jl : j < ws.length := (List.getElem?_eq_some_iff.mp ez).1
      have tk : ws.take (j + 1) = ws.take j ++ [z] := by
        rw [List.take_add_one, ez]
        rfl
      have l1 : cs.length = (ws.take j).length := by
        rw [List.length_take]
        omega
      obtain ⟨b, vb, _, hb⟩ := (hmo.sm mm).row hz
      refine ⟨_, rfl, _, rfl, sz _ (by show 1 ≤ 1000; decide), fun l1 nl1 => ?_⟩
      have m1 := Sm.new (o := .lst [.str z]) nl1
      refine ⟨_, rfl, _, rfl, mo, .ref b, rfl, .inl ⟨_, .inr z, .inl (m1 _ _ (mm _ _ hmo.at_)), rfl, vb.symm⟩, b, _, rfl, m1 _ _ hb, fun l2 nl2 => ?_⟩
      have es : (dkv ds ((ds.map (nx z)).map V.str)).map (·.2) = (ds.map (nx z)).map V.str := List.map_snd_zip (by rw [List.length_map, List.length_map, List.length_map]; exact Nat.le_refl _)
      rw [es]
      have m2 := Sm.new (o := .lst ((ds.map (nx z)).map V.str)) nl2
      have e1 := m2 _ _ (upd_same (H := G') (a := l1) (o := .lst [.str z]))
      have e2 := upd_same (H := upd G' l1 (.lst [.str z])) (a := l2) (o := .lst ((ds.map (nx z)).map V.str))
      have m3 := m1.trans m2
      generalize upd (upd G' l1 (.lst [.str z])) l2 (.lst ((ds.map (nx z)).map V.str)) = G2 at m3 e1 e2 ⊢
      refine ⟨l1, l2, _, _, rfl, rfl, e1, e2, sz _ (by rw [List.length_map, List.length_map]; show 1 + ds.length ≤ 1000; omega), fun c nc => ?_⟩
      have m4 := Sm.new (o := .lst ([.str z] ++ (ds.map (nx z)).map V.str)) nc
      have ec : upd G2 c (.lst ([.str z] ++ (ds.map (nx z)).map V.str)) c = some (.lst ((z :: ds.map (nx z)).map V.str)) := upd_same
      have cD : c ≠ D := fun e => by
        rw [e, m3 _ _ eD] at nc
        cases nc
      have m5 := m3.trans m4
      generalize upd G2 c (.lst ([.str z] ++ (ds.map (nx z)).map V.str)) = G3 at ec m5 ⊢
      refine ⟨_, .inr z, rfl, m5 _ _ eD, by rw [dkv_len (by rw [List.length_map]; omega), List.length_take, sizeLine_eq]; omega, cs ++ [c], by rw [List.length_append, cl1]; rfl, ?_, ?_, fun b0 o e => ?_⟩
      · rw [upd_same, put_dkv (by omega) (by rw [← tk]; exact nd.sublist (List.take_sublist _ _)), tk]
      · rw [tk]
        refine pair_more (pair_mono pc fun b _ t eb => ⟨eb.1, ?_⟩) ⟨cD, ?_⟩
        · rw [upd_ne eb.1]
          exact m5 _ _ eb.2
        · rw [upd_ne cD]
          exact ec
      · rw [upd_ne (ne_of_none e nD)]
        exact m5 _ _ (mm _ _ e)
    · obtain ⟨cs, cl1, eD, pc, mm⟩ := p
      rw [List.length_map, List.take_length] at eD pc
      have hB : BeAt G be ws ds cs nx := ⟨eD, pair_mono pc fun c _ z e => e.2⟩
      clear eD pc nD
      -- first numbers
      refine ⟨_, rfl, _, rfl, n, sg, ws, _, fun z => .inr (look ws ls z), rfl, SqT.sm hn mm, by omega, nd, mm _ _ hsg, fun z hz => look_at ll hz, fun l0 G0 m0 nl0 el0 => ?_⟩
      have hB := hB.sm m0
      have mH := mm.trans m0
      have nl0 : H l0 = none := none_of_sm mm nl0
      have first : ∀ z ∈ ws, ∀ y ∈ ws, Lo.num (fun z => (.inr (look ws ls z) : Key)) ws z = Lo.num (fun z => (.inr (look ws ls z) : Key)) ws y ↔ Ap.Eq nx (look ws ls) ds 0 z y := fun z hz y hy => by
        rw [Lo.num_iff hz hy, Lo.eq_zero]
        exact ⟨fun e => Sum.inr.inj e, fun e => by rw [e]⟩
      have el0 : G0 l0 = some (numO ws (Lo.num (fun z => (.inr (look ws ls z) : Key)) ws)) := el0
      generalize Lo.num (fun z => (.inr (look ws ls z) : Key)) ws = nu0 at first el0
      clear m0 mm
      refine ⟨fun m σ G => ∃ (lo : Addr) (mn k : Nat) (nu : Str → Nat) (v6 v7 : Option V), σ = [some (.ref n), some (.ref sg), some (.ref mo), some (.ref be), some (.ref lo), some (.int (mn : Nat)), v6, v7] ∧ m = ws.length - mn ∧ G lo = some (numO ws nu) ∧ (∀ z ∈ ws, ∀ y ∈ ws, nu z = nu y ↔ Ap.Eq nx (look ws ls) ds k z y) ∧
        ((mn = 0 ∧ k = 0) ∨ ∃ j, k = j + 1 ∧ mn = Ap.lots nx (look ws ls) ds ws j) ∧ H lo = none ∧ BeAt G be ws ds cs nx ∧ Sm H G, ⟨_, l0, 0, 0, nu0, none, none, rfl, rfl, el0, first, .inl ⟨rfl, rfl⟩, nl0, hB, mH⟩, ?_⟩
      clear first el0 nl0 hB mH
      rintro m σ G ⟨lo, mn, k, nu, v6, v7, rfl, rfl, elo, hnu, hk, nlo, hB, mG⟩
      have ml : many ws nu = Ap.lots nx (look ws ls) ds ws k := many_lots hnu
      have done : ∀ G2, Sm G G2 → Alk nx (look ws ls) ds ws nu → Q (.ref lo) G2 := fun G2 m2 h => q lo nu G2 (mG.trans m2) nlo (m2 _ _ elo) h
      refine ⟨_, rfl, _, rfl, lo, ws, nu, rfl, elo, by omega, fun G1 m1 => ⟨_, _, rfl, rfl, _, rfl, ?_⟩⟩
      by_cases c : ((mn : Nat) : Int) < ((many ws nu : Nat) : Int)
      · rw [decide_eq_true c]
        refine iteT ⟨_, rfl, .ref n, ws.length, rfl, .inr ⟨_, SqT.sm hn (mG.trans m1), by rw [List.length_map]⟩, _, _, rfl, rfl, _, rfl, ?_⟩
        by_cases c2 : ((many ws nu : Nat) : Int) < ((ws.length : Nat) : Int)
        · rw [decide_eq_true c2]
          refine iteT ⟨fun σ' G' => ∃ (lo2 : Addr) (nu2 : Str → Nat) (v6 v7 : Option V), σ' = [some (.ref n), some (.ref sg), some (.ref mo), some (.ref be), some (.ref lo2), some (.int (many ws nu : Nat)), v6, v7] ∧ G' lo2 = some (numO ws nu2) ∧ (∀ z ∈ ws, ∀ y ∈ ws, nu2 z = nu2 y ↔ Ap.Eq nx (look ws ls) ds (k + 1) z y) ∧ H lo2 = none ∧ BeAt G' be ws ds cs nx ∧ Sm H G',
            fun σ' G' ⟨lo2, nu2, v6, v7, h1, h2, h3, h4, h5, h6⟩ => ⟨ws.length - many ws nu, by omega, lo2, many ws nu, k + 1, nu2, v6, v7, h1, rfl, h2, h3, .inr ⟨k, rfl, ml⟩, h4, h5, h6⟩, ?_⟩
          refine ⟨_, rfl, lo, ws, nu, rfl, m1 _ _ elo, by omega, fun G2 m2 => ?_⟩
          have mA := mG.trans (m1.trans m2)
          have hB2 := hB.sm (m1.trans m2)
          have elo2 := m2 _ _ (m1 _ _ elo)
          -- the tuples
          refine ⟨_, rfl, _, rfl, n, ws.map V.str, rfl, .inr ⟨SqT.sm hn mA, ?_⟩⟩
          refine dc_it walk_tup (fun _ => rfl) (fun D j G => ∃ ts : List Addr, ts.length = j ∧ G D = some (.dK (dkv (ws.take j) (ts.map V.ref))) ∧ Paired (fun t z => t ≠ D ∧ G t = some (.tup ((behind nx ds nu z).map kV))) ts (ws.take j) ∧ Sm G2 G)
            (fun D nD => ⟨[], rfl, upd_same, .nil, Sm.new nD⟩) (fun D j G _ ⟨_, _, _, _, mm⟩ => SqT.sm hn (mA.trans mm)) (fun D j x0 G G' nD hj p y => ?_) (fun D G3 nD p => ?_)
          · obtain ⟨ts, tl, eD, pt, mm⟩ := p
            obtain ⟨rfl, ex⟩ := y
            obtain ⟨z, ez, rfl⟩ := str_of ex
            have hz := List.mem_of_getElem? ez
            have jl : j < ws.length := (List.getElem?_eq_some_iff.mp ez).1
            have tk : ws.take (j + 1) = ws.take j ++ [z] := by
              rw [List.take_add_one, ez]
              rfl
            obtain ⟨c, vc, hc⟩ := (hB2.sm mm).row hz
            refine ⟨_, rfl, _, rfl, _, rfl, be, .ref c, rfl, .inl ⟨_, .inr z, .inl (mm _ _ hB2.at_), rfl, vc.symm⟩, c, rfl, ⟨_, .inl (.inl hc)⟩, fun E nE => ?_⟩
            have inw : ∀ y ∈ z :: ds.map (nx z), y ∈ ws := fun y hy => by
              rcases List.mem_cons.mp hy with e | e
              · rw [e]
                exact hz
              · obtain ⟨d, hd, rfl⟩ := List.mem_map.mp e
                exact cl z hz d hd
            have few : (z :: ds.map (nx z)).length ≤ 5 := by
              rw [List.length_cons, List.length_map]
              omega
            generalize eL : z :: ds.map (nx z) = L at hc inw few
            refine lc_list (xs := L.map V.str) (fun i G3 => G3 E = some (.lst ((L.take i).map fun y => V.int ((nu y : Nat) : Int))) ∧ Sm G' G3) ⟨upd_same, Sm.new nE⟩ (fun i G3 _ p => .inl (.inl (p.2 _ _ hc))) (fun i x G3 ex p => ?_) (fun G3 p => ?_)
            · obtain ⟨eE, m3⟩ := p
              obtain ⟨y, ey, rfl⟩ : ∃ y, L[i]? = some y ∧ x = .str y := by
                rw [List.getElem?_map] at ex
                cases e : L[i]? with
                | none =>
                  rw [e] at ex
                  cases ex
                | some d =>
                  rw [e] at ex
                  exact ⟨d, rfl, (Option.some.inj ex).symm⟩
              have il := (List.getElem?_eq_some_iff.mp ey).1
              have tk2 : L.take (i + 1) = L.take i ++ [y] := by
                rw [List.take_add_one, ey]
                rfl
              refine ⟨rfl, ?_⟩
              unfold tYes
              dsimp only
              rw [if_pos rfl]
              refine ⟨_, rfl, _, rfl, lo, .int ((nu y : Nat) : Int), rfl, .inl ⟨_, .inr y, .inl (m3 _ _ (mm _ _ elo2)), rfl, (num_at (inw y (List.mem_of_getElem? ey))).symm⟩, _, eE, by rw [List.length_map, List.length_take, sizeLine_eq]; omega, ?_, fun b0 o e => ?_⟩
              · rw [upd_same, tk2, List.map_append]
                rfl
              · rw [upd_ne (ne_of_none e nE)]
                exact m3 _ _ e
            · obtain ⟨eE, m3⟩ := p
              rw [List.length_map, List.take_length] at eE
              refine ⟨E, _, rfl, eE, fun t nt => ?_⟩
              have m4 := m3.trans (Sm.new (o := .tup (L.map fun y => V.int ((nu y : Nat) : Int))) nt)
              have et : upd G3 t (.tup (L.map fun y => V.int ((nu y : Nat) : Int))) t = some (.tup ((behind nx ds nu z).map kV)) := by
                rw [upd_same]
                unfold behind
                rw [eL, List.map_map]
                rfl
              have tD : t ≠ D := fun e => by
                rw [e, m3 _ _ eD] at nt
                cases nt
              generalize upd G3 t (.tup (L.map fun y => V.int ((nu y : Nat) : Int))) = G4 at m4 et ⊢
              refine ⟨_, .inr z, rfl, m4 _ _ eD, by rw [dkv_len (by rw [List.length_map, List.length_take]; omega), List.length_take, sizeLine_eq]; omega, ts ++ [t], by rw [List.length_append, tl]; rfl, ?_, ?_, fun b0 o e => ?_⟩
              · rw [upd_same, put_dkv (by rw [List.length_take]; omega) (by rw [← tk]; exact nd.sublist (List.take_sublist _ _)), tk]
              · rw [tk]
                refine pair_more (pair_mono pt fun b _ t2 eb => ⟨eb.1, ?_⟩) ⟨tD, ?_⟩
                · rw [upd_ne eb.1]
                  exact m4 _ _ eb.2
                · rw [upd_ne tD]
                  exact et
              · rw [upd_ne (ne_of_none e nD)]
                exact m4 _ _ (mm _ _ e)
          · obtain ⟨ts, tl, eD, pt, mm⟩ := p
            rw [List.length_map, List.take_length] at eD pt
            refine ⟨n, D, ws, _, behind nx ds nu, rfl, SqT.sm hn (mA.trans mm), by omega, nd, eD, fun z hz => ?_, fun l2 G4 m4 nl2 el2 => ?_⟩
            · have il := idx_lt hz
              have tl2 : ts.length = ws.length := paired_len pt
              have e1 : ts[ws.idxOf z]? = some (ts[ws.idxOf z]'(by omega)) := List.getElem?_eq_getElem _
              obtain ⟨z2, e2, e3⟩ := pair_at pt e1
              rw [List.getElem?_eq_getElem il, List.getElem_idxOf il] at e2
              cases Option.some.inj e2
              exact ⟨_, by rw [dkv_get (by rw [List.length_map, tl2]) hz, List.getElem?_map, e1]; rfl, e3.2⟩
            · refine ⟨l2, Lo.num (behind nx ds nu) ws, _, _, rfl, el2, fun z hz y hy => ?_, none_of_sm (mA.trans mm) nl2, hB2.sm (mm.trans m4), mA.trans (mm.trans m4)⟩
              rw [Lo.num_iff hz hy, behind_iff, Lo.eq_succ, hnu z hz y hy]
              exact ⟨fun h => ⟨h.1, fun d hd => (hnu _ (cl z hz d hd) _ (cl y hy d hd)).mp (h.2 d hd)⟩, fun h => ⟨h.1, fun d hd => (hnu _ (cl z hz d hd) _ (cl y hy d hd)).mpr (h.2 d hd)⟩⟩
        · rw [decide_eq_false c2]
          have le := Ap.lots_le (nx := nx) (si := look ws ls) (ds := ds) (ws := ws) (k := k)
          exact iteF ⟨_, rfl, done G1 m1 fun z hz y hy => (hnu z hz y hy).trans (Lo.eq_alone nd (by omega) hz hy)⟩
      · rw [decide_eq_false c]
        refine iteF ⟨_, rfl, iteF ⟨_, rfl, done G1 m1 fun z hz y hy => ?_⟩⟩
        rcases hk with ⟨h1, h2⟩ | ⟨j, h1, h2⟩
        · have := Ap.lots_some (nx := nx) (si := look ws ls) (ds := ds) (ws := ws) (k := k) w1
          omega
        · subst h1
          exact (hnu z hz y hy).trans (Lo.eq_still cl (by omega) hz hy)
end
end Dk
set_option Elab.async false
set_option linter.all false
set_option maxRecDepth 100000
set_option maxHeartbeats 8000000
namespace Dk
open PySem PySem.Spec PyProof.Rows L2 Er LamX NdefX
/-! ### desk_lots; Desk.lead of what can be led; Desk.deeds -/
def spLots (K : PySem.W.Frag) (C : Addr) : Sp := fun vs H Q _ => ∃ (x : Addr) (ws ds : List Str) (tb : List (List Str)) (ls : List Str) (m : Nat), vs = [.ref x] ∧ DeskOb K C H x ws ds tb ls ∧ DkIs m ws ds tb ls ∧ m ≤ 9 ∧
  ∀ (q : Addr) (nu : Str → Nat) G, Sm H G → H q = none → G q = some (numO ws nu) → Alk (nxt ws ds tb) (look ws ls) ds ws nu → Q (.ref q) G
abbrev nDo : List Str := ["desk"]
theorem scDo : FnScope nDo nDo (defScope (top 30)) := ⟨rfl, rfl, rfl, by decide +kernel, rfl, by decide +kernel, by decide +kernel⟩
/-- a desk, its leads held by a walk or not -/
def DeskR (K : PySem.W.Frag) (C : Addr) (H : Hp) (x : Addr) (ws ds : List Str) (tb : List (List Str)) : Prop := ∃ (dx st ld si : Addr) (as : List Addr), H x = some (.ins C dx (fldsOf st ld si)) ∧ SqT K H st (ws.map V.str) ∧ Rd H ld (.dK (dkv ds (as.map V.ref))) ∧
  Paired (fun a vs => H a = some (.dK (dkv ws (vs.map V.str)))) as tb
theorem DeskOb.r {K : PySem.W.Frag} {C : Addr} {H : Hp} {x : Addr} {ws ds : List Str} {tb : List (List Str)} {ls : List Str} (h : DeskOb K C H x ws ds tb ls) : DeskR K C H x ws ds tb := by
  obtain ⟨dx, st, ld, si, as, hx, hst, hld, _, pr⟩ := h
  exact ⟨dx, st, ld, si, as, hx, hst, .inl hld, pr⟩
theorem DeskR.sm {K : PySem.W.Frag} {C : Addr} {H G : Hp} {x : Addr} {ws ds : List Str} {tb : List (List Str)} (h : DeskR K C H x ws ds tb) (m : Sm H G) : DeskR K C G x ws ds tb := by
  obtain ⟨dx, st, ld, si, as, hx, hst, hld, pr⟩ := h
  exact ⟨dx, st, ld, si, as, m _ _ hx, SqT.sm hst m, Rd.sm hld m, pair_mono pr fun a _ vs e => m _ _ e⟩
def spLead0 (K : PySem.W.Frag) (C : Addr) : Sp := fun vs H Q _ => ∃ (x r : Addr) (z : Str) (row ws ds : List Str) (tb : List (List Str)) (ls : List Str) (m : Nat), vs = [.ref x, .str z, .ref r] ∧ DeskR K C H x ws ds tb ∧ DkIs m ws ds tb ls ∧ SqL K H r (row.map V.str) ∧ row.length ≤ 1000 ∧ z ∈ ws ∧ (∀ d ∈ row, d ∈ ds) ∧
  ∀ H', Sm H H' → ledBy ws ds tb z row ∈ ws → Q (.str (ledBy ws ds tb z row)) H'
def spDds (K : PySem.W.Frag) (C : Addr) : Sp := fun vs H Q _ => ∃ (x : Addr) (ws ds : List Str) (tb : List (List Str)) (ls : List Str), vs = [.ref x] ∧ DeskOb K C H x ws ds tb ls ∧ tb.length = ds.length ∧ ∀ q G, Sm H G → H q = none → G q = some (.tup (ds.map V.str)) → Q (.ref q) G
theorem scDds : FnScope nSelf nSelf (defScope (meth 2)) := ⟨rfl, rfl, rfl, by decide +kernel, rfl, by decide +kernel, by decide +kernel⟩
section
variable {P : Program} {w : World} {K : PySem.W.Frag} {mg : Str → Option Value} {base : Heap} {f C fO fN fS fM pS gS : Addr} {fd dO dN dS dM dG : FuncData}
theorem bDo (F : FnP K "desk_lots" (top 30) f fd) : Binds K fd nDo [] := F.bindsN fun _ _ _ _ _ _ us hl => match us, hl with
  | [_], _ => rfl
theorem bLead0 (F : FunD K "lead" "Desk.lead" (defArgs (meth 4)) (defBody (meth 4)) (defScope (meth 4)) [] [] f fd) : Binds K fd ["self", "standing", "row"] [] := F.bindsN fun _ _ _ _ _ _ us hl => match us, hl with
  | [_, _, _], _ => rfl
theorem bDds (F : FunD K "deeds" "Desk.deeds" (defArgs (meth 2)) (defBody (meth 2)) (defScope (meth 2)) [] [] f fd) : Binds K fd nSelf [] := F.bindsN fun _ _ _ _ _ _ us hl => match us, hl with
  | [_], _ => rfl
theorem ok_lots (F : FnP K "desk_lots" (top 30) f fd) (hC : Cls K C) (PS_ : PropOf K C "standings" pS gS) (GG : FnOk P w K mg base CX0 1 gS dG nSelf (spStd C)) (bG : Binds K dG nSelf [])
    (GN : FnOk P w K mg base CX0 2 fN dN ["nodes", "signs", "moves"] (spLn K)) (FN : FnP K "lot_numbers" (top 17) fN dN) (gN : mg "lot_numbers" = some (.ref fN))
    (GS : FnOk P w K mg base CX0 3 fS dS ["desk"] (spSi K C)) (FS : FnP K "desk_sights" (top 28) fS dS) (gSi : mg "desk_sights" = some (.ref fS)) (GM : FnOk P w K mg base CX0 3 fM dM ["desk"] (spMv K C)) (FM : FnP K "desk_moves" (top 27) fM dM) (gM : mg "desk_moves" = some (.ref fM)) :
    FnOk P w K mg base CX0 4 f fd nDo (spLots K C) := by
  refine F.ok (CX := CX0) scDo (fun vs H Q E h => ?_) (fun cdv A outer s H vs Q E hr h => ?_)
  · obtain ⟨x, ws, ds, tb, ls, m, rfl, _⟩ := h
    rfl
  · have hr1 := hr.mono (show 1 ≤ 3 by decide)
    have hr2 := hr.mono (show 2 ≤ 3 by decide)
    refine ⟨_, PSs.nox (pss_one (ps_ret (by exact (pe_call GN hr2 rfl gN FN.kp (bLn FN) .nil pass0 (pa_cons (by exact (pe_prop (pv 0) hC PS_ GG hr2 bG .nil pass0 rfl)) (pa_cons (by exact (pe_call GS hr rfl gSi FS.kp (bSi FS) .nil pass0 (pa_cons (pv 0) pa_nil))) (pa_cons (by exact (pe_call GM hr rfl gM FM.kp (bMv FM) .nil pass0 (pa_cons (pv 0) pa_nil))) pa_nil))))))), ?_⟩
    obtain ⟨x, ws, ds, tb, ls, m, rfl, ob, is, m9, q⟩ := h
    obtain ⟨dx, st, ld, si, as0, hx, hst, hld, hsi, pr⟩ := id ob
    refine ⟨_, rfl, x, dx, _, rfl, hx, x, dx, st, ld, si, rfl, hx, _, rfl, x, ws, ds, tb, ls, m, rfl, ob, is, m9, fun sg G1 m1 nsg esg => ⟨_, rfl, x, ws, ds, tb, ls, m, rfl, ob.sm m1, is, m9, fun mo bs G2 m2 nmo hmo => ?_⟩⟩
    have mA := m1.trans m2
    refine ⟨st, sg, mo, ws, ds, ls, bs, nxt ws ds tb, rfl, SqT.sm hst mA, is.some, Nat.le_trans is.most m9, is.dmost, is.nd, m2 _ _ esg, is.looks, hmo, fun z hz d hd => ?_, fun q0 nu G m3 nq eq al => q q0 nu G (mA.trans m3) (none_of_sm mA nq) eq al⟩
    obtain ⟨_, _, _, h⟩ := ob_step pr is hd hz
    exact h
theorem ok_lead0 (F : FunD K "lead" "Desk.lead" (defArgs (meth 4)) (defBody (meth 4)) (defScope (meth 4)) [] [] f fd) (hC : Cls K C) (n1 : NoAttr K C "_standings") (n2 : NoAttr K C "_leads")
    (me : mg "enumerate" = none) (GO : FnOk P w K mg base CX0 1 fO dO nOneOf (spOneOf K)) (FO : FnP K "is_one_of" (top 9) fO dO) (gO : mg "is_one_of" = some (.ref fO)) : FnOk P w K mg base CX0 2 f fd ["self", "standing", "row"] (spLead0 K C) := by
  refine F.ok (CX := CX0) scLeadD (fun vs H Q E h => ?_) (fun cdv A outer s H vs Q E hr h => ?_)
  · obtain ⟨x, r, z, row, ws, ds, tb, ls, m, rfl, _⟩ := h
    rfl
  · refine ⟨_, PSs.nox (pss_cons (ps_if (pt_not (pt_val (by exact (pe_call GO hr rfl gO FO.kp (bOne FO) .nil pass0 (pa_cons (pv 1) (pa_cons (by exact (pe_fld (pv 0) rfl)) pa_nil)))))) (pss_one ps_never) pss_nil)
      (pss_cons (ps_for PassesOwn.never rfl (pi_enum rfl me (pa_cons (pv 2) pa_nil)) (pg_tup rfl (pgs_cons (pg_name (i := 3) scLeadD.nd rfl (.inl rfl)) (pgs_cons (pg_name (i := 4) scLeadD.nd rfl (.inl rfl)) pgs_nil)))
        (pss_cons (ps_if (pt_not (pt_val (by exact (pe_call GO hr rfl gO FO.kp (bOne FO) .nil pass0 (pa_cons (pv 4) (pa_cons (by exact (pe_fld (pv 0) rfl)) pa_nil)))))) (pss_one ps_never) pss_nil)
          (pss_one (ps_set (i := 1) scLeadD.nd rfl (.inl rfl) (by exact (pe_dget (hu_of hr) (by exact (pe_dget (hu_of hr) (by exact (pe_fld (pv 0) rfl)) (by exact (pv 4)) (fun _ _ => rfl))) (by exact (pv 1)) (fun _ _ => rfl)))))))
      (pss_one (ps_ret (pv 1))))), ?_⟩
    obtain ⟨x, r, z, row, ws, ds, tb, ls, m, rfl, ⟨dx, st, ld, si, as, hx, hst, hld, pr⟩, is, hr0, xl, hz, hrow, q⟩ := h
    refine ⟨_, rfl, _, rfl, x, C, dx, _, _, rfl, hx, hC, n1, rfl, .str z, st, rfl, ?_⟩
    refine .inl ⟨z, ws, rfl, .inr (.inl hst), _, rfl, ?_⟩
    rw [decide_eq_true hz]
    refine iteF ⟨_, rfl, r, row.map V.str, rfl, hr0, ?_⟩
    have al : as.length = ds.length := by rw [paired_len pr, is.rows]
    refine for_it (walk_enum (xs := row.map V.str)) (fun i σ G => ∃ (v3 v4 : Option V), σ = [some (.ref x), some (.str (ledBy ws ds tb z (row.take i))), some (.ref r), v3, v4] ∧ ledBy ws ds tb z (row.take i) ∈ ws ∧ Sm H G) ⟨none, none, rfl, hz, Sm.refl _⟩ (fun i σ G _ p => ?_) (fun i y σ G G' hi p yy => ?_) (fun σ G p => ?_)
    · obtain ⟨_, _, _, _, mm⟩ := p
      exact SqL.sm hr0 mm
    · obtain ⟨v3, v4, rfl, hin, mm⟩ := p
      obtain ⟨T, x1, x2, rfl, hT, rfl, e1, e2⟩ := yy
      have e1 := Option.some.inj e1
      subst e1
      have m2 := mm.trans (Sm.new (o := .tup [.int (i : Nat), x2]) hT)
      obtain ⟨d, ed, rfl⟩ : ∃ d, row[i]? = some d ∧ x2 = .str d := by
        have e3 : (row.map V.str)[i]? = some x2 := e2
        rw [List.getElem?_map] at e3
        cases e4 : row[i]? with
        | none =>
          rw [e4] at e3
          cases e3
        | some d =>
          rw [e4] at e3
          exact ⟨d, rfl, (Option.some.inj e3).symm⟩
      refine ⟨T, _, rfl, .inl (.inl upd_same), rfl, _, _, rfl, _, _, rfl, rfl, ?_⟩
      generalize upd G T (.tup [.int (i : Nat), .str d]) = G2 at m2 ⊢
      have hd := hrow d (List.mem_of_getElem? ed)
      refine ⟨_, rfl, _, rfl, x, C, dx, _, _, rfl, m2 _ _ hx, hC, n2, rfl, .str d, ld, rfl, .inl ⟨d, ds, rfl, .inr (.inr ⟨as.map V.ref, Rd.sm hld m2, by rw [List.length_map, al]⟩), _, rfl, ?_⟩⟩
      rw [decide_eq_true hd]
      have pr2 : Paired (fun a vs => G2 a = some (.dK (dkv ws (vs.map V.str)))) as tb := pair_mono pr fun a _ vs e => m2 _ _ e
      obtain ⟨a, b1, b2, b3⟩ := ob_step pr2 is hd hin
      refine iteF ⟨_, rfl, x, C, dx, _, _, rfl, m2 _ _ hx, hC, n2, rfl, _, rfl, ld, .ref a, rfl, .inl ⟨_, .inr d, Rd.sm hld m2, rfl, b1.symm⟩, _, rfl, a, _, rfl, b2, some (.int (i : Nat)), some (.str d), ?_, ?_, m2⟩
      · rw [led_more ed]
        rfl
      · rw [led_more ed]
        exact b3
    · obtain ⟨v3, v4, rfl, hin, mm⟩ := p
      rw [List.length_map, List.take_length] at hin
      rw [List.length_map, List.take_length]
      exact ⟨_, rfl, q G mm hin⟩
theorem ok_dds (F : FunD K "deeds" "Desk.deeds" (defArgs (meth 2)) (defBody (meth 2)) (defScope (meth 2)) [] [] f fd) (hC : Cls K C) (n2 : NoAttr K C "_leads") (mT : mg "tuple" = none) : FnOk P w K mg base CX0 1 f fd nSelf (spDds K C) := by
  refine F.ok (CX := CX0) scDds (fun vs H Q E h => ?_) (fun cdv A outer s H vs Q E hr h => ?_)
  · obtain ⟨x, ws, ds, tb, ls, rfl, _⟩ := h
    rfl
  · refine ⟨_, PSs.nox (pss_one (ps_ret (by exact (pe_callTy (call_tup_dK rfl) rfl mT PyProof.Rows.boot_tuple (pa_cons (by exact (pe_fld (pv 0) rfl)) pa_nil))))), ?_⟩
    obtain ⟨x, ws, ds, tb, ls, rfl, ⟨dx, st, ld, si, as, hx, hst, hld, hsi, pr⟩, tl, q⟩ := h
    have al : as.length = ds.length := by rw [paired_len pr, tl]
    refine ⟨_, rfl, x, C, dx, _, _, rfl, hx, hC, n2, rfl, ld, _, rfl, hld, fun p np => ?_⟩
    rw [keys_dkv (by rw [List.length_map, al])]
    exact q p _ (Sm.new np) np upd_same
end
end Dk
set_option Elab.async false
set_option linter.all false
set_option maxRecDepth 100000
set_option maxHeartbeats 4000000
namespace Dk
open PySem PySem.Spec PyProof.Rows L2 Er LamX NdefX
/-! ### name = {k: e for ..} on one line, the name a local -/
section
variable {X : Cx} {i : Nat} {y : Str} {py : Pos} {kx vx tg iter : Expr} {ifs : List Expr} {scope : Scope} {own : List (Str × Nat)} {pos spos : Pos} {wi : TI} {g : TG} {tt : TT} {tk tv : TE}
/-- read in a comprehension's own block -/
abbrev InBlk (X : Cx) (scope : Scope) (p : Cx → Prop) : Prop := ∀ (s : Shared) (H : Hp) (C : Addr) (cl : List (Str × Addr)) (fp : List Addr), p (X.blk s H scope (compEnvC scope cl C X.env) fp)
theorem ps_setDc (hc : X.calm = true) (hN : X.N.Nodup) (hy : X.N[i]? = some y) (hyl : X.env.scope.names.lookup y = some .local) (hsw : swapsWith (.DictComp kx vx [⟨tg, iter, ifs, 0⟩] scope pos) (some (.Name y py)) spos.line X.env = pure true)
    (hi : PI X tg iter wi) (ok : BlkOk X.N X.env.scope scope own) (hg : InBlk X scope fun B => PG B tg g) (ht : InBlk X scope fun B => PTs B ifs tt) (hk : InBlk X scope fun B => PE B kx tk) (he : InBlk X scope fun B => PE B vx tv) (hs : ∀ x, foldedSetIterable iter X.env x = pure x := by intro _; rfl) :
    PS X (.Assign [.Name y py] (.DictComp kx vx [⟨tg, iter, ifs, 0⟩] scope pos) spos) (tAsg (tDc wi g tt tk tv (own.map (·.2))) (gName i)) := by
  refine ⟨fun ps s σ H D I h => ?_⟩
  rw [exec_Assign_Name_used _ _ _ _ hsw]
  refine wpAny_bind (wpAny_standAt (wpAny_bind ?_))
  show wpAny _ X.A (do let _ ← comprehension (.DictComp kx vx [⟨tg, iter, ifs, 0⟩] scope pos) scope X.env (firstIterPos [⟨tg, iter, ifs, 0⟩] pos) newDict false (eval iter X.env) (some (assign (.Name y py) X.env))) _ _ s
  have h : tDc wi g tt tk tv (own.map (·.2)) σ H (fun x H1 => gName i x σ H1 D.nx) := h
  refine wpAny_bind (thn (dc_core (Qf := fun _ s2 => SP X ps D .next s2) hc hN I hi ok hg ht hk he hs h fun L C s2 m H2 I2 q hn ⟨f0, f1, _, f3, f4, f5⟩ => ?_) fun _ _ hq => wpAny_pure (wpAny_pure hq))
  refine (show wpAny _ _ (assign (.Name y py) X.env (.ref L)) _ _ _ from wpAny_assign_Name (store_ok2 (v := V.ref L) I2 hN hy (.inl hyl) rfl (fun s3 I3 ⟨a, sb, ha⟩ => ⟨m, hn.sameBut sb ?_, fun h3 sb3 => ⟨_, H2, I3.turned (t' := s3.toks) (fun b o hb e => (sb3.2 b hb).trans e) f0 f1 f3 f4 f5, q⟩⟩) (.inr hyl)))
  rcases ha with z | z
  · exact z ▸ f1
  · exact fun e => f4 y a z e.symm
theorem sw_dict {gs : List Comprehension} {l : Nat} {env : Env} (hk : env.scope.kind = .function) (hy : env.scope.names.lookup y = some .local) (hl : (py.line == pos.line) = true) (ha : (scope.names.any fun (n, k) => n == y && (k == .local || k == .cell)) = false) :
    swapsWith (.DictComp kx vx gs scope pos) (some (.Name y py)) l env = pure true := by
  have h1 : env.kindOf y = some .local := hy
  have h2 : env.blockKind = .function := by
    unfold Env.blockKind
    rw [hk]
    rfl
  unfold swapsWith
  simp only [h2, h1, ha, Expr.pos, hl]
  rfl
end
end Dk
set_option Elab.async false
set_option linter.all false
set_option maxRecDepth 100000
set_option maxHeartbeats 4000000
namespace Dk
open PySem PySem.Spec PyProof.Rows L2 Er LamX NdefX Bf
/-! ### lambdas that are handed on, known from their making on -/
def LamO (f : Addr) (qual : Str) (params : Arguments) (body : Expr) (sc : Scope) (cl : List (Str × Addr)) (c : Addr) : HO := .ext fun h => ∃ pm ctv : Value, h.get? f = some (PySem.W.kla_obj "<lambda>" qual params body sc cl pm c ctv)
section
variable {X : Cx} {pins : List (Addr × Obj)} {σ : L2.St} {H : Hp} {s : Shared}
theorem lamO_at {P : Program} {w : World} {h : Heap} {f c : Addr} {qual : Str} {params : Arguments} {body : Expr} {sc : Scope} {cl : List (Str × Addr)} (ok : HOk P w H h) (e : H f = some (LamO f qual params body sc cl c)) :
    ∃ pm ctv : Value, h.get? f = some (PySem.W.kla_obj "<lambda>" qual params body sc cl pm c ctv) := (ok f _ e).1
theorem inv_lam {qual : Str} {params : Arguments} {body : Expr} {sc : Scope} {cl : List (Str × Addr)} {c : Addr} {pm ctv : Value} {tk : Nat} (I : Inv X pins σ H s) :
    Inv X pins σ (upd H s.heap.objs.size (LamO s.heap.objs.size qual params body sc cl c)) { s with heap := s.heap.push (PySem.W.kla_obj "<lambda>" qual params body sc cl pm c ctv), toks := tk } := by
  have e : (s.heap.push (PySem.W.kla_obj "<lambda>" qual params body sc cl pm c ctv)).get? s.heap.objs.size = some (PySem.W.kla_obj "<lambda>" qual params body sc cl pm c ctv) := Heap.get?_push_size _ rfl
  exact I.laid (a := s.heap.objs.size) (fun b u z => Heap.get?_push_of_some _ z) (Nat.le_refl _) ⟨⟨pm, ctv, e⟩, ⟨_, e⟩, fun h1 h2 ⟨p, t, z⟩ st => ⟨p, t, st _ z⟩⟩
/-- such a lambda is made: its code object new, or found among others -/
theorem lam_makeN {T : List NTab} {nm : Nat → Nat → Str} {c P : Addr} {params : Arguments} {body : Expr} {scope : Scope} {pos : Pos} {E : Value → Shared → Prop} {Q : Value → Shared → Prop} (I : Inv X pins σ H s) (TB : TabB X.base X.mg c P) (hcode : X.env.code = .ref c)
    (hm : (P, nm) ∈ T) (hn : nm pos.line pos.col = X.env.qual ++ "<lambda>") (hu : ∀ p ∈ T, p.1 = P → p.2 = nm) (hT : TabsN T H) (hdef : defaultsOf params X.env = ([], [])) (hfree : ∀ y ∈ scope.names, y.2 = .free → ∃ c, X.env.cells.lookup y.1 = some c)
    (q : ∀ (f c2 : Addr) (H1 : Hp) (s2 : Shared), Inv X pins σ H1 s2 → ExtN H H1 → TabsN T H1 → H f = none → H1 f = some (LamO f (X.env.qual ++ "<lambda>") params body scope (cloFrom X.env.cells scope.names []) c2) → H1 c2 = some (CodeO c2 (X.env.qual ++ "<lambda>")) → Q (.ref f) s2) :
    wpAny (model X.prog X.w) X.A (eval (.Lambda params body scope pos) X.env) Q E s := by
  obtain ⟨ps, hP, ht, ha⟩ := (show TabN H P nm from hT _ hm)
  refine PySem.W.kla_eval hdef ?_
  have bP : s.heap.BuiltinsAt X.mg P := TB.bm.keeps I.bk
  have atP : s.heap.get? P = some { cls := .none, data := .fields ps } := I.hok P _ hP
  cases among : codeAmong pos ps.toList with
  | none =>
    refine PySem.W.kla_makeFunction (mg := X.mg) (c := c) (P := P) (ps := ps) (closure_ok hfree) I.ok.glob (I.mod.glob.keeps I.bk) hcode (TB.code.keeps I.bk) atP ht among TB.gP bP fun c2 ctv g tk kx ge lt rec_ tb => ?_
    obtain ⟨c3, oc, vs, t, e3, hoc, hd, hv⟩ := rec_
    cases e3
    have nC : H c2 = none := I.hok.fresh ge
    have I1 := inv_table (t' := tk) (more := #[rawInt pos.line, rawInt pos.col, .ref c2]) (h' := g) I hP (fun b o hb e => kx b o hb e) tb ge ⟨oc, vs, t, hoc, hd, hv⟩
    have eL : (ps ++ #[rawInt pos.line, rawInt pos.col, .ref c2]).toList = ps.toList ++ [rawInt pos.line, rawInt pos.col, .ref c2] := by simp
    have hE : ExtN H (upd (upd H P (.tbl (ps ++ #[rawInt pos.line, rawInt pos.col, .ref c2]))) c2 (CodeO c2 (X.env.qual ++ "<lambda>"))) := fun b o e n => by
      have bP : b ≠ P := fun z => n ps (Option.some.inj (e.symm.trans (by rw [z]; exact hP)))
      rw [upd_ne (ne_of_none e nC), upd_ne bP]
      exact e
    have T1 : TabsN T (upd (upd H P (.tbl (ps ++ #[rawInt pos.line, rawInt pos.col, .ref c2]))) c2 (CodeO c2 (X.env.qual ++ "<lambda>"))) := fun p hp => by
      by_cases hb : p.1 = P
      · rw [hu p hp hb, hb]
        refine ⟨_, by rw [upd_ne (ne_of_none hP nC), upd_same], by rw [eL]; exact PySem.TriplesOk_snoc _ _ _ _ ht, fun p2 cv hcv => ?_⟩
        rw [eL] at hcv
        rcases among_app2 _ ht hcv with z | ⟨z, z1, z2⟩
        · obtain ⟨c0, e1, e2⟩ := ha p2 cv z
          exact ⟨c0, e1, hE _ _ e2 codeO_ne⟩
        · exact ⟨c2, z, by rw [← z1, ← z2, hn]; exact upd_same⟩
      · obtain ⟨qs, a1, a2, a3⟩ := hT p hp
        refine ⟨qs, by rw [upd_ne (ne_of_none a1 nC), upd_ne hb]; exact a1, a2, fun p2 cv hcv => ?_⟩
        obtain ⟨c0, e1, e2⟩ := a3 p2 cv hcv
        exact ⟨c0, e1, hE _ _ e2 codeO_ne⟩
    have nF := I1.hok.fresh (Nat.le_refl _)
    refine q g.objs.size c2 _ _ (inv_lam (pm := (X.mg "__name__").getD .none) (ctv := ctv) (tk := tk) I1) (fun b o e n => ?_) (T1.ext fun b o e => ?_) (I.hok.fresh (Nat.le_trans ge (Nat.le_of_lt lt))) upd_same ?_
    · exact (upd_ne (ne_of_none (hE b o e n) nF)).trans (hE b o e n)
    · exact (upd_ne (ne_of_none e nF)).trans e
    · exact (upd_ne (Nat.ne_of_lt lt)).trans upd_same
  | some cv =>
    obtain ⟨c2, e, hco⟩ := ha pos cv among
    subst e
    rw [hn] at hco
    refine PySem.W.kla_makeFunctionHit (mg := X.mg) (c := c) (P := P) (ps := ps) (closure_ok hfree) I.ok.glob (I.mod.glob.keeps I.bk) hcode (TB.code.keeps I.bk) atP ht among bP fun ctv g tk kx sz => ?_
    have I1 : Inv X pins σ H { s with heap := g, toks := tk } := I.kept kx
    have nF : H g.objs.size = none := I1.hok.fresh (Nat.le_refl _)
    refine q g.objs.size c2 _ _ (inv_lam (pm := (X.mg "__name__").getD .none) (ctv := ctv) (tk := tk) I1) (fun b o e n => ?_) (hT.ext fun b o e => ?_) nF upd_same ?_
    · exact (upd_ne (ne_of_none e nF)).trans e
    · exact (upd_ne (ne_of_none e nF)).trans e
    · exact (upd_ne (ne_of_none hco nF)).trans hco
/-- as a value -/
def tLamN (T : List NTab) (mk : Addr → Addr → HO) (q : Str) : TE := fun σ H Q => TabsN T H ∧ ∀ (f c : Addr) (H1 : Hp), ExtN H H1 → TabsN T H1 → H f = none → H1 f = some (mk f c) → H1 c = some (CodeO c q) → Q (.ref f) H1
theorem pe_lamN {T : List NTab} {nm : Nat → Nat → Str} {c P : Addr} {params : Arguments} {body : Expr} {scope : Scope} {pos : Pos} (TB : TabB X.base X.mg c P) (hcode : X.env.code = .ref c) (hm : (P, nm) ∈ T) (hn : nm pos.line pos.col = X.env.qual ++ "<lambda>") (hu : ∀ p ∈ T, p.1 = P → p.2 = nm)
    (hdef : defaultsOf params X.env = ([], [])) (hfree : ∀ y ∈ scope.names, y.2 = .free → X.env.scope.names.lookup y.1 = some .cell ∨ X.env.scope.names.lookup y.1 = some .free) :
    PE X (.Lambda params body scope pos) (tLamN T (fun f c => LamO f (X.env.qual ++ "<lambda>") params body scope (cloFrom X.env.cells scope.names []) c) (X.env.qual ++ "<lambda>")) := by
  refine ⟨fun ps s σ H Q I ⟨hT, h⟩ => lam_makeN I TB hcode hm hn hu hT hdef (fun y hy e => ?_) fun f c2 H1 s2 I1 ext T1 f0 f1 c1 => ⟨.ref f, H1, I1, rfl, h f c2 H1 ext T1 f0 f1 c1⟩⟩
  rcases hfree y hy e with z | z
  · exact I.ok.has _ (.inl z)
  · exact I.ok.has _ (.inr z)
end
/-! ### what can be called, of whatever kind: a nested def, a lambda -/
structure Cal (P : Program) (w : World) (K : PySem.W.Frag) (mg : Str → Option Value) (base : Heap) (k : Nat) (f : Addr) (O : HO) (c : Addr) (q : Str) (cl : List (Str × Addr)) (fr : List Str) (sp : List (Option V) → Sp) : Prop where
  at_ : ∀ {h : Heap} {H : Hp}, HOk P w H h → H f = some O → PySem.W.FnAt f h
  run : ∀ (A : Around) (outer : List Env) (s : Shared) (H : Hp) (us : List Value) (vs : List V) (ws : List (Option V)) (Q : VK) (E : XK), Room k A → Env0 P w K mg base A outer s H → H f = some O → H c = some (CodeO c q) →
    CellsAt cl fr ws s.heap H → Vals vs us → sp ws vs H Q E → codeAny (model P w) A (.call (.ref f) ⟨us, []⟩) (CR CX0 outer P w H s Q E) s
section
variable {P : Program} {w : World} {K : PySem.W.Frag} {mg : Str → Option Value} {base : Heap} {k : Nat} {f c : Addr} {sp : List (Option V) → Sp}
theorem cal_nok {F : NF} {ps fr : List Str} (N : NOk P w K mg base CX0 k f F ps fr sp) : Cal P w K mg base k f (FnO f F) F.c F.qual F.cl fr sp :=
  ⟨fun ok e => by
    obtain ⟨od, sl, doc, pm, ctv, ho⟩ := fnO_at ok e
    exact ⟨_, od, _, sl, ho⟩, N.run⟩
theorem cal_lam {N ps fr : List Str} {qual : Str} {params : Arguments} {body : Expr} {sc : Scope} {cl : List (Str × Addr)} (S : NScope N ps fr sc) (hb : ∀ (pm ctv : Value) (us : List Value), us.length = ps.length → bindArgs (PySem.W.kla_fn "<lambda>" qual params body sc cl pm (.ref c) ctv) ⟨us, []⟩ = pure (ps.zip us))
    (len : ∀ ws vs H Q E, sp ws vs H Q E → vs.length = ps.length)
    (hbody : ∀ (A : Around) (outer : List Env) (s : Shared) (H : Hp) (vs : List V) (ws : List (Option V)) (Q : VK) (E : XK), Room k (A.deeper (envF ⟨"<lambda>", qual, params, [], sc, cl, c⟩ f s.heap.objs.size)) → ws.length = fr.length → sp ws vs H Q E →
      ∃ t, PE (ncx CX0 P w K mg base N ⟨"<lambda>", qual, params, [], sc, cl, c⟩ f A outer s H E) body t ∧ t (startF N vs ws) H Q) :
    Cal P w K mg base (k + 1) f (LamO f qual params body sc cl c) c qual cl fr sp := by
  refine ⟨fun ok e => ?_, fun A outer s H us vs ws Q E hr e0 hf hc C r hsp => ?_⟩
  · obtain ⟨pm, ctv, ho⟩ := lamO_at ok e
    exact ⟨_, _, _, _, ho⟩
  · have hl := len _ _ _ _ _ hsp
    have lim : s.heap.NoLimit := e0.mod.nolimit.keeps fun b o e => (e0.bs b o e).1
    obtain ⟨pm, ctv, ho⟩ := lamO_at e0.hok hf
    refine PySem.W.kla_callFunE hr.depth ho rfl S.co S.gen rfl (codeO_at e0.hok hc) ?_
    rw [hb pm ctv us (by rw [← r.length]; exact hl)]
    refine wpAny_pure (wpAny_newFunctionEnv S.nocell (fun ⟨n, _⟩ hy => S.par n (List.of_mem_zip hy).1) (fun g hns hsb => ⟨lim.fresh _ hsb, ?_⟩) S.kind)
    have kp : ∀ b o, s.heap.get? b = some o → g.get? b = some o := fun b o e => hsb.extBut b o (Nat.ne_of_lt (Heap.lt_size e)) (Heap.get?_push_of_some _ e)
    show codeAny _ _ (.expr body (envF ⟨"<lambda>", qual, params, [], sc, cl, c⟩ f s.heap.objs.size)) _ _
    obtain ⟨t, ht, hq⟩ := hbody A outer s H vs ws Q E (hr.deeper _) C.len hsp
    have I : Inv (ncx CX0 P w K mg base N ⟨"<lambda>", qual, params, [], sc, cl, c⟩ f A outer s H E) [] (startF N vs ws) H { s with heap := g, toks := s.toks + (ps.zip us).length } := inv_startN S hr.hd e0 hl r C hns kp
    refine PySem.W.kla_codeExpr (wpAny_mono (ht.run [] _ (startF N vs ws) H Q I hq) (fun v s2 hs => ?_) fun e s2 hs => hs)
    obtain ⟨v2, H2, J, rv, q⟩ := hs
    exact ⟨v2, H2, J.os, J.bare, J.base, J.hok, rv, q⟩
/-- it stands at f -/
def Std2 (H : Hp) (f : Addr) (O : HO) (c : Addr) (q : Str) : Prop := H f = some O ∧ H c = some (CodeO c q)
theorem Std2.sm {H G : Hp} {O : HO} {q : Str} (s : Std2 H f O c q) (m : Sm H G) : Std2 G f O c q := ⟨m _ _ s.1, m _ _ s.2⟩
end
section
variable {X : Cx} {P : Program} {w : World}
/-- f(e), f a local name that was handed it -/
def tCallG (f : Addr) (O : HO) (c : Addr) (q : Str) (i : Nat) (ws : List (Option V)) (sp : List (Option V) → Sp) (t : TA) : TE := fun σ H Q => σ[i]? = some (some (.ref f)) ∧ H f = some O ∧ t σ H fun vs H1 => Std2 H1 f O c q ∧ sp ws vs H1 Q E0
theorem pe_callG {f c : Addr} {O : HO} {q : Str} {cl : List (Str × Addr)} {fr : List Str} {ws : List (Option V)} {i j k : Nat} {x : Str} {sp : List (Option V) → Sp} {t : TA} {e : Expr} {es : List Expr} {p pos : Pos} (C : CellsAt cl fr ws X.s_0.heap X.H_0) (hx : X.ex = [])
    (Fn : Cal X.prog X.w X.K X.mg X.base k f O c q cl fr sp) (hr : Room j X.A) (hk : k ≤ j) (hN : X.N[i]? = some x) (hv : Vis X.env.scope x) (ha : PA X (e :: es) t)
    (hd : (x == ("__debug__" : Str)) = false := by decide) (hcd : (x == ("__classdict__" : Str)) = false := by decide)
    (he : starEach (e :: es) X.env = (false, eval e X.env) :: starEach es X.env := by rfl) (hpl : (backTo pos (starEach es X.env)).any (·.1) = false := by rfl) :
    PE X (.Call (.Name x p) (e :: es) [] pos) (tCallG f O c q i ws sp t) := by
  refine ⟨fun pins s σ H Q I ⟨hs, hf, ht⟩ => ?_⟩
  refine wpAny_Call_Name_kw (thn ((pe_var (pos := p) hN hv hd hcd).run pins s σ H (fun v H1 => v = .ref f ∧ H1 = H) I ⟨.ref f, hs, rfl, rfl⟩) fun u s1 ⟨v, H1, I1, r1, ev, eH⟩ => ?_)
  subst ev
  rw [eH] at I1
  obtain rfl : u = Value.ref f := r1
  refine PySem.W.callWith_F (first := []) (Fn.at_ I1.hok hf) (thn (ha.run pos pins s1 σ H _ I1 ht) fun us s2 ⟨vs, H2, I2, r, h1, z⟩ => ⟨Fn.at_ I2.hok h1.1, ?_⟩) he hpl
  show wpAny _ _ (call (.ref f) us) _ _ _
  refine wpAny_call (codeAny_mono (Fn.run X.A X.stack s2 H2 us vs ws Q E0 (hr.mono hk) I2.env0 h1.1 h1.2 (cells_later C hx I2) r z) fun r s3 hq => ?_)
  cases r with
  | error e => exact hq.elim
  | ok fl =>
    cases fl with
    | ret u => exact I2.after hq
    | next => exact False.elim hq
    | brk => exact False.elim hq
    | cont => exact False.elim hq
/-! ### spread and shortest_row, handed any two of them -/
def tSpread2 (fM fF : Addr) (OM OF : HO) (cM cF : Addr) (qM qF : Str) (wsM wsF : List (Option V)) (spM spF : List (Option V) → Sp) (t : TA) : TE := fun σ H Q => t σ H fun vs H1 => ∃ (t0 : Addr) (st : St2) (mv : St2 → List (V × St2)) (fd : St2 → Bool) (dom : List St2),
  vs = [.ref t0, .ref fM, .ref fF] ∧ Std2 H1 fM OM cM qM ∧ Std2 H1 fF OF cF qF ∧ Tells H1 mv fd dom (fun v G Q => spM wsM [v] G Q E0) (fun v G Q => spF wsF [v] G Q E0) ∧ H1 t0 = some (.tup (st.map kV)) ∧ st ∈ dom ∧
  ∀ (tu : Addr) (G : Hp), Sm H1 G → H1 tu = none → SpOut mv fd st H1 G tu → Q (.ref tu) G
theorem pe_spread2 {fS : Addr} {dS : FuncData} {fM fF : Addr} {OM OF : HO} {cM cF : Addr} {qM qF : Str} {clM clF : List (Str × Addr)} {frM frF : List Str} {wsM wsF : List (Option V)} {spM spF : List (Option V) → Sp} {t : TA} {e1 e2 e3 : Expr} {p pos : Pos}
    (FS : FnP X.K "spread" (top 14) fS dS) (gS : X.mg "spread" = some (.ref fS)) (ml : X.mg "len" = none) (hg : Gl X "spread") {k : Nat} (hr : Room (k + 1) X.A) (k1 : 1 ≤ k) (CM : CellsAt clM frM wsM X.s_0.heap X.H_0) (CF : CellsAt clF frF wsF X.s_0.heap X.H_0) (hx : X.ex = [])
    (NM : Cal X.prog X.w X.K X.mg X.base k fM OM cM qM clM frM spM) (NF_ : Cal X.prog X.w X.K X.mg X.base 1 fF OF cF qF clF frF spF) (ha : PA X [e1, e2, e3] t)
    (he : starEach [e1, e2, e3] X.env = (false, eval e1 X.env) :: starEach [e2, e3] X.env := by rfl) (hpl : (backTo pos (starEach [e2, e3] X.env)).any (·.1) = false := by rfl) :
    PE X (.Call (.Name "spread" p) [e1, e2, e3] [] pos) (tSpread2 fM fF OM OF cM cF qM qF wsM wsF spM spF t) := by
  refine ⟨fun ps s σ H Q I h => ?_⟩
  refine wpAny_Call_Name_kw (ld_glob I hg gS ?_ (by decide))
  refine PySem.W.callWith_K (h₀ := X.base) I.ok.mod.kin FS.kp (thn (ha.run pos ps s σ H _ I h) fun us s2 ⟨vs, H2, I2, rr, t0, st, mv, fd, dom, ev, sM, sF, T, h0, d0, q⟩ => ⟨I2.kIn, ?_⟩) he hpl
  subst ev
  have bR := L2.FunD.bindsA (ps := ["start", "moves", "found"]) FS fun _ _ _ _ _ _ us hl => match us, hl with
    | [_, _, _], _ => rfl
  obtain ⟨oc, od, dV, kV, doc, pm2, an, cdv, ct, osl, rfl, lk2, hcd, _, _⟩ := FS.ex
  have hr2 : Room k (X.A.deeper (envOfC "spread" (defScope (top 14)) s2.heap.objs.size fS cdv)) := hr.deeper _
  have hl : us.length = 3 := rr.length.symm
  show wpAny _ _ (call (.ref fS) us) _ _ _
  refine wpAny_call (codeAny_mono (run_ofS (CX := CX0) (N := nSp) (ps := ["start", "moves", "found"]) (us := us) (vs := [.ref t0, .ref fM, .ref fF]) (Q := Q) (E := E0) lk2 hcd scSp hr I2.env0 (bR s2 us hl) rr rfl fun _ => ?_) fun r s3 hq => ?_)
  · refine spread_body (fM := fM) (fF := fF) (rM := fun v G Q => Std2 G fM OM cM qM ∧ spM wsM [v] G Q E0) (rF := fun v G Q => Std2 G fF OF cF qF ∧ spF wsF [v] G Q E0) (Q := Q) (hr2.mono k1) ml (fun q p pos => ?_) (fun q p pos => ?_)
      (fun t k G Q m hk ht q => ⟨sF.sm m, T.f t k G Q m hk ht q⟩) (fun t k G Q m hk ht q => ⟨sM.sm m, T.m t k G Q m hk ht q⟩) h0 d0 T.cl T.few q
    · have z := pe_callG (X := (cxOf CX0 X.prog X.w X.K X.mg X.base nSp "spread" (defScope (top 14)) fS cdv X.A X.stack s2 H2 E0).nox) (i := 2) (x := "found") (e := .Name "state" q) (es := []) (p := p) (pos := pos) (t := tCons (tVar 6) tNil) (cells_later CF hx I2) rfl NF_ hr2 k1 rfl (.inl rfl) (pa_cons (pv 6) pa_nil)
      exact ⟨fun ps s σ H Q I ⟨h1, v, h2, h3, h4⟩ => z.run ps s σ H Q I ⟨h1, h3.1, v, h2, h3, h4⟩⟩
    · have z := pe_callG (X := (cxOf CX0 X.prog X.w X.K X.mg X.base nSp "spread" (defScope (top 14)) fS cdv X.A X.stack s2 H2 E0).nox) (i := 1) (x := "moves") (e := .Name "state" q) (es := []) (p := p) (pos := pos) (t := tCons (tVar 6) tNil) (cells_later CM hx I2) rfl NM hr2 (Nat.le_refl _) rfl (.inl rfl) (pa_cons (pv 6) pa_nil)
      exact ⟨fun ps s σ H Q I ⟨h1, v, h2, h3, h4⟩ => z.run ps s σ H Q I ⟨h1, h3.1, v, h2, h3, h4⟩⟩
  · cases r with
    | error e => exact hq.elim
    | ok fl =>
      cases fl with
      | ret u => exact I2.after hq
      | next => exact False.elim hq
      | brk => exact False.elim hq
      | cont => exact False.elim hq
/-- the two may be made on the way; each with a code object of its own -/
def tShort2 (mkM mkF : Addr → Addr → HO) (qM qF : Str) (jsM jsF : List Nat) (spM spF : List (Option V) → Sp) (t : TA) : TE := fun σ H Q => t σ H fun vs H1 => ∃ (t0 fM fF cM cF : Addr) (st : St2) (mv : St2 → List (V × St2)) (fd : St2 → Bool) (dom : List St2),
  vs = [.ref t0, .ref fM, .ref fF] ∧ Std2 H1 fM (mkM fM cM) cM qM ∧ Std2 H1 fF (mkF fF cF) cF qF ∧ Tells H1 mv fd dom (fun v G Q => spM (jsM.map (slotAt σ)) [v] G Q E0) (fun v G Q => spF (jsF.map (slotAt σ)) [v] G Q E0) ∧ H1 t0 = some (.tup (st.map kV)) ∧ st ∈ dom ∧
  ∀ (v : V) (G : Hp), Sm H1 G → ShOut mv fd st H1 G v → Q v G
theorem pe_short2 {fR fS : Addr} {dR dS : FuncData} {mkM mkF : Addr → Addr → HO} {qM qF : Str} {clM clF : List (Str × Addr)} {frM frF : List Str} {jsM jsF : List Nat} {spM spF : List (Option V) → Sp} {t : TA} {e1 e2 e3 : Expr} {p pos : Pos}
    (FR : FnP X.K "shortest_row" (top 15) fR dR) (gR : X.mg "shortest_row" = some (.ref fR)) (FS : FnP X.K "spread" (top 14) fS dS) (gS : X.mg "spread" = some (.ref fS)) (ml : X.mg "len" = none) (hg : Gl X "shortest_row") {k : Nat} (hr : Room (k + 2) X.A) (k1 : 1 ≤ k)
    (cpM : X.Ok → Caps X clM frM jsM) (cpF : X.Ok → Caps X clF frF jsF)
    (NM : ∀ f c, Cal X.prog X.w X.K X.mg X.base k f (mkM f c) c qM clM frM spM) (NF_ : ∀ f c, Cal X.prog X.w X.K X.mg X.base 1 f (mkF f c) c qF clF frF spF) (ha : PA X [e1, e2, e3] t)
    (he : starEach [e1, e2, e3] X.env = (false, eval e1 X.env) :: starEach [e2, e3] X.env := by rfl) (hpl : (backTo pos (starEach [e2, e3] X.env)).any (·.1) = false := by rfl) :
    PE X (.Call (.Name "shortest_row" p) [e1, e2, e3] [] pos) (tShort2 mkM mkF qM qF jsM jsF spM spF t) := by
  refine ⟨fun ps s σ H Q I h => ?_⟩
  refine wpAny_Call_Name_kw (ld_glob I hg gR ?_ (by decide))
  refine PySem.W.callWith_K (h₀ := X.base) I.ok.mod.kin FR.kp (thn (ha.run pos ps s σ H _ I h) fun us s2 ⟨vs, H2, I2, rr, t0, fM, fF, cM, cF, st, mv, fd, dom, ev, sM, sF, T, h0, d0, q⟩ => ⟨I2.kIn, ?_⟩) he hpl
  subst ev
  have bR := L2.FunD.bindsA (ps := ["start", "moves", "found"]) FR fun _ _ _ _ _ _ us hl => match us, hl with
    | [_, _, _], _ => rfl
  obtain ⟨oc, od, dV, kV, doc, pm2, an, cdv, ct, osl, rfl, lk2, hcd, _, _⟩ := FR.ex
  have hr2 : Room (k + 1) (X.A.deeper (envOfC "shortest_row" (defScope (top 15)) s2.heap.objs.size fR cdv)) := hr.deeper _
  have hl : us.length = 3 := rr.length.symm
  have CM : CellsAt clM frM (jsM.map (slotAt σ)) s2.heap H2 := cells_of I2 (cpM I2.ok)
  have CF : CellsAt clF frF (jsF.map (slotAt σ)) s2.heap H2 := cells_of I2 (cpF I2.ok)
  show wpAny _ _ (call (.ref fR) us) _ _ _
  refine wpAny_call (codeAny_mono (run_ofS (CX := CX0) (N := nSh) (ps := ["start", "moves", "found"]) (us := us) (vs := [.ref t0, .ref fM, .ref fF]) (Q := Q) (E := E0) lk2 hcd scSh hr I2.env0 (bR s2 us hl) rr rfl fun _ => ?_) fun r s3 hq => ?_)
  · refine ⟨_, PSs.nox (pss_cons (ps_asg (by exact (pe_spread2 (X := (cxOf CX0 X.prog X.w X.K X.mg X.base nSh "shortest_row" (defScope (top 15)) fR cdv X.A X.stack s2 H2 E0).nox) FS gS ml rfl hr2 k1 CM CF rfl (NM fM cM) (NF_ fF cF) (pa_cons (pv 0) (pa_cons (pv 1) (pa_cons (pv 2) pa_nil)))))
        (pg_tup rfl (pgs_cons (pg_name (i := 3) scSh.nd rfl (.inl rfl)) (pgs_cons (pg_name (i := 4) scSh.nd rfl (.inl rfl)) pgs_nil))))
      (pss_one (ps_ret (pe_ifExp (pt_cmpR op_isN (pv 4) pe_non (nomark _)) pe_non (by exact (pe_dget (hu_of (hr2.mono (Nat.succ_le_succ (Nat.zero_le k)))) (pv 3) (pv 4) (fun _ _ => rfl))))))), ?_⟩
    refine ⟨_, rfl, _, rfl, _, rfl, t0, st, mv, fd, dom, rfl, sM, sF, T, h0, d0, fun tu G m ntu out => ?_⟩
    obtain ⟨ro, qu, qq, x, sp, ql, etu, out⟩ := out
    refine ⟨tu, _, rfl, .inl (.inl etu), rfl, _, _, rfl, _, _, rfl, rfl, ?_⟩
    rcases out with ⟨i, t, k, row, B, rfl, et, eq, ef⟩ | ⟨rfl, B⟩
    · obtain ⟨kvs, d1, d2, d3, d4⟩ := sp.dict
      obtain ⟨r, g1, g2, g3, g4⟩ := d4 (k, row) (List.mem_of_getElem? eq)
      have gr := DGet.t d1 et
      rw [g1] at gr
      have rl : row.length ≤ i := B.short i _ eq
      have il : i < qq.length := (List.getElem?_eq_some_iff.mp eq).1
      refine ⟨_, rfl, rfl, _, rfl, ?_⟩
      rw [show decide (V.ref t = V.non) = false from rfl]
      exact iteF ⟨_, rfl, _, rfl, ro, .ref r, rfl, gr, q (.ref r) G m (.inr ⟨r, row, k, rfl, g4, g3, by omega, B.led _ (List.mem_of_getElem? eq), ef, fun r2 k2 h f2 => B.least eq h f2⟩)⟩
    · refine ⟨_, rfl, rfl, _, rfl, ?_⟩
      rw [show decide (V.non = V.non) = true from rfl]
      exact iteT (q .non G m (.inl ⟨rfl, fun r k h => B.never h⟩))
  · cases r with
    | error e => exact hq.elim
    | ok fl =>
      cases fl with
      | ret u => exact I2.after hq
      | next => exact False.elim hq
      | brk => exact False.elim hq
      | cont => exact False.elim hq
end
end Dk
set_option Elab.async false
set_option linter.all false
set_option maxRecDepth 100000
set_option maxHeartbeats 4000000
namespace Dk
open PySem PySem.Spec PyProof.Rows L2 Er LamX NdefX
/-! ### a nested function with one parameter, which is a cell, and two captured names -/
structure Sc2' (sc : Scope) (x y z : Str) : Prop where
  kind : sc.kind = .function
  co : sc.isCoroutine = false
  gen : sc.isGenerator = false
  nm : sc.names = [(x, .cell), (y, .free), (z, .free)]
  xy : x ≠ y
  xz : x ≠ z
  yz : y ≠ z
section
variable {P : Program} {w : World} {K : PySem.W.Frag} {mg : Str → Option Value} {base : Heap} {x y z : Str} {N1 : List Str} {F : NF} {a b f : Addr} {A : Around} {outer : List Env} {s : Shared} {H : Hp} {E : XK} {g : Heap} {tk : Nat} {v vf vg : V} {u uf ug : Value}
theorem look3 {α : Type} {x y z p : Str} {r1 r2 r3 : α} {c : α} (e : [(x, r1), (y, r2), (z, r3)].lookup p = some c) : (p = x ∧ c = r1) ∨ (p = y ∧ c = r2) ∨ (p = z ∧ c = r3) := by
  by_cases h1 : p = x
  · subst h1
    rw [List.lookup_cons, beq_self_eq_true] at e
    exact .inl ⟨rfl, (Option.some.inj e).symm⟩
  · rw [List.lookup_cons, show (p == x) = false from by simpa using h1] at e
    by_cases h2 : p = y
    · subst h2
      rw [List.lookup_cons, beq_self_eq_true] at e
      exact .inr (.inl ⟨rfl, (Option.some.inj e).symm⟩)
    · rw [List.lookup_cons, show (p == y) = false from by simpa using h2] at e
      by_cases h3 : p = z
      · subst h3
        rw [List.lookup_cons, beq_self_eq_true] at e
        exact .inr (.inr ⟨rfl, (Option.some.inj e).symm⟩)
      · rw [List.lookup_cons, show (p == z) = false from by simpa using h3] at e
        cases e
theorem look3a {α : Type} {x y z : Str} {r1 r2 r3 : α} : [(x, r1), (y, r2), (z, r3)].lookup x = some r1 := by rw [List.lookup_cons, beq_self_eq_true]
theorem look3b {α : Type} {x y z : Str} {r1 r2 r3 : α} (n : x ≠ y) : [(x, r1), (y, r2), (z, r3)].lookup y = some r2 := by
  rw [List.lookup_cons, show (y == x) = false from by simpa using n.symm, List.lookup_cons, beq_self_eq_true]
theorem look3c {α : Type} {x y z : Str} {r1 r2 r3 : α} (n : x ≠ z) (m : y ≠ z) : [(x, r1), (y, r2), (z, r3)].lookup z = some r3 := by
  rw [List.lookup_cons, show (z == x) = false from by simpa using n.symm, List.lookup_cons, show (z == y) = false from by simpa using m.symm, List.lookup_cons, beq_self_eq_true]
theorem start2 (S : Sc2' F.scope x y z) (hcl : ∀ L, cellsFrom (L + 1) F.scope.names F.cl = [(x, L + 1), (z, b), (y, a)]) (hd : A.handled = none) (e0 : Env0 P w K mg base A outer s H) (na : H a = none) (nb : H b = none) (ab : a ≠ b) (ca : s.heap.IsCell a (some uf)) (cb : s.heap.IsCell b (some ug)) (rf : RelV vf uf) (rg : RelV vg ug) (rv : RelV v u)
    (cx : g.IsCell (s.heap.objs.size + 1) (some u)) (ns : g.Ns s.heap.objs.size (fun _ => none)) (kp : ∀ b o, s.heap.get? b = some o → g.get? b = some o) :
    Inv (ncx1 P w K mg base (x :: y :: z :: N1) F f A outer s H E) [] (some v :: some vf :: some vg :: List.replicate N1.length none) H { s with heap := g, toks := tk } := by
  have lt : ∀ {c : Addr} {o : Option Value}, s.heap.IsCell c o → c < s.heap.objs.size := fun {c o} ⟨ob, ho, _⟩ => Heap.lt_size ho
  have cs := hcl s.heap.objs.size
  have lk : ∀ {p : Str} {c : Addr}, (cellsFrom (s.heap.objs.size + 1) F.scope.names F.cl).lookup p = some c → (p = x ∧ c = s.heap.objs.size + 1) ∨ (p = y ∧ c = a) ∨ (p = z ∧ c = b) := fun {p c} e => by
    rw [cs] at e
    rcases look3 e with h | h | h
    · exact .inl h
    · exact .inr (.inr h)
    · exact .inr (.inl h)
  have lx : (cellsFrom (s.heap.objs.size + 1) F.scope.names F.cl).lookup x = some (s.heap.objs.size + 1) := by rw [cs]; exact look3a
  have ly : (cellsFrom (s.heap.objs.size + 1) F.scope.names F.cl).lookup y = some a := by rw [cs]; exact look3c S.xy S.yz.symm
  have lz : (cellsFrom (s.heap.objs.size + 1) F.scope.names F.cl).lookup z = some b := by rw [cs]; exact look3b S.xz
  have kx : F.scope.names.lookup x = some .cell := by rw [S.nm]; exact look3a
  have ky : F.scope.names.lookup y = some .free := by rw [S.nm]; exact look3b S.xy
  have kz : F.scope.names.lookup z = some .free := by rw [S.nm]; exact look3c S.xz S.yz
  have keep : ∀ {c : Addr} {o : Option Value}, s.heap.IsCell c o → g.IsCell c o := fun {c o} ⟨ob, ho, hd2⟩ => ⟨ob, kp _ _ ho, hd2⟩
  have na1 : s.heap.objs.size + 1 ≠ a := Nat.ne_of_gt (Nat.lt_succ_of_lt (lt ca))
  have nb1 : s.heap.objs.size + 1 ≠ b := Nat.ne_of_gt (Nat.lt_succ_of_lt (lt cb))
  have noA : ∀ c : Addr, c ∉ (ncx1 P w K mg base (x :: y :: z :: N1) F f A outer s H E).ex := fun c q => absurd (show c ∈ ([] : List Addr) from q) (by simp)
  refine ⟨⟨e0.mod, S.kind, rfl, rfl, Nat.le_refl _, fun p q c e1 e2 => ?_, fun p hp => ?_, fun p c q _ => ?_, fun _ => hd, Around.frames_deeper e0.frames, .inr ⟨rfl, rfl⟩, fun c q => absurd q (noA c), e0.bs, e0.bsz, fun c _ _ => noA c,
      fun c q => absurd q (noA c), e0.funs, e0.frf⟩,
    rfl, e0.bare, Un.kept kp, ⟨_, ns, fun i p t e1 e2 e3 => ?_⟩, fun p c e => ?_, e0.hok.fresh (Nat.le_refl _), fun p c e => ?_, fun q hq => absurd (show q ∈ ([] : List (Addr × Obj)) ++ [] from hq) (by simp), e0.hok.kept kp, ?_⟩
  · rcases lk e1 with ⟨r1, c1⟩ | ⟨r1, c1⟩ | ⟨r1, c1⟩ <;> rcases lk e2 with ⟨r2, c2⟩ | ⟨r2, c2⟩ | ⟨r2, c2⟩
    · rw [r1, r2]
    · exact absurd (c1.symm.trans c2) na1
    · exact absurd (c1.symm.trans c2) nb1
    · exact absurd (c2.symm.trans c1) na1
    · rw [r1, r2]
    · exact absurd (c1.symm.trans c2) ab
    · exact absurd (c2.symm.trans c1) nb1
    · exact absurd (c2.symm.trans c1) ab
    · rw [r1, r2]
  · have hp : F.scope.names.lookup p = some .cell ∨ F.scope.names.lookup p = some .free := hp
    have : p = x ∨ p = y ∨ p = z := by
      rcases hp with h | h <;> rw [S.nm] at h <;> rcases look3 h with ⟨e, _⟩ | ⟨e, _⟩ | ⟨e, _⟩
      · exact .inl e
      · exact .inr (.inl e)
      · exact .inr (.inr e)
      · exact .inl e
      · exact .inr (.inl e)
      · exact .inr (.inr e)
    rcases this with rfl | rfl | rfl
    · exact ⟨_, lx⟩
    · exact ⟨_, ly⟩
    · exact ⟨_, lz⟩
  · have q : false = true := q
    cases q
  · match i, e1, e2 with
    | 0, e1, e2 =>
      cases Option.some.inj (show some x = some p from e1)
      cases Option.some.inj (Option.some.inj (show some (some v) = some (some t) from e2))
      exact ⟨u, rv, .inr ⟨.inl kx, _, lx, cx⟩⟩
    | 1, e1, e2 =>
      cases Option.some.inj (show some y = some p from e1)
      cases Option.some.inj (Option.some.inj (show some (some vf) = some (some t) from e2))
      exact ⟨uf, rf, .inr ⟨.inr ky, _, ly, keep ca⟩⟩
    | 2, e1, e2 =>
      cases Option.some.inj (show some z = some p from e1)
      cases Option.some.inj (Option.some.inj (show some (some vg) = some (some t) from e2))
      exact ⟨ug, rg, .inr ⟨.inr kz, _, lz, keep cb⟩⟩
    | n + 3, e1, e2 =>
      have e2 : (List.replicate N1.length (none : Option V))[n]? = some (some t) := e2
      rw [List.getElem?_replicate] at e2
      split at e2 <;> cases e2
  · rcases lk e with ⟨r1, c1⟩ | ⟨r1, c1⟩ | ⟨r1, c1⟩
    · exact ⟨_, by rw [c1]; exact cx⟩
    · exact ⟨_, by rw [c1]; exact keep ca⟩
    · exact ⟨_, by rw [c1]; exact keep cb⟩
  · rcases lk e with ⟨r1, c1⟩ | ⟨r1, c1⟩ | ⟨r1, c1⟩
    · rw [c1]
      exact e0.hok.fresh (Nat.le_succ _)
    · rw [c1]
      exact na
    · rw [c1]
      exact nb
  · show (some v :: some vf :: some vg :: List.replicate N1.length none).length = (x :: y :: z :: N1).length
    simp
/-- such a function's promise, by its body -/
theorem nok2_of {k : Nat} {sp : List (Option V) → Sp} (S : Sc2' F.scope x y z) (hcl : ∀ L, cellsFrom (L + 1) F.scope.names F.cl = [(x, L + 1), (z, b), (y, a)]) (cn : F.cl.lookup x = none) (ly : F.cl.lookup y = some a) (lz : F.cl.lookup z = some b) (hb : ∀ (doc pm ctv u : Value), bindArgs (F.fd doc pm ctv) ⟨[u], []⟩ = pure [(x, u)]) (len : ∀ ws vs H Q E, sp ws vs H Q E → vs.length = 1) (wsome : ∀ ws vs H Q E, sp ws vs H Q E → ∃ vf vg, ws = [some vf, some vg])
    (hbody : ∀ (A : Around) (outer : List Env) (s : Shared) (H : Hp) (v vf vg : V) (Q : VK) (E : XK), Room k (A.deeper (envN1 F f s.heap.objs.size)) → sp [some vf, some vg] [v] H Q E →
      ∃ t, PSs (ncx1 P w K mg base (x :: y :: z :: N1) F f A outer s H E) F.body t ∧ t { nx := fun _ H' => Q .non H', rt := Q } (some v :: some vf :: some vg :: List.replicate N1.length none) H) :
    NOk P w K mg base CX0 (k + 1) f F [x] [y, z] sp := by
  refine ⟨len, fun A outer s H us vs ws Q E hr e0 hf hc C r hsp => ?_⟩
  obtain ⟨vf, vg, rfl⟩ := wsome _ _ _ _ _ hsp
  obtain ⟨v, rfl⟩ : ∃ v, vs = [v] := by
    have l := len _ _ _ _ _ hsp
    match vs, l with
    | [v], _ => exact ⟨v, rfl⟩
  obtain ⟨u, rfl, rv⟩ := vals1 r
  have lim : s.heap.NoLimit := e0.mod.nolimit.keeps fun b o e => (e0.bs b o e).1
  obtain ⟨od, sl, doc, pm, ctv, ho⟩ := fnO_at e0.hok hf
  refine codeAny_call_function hr.depth ho rfl S.co S.gen rfl (codeO_at e0.hok hc) ?_
  rw [hb doc pm ctv u]
  have kx : F.scope.names.lookup x = some .cell := by rw [S.nm]; exact look3a
  obtain ⟨a2, ea, hv⟩ := C.has 0 y rfl
  obtain ⟨b2, eb, hv2⟩ := C.has 1 z rfl
  rw [ly] at ea
  rw [lz] at eb
  cases ea
  cases eb
  obtain ⟨uf, rf, ca⟩ := hv vf rfl
  obtain ⟨ug, rg, cb⟩ := hv2 vg rfl
  have na : H a = none := (C.all y a ly).1
  have nb : H b = none := (C.all z b lz).1
  have ab : a ≠ b := fun q => S.yz (C.inj y z a ly (by rw [lz, q]))
  refine wpAny_pure (env_one S.kind kx cn fun c g2 tk e1 e2 ic ns kp => ⟨lim.keeps kp, ?_⟩)
  rw [hcl, List.lookup_cons, beq_self_eq_true] at e1
  have ec : c = s.heap.objs.size + 1 := (Option.some.inj e1).symm
  subst ec
  show codeAny _ _ (.func F.body (envN1 F f s.heap.objs.size)) _ _
  refine codeAny_func ?_
  obtain ⟨t, ht, hq⟩ := hbody A outer s H v vf vg Q E (hr.deeper _) hsp
  have I : Inv (ncx1 P w K mg base (x :: y :: z :: N1) F f A outer s H E) [] (some v :: some vf :: some vg :: List.replicate N1.length none) H { s with heap := g2, toks := tk } := start2 S hcl hr.hd e0 na nb ab ca cb rf rg rv ic ns kp
  refine wpAny_mono (ht.run [] _ _ H _ I hq) (fun fl s' hs => ?_) fun e s' hs => hs
  have fin : ∀ {σ' : L2.St} {H' : Hp} {v : V} {u : Value}, Inv (ncx1 P w K mg base (x :: y :: z :: N1) F f A outer s H E) [] σ' H' s' → L2.RelV v u → Q v H' → CE outer P w H s Q u s' :=
    fun {σ' H' v u} J rv q => ⟨v, H', J.os, J.bare, J.base, J.hok, rv, q⟩
  cases fl with
  | ret u =>
    obtain ⟨v, σ', H', J, rv, q⟩ := hs
    exact fin J rv q
  | next =>
    obtain ⟨σ', H', J, q⟩ := hs
    exact fin (v := V.non) (u := Value.none) J rfl q
  | brk =>
    obtain ⟨_, _, _, q⟩ := hs
    exact False.elim q
  | cont =>
    obtain ⟨_, _, _, q⟩ := hs
    exact False.elim q
end
end Dk
set_option Elab.async false
set_option linter.all false
set_option maxRecDepth 100000
set_option maxHeartbeats 8000000
namespace Dk
open PySem PySem.Spec PyProof.Rows L2 Er LamX NdefX
/-! ### lot_moves -/
theorem mem_putK {κ : Type} [DecidableEq κ] {kvs : List (κ × V)} {k : κ} {v : V} {kv : κ × V} (h : kv ∈ putK kvs k v) : kv = (k, v) ∨ kv ∈ kvs := by
  unfold putK at h
  split at h
  · obtain ⟨p, hp, e⟩ := List.mem_map.mp h
    by_cases c : p.1 = k
    · rw [if_pos c] at e
      exact .inl (by rw [← e, c])
    · rw [if_neg c] at e
      exact .inr (e ▸ hp)
  · rcases List.mem_append.mp h with z | z
    · exact .inr z
    · exact .inl (List.mem_singleton.mp z)
theorem val_mem {κ : Type} [DecidableEq κ] {kvs : List (κ × V)} {k : κ} {v : V} (h : valV kvs k = some v) : (k, v) ∈ kvs := by
  unfold valV at h
  cases e : kvs.find? (fun kv => decide (kv.1 = k)) with
  | none =>
    rw [e] at h
    cases h
  | some p =>
    rw [e] at h
    have h1 : p.1 = k := by simpa using List.find?_some e
    have h2 : p.2 = v := Option.some.inj h
    have h3 := List.mem_of_find?_eq_some e
    rw [← h1, ← h2]
    exact h3
theorem val_dkvm {ws : List Str} {f : Str → V} {z : Str} (hz : z ∈ ws) : valV (dkv ws (ws.map f)) (.inr z) = some (f z) := by
  have il := idx_lt hz
  rw [dkv_get (by rw [List.length_map]) hz, List.getElem?_map, List.getElem?_eq_getElem il, List.getElem_idxOf il]
  rfl
/-- {k: e for k, v in d.items()} -/
theorem dc_itemsS {K : PySem.W.Frag} {d : Addr} {od : Obj} {ds : List Str} {us : List V} {tv : TE} {fv : Str → V} {σ : L2.St} {i j : Nat} {H1 : Hp} {Q : Addr → Hp → Prop} (hd : H1 d = some (.frz od (.dK (dkv ds us)))) (ul : us.length = ds.length) (nd : ds.Nodup) (hn : ds.length ≤ 1000)
    (w1 : ∀ v u, wipe ((((wipe σ [i, j]).set i (some v)).set j (some u))) [i, j] = wipe σ [i, j]) (s1 : ∀ v u, (((wipe σ [i, j]).set i (some v)).set j (some u))[i]? = some (some v))
    (ev : ∀ (n : Nat) (z : Str) (v : V) (H2 : Hp) (Q : VK), ds[n]? = some z → us[n]? = some v → Sm H1 H2 → Q (fv z) H2 → tv (((wipe σ [i, j]).set i (some (.str z))).set j (some v)) H2 Q)
    (q : ∀ (D : Addr) (H2 : Hp), Sm H1 H2 → H1 D = none → H2 D = some (.dK (dkv ds (ds.map fv))) → Q D H2) : DcR (gTup K 2 (gCons (gName i) (gCons (gName j) gNil))) (tVar i) tv σ [i, j] H1 Q (Iti d od (dkv ds us)) := by
  have kl : (dkv ds us).length = ds.length := dkv_len ul
  refine dc_items w1 (fun D n H => H D = some (.dK (dkv (ds.take n) ((ds.take n).map fv))) ∧ Sm H1 H) (fun D nD => ⟨upd_same, Sm.new nD⟩) (fun D n H _ p => p.2 _ _ hd) (fun D n k v H H' nD ek p m => ?_) (fun D H nD p => ?_)
  · obtain ⟨ed, sm⟩ := p
    obtain ⟨z, ez, rfl, ev2⟩ := dkv_at ek
    have tk : ds.take (n + 1) = ds.take n ++ [z] := by
      rw [List.take_add_one, ez]
      rfl
    refine ⟨_, s1 _ _, ev n z v _ _ ez ev2 (sm.trans m) ⟨_, .inr z, rfl, m _ _ ed, ?_, ?_, ?_⟩⟩
    · rw [dkv_len (by rw [List.length_map]), List.length_take, sizeLine_eq]
      omega
    · rw [upd_same, put_dkvV (by rw [List.length_map]) (by rw [← tk]; exact nd.sublist (List.take_sublist _ _)), tk, List.map_append]
      rfl
    · intro b o e
      rw [upd_ne (ne_of_none e nD)]
      exact m _ _ (sm _ _ e)
  · obtain ⟨ed, sm⟩ := p
    rw [kl, List.take_length] at ed
    exact q D H sm nD ed
/-- where the deeds lead the lots -/
def LmAt (G : Hp) (q : Addr) (ws ds : List Str) (nu : Str → Nat) (nx : Str → Str → Str) : Prop := ∃ kvs : List (Key × V), G q = some (.dK kvs) ∧ ∀ z ∈ ws, ∃ (b : Addr) (row : List (Key × V)), valV kvs (.inl ((nu z : Nat) : Int)) = some (.ref b) ∧ G b = some (.dK row) ∧ ∀ d ∈ ds, valV row (.inr d) = some (.int ((nu (nx z d) : Nat) : Int))
theorem LmAt.sm {G G2 : Hp} {q : Addr} {ws ds : List Str} {nu : Str → Nat} {nx : Str → Str → Str} (h : LmAt G q ws ds nu nx) (m : Sm G G2) : LmAt G2 q ws ds nu nx := by
  obtain ⟨kvs, e, r⟩ := h
  exact ⟨kvs, m _ _ e, fun z hz => by
    obtain ⟨b, row, h1, h2, h3⟩ := r z hz
    exact ⟨b, row, h1, m _ _ h2, h3⟩⟩
def spLm : Sp := fun vs H Q _ => ∃ (lo mo : Addr) (ws ds : List Str) (bs : List Addr) (nx : Str → Str → Str) (nu : Str → Nat), vs = [.ref lo, .ref mo] ∧ H lo = some (numO ws nu) ∧ MvAt H mo ws ds bs nx ∧ ws.Nodup ∧ (∀ z ∈ ws, ∀ d ∈ ds, nx z d ∈ ws) ∧
  (∀ z ∈ ws, ∀ y ∈ ws, nu z = nu y → ∀ d ∈ ds, nu (nx z d) = nu (nx y d)) ∧ ∀ q G, Sm H G → H q = none → LmAt G q ws ds nu nx → Q (.ref q) G
abbrev nLm : List Str := ["lots", "moves", "heads", "node", "lot", "label", "target"]
theorem scLm : FnScope nLm ["lots", "moves"] (defScope (top 19)) := ⟨rfl, rfl, rfl, by decide +kernel, rfl, by decide +kernel, by decide +kernel⟩
abbrev scLm1 : Scope := { kind := .function, names := [(".0", .local), ("lot", .local), ("node", .local), ("lots", .cell), ("moves", .cell)], isGenerator := false, isCoroutine := false }
section
variable {P : Program} {w : World} {K : PySem.W.Frag} {mg : Str → Option Value} {base : Heap} {f : Addr} {fd : FuncData}
theorem bLm (F : FnP K "lot_moves" (top 19) f fd) : Binds K fd ["lots", "moves"] [] := F.bindsN fun _ _ _ _ _ _ us hl => match us, hl with
  | [_, _], _ => rfl
theorem ok_lm (F : FnP K "lot_moves" (top 19) f fd) : FnOk P w K mg base CX0 1 f fd ["lots", "moves"] spLm := by
  refine F.ok (CX := CX0) scLm (fun vs H Q E h => ?_) (fun cdv A outer s H vs Q E hr h => ?_)
  · obtain ⟨lo, mo, ws, ds, bs, nx, nu, rfl, _⟩ := h
    rfl
  · refine ⟨_, PSs.nox (pss_cons (by exact (ps_lock (ps_setDc (i := 2) (own := [("node", 3), ("lot", 4)]) (g := gTup K 2 (gCons (gName 3) (gCons (gName 4) gNil))) (tt := tYes) (tk := tVar 4) (tv := tVar 3) rfl scLm.nd rfl rfl (sw_dict rfl rfl rfl (by decide +kernel)) (pi_items (by exact (pv 0)))
        (blkOk_by (N := nLm) (sc := defScope (top 19)) (by decide +kernel)) (fun _ _ _ _ _ => by exact (pg_tup rfl (pgs_cons (pg_name (i := 3) scLm.nd rfl (Or.inl rfl)) (pgs_cons (pg_name (i := 4) scLm.nd rfl (Or.inl rfl)) pgs_nil)))) (fun _ _ _ _ _ => pts_nil) (fun _ _ _ _ _ => by exact (pv 4)) (fun _ _ _ _ _ => by exact (pv 3)))))
      (pss_one (ps_ret (by exact (pe_lock (pe_dc (own := [("lot", 4), ("node", 3)]) (g := gTup K 2 (gCons (gName 4) (gCons (gName 3) gNil))) (tt := tYes) (tk := tVar 4) (tv := tLockE (tDc (iItems (tDGet (tVar 1) (tVar 3))) (gTup K 2 (gCons (gName 5) (gCons (gName 6) gNil))) tYes (tVar 5) (tDGet (tVar 0) (tVar 6)) [5, 6])) rfl scLm.nd (pi_items (by exact (pv 2)))
        (blkOk_by (N := nLm) (sc := defScope (top 19)) (by decide +kernel)) (fun _ _ _ _ _ => by exact (pg_tup rfl (pgs_cons (pg_name (i := 4) scLm.nd rfl (Or.inl rfl)) (pgs_cons (pg_name (i := 3) scLm.nd rfl (Or.inl rfl)) pgs_nil)))) (fun _ _ _ _ _ => pts_nil) (fun _ _ _ _ _ => by exact (pv 4))
        (fun _ _ _ _ _ => by exact (pe_lock (by exact (pe_dc (own := [("label", 5), ("target", 6)]) (g := gTup K 2 (gCons (gName 5) (gCons (gName 6) gNil))) (tt := tYes) (tk := tVar 5) (tv := tDGet (tVar 0) (tVar 6)) rfl scLm.nd (pi_items (by exact (pe_dget (hu_of hr) (by exact (pv 1)) (by exact (pv 3)) (fun _ _ => rfl))))
          (blkOk_by (N := nLm) (sc := scLm1) (by decide +kernel)) (fun _ _ _ _ _ => by exact (pg_tup rfl (pgs_cons (pg_name (i := 5) scLm.nd rfl (Or.inl rfl)) (pgs_cons (pg_name (i := 6) scLm.nd rfl (Or.inl rfl)) pgs_nil)))) (fun _ _ _ _ _ => pts_nil) (fun _ _ _ _ _ => by exact (pv 5))
          (fun _ _ _ _ _ => by exact (pe_dget (hu_of hr) (by exact (pv 0)) (by exact (pv 6)) (fun _ _ => rfl))))))))))))), ?_⟩
    obtain ⟨lo, mo, ws, ds, bs, nx, nu, rfl, hlo, mv, nd, cl, cong, q⟩ := h
    have w9 := mv.few
    have d4 := mv.deeds
    have sz : ∀ n : Nat, n ≤ 1000 → n ≤ sizeLine := fun n z => by
      rw [sizeLine_eq]
      omega
    have kl : (dkv ws (ws.map fun z => V.int ((nu z : Nat) : Int))).length = ws.length := dkv_len (by rw [List.length_map])
    -- the heads
    refine ⟨lo, _, hlo, True.intro, fun od => ⟨_, rfl, lo, od, _, rfl, upd_same, ?_⟩⟩
    have unl : ∀ G, Sm (upd H lo (.frz od (numO ws nu))) G → Sm H (upd G lo (numO ws nu)) := fun G m => sm_unlock hlo m
    have loL : upd H lo (.frz od (numO ws nu)) lo = some (.frz od (numO ws nu)) := upd_same
    refine dc_items (K := K) (fun _ _ => rfl) (fun D n G => ∃ kvs : List (Key × V), G D = some (.dK kvs) ∧ kvs.length ≤ n ∧ (∀ kv ∈ kvs, ∃ z ∈ ws, kv = (.inl ((nu z : Nat) : Int), .str z)) ∧ (∀ z ∈ ws.take n, (valV kvs (.inl ((nu z : Nat) : Int))).isSome = true) ∧ Sm (upd H lo (.frz od (numO ws nu))) G)
      (fun D nD => ⟨[], upd_same, Nat.le_refl _, (fun kv h => by cases h), (fun z h => by simp at h), Sm.new nD⟩) (fun D n G _ ⟨_, _, _, _, _, m⟩ => m _ _ loL) (fun D n k v G G' nD ek p m => ?_) (fun D G nD p => ?_)
    · obtain ⟨kvs, eD, len, all, has, mm⟩ := p
      obtain ⟨z, ez, rfl, ev⟩ := dkv_at ek
      have hz := List.mem_of_getElem? ez
      have nl : n < ws.length := (List.getElem?_eq_some_iff.mp ez).1
      have ev : v = .int ((nu z : Nat) : Int) := by
        rw [List.getElem?_map, ez] at ev
        exact (Option.some.inj ev).symm
      subst ev
      have tk : ws.take (n + 1) = ws.take n ++ [z] := by
        rw [List.take_add_one, ez]
        rfl
      refine ⟨_, rfl, _, rfl, kvs, .inl ((nu z : Nat) : Int), rfl, m _ _ eD, by rw [sizeLine_eq]; omega, putK kvs (.inl ((nu z : Nat) : Int)) (.str z), upd_same, ?_, fun kv h => ?_, fun y hy => ?_, fun b o e => ?_⟩
      · have := length_putK kvs (.inl ((nu z : Nat) : Int)) (V.str z)
        omega
      · rcases mem_putK h with h | h
        · exact ⟨z, hz, h⟩
        · exact all kv h
      · rw [has_putK]
        rw [tk] at hy
        rcases List.mem_append.mp hy with h | h
        · exact .inr (has y h)
        · exact .inl (by rw [List.mem_singleton.mp h])
      · rw [upd_ne (ne_of_none e nD)]
        exact m _ _ (mm _ _ e)
    · obtain ⟨hk, eD, len, all, has, mm⟩ := p
      rw [kl, List.take_length] at has
      rw [kl] at len
      refine ⟨mm _ _ loL, ?_⟩
      have Dlo : D ≠ lo := fun z => by
        rw [z, loL] at nD
        cases nD
      have mA := unl G mm
      have eD : upd G lo (numO ws nu) D = some (.dK hk) := by
        rw [upd_ne Dlo]
        exact eD
      have nDH : H D = none := none_of_sm (unl _ (Sm.refl _)) (by rw [upd_ne Dlo]; exact nD)
      clear mm unl loL nD
      generalize upd G lo (numO ws nu) = G1 at mA eD ⊢
      have hlo1 := mA _ _ hlo
      have mv1 := mv.sm mA
      -- the table
      refine ⟨D, _, eD, True.intro, fun od2 => ⟨_, rfl, D, od2, _, rfl, upd_same, ?_⟩⟩
      have unl : ∀ G, Sm (upd G1 D (.frz od2 (.dK hk))) G → Sm G1 (upd G D (.dK hk)) := fun G m => sm_unlock eD m
      have DL : upd G1 D (.frz od2 (.dK hk)) D = some (.frz od2 (.dK hk)) := upd_same
      have still : ∀ {c : Addr} {o : HO}, H c = some o → upd G1 D (.frz od2 (.dK hk)) c = some o := fun {c o} e => by
        rw [upd_ne (ne_of_none e nDH)]
        exact mA _ _ e
      have mvL : MvAt (upd G1 D (.frz od2 (.dK hk))) mo ws ds bs nx := mv.sm fun c o e => still e
      have loL := still hlo
      have stL : ∀ (c : Addr) (o : HO), H c = some o → upd G1 D (.frz od2 (.dK hk)) c = some o := fun c o e => still e
      clear still
      generalize upd G1 D (.frz od2 (.dK hk)) = L at unl DL mvL loL stL ⊢
      clear mA mv1 hlo1
      refine dc_items (K := K) (fun _ _ => rfl) (fun D2 n G => ∃ kvs : List (Key × V), G D2 = some (.dK kvs) ∧ kvs.length ≤ n ∧ (∀ z ∈ ws, (V.str z) ∈ (hk.take n).map (·.2) → ∃ (b : Addr) (row : List (Key × V)), valV kvs (.inl ((nu z : Nat) : Int)) = some (.ref b) ∧ b ≠ D2 ∧ b ≠ D ∧ G b = some (.dK row) ∧ ∀ d ∈ ds, valV row (.inr d) = some (.int ((nu (nx z d) : Nat) : Int))) ∧ D2 ≠ D ∧ Sm L G)
        (fun D2 nD2 => ⟨[], upd_same, Nat.le_refl _, (fun z _ h => by simp at h), (fun z => by rw [z, DL] at nD2; cases nD2), Sm.new nD2⟩) (fun D2 n G _ ⟨_, _, _, _, _, m⟩ => m _ _ DL) (fun D2 n k v G G' nD2 ek p m => ?_) (fun D2 G nD2 p => ?_)
      · obtain ⟨kvs, eD2, len2, all2, DD, mm⟩ := p
        obtain ⟨z, hz, e⟩ := all _ (List.mem_of_getElem? ek)
        have e1 : k = .inl ((nu z : Nat) : Int) := congrArg (fun p : Key × V => p.1) e
        have e2 : v = .str z := congrArg (fun p : Key × V => p.2) e
        subst e1 e2
        have nl : n < hk.length := (List.getElem?_eq_some_iff.mp ek).1
        have m2 := mm.trans m
        have mvG := mvL.sm m2
        obtain ⟨b, vb, _, hb⟩ := mvG.row hz
        refine ⟨_, rfl, b, _, hb, True.intro, fun od3 => ⟨_, rfl, _, rfl, mo, .ref b, rfl, ?_, b, od3, _, rfl, upd_same, ?_⟩⟩
        · by_cases c : mo = b
          · exact absurd c (fun c => by
              have h1 := mvG.at_
              rw [c, hb] at h1
              obtain ⟨b', vb', bm, hb'⟩ := mvG.row hz
              rw [vb] at vb'
              cases vb'
              exact bm c.symm)
          · exact .inl ⟨_, .inr z, .inl (by rw [upd_ne c]; exact mvG.at_), rfl, vb.symm⟩
        · have unl3 : ∀ G2, Sm (upd G' b (.frz od3 (.dK (dkv ds ((ds.map (nx z)).map V.str))))) G2 → Sm G' (upd G2 b (.dK (dkv ds ((ds.map (nx z)).map V.str)))) := fun G2 m => sm_unlock hb m
          have bL3 : upd G' b (.frz od3 (.dK (dkv ds ((ds.map (nx z)).map V.str)))) b = some (.frz od3 (.dK (dkv ds ((ds.map (nx z)).map V.str)))) := upd_same
          have lob : lo ≠ b := fun c => by
            have h1 := m2 _ _ loL
            rw [c, hb] at h1
            have h2 := HO.dK.inj (Option.some.inj h1)
            have h3 : ws ≠ [] := List.ne_nil_of_mem hz
            cases hd : ds with
            | nil =>
              have h4 := congrArg List.length h2
              rw [dkv_len (by rw [List.length_map, List.length_map]), dkv_len (by rw [List.length_map]), hd] at h4
              exact h3 (List.eq_nil_of_length_eq_zero h4.symm)
            | cons d0 dr =>
              cases hw : ws with
              | nil => exact h3 hw
              | cons w0 wr =>
                rw [hd, hw] at h2
                have h4 := (List.cons.inj h2).1
                have h5 := congrArg (fun p : Key × V => p.2) h4
                cases h5
          have loL3 : Rd (upd G' b (.frz od3 (.dK (dkv ds ((ds.map (nx z)).map V.str))))) lo (numO ws nu) := .inl (by rw [upd_ne lob]; exact m2 _ _ loL)
          have eD3 := m _ _ eD2
          generalize upd G' b (.frz od3 (.dK (dkv ds ((ds.map (nx z)).map V.str)))) = L3 at unl3 bL3 loL3 ⊢
          refine dc_itemsS (K := K) (fv := fun d => .int ((nu (nx z d) : Nat) : Int)) bL3 (by rw [List.length_map, List.length_map]) mvG.dnd (by omega) (fun _ _ => rfl) (fun _ _ => rfl) (fun n2 d v2 G2 Q2 ed ev2 m3 q2 => ?_) (fun e G2 m3 ne ee => ?_)
          · have hd := List.mem_of_getElem? ed
            have ev3 : v2 = .str (nx z d) := by
              rw [List.getElem?_map, List.getElem?_map, ed] at ev2
              exact (Option.some.inj ev2).symm
            subst ev3
            exact ⟨_, rfl, _, rfl, lo, .int ((nu (nx z d) : Nat) : Int), rfl, .inl ⟨_, .inr (nx z d), Rd.sm loL3 m3, rfl, (num_at (cl z hz d hd)).symm⟩, q2⟩
          · have mu := unl3 G2 m3
            have eb : e ≠ b := fun c => by
              rw [c, bL3] at ne
              cases ne
            have ee2 : upd G2 b (.dK (dkv ds ((ds.map (nx z)).map V.str))) e = some (.dK (dkv ds (ds.map fun d => .int ((nu (nx z d) : Nat) : Int)))) := by
              rw [upd_ne eb]
              exact ee
            have neG : G' e = none := none_of_sm (unl3 L3 (Sm.refl L3)) (by rw [upd_ne eb]; exact ne)
            refine ⟨m3 _ _ bL3, ?_⟩
            generalize upd G2 b (.dK (dkv ds ((ds.map (nx z)).map V.str))) = G3 at mu ee2 ⊢
            have eD4 := mu _ _ eD3
            have eD2' : e ≠ D2 := fun c => by
              rw [c, eD3] at neG
              cases neG
            have eDD : e ≠ D := fun c => by
              rw [c, m2 _ _ DL] at neG
              cases neG
            refine ⟨kvs, .inl ((nu z : Nat) : Int), rfl, eD4, by rw [sizeLine_eq]; omega, putK kvs (.inl ((nu z : Nat) : Int)) (.ref e), upd_same, ?_, fun y hy my => ?_, DD, fun c o ec => ?_⟩
            · have := length_putK kvs (.inl ((nu z : Nat) : Int)) (V.ref e)
              omega
            · by_cases c : nu y = nu z
              · refine ⟨e, _, by rw [valV_put, if_pos (by rw [c])], eD2', eDD, by rw [upd_ne eD2']; exact ee2, fun d hd => ?_⟩
                rw [val_dkvm hd, cong y hy z hz c d hd]
              · have my2 : (V.str y) ∈ (hk.take n).map (·.2) := by
                  rw [List.take_add_one, ek, List.map_append] at my
                  rcases List.mem_append.mp my with h | h
                  · exact h
                  · have h : V.str y = V.str z := by simpa using h
                    exact absurd (by rw [V.str.inj h]) c
                obtain ⟨b2, row, h1, h2, h3, h4, h5⟩ := all2 y hy my2
                refine ⟨b2, row, ?_, h2, h3, ?_, h5⟩
                · rw [valV_put, if_neg]
                  · exact h1
                  · intro h
                    have h : ((nu y : Nat) : Int) = ((nu z : Nat) : Int) := Sum.inl.inj h
                    exact c (by omega)
                · rw [upd_ne h2]
                  exact mu _ _ (m _ _ h4)
            · rw [upd_ne (ne_of_none ec nD2)]
              exact mu _ _ (m _ _ (mm _ _ ec))
      · obtain ⟨kvs, eD2, len2, all2, DD, mm⟩ := p
        rw [List.take_length] at all2
        have mu := unl G mm
        refine ⟨mm _ _ DL, q D2 _ ?_ ?_ ⟨kvs, ?_, fun z hz => ?_⟩⟩
        · exact fun c o e => by
            rw [upd_ne (ne_of_none e nDH)]
            exact mm _ _ (stL c o e)
        · exact none_of_sm (fun c o e => stL c o e) nD2
        · rw [upd_ne DD]
          exact eD2
        · have h1 := has z hz
          cases h2 : valV hk (.inl ((nu z : Nat) : Int)) with
          | none =>
            rw [h2] at h1
            cases h1
          | some v =>
            have h3 := val_mem h2
            obtain ⟨y, hy, e⟩ := all _ h3
            have e1 : ((nu z : Nat) : Int) = ((nu y : Nat) : Int) := Sum.inl.inj (congrArg (fun p : Key × V => p.1) e)
            have e2 : v = .str y := congrArg (fun p : Key × V => p.2) e
            have nzy : nu z = nu y := by omega
            subst e2
            obtain ⟨b, row, r1, r2, r3, r4, r5⟩ := all2 y hy (List.mem_map.mpr ⟨_, h3, rfl⟩)
            refine ⟨b, row, by rw [nzy]; exact r1, by rw [upd_ne r3]; exact r4, fun d hd => ?_⟩
            rw [r5 d hd, cong z hz y hy nzy d hd]
end
end Dk
set_option Elab.async false
set_option linter.all false
set_option maxRecDepth 100000
set_option maxHeartbeats 4000000
/-! {e for x in ..}, the members of any one kind -/
namespace ScX
open PySem PySem.Spec PyProof.Rows L2 PpSet
abbrev bareSet (w : World) : Obj := { cls := .type "set", dict := none, data := .set #[] 0 (.fresh 0 0 (!w.params.followText "set-order")) }
/-- a way to speak of sets: the empty one, and one more in it -/
structure Way (κ : Type) [DecidableEq κ] where
  SO : Program → World → Addr → (κ → Bool) → Nat → HO
  v : κ → V
  bare : ∀ (P : Program) (w : World) (H : Hp) (h : Heap), ObjOk P w H (h.push (bareSet w)) h.objs.size (SO P w h.objs.size (fun _ => false) 0)
  put : ∀ (Y : Cx) (ps : List (Addr × Obj)) (σ : L2.St) (H : Hp) (s : Shared) (E : Value → Shared → Prop) (D : Addr) (S : κ → Bool) (n : Nat) (k : κ) (u : Value) (Q : Value → Shared → Prop), Inv Y ps σ H s → H D = some (SO Y.prog Y.w D S n) → n + 1 < scanBound → RelV (v k) u →
    (∀ s2, Inv Y ps σ (upd H D (SO Y.prog Y.w D (fun j => S j || decide (j = k)) (if S k = true then n else n + 1))) s2 → Q .none s2) → wpAny (model Y.prog Y.w) Y.A (call (.builtin "set.add") [.ref D, u]) Q E s
/-- what is asked of the walk -/
abbrev Turns {κ : Type} [DecidableEq κ] (Wy : Way κ) (P : Program) (w : World) (g : TG) (tt : TT) (te : TE) (vs : List Nat) (σ : L2.St) (D : Addr) (H1 : Hp) (Q : VK) (J : It) : Prop :=
  ∃ U : Nat → Nat → Hp → Prop, (∃ m, U 0 m (upd H1 D (Wy.SO P w D (fun _ => false) 0))) ∧ ∀ i m H, U i m H → (J.stop i H ∧ Q (.ref D) H) ∨ (J.go i H ∧ ∃ Nx : Hp → Prop, (∀ H2, Nx H2 → ∃ m2, m2 < m ∧ U (i + 1) m2 H2) ∧
    ∀ x H2, J.yld i H x H2 → g x (wipe σ vs) H2 fun σ3 H3 => wipe σ3 vs = wipe σ vs ∧ tt σ3 H3 fun b H4 =>
      if b = true then te σ3 H4 fun y H5 => ∃ (k : κ) (S : κ → Bool) (n : Nat), y = Wy.v k ∧ H5 D = some (Wy.SO P w D S n) ∧ n + 1 < scanBound ∧ Nx (upd H5 D (Wy.SO P w D (fun j => S j || decide (j = k)) (if S k = true then n else n + 1))) else Nx H4)
def tScX {κ : Type} [DecidableEq κ] (Wy : Way κ) (P : Program) (w : World) (wi : TI) (g : TG) (tt : TT) (te : TE) (vs : List Nat) : TE := fun σ H Q => wi σ H fun J H1 => ∀ D, H1 D = none → Turns Wy P w g tt te vs σ D H1 Q J
section
variable {X : Cx} {κ : Type} [DecidableEq κ] {Wy : Way κ}
theorem pe_scX {elt tg iter : Expr} {ifs : List Expr} {scope : Scope} {own : List (Str × Nat)} {pos : Pos} {wi : TI} {g : TG} {tt : TT} {te : TE} (hc : X.calm = true) (hN : X.N.Nodup) (hi : PI X tg iter wi) (ok : BlkOk X.N X.env.scope scope own)
    (hg : ∀ (s : Shared) (H : Hp) (C : Addr) (cl : List (Str × Addr)) (fp : List Addr), PG (X.blk s H scope (compEnvC scope cl C X.env) fp) tg g)
    (ht : ∀ (s : Shared) (H : Hp) (C : Addr) (cl : List (Str × Addr)) (fp : List Addr), PTs (X.blk s H scope (compEnvC scope cl C X.env) fp) ifs tt)
    (he : ∀ (s : Shared) (H : Hp) (C : Addr) (cl : List (Str × Addr)) (fp : List Addr), PE (X.blk s H scope (compEnvC scope cl C X.env) fp) elt te)
    (hs : ∀ x, foldedSetIterable iter X.env x = pure x := by intro _; rfl) :
    PE X (.SetComp elt [⟨tg, iter, ifs, 0⟩] scope pos) (tScX Wy X.prog X.w wi g tt te (own.map (·.2))) := by
  refine ⟨fun pins s σ H Q I h => ?_⟩
  rw [eval_SetComp]
  have fr : ∀ y ∈ scope.names, y.2 = .free → ∃ c, X.env.cells.lookup y.1 = some c := fun y hy e => by
    rcases ok.free y hy e with z | z
    · exact I.ok.has _ (.inl z)
    · exact I.ok.has _ (.inr z)
  refine wpAny_comprehension_free (use := none) rfl hs (closure_ok fr) ok.kind (fun y hy e => by rw [ok.uniq y hy, e]) (thn (hi.run pins s σ H _ I h) fun xv s1 q1 => thn q1 fun iv s2 q2 => ?_)
  obtain ⟨it, fp, tn, J, H2, rfl, I2, T, st2, f2, q⟩ := q2
  refine newSet_ok (newEnv_comp ?_)
  have nD : H2 s2.heap.objs.size = none := I2.hok.fresh (Nat.le_refl _)
  obtain ⟨U, ⟨m0, u0⟩, turn⟩ := q _ nD
  have I3 : Inv X pins σ (upd H2 s2.heap.objs.size (Wy.SO X.prog X.w s2.heap.objs.size (fun _ => false) 0)) { s2 with heap := s2.heap.push (bareSet X.w) } :=
    I2.laid (t' := s2.toks) (fun b o e => Heap.get?_push_of_some _ e) (Nat.le_refl _) (Wy.bare X.prog X.w _ s2.heap)
  have k3 : ∀ b o, s2.heap.get? b = some o → (s2.heap.push (bareSet X.w)).get? b = some o := fun b o e => Heap.get?_push_of_some _ e
  have z3 : (s2.heap.push (bareSet X.w)).objs.size = s2.heap.objs.size + 1 := Heap.size_push _ _
  generalize hD : s2.heap.objs.size = D at nD turn u0 I3 z3
  generalize hs3 : ({ s2 with heap := s2.heap.push (bareSet X.w) } : Shared) = s3 at I3
  have e3 : s3.heap = s2.heap.push (bareSet X.w) := by rw [← hs3]
  have f3 : ∀ b ∈ fp, FpOk X pins (upd H2 D (Wy.SO X.prog X.w D (fun _ => false) 0)) b ∧ b < s3.heap.objs.size := fun b hb => by
    obtain ⟨o, eo, _⟩ := T.obj _ _ st2 b hb
    have lt : b < D := hD ▸ Heap.lt_size eo
    refine ⟨⟨?_, (f2 b hb).2⟩, by rw [e3, z3]; exact Nat.lt_succ_of_lt lt⟩
    rw [upd_ne (Nat.ne_of_lt lt)]
    exact (f2 b hb).1
  have st3 : tn 0 s3.heap := T.keep _ _ _ st2 fun b _ o e => by
    rw [e3]
    exact k3 b o e
  have I4 := block_start I3 ok hN f3
  have pg := hg s3 (upd H2 D (Wy.SO X.prog X.w D (fun _ => false) 0)) s3.heap.objs.size (cellsFrom (s3.heap.objs.size + 1) scope.names (cloFrom X.env.cells scope.names [])) fp
  have pt := ht s3 (upd H2 D (Wy.SO X.prog X.w D (fun _ => false) 0)) s3.heap.objs.size (cellsFrom (s3.heap.objs.size + 1) scope.names (cloFrom X.env.cells scope.names [])) fp
  have pe := he s3 (upd H2 D (Wy.SO X.prog X.w D (fun _ => false) 0)) s3.heap.objs.size (cellsFrom (s3.heap.objs.size + 1) scope.names (cloFrom X.env.cells scope.names [])) fp
  show codeAny _ _ (.compStart (.SetComp elt [⟨tg, iter, ifs, 0⟩] scope pos) 0 (.ref it) (.ref D) (compEnvC scope (cellsFrom (s3.heap.objs.size + 1) scope.names (cloFrom X.env.cells scope.names [])) s3.heap.objs.size X.env))
    (compPost (model X.prog X.w) X.A X.xe none (EP X pins σ Q) (.ref D) s3.heap.objs.size) { s3 with heap := pushCells (s3.heap.push { cls := .type "dict", data := .dict #[] }) scope.names }
  generalize hce : compEnvC scope (cellsFrom (s3.heap.objs.size + 1) scope.names (cloFrom X.env.cells scope.names [])) s3.heap.objs.size X.env = ce at I4 pg pt pe ⊢
  have cL : ce.locals = s3.heap.objs.size := by rw [← hce]; rfl
  have nfp : ∀ b ∈ fp, (upd H2 D (Wy.SO X.prog X.w D (fun _ => false) 0)) b = none := fun b hb => (f3 b hb).1.1
  generalize upd H2 D (Wy.SO X.prog X.w D (fun _ => false) 0) = H3 at I3 I4 pg pt pe u0 nfp f3
  generalize hs4 : ({ s3 with heap := pushCells (s3.heap.push { cls := .type "dict", data := .dict #[] }) scope.names } : Shared) = s4 at I4 ⊢
  have st4 : tn 0 s4.heap := T.keep _ _ _ st3 fun b _ o e => by
    rw [← hs4]
    exact pushCells_keeps _ _ _ _ (Heap.get?_push_of_some _ e)
  have at_ : ∀ {σ2 : L2.St} {Hx : Hp} {sx : Shared}, Inv (X.blk s3 H3 scope ce fp) [] σ2 Hx sx → (∀ b ∈ fp, Hx b = none) → ∀ b ∈ fp, FpOk (X.blk s3 H3 scope ce fp) [] Hx b := fun {σ2 Hx sx} Ix nx b hb =>
    ⟨nx b hb, (Ix.ok.exf b hb).1, Ix.ok.exfs b hb, .inl hb, fun x c e => (Ix.ok.exf b hb).2 x c e, fun p hp => nomatch (show p ∈ ([] : List (Addr × Obj)) from hp)⟩
  refine codeAny_compStart_set ?lp (T.self X.A 0 _ _ _ st4 ?lp)
  refine compLoopS_any (fun n sx => ∃ i Hx, Inv (X.blk s3 H3 scope ce fp) [] (wipe σ (own.map (·.2))) Hx sx ∧ tn i sx.heap ∧ (∀ b ∈ fp, Hx b = none) ∧ U i n Hx) ?_ m0 ⟨0, H3, I4, st4, nfp, u0⟩
  rintro n s5 ⟨i, H5, I5, st5, n5, u5⟩
  rcases turn i n H5 u5 with ⟨stop, fin⟩ | ⟨go, Nx, hNx, step⟩
  · refine thnF (T.done (X.blk s3 H3 scope ce fp) rfl rfl rfl hc i [] s5 _ H5 (fun _ _ => False) I5 (at_ I5 n5) st5 stop) fun r s6 ⟨er, I6⟩ => ?_
    subst er
    have I7 : Inv X pins σ H5 s6 := I3.call' (ch := fp) I6.os I6.base I6.hok I6.bare fun b hb => ⟨(f3 b hb).1.2.2.2.1, (f3 b hb).1.2.1, (f3 b hb).1.2.2.2.2.1, (f3 b hb).1.2.2.2.2.2⟩
    have nC : H5 s3.heap.objs.size = none := cL ▸ (show H5 ce.locals = none from I6.free)
    obtain ⟨m, hm, _⟩ := I6.loc
    have hm : s6.heap.Ns s3.heap.objs.size m := cL ▸ (show s6.heap.Ns ce.locals m from hm)
    obtain ⟨g0, g1, g2, g3, g4, g5⟩ := I3.fpOk (Nat.le_refl _) nC
    exact ⟨m, hm, fun h9 sb => ⟨.ref D, H5, I7.turned (t' := s6.toks) (fun b o hb e => (sb.2 b hb).trans e) g0 g1 g3 g4 g5, rfl, fin⟩⟩
  · refine thnF (T.item (X.blk s3 H3 scope ce fp) rfl rfl rfl hc i [] s5 _ H5 (fun _ _ => False) I5 (at_ I5 n5) st5 go) fun r s6 ⟨u, er, h6⟩ => ?_
    subst er
    refine thnF h6 fun _ s7 ⟨x, H7, I7, r7, y7, st7, n7⟩ => ?_
    refine thnF (pg.run _ s7 _ H7 x u _ (I7.pinned (at_ I7 n7) (T.obj _ _ st7)) r7 (step x H7 y7)) fun _ s8 ⟨σ8, H8, I8, w8, q8⟩ => ?_
    refine thnF (pt.run _ s8 σ8 H8 _ I8 q8) fun b s9 ⟨H9, I9, q9⟩ => ?_
    have back : ∀ {sx : Shared} {Hx : Hp}, Inv (X.blk s3 H3 scope ce fp) ([] ++ pinsAt fp s7.heap) σ8 Hx sx → Nx Hx → ∃ m, m < n ∧ ∃ i Hx, Inv (X.blk s3 H3 scope ce fp) [] (wipe σ (own.map (·.2))) Hx sx ∧ tn i sx.heap ∧ (∀ b ∈ fp, Hx b = none) ∧ U i m Hx := fun {sx Hx} Ix nx => by
      obtain ⟨m2, lt2, u2⟩ := hNx Hx nx
      have pin : ∀ b ∈ fp, ∀ o, s7.heap.get? b = some o → sx.heap.get? b = some o ∧ Hx b = none := fun b hb o e =>
        ⟨(Ix.pin (b, o) (List.mem_append_right _ (List.mem_append_right _ (mem_pinsAt hb e)))).1, (Ix.pin (b, o) (List.mem_append_right _ (List.mem_append_right _ (mem_pinsAt hb e)))).2.1⟩
      refine ⟨m2, lt2, i + 1, Hx, (Ix.unpinned (pins := [])).weak (by rw [← w8, wipe_length]) (fun j v e => ?_), T.keep _ _ _ st7 fun b hb o e => (pin b hb o e).1, fun b hb => ?_, u2⟩
      · rw [← w8] at e
        exact (wipe_some e).1
      · obtain ⟨o, e, _⟩ := T.obj _ _ st7 b hb
        exact (pin b hb o e).2
    cases b with
    | false =>
      rw [if_neg (by decide)] at q9 ⊢
      exact back I9 q9
    | true =>
      rw [if_pos rfl] at q9 ⊢
      refine thnF (pe.run _ s9 σ8 H9 _ I9 q9) fun z s10 ⟨yv, H10, I10, r10, k, S0, n0, ey, hD10, room, nx⟩ => ?_
      subst ey
      exact Wy.put (X.blk s3 H3 scope ce fp) _ _ _ _ _ D S0 n0 k z _ I10 hD10 room r10 fun s11 I11 => back I11 nx
end
/-- sets of ints -/
def wayI : Way Int where
  SO := fun _ w a S n => SetO w a S n
  v := V.int
  bare := fun P w H h => setO_new (setR_fresh w)
  put := fun Y ps σ H s E D S n k u Q I hD room r q => by
    obtain ⟨tk, rfl⟩ := r
    refine setR_add (setO_get I hD) room fun h2 sb new => q _ (I.write (e := D) (t' := s.toks + 1) (by rw [hD]; trivial) (.inl rfl) (fun b u hb hu => (sb.2 b hb).trans hu) ?_ (setO_new new))
    obtain ⟨o, _, _, _, ho, _⟩ := new
    exact ⟨o, ho⟩
end ScX
set_option Elab.async false
set_option linter.all false
set_option maxRecDepth 100000
set_option maxHeartbeats 4000000
/-! sorted(set(xs)), xs a list of texts: the set with all that its walk asks -/
namespace TxSet
open PySem PySem.Spec PyProof.Rows L2
def txt (e : Int × Value) : Str := match e.2 with | .str k _ => k | _ => Str.empty
def Row (w : World) (e : Int × Value) : Prop := ∃ k t, e.2 = Value.str k t ∧ e.1 = hashStr w k
/-- the set at a: ks its members -/
def Tx (w : World) (h : Heap) (a : Addr) (ks : List Str) : Prop := ∃ o es ep t, h.get? a = some o ∧ o.ExactSet ∧ o.data = .set es ep t ∧ (∀ e ∈ es.toList, Row w e) ∧ (es.toList.map txt).Perm ks ∧ ks.Nodup ∧ es.size < scanBound ∧
  t.fits es.size = true ∧ Ris t.place.toList ∧ (w.params.followText "set-order" = true ∨ t.led = true)
section
variable {P : Program} {w : World} {A : Around} {E : Value → Shared → Prop} {s : Shared} {a : Addr} {ks : List Str} {k : Str} {tk : Tok}
theorem Tx.at {h h2 : Heap} (x : Tx w h a ks) (q : ∀ o, h.get? a = some o → h2.get? a = some o) : Tx w h2 a ks := by
  obtain ⟨o, es, ep, t, ho, r⟩ := x
  exact ⟨o, es, ep, t, q o ho, r⟩
theorem Tx.perm {h : Heap} {ls : List Str} (x : Tx w h a ks) (p : ks.Perm ls) : Tx w h a ls := by
  obtain ⟨o, es, ep, t, ho, hx, hd, g, pm, nd, r⟩ := x
  exact ⟨o, es, ep, t, ho, hx, hd, g, pm.trans p, p.nodup_iff.mp nd, r⟩
theorem elems {l : List (Int × Value)} (g : ∀ e ∈ l, Row w e) : ElemsOf (PySem.strKind P w) l := fun e he => by
  obtain ⟨k, t, h1, h2⟩ := g e he
  exact ⟨⟨k, by rw [h1]; exact strKind_is _ _ _ _, h2⟩, by rw [h1]; rfl⟩
theorem is_iff {e : Int × Value} (g : Row w e) : (PySem.strKind P w).is k e.2 = true ↔ txt e = k := by
  obtain ⟨k0, t, h1, _⟩ := g
  unfold txt
  rw [h1]
  show (Value.isStrOf k (.str k0 t) = true) ↔ k0 = k
  simp [Value.isStrOf]
theorem mem_iff {l : List (Int × Value)} (g : ∀ e ∈ l, Row w e) : k ∈ l.map txt ↔ ∃ e ∈ l, (PySem.strKind P w).is k e.2 = true := by
  rw [List.mem_map]
  exact ⟨fun ⟨e, he, q⟩ => ⟨e, he, (is_iff (g e he)).mpr q⟩, fun ⟨e, he, q⟩ => ⟨e, he, (is_iff (g e he)).mp q⟩⟩
/-- what is left to do once the new row is laid -/
theorem tail_ok {f : Bool → Sem Unit} (hf : ∀ (b : Bool) (s2 : Shared) (Q : Unit → Shared → Prop), Q () s2 → wpAny (model P w) A (f b) Q E s2) {o : Obj} {es es1 : Array (Int × Value)} {ep : Nat} {t t1 : SetTable} (ho : s.heap.get? a = some o) (hx : o.ExactSet) (hd : o.data = .set es ep t)
    (g1 : ∀ e ∈ es1.toList, Row w e) (pm : (es1.toList.map txt).Perm ks) (nd : ks.Nodup) (few : es1.size < scanBound) (fit : t1.fits es1.size = true) (ris : Ris t1.place.toList) (led : w.params.followText "set-order" = true ∨ t1.led = true) {dm : Bool} {Q : Option Bool → Shared → Prop}
    (q : ∀ h2, Heap.SameBut a s.heap h2 → Tx w h2 a ks → Q (some true) { s with heap := h2 }) :
    wpAny (model P w) A (do
      storeSet a es1 t1
      if (!dm && t1.tooFull) = true then do
        f (relayAll t1 es1 (SetTable.grown es1.size)).2.2
        storeSet a (relayAll t1 es1 (SetTable.grown es1.size)).1 (relayAll t1 es1 (SetTable.grown es1.size)).2.1
        pure (some true)
      else pure (some true)) Q E s := by
  have put : ∀ {h : Heap} {o2 : Obj} {es2 : Array (Int × Value)} {ep2 : Nat} {t2 : SetTable} (es3 : Array (Int × Value)) (t3 : SetTable), h.get? a = some o2 → o2.data = .set es2 ep2 t2 → (h.update a (Obj.putSet es3 t3)).get? a = some { o2 with data := .set es3 (ep2 + 1) t3 } := fun {h o2 es2 ep2 t2} es3 t3 e1 e2 => by
    have z := Heap.get?_update_self (Obj.putSet es3 t3) e1 (by rw [putSet_of es3 t3 e2]; rfl)
    rw [putSet_of es3 t3 e2] at z
    exact z
  refine wpAny_bind (wpAny_storeSet_of ho hd ?_ (fits_of_scanBound few))
  have ho1 := put es1 t1 ho hd
  have b1 := Heap.SameBut.update s.heap a (Obj.putSet es1 t1)
  by_cases c : (!dm && t1.tooFull) = true
  · rw [if_pos c]
    have p2 := relayAll_perm t1 es1 (SetTable.grown es1.size)
    have fit2 := relayAll_fits t1 es1 (SetTable.grown es1.size)
    have ris2 := relayAll_ris t1 es1 (SetTable.grown es1.size)
    have led2 := relayAll_led t1 es1 (SetTable.grown es1.size)
    generalize relayAll t1 es1 (SetTable.grown es1.size) = Z at p2 fit2 ris2 led2 ⊢
    obtain ⟨es2, t2, gv⟩ := Z
    have sz : es2.size = es1.size := by
      have := p2.length_eq
      rw [Array.length_toList, Array.length_toList] at this
      exact this
    refine wpAny_bind (hf _ _ _ (wpAny_bind (wpAny_storeSet_of ho1 rfl ?_ (fits_of_scanBound (sz ▸ few)))))
    refine wpAny_pure (q _ (b1.trans (Heap.SameBut.update _ a _)) ⟨_, es2, _, t2, put es2 t2 ho1 rfl, hx, rfl, fun e he => g1 e (p2.mem_iff.mp he), (p2.map txt).trans pm, nd, sz ▸ few, fit2, ris2, ?_⟩)
    rcases led with z | z
    · exact .inl z
    · exact .inr (led2.trans z)
  · rw [if_neg c]
    exact wpAny_pure (q _ b1 ⟨_, es1, _, t1, ho1, hx, rfl, g1, pm, nd, few, fit, ris, led⟩)
/-- one more text -/
theorem add_ok {Q : Bool → Shared → Prop} (R : Tx w s.heap a ks) (few : ks.length + 1 < scanBound) (q : ∀ h2, Heap.SameBut a s.heap h2 → Tx w h2 a (if k ∈ ks then ks else ks ++ [k]) → Q (!decide (k ∈ ks)) { s with heap := h2 }) :
    wpAny (model P w) A (setAddHashed a (.str k tk) ((PySem.strKind P w).hash k)) Q E s := by
  obtain ⟨o, es, ep, t, ho, hx, hd, g, pm, nd, hb, fit, ris, led⟩ := R
  have el : ElemsOf (PySem.strKind P w) es.toList := elems g
  have ky : (PySem.strKind P w).is k (.str k tk) = true := strKind_is _ _ _ _
  have sc : (Value.str k tk).scannable = true := rfl
  unfold setAddHashed setAddHashedIn
  refine wpAny_holding (wpAny_bind (wpAny_setState_of ho hd fit ?_))
  dsimp only
  rw [byScan_of sc hb el, if_pos rfl]
  unfold setAddByScan
  refine wpAny_bind (wpAny_bind (wpAny_rule (wpAny_bind (wpAny_setScan_of ky ho hd fit el ?_))))
  cases fi : List.findIdx? (fun e => (PySem.strKind P w).is k e.2) es.toList with
  | some j =>
    obtain ⟨hj, pj, _⟩ := List.findIdx?_eq_some_iff_getElem.mp fi
    have mk : k ∈ ks := pm.mem_iff.mp ((mem_iff (P := P) g).mpr ⟨es.toList[j], List.getElem_mem hj, pj⟩)
    dsimp only
    refine wpAny_pure (wpAny_pure ?_)
    have z := q s.heap (Heap.SameBut.refl a s.heap) (by rw [if_pos mk]; exact ⟨o, es, ep, t, ho, hx, hd, g, pm, nd, hb, fit, ris, led⟩)
    rw [decide_eq_true mk] at z
    exact z
  | none =>
    have nk : k ∉ ks := fun z => by
      obtain ⟨e, he, y⟩ := (mem_iff (P := P) g).mp (pm.mem_iff.mpr z)
      have c := List.findIdx?_eq_none_iff.mp fi e he
      rw [y] at c
      cases c
    dsimp only
    have pn := layNew_perm t es ((PySem.strKind P w).hash k) (.str k tk)
    have fit1 := layNew_fits t es ((PySem.strKind P w).hash k) (.str k tk)
    have ris1 := layNew_ris t es ((PySem.strKind P w).hash k) (.str k tk) ris
    have led1 := layNew_led t es ((PySem.strKind P w).hash k) (.str k tk)
    generalize layNew t es ((PySem.strKind P w).hash k) (.str k tk) = Z at pn fit1 ris1 led1 ⊢
    obtain ⟨es1, t1, wd, gv⟩ := Z
    dsimp only at pn fit1 ris1 led1 ⊢
    rw [Array.toList_push] at pn
    have g1 : ∀ e ∈ es1.toList, Row w e := fun e he => by
      rcases List.mem_append.mp (pn.mem_iff.mp he) with z | z
      · exact g e z
      · rw [List.mem_singleton.mp z]
        exact ⟨k, tk, rfl, rfl⟩
    have pm1 : (es1.toList.map txt).Perm (ks ++ [k]) := by
      have z := pn.map txt
      rw [List.map_append] at z
      exact z.trans (pm.append (List.Perm.refl [k]))
    have nd1 : (ks ++ [k]).Nodup := List.nodup_append.mpr ⟨nd, by simp, fun x hx y hy e => nk (by rw [← List.mem_singleton.mp hy, ← e]; exact hx)⟩
    have sz : es1.size = ks.length + 1 := by
      have z := pm1.length_eq
      rw [List.length_map, Array.length_toList, List.length_append] at z
      exact z
    have few1 : es1.size < scanBound := sz ▸ few
    have led2 : w.params.followText "set-order" = true ∨ t1.led = true := by
      rcases led with z | z
      · exact .inl z
      · exact .inr (led1.trans z)
    have fin : ∀ h2, Heap.SameBut a s.heap h2 → Tx w h2 a (ks ++ [k]) → Q true { s with heap := h2 } := fun h2 sb r => by
      have z := q h2 sb (by rw [if_neg nk]; exact r)
      rw [decide_eq_false nk] at z
      exact z
    have gw : ∀ (b : Bool) (s2 : Shared) (Q2 : Unit → Shared → Prop), Q2 () s2 → wpAny (model P w) A (match b with | true => rule "set.scan.the-table-gave-way" | false => pure ()) Q2 E s2 :=
      fun b s2 Q2 z => by cases b <;> first | exact wpAny_pure z | exact wpAny_rule z
    refine wpAny_bind (gw _ _ _ ?_)
    split
    · refine wpAny_bind ?_
      rw [hashByValue_scannable 8 sc]
      refine wpAny_pure (tail_ok ?_ ho hx hd g1 pm1 nd1 few1 ?_ ?_ ?_ fun h2 sb r => ?_)
      · intro b s2 Q2 z
        cases b <;> first | exact wpAny_pure z | exact wpAny_rule z
      · first | (split <;> first | exact fit1 | exact SetTable.fits_plain_off fit1) | exact fit1
      · first | (split <;> exact ris1) | exact ris1
      · first | (split <;> exact led2) | exact led2
      · dsimp only
        exact wpAny_pure (fin h2 sb r)
    · refine wpAny_bind (wpAny_pure ?_)
      simp only [↓reduceIte]
      refine tail_ok ?_ ho hx hd g1 pm1 nd1 few1 fit1 ris1 led2 fun h2 sb r => ?_
      · intro b s2 Q2 z
        cases b <;> first | exact wpAny_pure z | exact wpAny_rule z
      · dsimp only
        exact wpAny_pure (fin h2 sb r)
end
end TxSet
set_option Elab.async false
set_option linter.all false
set_option maxRecDepth 100000
set_option maxHeartbeats 4000000
namespace TxSet
open PySem PySem.Spec PyProof.Rows L2 DkSet
section
variable {prog : Program} {w : World} {A : Around} {R : Result → Shared → Prop} {I : Addr} {fp wr : List Addr} {G : Array GenState → Array GenState → Prop} {n : Nat} {P : Nat → Value → Prop} {St : Nat → Shared → Prop}
/-- the loop of set(..), over texts -/
theorem loop_ok (W : WalksS prog w A.in1 I fp wr G n P St) (S : Addr) (out : S ∉ fp) (xs : List Str) (len : xs.length = n) (few : n + 1 < scanBound) (val : ∀ i v, P i v → ∃ t, v = .str (xs.getD i Str.empty) t) :
    ∀ (left i : Nat) (s : Shared), i + left = n → St i s → Tx w s.heap S (metOf (xs.take i)) → (∀ s2, Moved (S :: wr) G s s2 → Tx w s2.heap S (metOf xs) → R (.ok (.ret .none)) s2) →
      codeAny (model prog w) A (.builtin "set.update.loop" ⟨[.ref S, .ref I], []⟩) R s := by
  have nw : S ∉ wr := fun h => out (W.sub _ h)
  intro left
  induction left with
  | zero =>
    intro i s e st hs fin
    obtain rfl : i = n := e
    rw [← len, List.take_length] at hs
    refine codeAny_builtin PyProof.Rows.F.entry_set_update_loop ?_
    rw [Around.under_plainId PyProof.Rows.F.plain_set_update_loop _]
    show wpAny _ A.in1 (pyNext (.ref I) >>= _) _ _ s
    exact wpAny_bind (W.done s _ _ st fun s2 m => wpAny_pure (fin s2 (m.mono fun b => List.mem_cons_of_mem _) (hs.at fun o => m.heap S o nw)))
  | succ left ih =>
    intro i s e st hs fin
    have il : i < n := by omega
    have tk : xs.take (i + 1) = xs.take i ++ [xs.getD i Str.empty] := by
      rw [List.take_add_one, List.getD_eq_getElem?_getD, List.getElem?_eq_getElem (by omega)]
      rfl
    refine codeAny_builtin PyProof.Rows.F.entry_set_update_loop ?_
    rw [Around.under_plainId PyProof.Rows.F.plain_set_update_loop _]
    show wpAny _ A.in1 (pyNext (.ref I) >>= _) _ _ s
    refine wpAny_bind (W.item i s _ _ il st fun v s2 hv st2 m => ?_)
    obtain ⟨t, rfl⟩ := val i v hv
    have hs2 : Tx w s2.heap S (metOf (xs.take i)) := hs.at fun o => m.heap S o nw
    show wpAny _ A.in1 (holding [Value.str (xs.getD i Str.empty) t] (setAdd S (.str (xs.getD i Str.empty) t)) >>= _) _ _ s2
    refine wpAny_bind (wpAny_holding ?_)
    unfold setAdd
    refine wpAny_holding (wpAny_bind ((PySem.strKind prog w).pyHash (k := xs.getD i Str.empty) (strKind_is _ _ _ _) ?_))
    have few2 : (metOf (xs.take i)).length + 1 < scanBound := by
      have a := met_le (xs.take i)
      rw [List.length_take] at a
      omega
    refine add_ok (s := { s2 with toks := s2.toks + 1 }) hs2 few2 fun h2 same got => ?_
    rw [← met_more, ← tk] at got
    refine wpAny_pure ⟨plainId_quiet PyProof.Rows.F.plain_set_update_loop _, ih (i + 1) _ (by omega) (W.frame _ s2 _ _ st2 (Nat.le_succ _) fun b hb o eb => ?_) got fun s3 m3 hs3 => ?_⟩
    · rw [same.2 b fun z => out (z ▸ hb)]
      exact eb
    · refine fin s3 (Moved.trans W.gtrans ((m.mono fun b => List.mem_cons_of_mem _).then_heap (Nat.le_succ _) fun b o hb eb => ?_) m3) hs3
      rw [same.2 b fun z => hb (z ▸ List.mem_cons_self)]
      exact eb
end
section
variable {prog : Program} {w : World} {A : Around} {E : Value → Shared → Prop} {s : Shared}
theorem fresh_tx {h : Heap} : Tx w (h.push (ScX.bareSet w)) h.objs.size [] :=
  ⟨_, #[], 0, _, Heap.get?_push_size _ rfl, ⟨rfl, rfl, rfl⟩, rfl, (fun e he => by simp at he), List.Perm.refl _, List.nodup_nil, (by decide), (by rfl), List.Pairwise.nil, by
    show _ ∨ (!w.params.followText "set-order") = true
    cases w.params.followText "set-order"
    · exact .inr rfl
    · exact .inl rfl⟩
/-- set(xs), its order told -/
theorem call_tx {l : Addr} {items : Array Value} {d : Option Addr} {nl : Nat} {sl : Array (Option Value)} {xs : List Str} {Q : Value → Shared → Prop} (hh : A.handled = none)
    (ho : s.heap.get? l = some { cls := .type "list", dict := d, data := .seq items nl, slots := sl }) (hi : StrsAre items.toList xs) (few : xs.length + 1 < scanBound)
    (h : ∀ (h2 : Heap) (tk : Nat), Tx w h2 s.heap.objs.size (metOf xs) → (∀ b o, s.heap.get? b = some o → h2.get? b = some o) → Q (.ref s.heap.objs.size) { s with heap := h2, toks := tk }) :
    wpAny (model prog w) A (call (.type "set") [.ref l]) Q E s := by
  obtain ⟨c, tl, hmro⟩ := PySem.F.called_set.mro
  have hmade := PySem.F.called_set.made
  have hsub := PySem.F.called_set.sub
  refine wpAny_call (codeAny_of_tree ?_)
  show wpAny _ _ (callAny (.type "set") _) _ _ _
  refine wpAny_pure ⟨Code.quiet_builtin _ (by decide +kernel), codeAny_builtin PySem.F.entry_type_call ?_⟩
  rw [Around.under_plain (weight_type_call_type "set" [.ref l] []) rfl]
  have h1 := PySem.F.called_set.notType
  have h2 := PySem.F.called_set.canCreate
  have hct := PySem.F.typeCall_set_1 (.ref l)
  repeat (any_goals (first | assumption | wp_step))
  refine codeAny_mono (code_set_led1 (.ref l) (E := E) (Q₁ := fun x s1 => x = .ref s.heap.objs.size ∧ s1 = { s with heap := s.heap.push (ScX.bareSet w) }) ⟨rfl, rfl⟩) fun r s1 hr => ?_
  cases r with
  | error e => exact hr
  | ok fl =>
    cases fl with
    | ret obj =>
      obtain ⟨rfl, rfl⟩ := hr
      have hS : (s.heap.push (ScX.bareSet w)).get? s.heap.objs.size = some (ScX.bareSet w) := Heap.get?_push_size _ rfl
      have hTy : Shared.TypeIs { s with heap := s.heap.push (ScX.bareSet w) } (.ref s.heap.objs.size) "set" := ⟨_, hS, rfl⟩
      have hli := PySem.F.called_set.init.lookup
      have hbi := PySem.F.called_set.init.bind (.ref s.heap.objs.size)
      repeat (any_goals (first | assumption | wp_step))
      refine codeAny_mono (codeAny_call_builtin (R := wants (fun r s2 => r = .none ∧ ∃ h2 tk, s2 = { s with heap := h2, toks := tk } ∧ Tx w h2 s.heap.objs.size (metOf xs) ∧ (∀ b o, s.heap.get? b = some o → h2.get? b = some o)) E) PySem.F.called_set.init.plain PySem.F.entry_set_init (check_set_init_1 hTy ?_)) fun r2 s2 hr2 => ?_
      · have ho2 : (s.heap.push (ScX.bareSet w)).get? l = some { cls := .type "list", dict := d, data := .seq items nl, slots := sl } := Heap.get?_push_of_some _ ho
        have f1 := PySem.F.sub_list_set
        have f2 := PySem.F.sub_list_frozenset
        have f3 : (Value.type "list" == Value.type "dict") = false := by decide
        have hw : (s.heap.push (ScX.bareSet w)).IsList l items := ⟨_, ho2, rfl, nl, rfl⟩
        have ll : l < s.heap.objs.size := Heap.lt_size ho
        have ll2 : l < (s.heap.push (ScX.bareSet w)).objs.size := by
          rw [Heap.size_push]
          exact Nat.lt_succ_of_lt ll
        unfold Builtin.«set.__init__» noKeywords Builtin.Frozenset.updateFrom
        generalize hPI : pyIter = PI
        wp_walk
        subst hPI
        refine iter_of (T := "list") (items := items) (by simp [hh]) (.inl rfl) hw ll2 fun J St fr W st0 => ?_
        refine wpAny_bind (wpAny_runValue ?_)
        have len : xs.length = items.size := by rw [← StrsAre.len_eq hi, Array.length_toList]
        refine loop_ok W s.heap.objs.size ?_ xs len (by omega) (fun i v hv => txt_at hi i v (by rw [Array.getElem?_toList]; exact hv)) items.size 0 _ (Nat.zero_add _) st0 ?_ ?_
        · rw [Heap.size_push]
          simp only [List.mem_cons, List.not_mem_nil, or_false, not_or]
          exact ⟨Nat.ne_of_lt (Nat.lt_succ_self _), Nat.ne_of_gt ll⟩
        · exact fresh_tx.at fun o e => Heap.get?_push_of_some _ e
        · rintro ⟨h3, g3, d3, tk3, os3⟩ m got
          obtain rfl : g3 = s.gens := m.gens
          obtain rfl : d3 = s.drawn := m.drawn
          obtain rfl : os3 = s.os := m.os
          refine wpAny_pure ?_
          show wpAny _ _ (ret Value.none) _ _ _
          refine wpAny_pure ⟨rfl, h3, tk3, rfl, got, fun b o e => ?_⟩
          have b1 : b < s.heap.objs.size := Heap.lt_size e
          refine m.heap b o ?_ (Heap.get?_push_of_some _ (Heap.get?_push_of_some _ e))
          rw [Heap.size_push]
          simp only [List.mem_cons, List.not_mem_nil, or_false, not_or]
          exact ⟨Nat.ne_of_lt b1, Nat.ne_of_lt (Nat.lt_succ_of_lt b1)⟩
      · cases r2 with
        | error e => exact hr2
        | ok fl2 =>
          cases fl2 with
          | ret r =>
            obtain ⟨rfl, h3, tk, rfl, got, keep⟩ := hr2
            repeat (any_goals (first | assumption | wp_step))
            exact h _ _ got keep
          | _ => exact hr2.elim
    | _ => exact hr.elim
end
end TxSet
namespace TxSet
open PySem PySem.Spec PyProof.Rows L2 DkSet
section
variable {P : Program} {w : World} {A : Around} {E : Value → Shared → Prop} {s : Shared} {a : Addr} {ks : List Str}
theorem txts_of : ∀ (l : List Value), (∀ v ∈ l, ∃ k t, v = Value.str k t) → StrsAre l (l.map fun v => txt (0, v))
  | [], _ => .nil
  | v :: l, h => by
    obtain ⟨k, t, rfl⟩ := h v List.mem_cons_self
    exact .cons k t (txts_of l fun u hu => h u (List.mem_cons_of_mem _ hu))
/-- sorted(a set of texts) -/
theorem sorted_tx {Q : Value → Shared → Prop} (R : Tx w s.heap a ks) (hh : A.handled = none) (few : ks.length < 64)
    (q : ∀ s2 p (out : Array Value) (c : Nat) (ys : List Str), (∀ b o, s.heap.get? b = some o → s2.heap.get? b = some o) → s2.gens = s.gens → s2.os = s.os → s.heap.objs.size ≤ p → s2.heap.get? p = some (seqObj "list" out c) →
      StrsAre out.toList ys → sortedS ys = true → ys.Perm ks → Q (.ref p) s2) : wpAny (model P w) A (call (.builtin "sorted") [.ref a]) Q E s := by
  obtain ⟨o, es, ep, t, ho, hx, hd, g, pm, nd, hb, fit, ris, led⟩ := R
  refine Calls.call_function_entry kind_sorted plain_sorted entry_sorted (args_sorted1 _) ?_
  unfold Builtin.«sorted»
  refine wpAny_bind (m := checkCount "sorted" 1 1 _) (wpAny_pure ?_)
  refine wpAny_bind (collect_set (A := A.in1) hh ⟨o, ho, hx.1, hd⟩ fit hb ris led fun s1 vs k1 hz g1 o1 pv => ?_)
  have each : ∀ v ∈ vs, ∃ k t, v = Value.str k t := fun v hv => by
    obtain ⟨e, he, z⟩ := List.mem_map.mp (pv.mem_iff.mp hv)
    obtain ⟨k, t, h1, _⟩ := g e he
    exact ⟨k, t, by rw [← z]; exact h1⟩
  have hS := txts_of vs each
  have pk : (vs.map fun v => txt (0, v)).Perm ks := by
    have z := pv.map fun v => txt (0, v)
    rw [List.map_map] at z
    exact z.trans pm
  have vl : vs.length < 64 := by
    have z := pk.length_eq
    rw [List.length_map] at z
    omega
  refine wpAny_bind (wpAny_newList ?_ (by rw [sizeLine_eq]; omega))
  have hoL : (s1.heap.push (seqObj "list" vs.toArray 0)).get? s1.heap.objs.size = some (seqObj "list" vs.toArray 0) := Heap.get?_push_size _ rfl
  refine wpAny_bind (wpAny_holding (wpAny_call_entry slot_list_sort ⟨_, hoL, rfl⟩ entry_list_sort (list_sort_treeK strKind_oneLt hoL hS.keysOf (fun v1 v2 rest e => keyKind_strs (by rw [← e]; exact hS)) vl fun st hp hs => ⟨_, rfl, ?_⟩) (args_list_sort _)))
  obtain ⟨ys, y1, y2, y3⟩ := sorted_out_str hS hp hs
  obtain ⟨c, hc⟩ := sortedHeap_at (vs := vs) (out := (arrOf st).map (·.2)) hoL
  refine wpAny_pure ⟨_, rfl, q _ s1.heap.objs.size _ c ys (fun b u e => ?_) g1 o1 hz hc y1 y3 (y2.trans pk)⟩
  have z := k1 b u e
  have lt := Heap.lt_size z
  show (sortedHeap (s1.heap.push (seqObj "list" vs.toArray 0)) s1.heap.objs.size vs _).get? b = some u
  rw [sortedHeap_old (Nat.ne_of_lt lt) (by rw [size_push']; exact Nat.lt_succ_of_lt lt)]
  exact Heap.get?_push_of_some _ z
end
section
variable {X : Cx}
/-- sorted(set(xs)), xs a list of texts -/
def tSortSet (K : PySem.W.Frag) (ta : TE) : TE := fun σ H Q => ta σ H fun x H1 => ∃ (l : Addr) (xs : List Str), x = V.ref l ∧ SqL K H1 l (xs.map V.str) ∧ xs.length < 64 ∧
  ∀ (ys : List Str) (p : Addr), sortedS ys = true → ys.Nodup → (∀ y, y ∈ ys ↔ y ∈ xs) → H1 p = none → Q (.ref p) (upd H1 p (.lst (ys.map V.str)))
theorem pe_sortSet {a : Expr} {ta : TE} {p p2 q pos : Pos} (hc : X.calm = true) (hg : Gl X "sorted") (hm : X.mg "sorted" = none) (hg2 : Gl X "set") (hm2 : X.mg "set" = none) (ha : PE X a ta)
    (na : starEach [a] X.env = (false, eval a X.env) :: starEach [] X.env := by rfl) : PE X (.Call (.Name "sorted" p) [.Call (.Name "set" p2) [a] [] q] [] pos) (tSortSet X.K ta) := by
  refine ⟨fun pins s σ H Q I h => Call_ (ld_blt I hg hm (show bootBuiltins "sorted" = some (.builtin "sorted") from by decide +kernel) ?_)⟩
  refine PyProof.Rows.callWith_builtin1 (PyProof.Rows.args_cons ?_ rfl) rfl rfl
  refine Call_ (ld_blt I hg2 hm2 PyProof.Rows.boot_set ?_)
  refine PyProof.Rows.callWith_type1 (PyProof.Rows.args_cons (thn (ha.run pins s σ H _ I h) fun v s1 ⟨x, H1, I1, r1, l, xs, ex, hq, few, q1⟩ => PyProof.Rows.args_nil ?_) na) na rfl
  subst ex
  cases r1
  obtain ⟨its, r, pl, _⟩ := I1.list hq
  obtain ⟨⟨oc, od, ox, os⟩, ho, hc2, nl, hd⟩ := pl.isList
  cases hc2
  cases hd
  refine call_tx (xs := xs) (by simpa using I1.ok.hd hc) ho (strs_of r) (by unfold scanBound; omega) fun h2 tk got keep => ?_
  refine PyProof.Rows.args_nil ?_
  have I2 : L2.Inv X pins σ H1 { s1 with heap := h2, toks := tk } := I1.kept fun b o e => keep b o e
  have le := met_le xs
  refine sorted_tx got (I2.ok.hd hc) (by omega) fun s2 p out c ys k g o hp hg2 hi hs pm => ?_
  have np : H1 p = none := I2.hok.fresh hp
  have J : Inv X pins σ (upd H1 p (.lst (ys.map V.str))) { ({ s1 with heap := h2, toks := tk } : Shared) with heap := s2.heap, gens := s2.gens, drawn := s2.drawn, toks := s2.toks } :=
    I2.call (ch := []) (Un.laid k hp np) (I2.hok.laid k hp ⟨by rw [List.length_map, pm.length_eq, sizeLine_eq]; omega, out.toList, c, vals_of_strs hi, hg2⟩) (by rw [g]; exact I1.bare) (fun _ z => nomatch z)
  have e : s2 = { s1 with heap := s2.heap, gens := s2.gens, drawn := s2.drawn, toks := s2.toks } := by
    cases s2
    cases s1
    cases o
    rfl
  rw [e]
  exact ⟨.ref p, _, J, rfl, q1 ys p hs (pm.nodup_iff.mpr (met_nodup xs)) (fun y => by rw [pm.mem_iff]; exact met_mem xs y) np⟩
end
end TxSet
set_option Elab.async false
set_option linter.all false
set_option maxRecDepth 100000
set_option maxHeartbeats 8000000
/-! ### rising lists of numbers -/
namespace Srt
def ins (k : Int) : List Int → List Int
  | [] => [k]
  | x :: l => if k < x then k :: x :: l else if k = x then x :: l else x :: ins k l
def srt (l : List Int) : List Int := l.foldr ins []
theorem mem_ins {k i : Int} : ∀ {l : List Int}, i ∈ ins k l ↔ i = k ∨ i ∈ l
  | [] => by simp [ins]
  | x :: l => by
    unfold ins
    split
    · simp
    · split
      · rename_i h
        subst h
        simp
      · rw [List.mem_cons, mem_ins, List.mem_cons]
        exact ⟨fun h => h.elim (fun e => .inr (.inl e)) fun h => h.elim .inl fun h => .inr (.inr h), fun h => h.elim (fun e => .inr (.inl e)) fun h => h.elim .inl fun h => .inr (.inr h)⟩
theorem ins_up {k : Int} : ∀ {l : List Int}, l.Pairwise (· < ·) → (ins k l).Pairwise (· < ·)
  | [], _ => by simp [ins]
  | x :: l, h => by
    obtain ⟨h1, h2⟩ := List.pairwise_cons.mp h
    unfold ins
    split
    · rename_i c
      refine List.pairwise_cons.mpr ⟨fun y hy => ?_, h⟩
      rcases List.mem_cons.mp hy with e | hy
      · rw [e]
        exact c
      · exact Int.lt_trans c (h1 y hy)
    · split
      · exact h
      · rename_i c1 c2
        refine List.pairwise_cons.mpr ⟨fun y hy => ?_, ins_up h2⟩
        rcases mem_ins.mp hy with e | hy
        · rw [e]
          omega
        · exact h1 y hy
theorem mem_srt {i : Int} : ∀ {l : List Int}, i ∈ srt l ↔ i ∈ l
  | [] => by simp [srt]
  | x :: l => by
    show i ∈ ins x (srt l) ↔ _
    rw [mem_ins, mem_srt, List.mem_cons]
theorem srt_up : ∀ l : List Int, (srt l).Pairwise (· < ·)
  | [] => List.Pairwise.nil
  | x :: l => ins_up (srt_up l)
theorem uniq : ∀ {l m : List Int}, l.Pairwise (· < ·) → m.Pairwise (· < ·) → (∀ k, k ∈ l ↔ k ∈ m) → l = m
  | [], [], _, _, _ => rfl
  | [], b :: m, _, _, h => absurd ((h b).mpr List.mem_cons_self) (by simp)
  | a :: l, [], _, _, h => absurd ((h a).mp List.mem_cons_self) (by simp)
  | a :: l, b :: m, h1, h2, h => by
    obtain ⟨l1, l2⟩ := List.pairwise_cons.mp h1
    obtain ⟨m1, m2⟩ := List.pairwise_cons.mp h2
    have ab : a = b := by
      rcases List.mem_cons.mp ((h a).mp List.mem_cons_self) with e | ha
      · exact e
      · rcases List.mem_cons.mp ((h b).mpr List.mem_cons_self) with e | hb
        · exact e.symm
        · have := m1 a ha
          have := l1 b hb
          omega
    subst ab
    refine congrArg _ (uniq l2 m2 fun k => ⟨fun hk => ?_, fun hk => ?_⟩)
    · rcases List.mem_cons.mp ((h k).mp (List.mem_cons_of_mem _ hk)) with e | z
      · have := l1 k hk
        omega
      · exact z
    · rcases List.mem_cons.mp ((h k).mpr (List.mem_cons_of_mem _ hk)) with e | z
      · have := m1 k hk
        omega
      · exact z
theorem srt_eq {l m : List Int} (h : l.Pairwise (· < ·)) (e : ∀ k, k ∈ l ↔ k ∈ m) : l = srt m := uniq h (srt_up m) fun k => (e k).trans mem_srt.symm
theorem ins_len {k : Int} : ∀ {l : List Int}, (ins k l).length ≤ l.length + 1
  | [] => Nat.le_refl _
  | x :: l => by
    unfold ins
    split
    · simp
    · split
      · simp
      · rw [List.length_cons, List.length_cons]
        exact Nat.succ_le_succ ins_len
theorem srt_len : ∀ l : List Int, (srt l).length ≤ l.length
  | [] => Nat.le_refl _
  | x :: l => Nat.le_trans ins_len (Nat.succ_le_succ (srt_len l))
/-- all that can be picked out of a list, in its sequence -/
def subs {α : Type} : List α → List (List α)
  | [] => [[]]
  | a :: l => subs l ++ (subs l).map (a :: ·)
theorem subs_len {α : Type} : ∀ l : List α, (subs l).length = 2 ^ l.length
  | [] => rfl
  | a :: l => by
    unfold subs
    rw [List.length_append, List.length_map, subs_len l, List.length_cons, Nat.pow_succ]
    omega
theorem nil_subs {α : Type} : ∀ l : List α, [] ∈ subs l
  | [] => List.mem_singleton.mpr rfl
  | a :: l => List.mem_append_left _ (nil_subs l)
theorem in_subs : ∀ {l m : List Int}, l.Pairwise (· < ·) → m.Pairwise (· < ·) → (∀ k ∈ m, k ∈ l) → m ∈ subs l
  | _, [], _, _, _ => nil_subs _
  | [], b :: m, _, _, h => absurd (h b List.mem_cons_self) (by simp)
  | a :: l, b :: m, h1, h2, h => by
    obtain ⟨l1, l2⟩ := List.pairwise_cons.mp h1
    obtain ⟨m1, m2⟩ := List.pairwise_cons.mp h2
    unfold subs
    rcases List.mem_cons.mp (h b List.mem_cons_self) with e | hb
    · subst e
      refine List.mem_append_right _ (List.mem_map.mpr ⟨m, in_subs l2 m2 fun k hk => ?_, rfl⟩)
      rcases List.mem_cons.mp (h k (List.mem_cons_of_mem _ hk)) with e | z
      · have := m1 k hk
        omega
      · exact z
    · refine List.mem_append_left _ (in_subs l2 h2 fun k hk => ?_)
      rcases List.mem_cons.mp (h k hk) with e | z
      · have := l1 b hb
        rcases List.mem_cons.mp hk with e2 | z2
        · omega
        · have := m1 k z2
          omega
      · exact z
theorem subs_in {α : Type} : ∀ {l m : List α}, m ∈ subs l → ∀ k ∈ m, k ∈ l
  | [], m, h, k, hk => by
    rw [List.mem_singleton.mp h] at hk
    cases hk
  | a :: l, m, h, k, hk => by
    unfold subs at h
    rcases List.mem_append.mp h with h | h
    · exact List.mem_cons_of_mem _ (subs_in h k hk)
    · obtain ⟨m2, h2, rfl⟩ := List.mem_map.mp h
      rcases List.mem_cons.mp hk with e | z
      · rw [e]
        exact List.mem_cons_self
      · exact List.mem_cons_of_mem _ (subs_in h2 k z)
end Srt
namespace Dk
open PySem PySem.Spec PyProof.Rows L2 Er LamX NdefX Srt ScX
/-! ### set comprehensions over any walk -/
theorem sc_it {κ : Type} [DecidableEq κ] {Wy : Way κ} {P : Program} {w : World} {J : It} {n : Nat} {G : Hp → Prop} {Y : Nat → Hp → V → Hp → Prop} (wk : Walk J n G Y) {te : TE} {i : Nat} {σ : L2.St} {H1 : Hp} {D : Addr} {Q : VK} (w1 : ∀ v, wipe ((wipe σ [i]).set i (some v)) [i] = wipe σ [i]) (Pv : Nat → Hp → Prop)
    (h0 : Pv 0 (upd H1 D (Wy.SO P w D (fun _ => false) 0))) (hG : ∀ j H, j ≤ n → Pv j H → G H)
    (hs : ∀ j x H H2, j < n → Pv j H → Y j H x H2 → te ((wipe σ [i]).set i (some x)) H2 fun y H5 => ∃ (k : κ) (S : κ → Bool) (m : Nat), y = Wy.v k ∧ H5 D = some (Wy.SO P w D S m) ∧ m + 1 < scanBound ∧ Pv (j + 1) (upd H5 D (Wy.SO P w D (fun j => S j || decide (j = k)) (if S k = true then m else m + 1))))
    (hd : ∀ H, Pv n H → Q (.ref D) H) : Turns Wy P w (gName i) tYes te [i] σ D H1 Q J := by
  refine ⟨fun j m H => m = n - j ∧ j ≤ n ∧ Pv j H, ⟨n, rfl, Nat.zero_le _, h0⟩, ?_⟩
  rintro j m H ⟨rfl, hj, p⟩
  have q := hG j H hj p
  by_cases lt : j < n
  · refine .inr ⟨wk.goes j H lt q, Pv (j + 1), fun H2 p2 => ⟨n - (j + 1), by omega, rfl, lt, p2⟩, fun x H2 y => ⟨w1 x, ?_⟩⟩
    unfold tYes
    dsimp only
    rw [if_pos rfl]
    exact hs j x H H2 lt p (wk.yields j H x H2 lt q y)
  · have e : j = n := by omega
    subst e
    exact .inl ⟨wk.stops H q, hd H p⟩
/-- ints by a function, over a walk that leaves all as it is -/
theorem sc_ints {P : Program} {w : World} {J : It} {xs : List V} {G : Hp → Prop} (wk : Walk J xs.length G (fun j H x H2 => H2 = H ∧ xs[j]? = some x)) {te : TE} {i : Nat} {σ : L2.St} {H1 : Hp} {D : Addr} {Q : VK} {ks : List Int} (nD : H1 D = none) (w1 : ∀ v, wipe ((wipe σ [i]).set i (some v)) [i] = wipe σ [i]) (len : ks.length = xs.length) (few : ks.length ≤ 1000)
    (hG : ∀ H, Sm H1 H → G H) (ev : ∀ (j : Nat) (x : V) (k : Int) (H2 : Hp) (Q2 : VK), xs[j]? = some x → ks[j]? = some k → Sm H1 H2 → Q2 (.int k) H2 → te ((wipe σ [i]).set i (some x)) H2 Q2)
    (q : ∀ (H2 : Hp) (S : Int → Bool) (m : Nat), Sm H1 H2 → H2 D = some (SetO w D S m) → (∀ k, S k = true ↔ k ∈ ks) → m ≤ ks.length → Q (.ref D) H2) : Turns wayI P w (gName i) tYes te [i] σ D H1 Q J := by
  refine sc_it wk w1 (fun j H => ∃ S m, H D = some (SetO w D S m) ∧ (∀ k, S k = true ↔ k ∈ ks.take j) ∧ m ≤ j ∧ Sm H1 H) ⟨fun _ => false, 0, upd_same, fun k => by simp, Nat.le_refl _, Sm.new nD⟩ (fun j H _ ⟨_, _, _, _, _, m⟩ => hG H m) (fun j x H H2 hj p y => ?_) (fun H p => ?_)
  · obtain ⟨S, m, eD, mem, le, sm⟩ := p
    obtain ⟨rfl, ex⟩ := y
    have ek : ks[j]? = some (ks[j]'(by omega)) := List.getElem?_eq_getElem _
    generalize ks[j]'(by omega) = k at ek
    refine ev j x k _ _ ex ek sm ⟨k, S, m, rfl, eD, by unfold scanBound; omega, _, _, upd_same, fun i => ?_, ?_, fun b o e => ?_⟩
    · rw [List.take_add_one, ek, Bool.or_eq_true, mem, List.mem_append, decide_eq_true_eq]
      simp
    · split <;> omega
    · rw [upd_ne (ne_of_none e nD)]
      exact sm _ _ e
  · obtain ⟨S, m, eD, mem, le, sm⟩ := p
    rw [← len, List.take_length] at mem
    exact q H S m sm eD mem (by omega)
/-! ### led_all -/
/-- where a deed leads a lot, by its number -/
def mvL (ws : List Str) (nu : Str → Nat) (nx : Str → Str → Str) (d : Str) (n : Int) : Int := match ws.find? (fun z => decide (((nu z : Nat) : Int) = n)) with
  | some z => ((nu (nx z d) : Nat) : Int)
  | none => 0
theorem mvL_at {ws ds : List Str} {nu : Str → Nat} {nx : Str → Str → Str} {d z : Str} (cong : ∀ z ∈ ws, ∀ y ∈ ws, nu z = nu y → ∀ d ∈ ds, nu (nx z d) = nu (nx y d)) (hz : z ∈ ws) (hd : d ∈ ds) : mvL ws nu nx d ((nu z : Nat) : Int) = ((nu (nx z d) : Nat) : Int) := by
  unfold mvL
  cases e : ws.find? (fun y => decide (((nu y : Nat) : Int) = ((nu z : Nat) : Int))) with
  | none =>
    have := List.find?_eq_none.mp e z hz
    simp at this
  | some y =>
    have h1 : ((nu y : Nat) : Int) = ((nu z : Nat) : Int) := by simpa using List.find?_some e
    have h2 := List.mem_of_find?_eq_some e
    show ((nu (nx y d) : Nat) : Int) = _
    rw [cong y h2 z hz (by omega) d hd]
def spLa : Sp := fun vs H Q _ => ∃ (t mv : Addr) (ns : List Int) (d : Str) (ws ds : List Str) (nu : Str → Nat) (nx : Str → Str → Str), vs = [.ref t, .ref mv, .str d] ∧ H t = some (.tup (ns.map V.int)) ∧ ns.length ≤ 9 ∧ LmAt H mv ws ds nu nx ∧ d ∈ ds ∧ (∀ n ∈ ns, ∃ z ∈ ws, n = ((nu z : Nat) : Int)) ∧
  (∀ z ∈ ws, ∀ y ∈ ws, nu z = nu y → ∀ d ∈ ds, nu (nx z d) = nu (nx y d)) ∧ ∀ p G, Sm H G → H p = none → G p = some (.tup ((srt (ns.map (mvL ws nu nx d))).map V.int)) → Q (.ref p) G
abbrev nLa : List Str := ["lots", "moves", "deed", "lot"]
theorem scLa : FnScope nLa ["lots", "moves", "deed"] (defScope (top 35)) := ⟨rfl, rfl, rfl, by decide +kernel, rfl, by decide +kernel, by decide +kernel⟩
section
variable {P : Program} {w : World} {K : PySem.W.Frag} {mg : Str → Option Value} {base : Heap} {f : Addr} {fd : FuncData}
theorem bLa (F : FnP K "led_all" (top 35) f fd) : Binds K fd ["lots", "moves", "deed"] [] := F.bindsN fun _ _ _ _ _ _ us hl => match us, hl with
  | [_, _, _], _ => rfl
theorem ok_la (F : FnP K "led_all" (top 35) f fd) (mT : mg "tuple" = none) (mS : mg "sorted" = none) : FnOk P w K mg base CX0 1 f fd ["lots", "moves", "deed"] spLa := by
  refine F.ok (CX := CX0) scLa (fun vs H Q E h => ?_) (fun cdv A outer s H vs Q E hr h => ?_)
  · obtain ⟨t, mv, ns, d, ws, ds, nu, nx, rfl, _⟩ := h
    rfl
  · refine ⟨_, PSs.nox (pss_one (ps_ret (by exact (pe_callTy call_tupO rfl mT PyProof.Rows.boot_tuple (pa_cons (by exact (pe_callB (cr_sortedSet rfl) rfl mS boot_sorted (pa_cons (by exact (pe_scX (Wy := wayI) (own := [("lot", 3)]) (g := gName 3) (tt := tYes) (te := tDGet (tDGet (tVar 1) (tVar 3)) (tVar 2)) rfl scLa.nd (pi_seq (pv 0))
      (blkOk_by (N := nLa) (sc := defScope (top 35)) (by decide +kernel)) (fun _ _ _ _ _ => pg_name (i := 3) scLa.nd rfl (Or.inl rfl)) (fun _ _ _ _ _ => pts_nil) (fun _ _ _ _ _ => by exact (pe_dget (hu_of hr) (by exact (pe_dget (hu_of hr) (by exact (pv 1)) (by exact (pv 3)) (fun _ _ => rfl))) (by exact (pv 2)) (fun _ _ => rfl))))) pa_nil))) pa_nil))))), ?_⟩
    obtain ⟨t, mv, ns, d, ws, ds, nu, nx, rfl, ht, n9, lm, hd, hn, cong, q⟩ := h
    obtain ⟨kvs, ekv, rows⟩ := lm
    refine ⟨_, rfl, t, ns.map V.int, rfl, .inr ⟨.inl (.inl ht), fun D nD => ?_⟩⟩
    refine sc_ints (ks := ns.map (mvL ws nu nx d)) (walk_tup (xs := ns.map V.int)) nD (fun _ => rfl) (by rw [List.length_map, List.length_map]) (by rw [List.length_map]; omega) (fun H2 m => .inl (.inl (m _ _ ht))) (fun j x k H2 Q2 ex ek m q2 => ?_) (fun H2 S m sm eD mem le => ?_)
    · obtain ⟨n, en, rfl⟩ : ∃ n, ns[j]? = some n ∧ x = .int n := by
        rw [List.getElem?_map] at ex
        cases e : ns[j]? with
        | none =>
          rw [e] at ex
          cases ex
        | some n =>
          rw [e] at ex
          exact ⟨n, rfl, (Option.some.inj ex).symm⟩
      rw [List.getElem?_map, en] at ek
      have ek := Option.some.inj ek
      obtain ⟨z, hz, rfl⟩ := hn n (List.mem_of_getElem? en)
      obtain ⟨b, row, h1, h2, h3⟩ := rows z hz
      rw [mvL_at cong hz hd] at ek
      subst ek
      exact ⟨_, rfl, _, rfl, mv, .ref b, rfl, .inl ⟨_, .inl _, .inl (m _ _ ekv), rfl, h1.symm⟩, _, rfl, b, _, rfl, .inl ⟨_, .inr d, .inl (m _ _ h2), rfl, (h3 d hd).symm⟩, q2⟩
    · rw [List.length_map] at le
      refine ⟨D, S, m, rfl, eD, by omega, fun ms l up mm _ nl => ⟨l, _, rfl, upd_same, fun p np => ?_⟩⟩
      have e : ms = srt (ns.map (mvL ws nu nx d)) := srt_eq up fun k => (mm k).trans (mem k)
      have m1 := sm.trans ((Sm.new nl).trans (Sm.new (o := .tup (ms.map V.int)) np))
      refine q p _ m1 (none_of_sm (sm.trans (Sm.new nl)) np) ?_
      rw [upd_same, e]
end
end Dk
set_option Elab.async false
set_option linter.all false
set_option maxRecDepth 100000
set_option maxHeartbeats 8000000
namespace Dk
open PySem PySem.Spec PyProof.Rows L2 Er LamX NdefX Srt ScX
open PySem.ErK (EC)
/-! ### are_some, check_standings -/
/-- no list -/
def NoLst (K : PySem.W.Frag) (H : Hp) (x : V) : Prop := ∃ t, TyX K H x t ∧ PySem.W.kitOne K t (.type "list") = some false
theorem NoLst.sm {K : PySem.W.Frag} {H H2 : Hp} {x : V} (h : NoLst K H x) (m : Sm H H2) : NoLst K H2 x := by
  obtain ⟨t, ty, k⟩ := h
  exact ⟨t, tyx_sm ty m, k⟩
def someB (ws : List Str) (xs : List V) : Bool := decide (1 ≤ xs.length ∧ xs.length ≤ ws.length) && (xs.all (oneB ws) && decide xs.Nodup)
theorem ones_all {ws : List Str} : ∀ {xs : List V}, xs.all (oneB ws) = true → ∃ zs : List Str, xs = zs.map V.str ∧ ∀ z ∈ zs, z ∈ ws
  | [], _ => ⟨[], rfl, fun z hz => nomatch hz⟩
  | x :: xs, h => by
    rw [List.all_cons, Bool.and_eq_true] at h
    obtain ⟨zs, e, hw⟩ := ones_all h.2
    cases x with
    | str z =>
      refine ⟨z :: zs, by rw [e]; rfl, fun y hy => ?_⟩
      rcases List.mem_cons.mp hy with r | r
      · rw [r]
        exact of_decide_eq_true h.1
      · exact hw y r
    | _ => exact absurd (show false = true from h.1) (by decide)
theorem some_yes {ws : List Str} {xs : List V} (h : someB ws xs = true) : ∃ zs : List Str, xs = zs.map V.str ∧ 1 ≤ zs.length ∧ zs.length ≤ ws.length ∧ zs.Nodup ∧ ∀ z ∈ zs, z ∈ ws := by
  unfold someB at h
  rw [Bool.and_eq_true, Bool.and_eq_true, decide_eq_true_iff, decide_eq_true_iff] at h
  obtain ⟨⟨h1, h2⟩, h3, h4⟩ := h
  obtain ⟨zs, rfl, hz⟩ := ones_all h3
  rw [List.length_map] at h1 h2
  exact ⟨zs, rfl, h1, h2, nodup_strs.mp h4, hz⟩
theorem some_of {ws zs : List Str} (h1 : 1 ≤ zs.length) (h2 : zs.length ≤ ws.length) (nd : zs.Nodup) (hz : ∀ z ∈ zs, z ∈ ws) : someB ws (zs.map V.str) = true := by
  unfold someB
  rw [Bool.and_eq_true, Bool.and_eq_true, decide_eq_true_iff, decide_eq_true_iff, List.length_map, List.all_eq_true]
  refine ⟨⟨h1, h2⟩, fun x hx => ?_, nodup_strs.mpr nd⟩
  obtain ⟨z, mz, rfl⟩ := List.mem_map.mp hx
  exact decide_eq_true (hz z mz)
/-- any value: a list of anything, or none -/
def AnyV (K : PySem.W.Frag) (H : Hp) (ws : List Str) (v : V) (yes no : Prop) : Prop := (∃ (a : Addr) (xs : List V), v = .ref a ∧ SqL K H a xs ∧ xs.length ≤ 1000 ∧ (∀ y ∈ xs, Itm K H y) ∧ (someB ws xs = true → yes) ∧ (someB ws xs = false → no)) ∨ (NoLst K H v ∧ no)
def spSome (K : PySem.W.Frag) (C : Addr) : Sp := fun vs H Q _ => ∃ (x : Addr) (v : V) (ws ds : List Str) (tb : List (List Str)) (ls : List Str), vs = [.ref x, v] ∧ DeskOb K C H x ws ds tb ls ∧ ws.length ≤ 9 ∧ AnyV K H ws v (∀ G, Sm H G → Q (.bl true) G) (∀ G, Sm H G → Q (.bl false) G)
abbrev nSome : List Str := ["desk", "value", "entry"]
theorem scSome : FnScope nSome ["desk", "value"] (defScope (top 33)) := ⟨rfl, rfl, rfl, by decide +kernel, rfl, by decide +kernel, by decide +kernel⟩
theorem scErS : FnScope ["self", "value"] ["self", "value"] (defScope (ini (top 2))) := ⟨rfl, rfl, rfl, by decide +kernel, rfl, by decide +kernel, by decide +kernel⟩
def spCk (K : PySem.W.Frag) (C CB : Addr) : Sp := fun vs H Q E => ∃ (x : Addr) (v : V) (ws ds : List Str) (tb : List (List Str)) (ls : List Str), vs = [.ref x, v] ∧ DeskOb K C H x ws ds tb ls ∧ ws.length ≤ 9 ∧ AnyV K H ws v (∀ G, Sm H G → Q .non G) (∀ (d : Addr) (G : Hp), Sm H G → H d = none → G d = some (.xd [("value", v)]) → E (.ref CB) (some d) G)
abbrev nCk : List Str := ["desk", "value"]
theorem scCk : FnScope nCk nCk (defScope (top 32)) := ⟨rfl, rfl, rfl, by decide +kernel, rfl, by decide +kernel, by decide +kernel⟩
section
variable {P : Program} {w : World} {K : PySem.W.Frag} {mg : Str → Option Value} {base : Heap} {f C CB fO fF fS fI pS gS : Addr} {fd dO dF dG dS dI : FuncData}
theorem ok_erS (B : Bad K mg "BadStandings" "value" (ini (top 2)) C fI dI) : FnOk P w K mg base CX0 1 fI dI ["self", "value"] (spErr K "value") := by
  refine B.F.ok (CX := CX0) scErS (fun vs H Q E h => ?_) (fun cdv A outer s H vs Q E hr h => ?_)
  · obtain ⟨a, C, v, rfl, _⟩ := h
    rfl
  · refine ⟨_, PSs.nox (pss_one (ps_ost (pv 0) (pv 1))), ?_⟩
    obtain ⟨a, C, v, rfl, T, no, ha, q⟩ := h
    exact ⟨_, rfl, _, rfl, a, C, rfl, T, no, .inl ⟨ha, q⟩⟩
theorem bErS (B : Bad K mg "BadStandings" "value" (ini (top 2)) C fI dI) : Binds K dI ["self", "value"] [] := B.F.bindsN fun _ _ _ _ _ _ us hl => match us, hl with
  | [_, _], _ => rfl
theorem bSome (F : FnP K "are_some" (top 33) f fd) : Binds K fd ["desk", "value"] [] := F.bindsN fun _ _ _ _ _ _ us hl => match us, hl with
  | [_, _], _ => rfl
theorem bCk (F : FnP K "check_standings" (top 32) f fd) : Binds K fd nCk [] := F.bindsN fun _ _ _ _ _ _ us hl => match us, hl with
  | [_, _], _ => rfl
theorem ok_some (F : FnP K "are_some" (top 33) f fd) (mi : mg "isinstance" = none) (mL : mg "list" = none) (ml : mg "len" = none) (ma : mg "all" = none) (hC : Cls K C) (PS_ : PropOf K C "standings" pS gS) (GG : FnOk P w K mg base CX0 1 gS dG nSelf (spStd C)) (bG : Binds K dG nSelf [])
    (GO : FnOk P w K mg base CX0 1 fO dO nOneOf (spOneOf K)) (FO : FnP K "is_one_of" (top 9) fO dO) (gO : mg "is_one_of" = some (.ref fO)) (GF : FnOk P w K mg base CX0 1 fF dF ["names"] (spDiff K)) (FF : FnP K "are_different" (top 10) fF dF) (gF : mg "are_different" = some (.ref fF)) :
    FnOk P w K mg base CX0 3 f fd ["desk", "value"] (spSome K C) := by
  refine F.ok (CX := CX0) scSome (fun vs H Q E h => ?_) (fun cdv A outer s H vs Q E hr h => ?_)
  · obtain ⟨x, v, ws, ds, tb, ls, rfl, _⟩ := h
    rfl
  · have hr1 := hr.mono (show 1 ≤ 2 by decide)
    refine ⟨_, PSs.nox (pss_cons (ps_if (PW.pt (pw_or (pt_not (pt_val (by exact (pe_callB call_isi rfl mi PyProof.Rows.boot_isinstance (pa_cons (pv 1) (pa_cons (pe_bltn (v := .ty "list") rfl mL (by decide +kernel) rfl) pa_nil))))))
        (pw_or1 (pt_not (pt_chain op_le op_le pe_int (by exact (pe_callB call_len rfl ml boot_len (pa_cons (pv 1) pa_nil))) (by exact (pe_callB call_len rfl ml boot_len (pa_cons (by exact (pe_prop (pv 0) hC PS_ GG hr bG .nil pass0 rfl)) pa_nil)))))))) (pss_one (ps_ret pe_bl)) pss_nil)
      (pss_one (ps_ret (by exact (pe_and (by exact (pe_callB (cr_all rfl) rfl ma PyProof.Rows.boot_all (pa_cons (by exact (pe_lc (own := [("entry", 2)]) (g := gName 2) (tt := tYes) (te := tCall (spOneOf K) [] E0 (tCons (tVar 2) (tCons (tProp C (spStd C) [] E0 (tVar 0)) tNil))) rfl scSome.nd (pi_list (pv 1))
        (blkOk_by (N := nSome) (sc := defScope (top 33)) (by decide +kernel)) (fun _ _ _ _ _ => pg_name (i := 2) scSome.nd rfl (Or.inl rfl)) (fun _ _ _ _ _ => pts_nil) (fun _ _ _ _ _ => by exact (pe_call GO hr1 rfl gO FO.kp (bOne FO) .nil pass0 (pa_cons (by exact (pv 2)) (pa_cons (by exact (pe_prop (by exact (pv 0)) hC PS_ GG hr bG .nil pass0 rfl)) pa_nil)))))) pa_nil)))
        (pe_one (by exact (pe_call GF hr1 rfl gF FF.kp (bF FF) .nil pass0 (pa_cons (pv 1) pa_nil))))))))), ?_⟩
    obtain ⟨x, v, ws, ds, tb, ls, rfl, ⟨dx, st, ld, si, as, hx, hst, hld, hsi, pr⟩, w9, h⟩ := h
    rcases h with ⟨a, xs, rfl, hs, xl, hi, qy, qn⟩ | ⟨⟨t, ty, kk⟩, qn⟩
    · have isl : TyX K H (.ref a) (.type "list") := by
        rcases hs with (h | ⟨o, h⟩) | ⟨o, its, n, h, c, _⟩
        · exact .base (.lst h)
        · exact .base (.frz h)
        · exact .kList h c
      have bad : ¬(1 ≤ xs.length ∧ xs.length ≤ ws.length) → someB ws xs = false := fun z => by
        unfold someB
        rw [decide_eq_false z]
        rfl
      refine ⟨_, rfl, .ref a, .ty "list", _, _, true, rfl, .ty "list", isl, kit_ty (by decide +kernel), _, rfl, iteF ⟨_, rfl, .ref a, xs.length, rfl, .inl ⟨_, hs, rfl⟩, _, _, rfl, rfl, _, rfl, ?_⟩⟩
      by_cases c1 : (1 : Int) ≤ (xs.length : Nat)
      · rw [decide_eq_true c1]
        refine iteT ⟨_, rfl, x, dx, _, rfl, hx, x, dx, st, ld, si, rfl, hx, .ref st, ws.length, rfl, .inr ⟨_, hst, by rw [List.length_map]⟩, _, _, rfl, rfl, _, rfl, ?_⟩
        by_cases c9 : ((xs.length : Nat) : Int) ≤ ((ws.length : Nat) : Int)
        · rw [decide_eq_true c9]
          have good : someB ws xs = (xs.all (oneB ws) && decide xs.Nodup) := by
            unfold someB
            rw [decide_eq_true (by omega), Bool.true_and]
          rw [good] at qy qn
          refine iteF ⟨_, rfl, a, rfl, ⟨_, hs⟩, ?_⟩
          refine lc_map (fv := fun j => .bl (oneB ws (xs.getD j .non))) (walk_list (xs := xs)) xl (fun H2 m => SqL.sm hs m) (fun _ => rfl) (fun j H2 x H3 _ y => by rw [y.1]; exact Sm.refl _) (fun j y H2 H3 Q2 hj s2 yy s3 qq => ?_) (fun D H2 m nD ed => ?_)
          · obtain ⟨rfl, ey⟩ := yy
            have z2 := qq H3 (Sm.refl _)
            rw [List.getD_eq_getElem?_getD, ey] at z2
            refine ⟨_, rfl, _, rfl, x, dx, _, rfl, s3 _ _ hx, x, dx, st, ld, si, rfl, s3 _ _ hx, y, st, rfl, ?_⟩
            rcases hi y (List.mem_of_getElem? ey) with ⟨z, rfl, zl⟩ | ns
            · exact .inl ⟨z, ws, rfl, .inr (.inl (SqT.sm hst s3)), z2⟩
            · refine .inr ⟨NoStr.sm ns s3, ?_⟩
              rw [show oneB ws ((some y).getD .non) = oneB ws y from rfl, NoStr.one ws ns] at z2
              exact z2
          · refine ⟨D, (List.range xs.length).map fun j => oneB ws (xs.getD j .non), rfl, .inl (.inl (by rw [ed, List.map_map]; rfl)), _, rfl, ?_⟩
            rw [all_rangeV (p := oneB ws)]
            by_cases ca : xs.all (oneB ws) = true
            · obtain ⟨zs, ez, _⟩ := ones_all ca
              rw [ca, Bool.true_and] at qy qn
              rw [ca]
              refine iteT ⟨_, rfl, a, zs, rfl, .inl (by rw [← ez]; exact SqL.sm hs m), by rw [ez, List.length_map] at xl; exact xl, ?_⟩
              have e : decide zs.Nodup = decide xs.Nodup := by rw [ez, decide_eq_decide.mpr nodup_strs]
              rw [e]
              cases cd : decide xs.Nodup with
              | true => exact qy cd H2 m
              | false => exact qn cd H2 m
            · rw [Bool.not_eq_true] at ca
              rw [ca, Bool.false_and] at qn
              rw [ca]
              exact iteF (qn rfl H2 m)
        · rw [decide_eq_false c9]
          exact iteT (qn (bad (by omega)) _ (Sm.refl _))
      · rw [decide_eq_false c1]
        exact iteF ⟨_, rfl, iteT (qn (bad (by omega)) _ (Sm.refl _))⟩
    · exact ⟨_, rfl, v, .ty "list", _, _, false, rfl, .ty "list", ty, kk, _, rfl, iteT (iteT (qn _ (Sm.refl _)))⟩
end
end Dk
namespace Dk
open PySem PySem.Spec PyProof.Rows L2 Er LamX NdefX Srt ScX
open PySem.ErK (EC)
section
variable {P : Program} {w : World} {K : PySem.W.Frag} {mg : Str → Option Value} {base : Heap} {f C CB fS fI : Addr} {fd dS dI : FuncData}
theorem ok_ck (F : FnP K "check_standings" (top 32) f fd) (B : Bad K mg "BadStandings" "value" (ini (top 2)) CB fI dI) (GS : FnOk P w K mg base CX0 3 fS dS ["desk", "value"] (spSome K C)) (FS : FnP K "are_some" (top 33) fS dS) (gS : mg "are_some" = some (.ref fS)) :
    FnOk P w K mg base (L2.CX P w) 4 f fd nCk (spCk K C CB) := by
  refine F.ok (CX := L2.CX P w) scCk (fun vs H Q E h => ?_) (fun cdv A outer s H vs Q E hr h => ?_)
  · obtain ⟨x, v, ws, ds, tb, ls, rfl, _⟩ := h
    rfl
  · have GE : FnOk P w K mg base CX0 1 fI dI ["self", "value"] (spErr K "value") := ok_erS B
    have hr1 := hr.mono (show 2 ≤ 3 by decide)
    refine ⟨_, pss_one (ps_if (pt_not (pt_val (by exact (pe_call GS hr rfl gS FS.kp (bSome FS) .nil pass0 (pa_cons (pv 0) (pa_cons (pv 1) pa_nil)))))) (pss_one (ps_raise rfl (takes_of rfl rfl rfl rfl) (pmk_oex (e := .Name "value" _) (es := []) B.ec.ox B.ec.iC B.ec.tI GE hr1 (bErS B) .nil pass0 rfl B.gl (pa_cons (pv 1) pa_nil)))) pss_nil), ?_⟩
    obtain ⟨x, v, ws, ds, tb, ls, rfl, ob, w9, h⟩ := h
    refine ⟨_, rfl, _, rfl, x, v, ws, ds, tb, ls, rfl, ob, w9, ?_⟩
    have no : (∀ (d : Addr) (G : Hp), Sm H G → H d = none → G d = some (.xd [("value", v)]) → E (.ref CB) (some d) G) → ∀ G, Sm H G → ∀ d, G d = none → E (.ref CB) (some d) (upd G d (.xd [("value", v)])) := fun q G m d nd => q d _ (m.trans (Sm.new nd)) (none_of_sm m nd) upd_same
    rcases h with ⟨a, xs, rfl, hs, xl, hi, qy, qn⟩ | ⟨nl, qn⟩
    · exact .inl ⟨a, xs, rfl, hs, xl, hi, fun e G m => ⟨_, rfl, iteF (qy e G m)⟩, fun e G m => ⟨_, rfl, iteT ⟨_, rfl, bad_reads B.ec.ox B.ec.noN (no (qn e) G m)⟩⟩⟩
    · exact .inr ⟨nl, fun G m => ⟨_, rfl, iteT ⟨_, rfl, bad_reads B.ec.ox B.ec.noN (no qn G m)⟩⟩⟩
end
end Dk
set_option Elab.async false
set_option linter.all false
set_option maxRecDepth 100000
set_option maxHeartbeats 8000000
namespace Srt
theorem subs_le {α : Type} : ∀ {l m : List α}, m ∈ subs l → m.length ≤ l.length
  | [], m, h => by
    rw [List.mem_singleton.mp h]
    exact Nat.le_refl _
  | a :: l, m, h => by
    unfold subs at h
    rcases List.mem_append.mp h with h | h
    · exact Nat.le_succ_of_le (subs_le h)
    · obtain ⟨m2, h2, rfl⟩ := List.mem_map.mp h
      exact Nat.succ_le_succ (subs_le h2)
theorem subs_up : ∀ {l m : List Int}, l.Pairwise (· < ·) → m ∈ subs l → m.Pairwise (· < ·)
  | [], m, _, h => by
    rw [List.mem_singleton.mp h]
    exact List.Pairwise.nil
  | a :: l, m, u, h => by
    obtain ⟨u1, u2⟩ := List.pairwise_cons.mp u
    unfold subs at h
    rcases List.mem_append.mp h with h | h
    · exact subs_up u2 h
    · obtain ⟨m2, h2, rfl⟩ := List.mem_map.mp h
      exact List.pairwise_cons.mpr ⟨fun k hk => u1 k (subs_in h2 k hk), subs_up u2 h2⟩
/-- one number alone -/
theorem srt_one {l : List Int} (ne : l ≠ []) : (srt l).length = 1 ↔ ∀ a ∈ l, ∀ b ∈ l, a = b := by
  constructor
  · intro h a ha b hb
    obtain ⟨c, e⟩ := List.length_eq_one_iff.mp h
    have h1 := mem_srt.mpr ha
    have h2 := mem_srt.mpr hb
    rw [e] at h1 h2
    rw [List.mem_singleton.mp h1, List.mem_singleton.mp h2]
  · intro h
    obtain ⟨a, ha⟩ := List.exists_mem_of_ne_nil l ne
    have e : srt l = [a] := uniq (srt_up l) (List.pairwise_singleton _ _) fun k => by
      rw [mem_srt, List.mem_singleton]
      exact ⟨fun hk => h k hk a ha, fun e => e ▸ ha⟩
    rw [e]
    rfl
end Srt
namespace Dk
open PySem PySem.Spec PyProof.Rows L2 Er LamX NdefX Srt ScX Bf
open PySem.ErK (EC)
/-! ### sure_row: its nested function, its lambda -/
def stM : Stmt := (defBody (top 34)).getD 3 (.Pass ⟨0, 0, 0, 0⟩)
def lamE : Option (Arguments × Expr × Scope × Pos) := match (defBody (top 34)).getD 5 (.Pass ⟨0, 0, 0, 0⟩) with
  | .Return (some (.Call _ [_, _, .Lambda ps b sc p] _ _)) _ => some (ps, b, sc, p)
  | _ => none
def lArgs : Arguments := match lamE with
  | some x => x.1
  | none => defArgs (top 34)
def lBody : Expr := match lamE with
  | some x => x.2.1
  | none => .Name "x" ⟨0, 0, 0, 0⟩
def lScope : Scope := match lamE with
  | some x => x.2.2.1
  | none => defScope (top 34)
def posOf : Stmt → Pos
  | .FunctionDef _ _ _ _ _ _ _ _ _ p => p
  | _ => ⟨0, 0, 0, 0⟩
/-- the names of the code objects of the two, by their lines -/
def nmS : Nat → Nat → Str := fun l _ => if l = (posOf stM).line then ("sure_row" : Str) ++ ".<locals>." ++ "led_lots" else ("sure_row" : Str) ++ ".<locals>." ++ "<lambda>"
def sureT (Pt : Addr) : List NTab := [(Pt, nmS)]
theorem scM : Sc2' (C8.fnScope stM) "lots" "desk" "moves" := ⟨rfl, rfl, rfl, rfl, by decide, by decide, by decide⟩
theorem scLam : NScope ["lots"] ["lots"] [] lScope := nscope_by (by decide +kernel)
def mkM (cells : List (Str × Addr)) (c : Addr) : NF := .of stM "led_lots" (("sure_row" : Str) ++ ".<locals>." ++ "led_lots") (cloFrom cells (C8.fnScope stM).names []) c
/-- a state: numbers, as keys -/
def stN (ns : List Int) : St2 := ns.map fun n => .inl n
def unk : Key → Int
  | .inl i => i
  | .inr _ => 0
theorem unk_st (ns : List Int) : (stN ns).map unk = ns := by
  unfold stN
  rw [List.map_map]
  exact (List.map_congr_left fun x _ => rfl).trans (List.map_id ns)
theorem stN_V (ns : List Int) : (stN ns).map kV = ns.map V.int := by
  unfold stN
  rw [List.map_map]
  rfl
theorem stN_len (ns : List Int) : (stN ns).length = ns.length := List.length_map _
/-- where the deeds lead some lots -/
def mvS (ws ds : List Str) (nu : Str → Nat) (nx : Str → Str → Str) (k : St2) : List (V × St2) := ds.map fun d => (.str d, stN (srt ((k.map unk).map (mvL ws nu nx d))))
def fdS (k : St2) : Bool := decide (k.length = 1)
def Cong (ws ds : List Str) (nu : Str → Nat) (nx : Str → Str → Str) : Prop := ∀ z ∈ ws, ∀ y ∈ ws, nu z = nu y → ∀ d ∈ ds, nu (nx z d) = nu (nx y d)
def spLl (K : PySem.W.Frag) (C : Addr) : List (Option V) → Sp := fun cs vs H Q _ => ∃ (x mv t : Addr) (ns : List Int) (ws ds : List Str) (tb : List (List Str)) (ls : List Str) (nu : Str → Nat) (nx : Str → Str → Str), cs = [some (.ref x), some (.ref mv)] ∧ vs = [.ref t] ∧ DeskOb K C H x ws ds tb ls ∧ tb.length = ds.length ∧ ds.length ≤ 4 ∧
  LmAt H mv ws ds nu nx ∧ H t = some (.tup (ns.map V.int)) ∧ ns.length ≤ 9 ∧ (∀ n ∈ ns, ∃ z ∈ ws, n = ((nu z : Nat) : Int)) ∧ Cong ws ds nu nx ∧ ∀ l G, Sm H G → H l = none → Mvs G l (mvS ws ds nu nx (stN ns)) → Q (.ref l) G
def spLf : List (Option V) → Sp := fun cs vs H Q _ => ∃ (t : Addr) (k : St2), cs = [] ∧ vs = [.ref t] ∧ H t = some (.tup (k.map kV)) ∧ Q (.bl (fdS k)) H
section
variable {P : Program} {w : World} {K : PySem.W.Frag} {mg : Str → Option Value} {base : Heap} {f c C pD gD fA : Addr} {dD dA : FuncData} {cells : List (Str × Addr)}
theorem ok_ll (hC : Cls K C) (PD : PropOf K C "deeds" pD gD) (GD : FnOk P w K mg base CX0 1 gD dD nSelf (spDds K C)) (bD_ : Binds K dD nSelf []) (GA : FnOk P w K mg base CX0 1 fA dA ["lots", "moves", "deed"] spLa) (FA : FnP K "led_all" (top 35) fA dA) (gA : mg "led_all" = some (.ref fA)) :
    NOk P w K mg base CX0 3 f (mkM cells c) ["lots"] ["desk", "moves"] (spLl K C) := by
  refine nok2_of (a := (cells.lookup ("desk" : Str)).getD 0) (b := (cells.lookup ("moves" : Str)).getD 0) (N1 := ["deed"]) scM (fun _ => rfl) rfl rfl rfl (fun doc pm ctv u => rfl) (fun cs vs H Q E h => ?_) (fun cs vs H Q E h => ?_) fun A outer s H v vf vg Q E hr h => ?_
  · obtain ⟨x, mv, t, ns, ws, ds, tb, ls, nu, nx, _, rfl, _⟩ := h
    rfl
  · obtain ⟨x, mv, t, ns, ws, ds, tb, ls, nu, nx, rfl, _⟩ := h
    exact ⟨_, _, rfl⟩
  · have ndN : (["lots", "desk", "moves", "deed"] : List Str).Nodup := by decide +kernel
    have hr1 := hr.mono (show 1 ≤ 2 by decide)
    refine ⟨_, PSs.nox (pss_one (ps_ret (by exact (pe_lc (own := [("deed", 3)]) (g := gName 3) (tt := tYes) (te := tTup (tCons (tVar 3) (tCons (tCall spLa [] E0 (tCons (tVar 0) (tCons (tVar 2) (tCons (tVar 3) tNil)))) tNil))) rfl ndN (pi_seq (by exact (pe_prop (pv 1) hC PD GD hr bD_ .nil pass0 rfl)))
      (blkOk_by (N := ["lots", "desk", "moves", "deed"]) (sc := C8.fnScope stM) (by decide +kernel)) (fun _ _ _ _ _ => pg_name (i := 3) ndN rfl (Or.inl rfl)) (fun _ _ _ _ _ => pts_nil)
      (fun _ _ _ _ _ => by exact (pe_tup (pa_cons (by exact (pv 3)) (pa_cons (by exact (pe_call GA hr1 rfl gA FA.kp (bLa FA) .nil pass0 (pa_cons (by exact (pv 0)) (pa_cons (by exact (pv 2)) (pa_cons (by exact (pv 3)) pa_nil))))) pa_nil)))))))), ?_⟩
    obtain ⟨x, mv, t, ns, ws, ds, tb, ls, nu, nx, ew, ev, ob, tl, d4, lm, ht, n9, hn, cong, q⟩ := h
    cases Option.some.inj (List.cons.inj ew).1
    cases Option.some.inj (List.cons.inj (List.cons.inj ew).2).1
    cases (List.cons.inj ev).1
    obtain ⟨dx, st, ld, si, as, hx, hst, hld, hsi, pr⟩ := id ob
    refine ⟨_, rfl, x, dx, _, rfl, hx, x, ws, ds, tb, ls, rfl, ob, tl, fun dq G0 m0 ndq edq => ?_⟩
    refine ⟨dq, ds.map V.str, rfl, .inr ⟨.inl (.inl edq), fun D nD => ?_⟩⟩
    refine lc_it (walk_tup (xs := ds.map V.str)) (vs := [3]) (fun j G => ∃ ps : List Addr, G D = some (.lst (ps.map V.ref)) ∧ Paired (fun (p : Addr) (e : V × St2) => p ≠ D ∧ ∃ b, b ≠ D ∧ G p = some (.tup [e.1, .ref b]) ∧ G b = some (.tup (e.2.map kV))) ps ((mvS ws ds nu nx (stN ns)).take j) ∧ Sm G0 G)
      ⟨[], upd_same, .nil, Sm.new nD⟩ (fun j G _ ⟨_, _, _, m⟩ => .inl (.inl (m _ _ edq))) (fun j y G G' hj p yy => ?_) (fun G p => ?_)
    · obtain ⟨ps, eD, pp, m⟩ := p
      obtain ⟨rfl, ex⟩ := yy
      obtain ⟨d, ed, rfl⟩ : ∃ d, ds[j]? = some d ∧ y = .str d := by
        rw [List.getElem?_map] at ex
        cases e : ds[j]? with
        | none =>
          rw [e] at ex
          cases ex
        | some d =>
          rw [e] at ex
          exact ⟨d, rfl, (Option.some.inj ex).symm⟩
      have hd := List.mem_of_getElem? ed
      refine ⟨rfl, ?_⟩
      unfold tYes
      dsimp only
      rw [if_pos rfl]
      have mA := m0.trans m
      refine ⟨_, rfl, _, rfl, _, rfl, _, rfl, t, mv, ns, d, ws, ds, nu, nx, rfl, mA _ _ ht, n9, lm.sm mA, hd, hn, cong, fun p2 G3 m3 np2 ep2 => ⟨by show 2 ≤ sizeLine; rw [sizeLine_eq]; decide, fun p1 np1 => ?_⟩⟩
      have m4 := m3.trans (Sm.new (o := .tup [.str d, .ref p2]) np1)
      have q2 := Sm.new (o := .tup [.str d, .ref p2]) np1 _ _ ep2
      have q1 := upd_same (H := G3) (a := p1) (o := .tup [.str d, .ref p2])
      have np1G : G' p1 = none := none_of_sm m3 np1
      generalize upd G3 p1 (.tup [.str d, .ref p2]) = G4 at m4 q1 q2 ⊢
      have D4 := m4 _ _ eD
      have pD1 : p1 ≠ D := fun z => by
        rw [z, eD] at np1G
        cases np1G
      have pD2 : p2 ≠ D := fun z => by
        rw [z, eD] at np2
        cases np2
      have pl : ps.length = j := by
        have := paired_len pp
        have l2 : (mvS ws ds nu nx (stN ns)).length = ds.length := List.length_map _
        rw [List.length_take, l2] at this
        have := (List.getElem?_eq_some_iff.mp ed).1
        omega
      have jl := (List.getElem?_eq_some_iff.mp ed).1
      refine ⟨_, D4, by rw [List.length_map, sizeLine_eq]; omega, ps ++ [p1], ?_, ?_, fun b o e => ?_⟩
      · rw [upd_same, List.map_append]
        rfl
      · have tk : (mvS ws ds nu nx (stN ns)).take (j + 1) = (mvS ws ds nu nx (stN ns)).take j ++ [(.str d, stN (srt (ns.map (mvL ws nu nx d))))] := by
          rw [List.take_add_one]
          unfold mvS
          rw [List.getElem?_map, ed, unk_st]
          rfl
        rw [tk]
        refine pair_more (pair_mono pp fun p _ e ⟨h1, b, h2, h3, h4⟩ => ⟨h1, b, h2, by rw [upd_ne h1]; exact m4 _ _ h3, by rw [upd_ne h2]; exact m4 _ _ h4⟩) ⟨pD1, p2, pD2, by rw [upd_ne pD1]; exact q1, ?_⟩
        rw [upd_ne pD2, q2, stN_V]
      · rw [upd_ne (ne_of_none e nD)]
        exact m4 _ _ (m _ _ e)
    · obtain ⟨ps, eD, pp, m⟩ := p
      rw [List.length_map, List.take_of_length_le (by unfold mvS; rw [List.length_map]; exact Nat.le_refl _)] at pp
      exact q D G (m0.trans m) (none_of_sm m0 nD) ⟨ps, eD, pair_mono pp fun p _ e ⟨_, b, _, h3, h4⟩ => ⟨b, h3, h4⟩⟩
theorem ok_lf {qual : Str} {cl : List (Str × Addr)} (ml : mg "len" = none) : Cal P w K mg base 1 f (LamO f qual lArgs lBody lScope cl c) c qual cl [] spLf := by
  refine cal_lam (N := ["lots"]) scLam (fun pm ctv us hl => match us, hl with
    | [_], _ => rfl) (fun cs vs H Q E h => ?_) fun A outer s H vs cs Q E hr hl h => ?_
  · obtain ⟨t, k, _, rfl, _⟩ := h
    rfl
  · refine ⟨_, PE.nox (by exact (pe_cmpR op_eq (pe_callB call_len rfl ml boot_len (pa_cons (pv 0) pa_nil)) pe_int (nomark _))), ?_⟩
    obtain ⟨t, k, rfl, rfl, ht, q⟩ := h
    refine ⟨_, rfl, .ref t, k.length, rfl, .inr ⟨_, .inl (.inl ht), by rw [List.length_map]⟩, rfl, ?_⟩
    have e : decide (V.int ((k.length : Nat) : Int) = V.int 1) = fdS k := by
      unfold fdS
      rw [decide_eq_decide]
      exact ⟨fun z => by have := V.int.inj z; omega, fun z => by rw [z]; rfl⟩
    rw [e]
    exact q
end
end Dk
set_option Elab.async false
set_option linter.all false
set_option maxRecDepth 100000
set_option maxHeartbeats 8000000
namespace Srt
theorem srt_ext {l m : List Int} (e : ∀ k, k ∈ l ↔ k ∈ m) : srt l = srt m := uniq (srt_up l) (srt_up m) fun k => by rw [mem_srt, mem_srt, e]
theorem srt_map {l : List Int} {f : Int → Int} : srt ((srt l).map f) = srt (l.map f) := srt_ext fun k => by
  rw [List.mem_map, List.mem_map]
  exact ⟨fun ⟨a, h, e⟩ => ⟨a, mem_srt.mp h, e⟩, fun ⟨a, h, e⟩ => ⟨a, mem_srt.mpr h, e⟩⟩
end Srt
namespace Dk
open PySem PySem.Spec PyProof.Rows L2 Er LamX NdefX Srt ScX Bf
open PySem.ErK (EC)
/-! ### sure_row -/
/-- behind the row all are alike -/
def Sure (nx : Str → Str → Str) (lk : Str → Str) (ds zs r : List Str) : Prop := ∀ z ∈ zs, ∀ y ∈ zs, ∀ k, ¬ Ap.Sep nx lk ds (Ap.led nx z r) (Ap.led nx y r) k
theorem led_in {nx : Str → Str → Str} {ws ds : List Str} (cl : ∀ z ∈ ws, ∀ d ∈ ds, nx z d ∈ ws) : ∀ {r : List Str} {z : Str}, z ∈ ws → (∀ d ∈ r, d ∈ ds) → Ap.led nx z r ∈ ws
  | [], _, hz, _ => hz
  | d :: r, z, hz, h => led_in cl (r := r) (cl z hz d (h d List.mem_cons_self)) fun x hx => h x (List.mem_cons_of_mem _ hx)
theorem led_snoc {nx : Str → Str → Str} {z d : Str} {r : List Str} : Ap.led nx z (r ++ [d]) = nx (Ap.led nx z r) d := by
  unfold Ap.led
  rw [List.foldl_append]
  rfl
/-- the state behind a row -/
def stAt (nu : Str → Nat) (nx : Str → Str → Str) (zs r : List Str) : St2 := stN (srt (zs.map fun z => ((nu (Ap.led nx z r) : Nat) : Int)))
section
variable {ws ds zs : List Str} {nu : Str → Nat} {nx : Str → Str → Str} {lk : Str → Str}
theorem stAt_next (cl : ∀ z ∈ ws, ∀ d ∈ ds, nx z d ∈ ws) (cong : Cong ws ds nu nx) (sub : ∀ z ∈ zs, z ∈ ws) {r : List Str} {d : Str} (hr : ∀ d ∈ r, d ∈ ds) (hd : d ∈ ds) : stN (srt (((stAt nu nx zs r).map unk).map (mvL ws nu nx d))) = stAt nu nx zs (r ++ [d]) := by
  unfold stAt
  rw [unk_st, srt_map, List.map_map]
  congr 2
  refine List.map_congr_left fun z hz => ?_
  show mvL ws nu nx d ((nu (Ap.led nx z r) : Nat) : Int) = _
  rw [mvL_at cong (led_in cl (sub z hz) hr) hd, led_snoc]
theorem stAt_to (cl : ∀ z ∈ ws, ∀ d ∈ ds, nx z d ∈ ws) (cong : Cong ws ds nu nx) (sub : ∀ z ∈ zs, z ∈ ws) {row : List V} {k : St2} (h : Led (mvS ws ds nu nx) (stAt nu nx zs []) row k) : ∃ r : List Str, row = r.map V.str ∧ (∀ d ∈ r, d ∈ ds) ∧ k = stAt nu nx zs r := by
  induction h with
  | here => exact ⟨[], rfl, (fun d hd => nomatch hd), rfl⟩
  | @on r t u l h hm ih =>
    obtain ⟨r2, rfl, h2, rfl⟩ := ih
    obtain ⟨d, hd, e⟩ := List.mem_map.mp (show (l, u) ∈ ds.map fun d => ((V.str d, stN (srt (((stAt nu nx zs r2).map unk).map (mvL ws nu nx d)))) : V × St2) from hm)
    have e1 : V.str d = l := congrArg (fun p : V × St2 => p.1) e
    have e2 : stN (srt (((stAt nu nx zs r2).map unk).map (mvL ws nu nx d))) = u := congrArg (fun p : V × St2 => p.2) e
    subst e1 e2
    refine ⟨r2 ++ [d], by rw [List.map_append]; rfl, fun x hx => ?_, stAt_next cl cong sub h2 hd⟩
    rcases List.mem_append.mp hx with a | a
    · exact h2 x a
    · rw [List.mem_singleton.mp a]
      exact hd
theorem stAt_of (cl : ∀ z ∈ ws, ∀ d ∈ ds, nx z d ∈ ws) (cong : Cong ws ds nu nx) (sub : ∀ z ∈ zs, z ∈ ws) : ∀ r : List Str, (∀ d ∈ r, d ∈ ds) → Led (mvS ws ds nu nx) (stAt nu nx zs []) (r.map V.str) (stAt nu nx zs r) := by
  refine DkSet.rev_ind (fun _ => .here) fun l d ih h => ?_
  have h0 : ∀ x ∈ l, x ∈ ds := fun x hx => h x (List.mem_append_left _ hx)
  have hd := h d (List.mem_append_right _ (List.mem_singleton.mpr rfl))
  rw [List.map_append]
  refine .on (ih h0) (show ((V.str d, stAt nu nx zs (l ++ [d])) : V × St2) ∈ ds.map _ from List.mem_map.mpr ⟨d, hd, ?_⟩)
  rw [stAt_next cl cong sub h0 hd]
theorem fd_sure (cl : ∀ z ∈ ws, ∀ d ∈ ds, nx z d ∈ ws) (al : Alk nx lk ds ws nu) (sub : ∀ z ∈ zs, z ∈ ws) (ne : zs ≠ []) {r : List Str} (hr : ∀ d ∈ r, d ∈ ds) : fdS (stAt nu nx zs r) = true ↔ Sure nx lk ds zs r := by
  unfold fdS stAt
  rw [decide_eq_true_iff, stN_len, srt_one (by simpa using ne)]
  constructor
  · intro h z hz y hy
    have e := h _ (List.mem_map.mpr ⟨z, hz, rfl⟩) _ (List.mem_map.mpr ⟨y, hy, rfl⟩)
    exact (al _ (led_in cl (sub z hz) hr) _ (led_in cl (sub y hy) hr)).mp (by omega)
  · intro h a ha b hb
    obtain ⟨z, hz, rfl⟩ := List.mem_map.mp ha
    obtain ⟨y, hy, rfl⟩ := List.mem_map.mp hb
    have e := (al _ (led_in cl (sub z hz) hr) _ (led_in cl (sub y hy) hr)).mpr (h z hz y hy)
    show ((nu (Ap.led nx z r) : Nat) : Int) = _
    rw [e]
theorem cong_of (cl : ∀ z ∈ ws, ∀ d ∈ ds, nx z d ∈ ws) (al : Alk nx lk ds ws nu) : Cong ws ds nu nx := fun z hz y hy e d hd => (al _ (cl z hz d hd) _ (cl y hy d hd)).mpr fun k s => (al z hz y hy).mp e (k + 1) (Ap.sep_succ.mpr ⟨d, hd, s⟩)
end
/-- what sure_row tells -/
def SrOut (nx : Str → Str → Str) (lk : Str → Str) (ds zs : List Str) (H G : Hp) (v : V) : Prop := (v = .non ∧ ∀ r : List Str, (∀ d ∈ r, d ∈ ds) → ¬ Sure nx lk ds zs r) ∨
  ∃ (rr : Addr) (row : List Str), v = .ref rr ∧ (∀ o, H rr = some o → ∃ ps, o = .tbl ps) ∧ G rr = some (.lst (row.map V.str)) ∧ row.length ≤ 1000 ∧ (∀ d ∈ row, d ∈ ds) ∧ Sure nx lk ds zs row ∧ ∀ r : List Str, (∀ d ∈ r, d ∈ ds) → Sure nx lk ds zs r → row.length ≤ r.length
theorem srOut_of {ws ds zs : List Str} {nu : Str → Nat} {nx : Str → Str → Str} {lk : Str → Str} {H H1 G : Hp} {v : V} (cl : ∀ z ∈ ws, ∀ d ∈ ds, nx z d ∈ ws) (al : Alk nx lk ds ws nu) (sub : ∀ z ∈ zs, z ∈ ws) (ne : zs ≠ []) (h : ShOut (mvS ws ds nu nx) fdS (stAt nu nx zs []) H1 G v) (e : ExtN H H1) : SrOut nx lk ds zs H G v := by
  have cong := cong_of cl al
  rcases h with ⟨rfl, h⟩ | ⟨rr, row, k, rfl, eG, nr, rl, h, hf, least⟩
  · refine .inl ⟨rfl, fun r hr s => ?_⟩
    have z := h _ _ (stAt_of cl cong sub r hr)
    rw [(fd_sure cl al sub ne hr).mpr s] at z
    cases z
  · obtain ⟨r, rfl, h1, rfl⟩ := stAt_to cl cong sub h
    refine .inr ⟨rr, r, rfl, fun o eo => ?_, eG, by rw [List.length_map] at rl; exact rl, h1, (fd_sure cl al sub ne h1).mp hf, fun r2 h2 s => ?_⟩
    · cases o with
      | tbl ps => exact ⟨ps, rfl⟩
      | _ => exact absurd ((e _ _ eo (fun _ z => nomatch z)).symm.trans nr) (by simp)
    · have z := least _ _ (stAt_of cl cong sub r2 h2) ((fd_sure cl al sub ne h2).mpr s)
      rw [List.length_map, List.length_map] at z
      exact z
theorem DeskOb.ext {K : PySem.W.Frag} {C : Addr} {H G : Hp} {x : Addr} {ws ds : List Str} {tb : List (List Str)} {ls : List Str} (h : DeskOb K C H x ws ds tb ls) (e : ExtN H G) : DeskOb K C G x ws ds tb ls := by
  obtain ⟨dx, st, ld, si, as, hx, hst, hld, hsi, pr⟩ := h
  refine ⟨dx, st, ld, si, as, e _ _ hx (fun _ z => nomatch z), ?_, e _ _ hld (fun _ z => nomatch z), e _ _ hsi (fun _ z => nomatch z), pair_mono pr fun a _ vs q => e _ _ q (fun _ z => nomatch z)⟩
  rcases hst with (h | ⟨o, h⟩) | h
  · exact .inl (.inl (e _ _ h (fun _ z => nomatch z)))
  · exact .inl (.inr ⟨o, e _ _ h (fun _ z => nomatch z)⟩)
  · exact .inr h
theorem LmAt.ext {G G2 : Hp} {q : Addr} {ws ds : List Str} {nu : Str → Nat} {nx : Str → Str → Str} (h : LmAt G q ws ds nu nx) (e : ExtN G G2) : LmAt G2 q ws ds nu nx := by
  obtain ⟨kvs, q1, r⟩ := h
  exact ⟨kvs, e _ _ q1 (fun _ z => nomatch z), fun z hz => by
    obtain ⟨b, row, h1, h2, h3⟩ := r z hz
    exact ⟨b, row, h1, e _ _ h2 (fun _ z => nomatch z), h3⟩⟩
theorem SqL.ext {K : PySem.W.Frag} {H G : Hp} {a : Addr} {xs : List V} (h : SqL K H a xs) (e : ExtN H G) : SqL K G a xs := by
  rcases h with (h | ⟨o, h⟩) | h
  · exact .inl (.inl (e _ _ h (fun _ z => nomatch z)))
  · exact .inl (.inr ⟨o, e _ _ h (fun _ z => nomatch z)⟩)
  · exact .inr h
/-- what is raised for it -/
def BadAt (H : Hp) (CS : Addr) (E : XK) (v : V) : Prop := ∀ (d : Addr) (G : Hp), Sm H G → H d = none → G d = some (.xd [("value", v)]) → E (.ref CS) (some d) G
def NotSome (K : PySem.W.Frag) (H : Hp) (ws : List Str) (v : V) : Prop := (∃ (a : Addr) (xs : List V), v = .ref a ∧ SqL K H a xs ∧ xs.length ≤ 1000 ∧ (∀ y ∈ xs, Itm K H y) ∧ someB ws xs = false) ∨ NoLst K H v
def spSr (K : PySem.W.Frag) (C CB Pt : Addr) : Sp := fun vs H Q E => ∃ (x : Addr) (v : V) (ws ds : List Str) (tb : List (List Str)) (ls : List Str) (m : Nat), vs = [.ref x, v] ∧ DeskOb K C H x ws ds tb ls ∧ DkIs m ws ds tb ls ∧ m ≤ 9 ∧ TabsN (sureT Pt) H ∧
  ((∃ (a : Addr) (zs : List Str), v = .ref a ∧ SqL K H a (zs.map V.str) ∧ 1 ≤ zs.length ∧ zs.length ≤ ws.length ∧ zs.Nodup ∧ (∀ z ∈ zs, z ∈ ws) ∧ ∀ u G, ExtN H G → TabsN (sureT Pt) G → SrOut (nxt ws ds tb) (look ws ls) ds zs H G u → Q u G) ∨ (NotSome K H ws v ∧ BadAt H CB E v))
abbrev nSr : List Str := ["desk", "standings", "numbers", "moves", "led_lots", "start", "standing"]
theorem scSr : FnScope nSr ["desk", "standings"] (defScope (top 34)) := ⟨rfl, rfl, rfl, by decide +kernel, rfl, by decide +kernel, by decide +kernel⟩
theorem free_M : ∀ y ∈ (C8.fnScope stM).names, y.2 = .free → (defScope (top 34)).names.lookup y.1 = some .cell ∨ (defScope (top 34)).names.lookup y.1 = some .free := by decide +kernel
theorem free_Lm : ∀ y ∈ lScope.names, y.2 = .free → (defScope (top 34)).names.lookup y.1 = some .cell ∨ (defScope (top 34)).names.lookup y.1 = some .free := by decide +kernel
section
variable {P : Program} {w : World} {K : PySem.W.Frag} {mg : Str → Option Value} {base : Heap} {f c C CB Pt fR fS fL fM fV fC fA pD gD : Addr} {dR dS dL dM dV0 dC dA dD : FuncData} {dV kV doc pm ct oc : Value} {an od : Option Addr} {osl : Array (Option Value)}
theorem ok_sr (lk : K.lookup f = some ⟨oc, od, .func (PySem.W.fnOf "sure_row" "sure_row" (defArgs (top 34)) (defBody (top 34)) (defScope (top 34)) dV kV doc pm an (.ref c) ct), osl⟩) (hcd : PySem.W.codeIn K (.ref c) "sure_row" = true) (TB : TabB base mg c Pt)
    (ml : mg "len" = none) (mT : mg "tuple" = none) (mS : mg "sorted" = none) (hC : Cls K C) (PD : PropOf K C "deeds" pD gD) (GD : FnOk P w K mg base CX0 1 gD dD nSelf (spDds K C)) (bD_ : Binds K dD nSelf [])
    (FR : FnP K "shortest_row" (top 15) fR dR) (gR : mg "shortest_row" = some (.ref fR)) (FS : FnP K "spread" (top 14) fS dS) (gS : mg "spread" = some (.ref fS))
    (GL : FnOk P w K mg base CX0 4 fL dL nDo (spLots K C)) (FL : FnP K "desk_lots" (top 30) fL dL) (gL : mg "desk_lots" = some (.ref fL)) (GM : FnOk P w K mg base CX0 3 fM dM ["desk"] (spMv K C)) (FM : FnP K "desk_moves" (top 27) fM dM) (gM : mg "desk_moves" = some (.ref fM))
    (GV : FnOk P w K mg base CX0 1 fV dV0 ["lots", "moves"] spLm) (FV : FnP K "lot_moves" (top 19) fV dV0) (gV : mg "lot_moves" = some (.ref fV)) (GC : FnOk P w K mg base (L2.CX P w) 4 fC dC nCk (spCk K C CB)) (FC : FnP K "check_standings" (top 32) fC dC) (gC : mg "check_standings" = some (.ref fC))
    (GA : FnOk P w K mg base CX0 1 fA dA ["lots", "moves", "deed"] spLa) (FA : FnP K "led_all" (top 35) fA dA) (gA : mg "led_all" = some (.ref fA)) :
    FnOk P w K mg base (L2.CX P w) 6 f (PySem.W.fnOf "sure_row" "sure_row" (defArgs (top 34)) (defBody (top 34)) (defScope (top 34)) dV kV doc pm an (.ref c) ct) ["desk", "standings"] (spSr K C CB Pt) := by
  refine fn_of (CX := L2.CX P w) (N := nSr) lk hcd scSr (fun vs H Q E h => ?_) fun A outer s H vs Q E hr h => ?_
  · obtain ⟨x, v, ws, ds, tb, ls, m, rfl, _⟩ := h
    rfl
  · have hr4 := hr.mono (show 4 ≤ 5 by decide)
    have hr3 := hr.mono (show 3 ≤ 5 by decide)
    have hr1 := hr.mono (show 1 ≤ 5 by decide)
    refine ⟨_, pss_cons (ps_expr (by exact (pe_call GC hr4 rfl gC FC.kp (bCk FC) .nil (passes_call (takes_of rfl rfl rfl rfl) (fun _ _ _ _ h => h)) (pa_cons (pv 0) (pa_cons (pv 1) pa_nil)))))
      (PSs.nox (pss_cons (ps_set (i := 2) scSr.nd rfl (.inr rfl) (by exact (pe_call GL hr4 rfl gL FL.kp (bDo FL) .nil pass0 (pa_cons (pv 0) pa_nil))))
      (pss_cons (ps_set (i := 3) scSr.nd rfl (.inr rfl) (by exact (pe_call GV hr1 rfl gV FV.kp (bLm FV) .nil pass0 (pa_cons (pv 2) (pa_cons (by exact (pe_call GM hr3 rfl gM FM.kp (bMv FM) .nil pass0 (pa_cons (pv 0) pa_nil))) pa_nil)))))
      (pss_cons (ps_ndefS (st := stM) (T := sureT Pt) (nm := nmS) (i := 4) rfl TB rfl (List.mem_singleton.mpr rfl) (by show nmS _ _ = ("sure_row" : Str) ++ ".<locals>." ++ "led_lots"; decide +kernel) (fun p hp _ => by rw [List.mem_singleton.mp hp]) free_M rfl rfl rfl scSr.nd rfl (.inl rfl) (.inr rfl))
      (pss_cons (ps_set (i := 5) scSr.nd rfl (.inl rfl) (by exact (pe_callTy call_tupO rfl mT PyProof.Rows.boot_tuple (pa_cons (by exact (pe_callB (cr_sortedSet rfl) rfl mS boot_sorted (pa_cons (by exact (pe_scX (Wy := wayI) (own := [("standing", 6)]) (g := gName 6) (tt := tYes) (te := tDGet (tVar 2) (tVar 6)) rfl scSr.nd (pi_list (pv 1))
        (blkOk_by (N := nSr) (sc := defScope (top 34)) (by decide +kernel)) (fun _ _ _ _ _ => pg_name (i := 6) scSr.nd rfl (Or.inl rfl)) (fun _ _ _ _ _ => pts_nil) (fun _ _ _ _ _ => by exact (pe_dget (hu_of hr) (by exact (pv 2)) (by exact (pv 6)) (fun _ _ => rfl))))) pa_nil))) pa_nil))))
      (pss_one (ps_ret (by exact (pe_short2 (k := 3) (mkM := fun f c => FnO f (mkM _ c)) (mkF := fun f c => LamO f (("sure_row" : Str) ++ ".<locals>." ++ "<lambda>") lArgs lBody lScope _ c) (jsM := [0, 3]) (jsF := []) FR gR FS gS ml rfl hr (by decide) (fun ok => Caps.made ok free_M (by decide +kernel) rfl) (fun ok => Caps.made (scope := lScope) (fr := []) ok free_Lm (fun y h => nomatch h) rfl)
        (fun f c => cal_nok (ok_ll hC PD GD bD_ GA FA gA)) (fun f c => ok_lf ml)
        (pa_cons (pv 5) (pa_cons (pv 4) (pa_cons (by exact (pe_lamN (params := lArgs) (body := lBody) (scope := lScope) (T := sureT Pt) (nm := nmS) TB rfl (List.mem_singleton.mpr rfl) (by show nmS _ _ = ("sure_row" : Str) ++ ".<locals>." ++ "<lambda>"; decide +kernel) (fun p hp _ => by rw [List.mem_singleton.mp hp]) rfl free_Lm)) pa_nil)))))))))))), ?_⟩
    obtain ⟨x, v, ws, ds, tb, ls, m, rfl, ob, is, m9, hT, h⟩ := h
    have w9 : ws.length ≤ 9 := Nat.le_trans is.most m9
    refine ⟨_, rfl, _, rfl, x, v, ws, ds, tb, ls, rfl, ob, w9, ?_⟩
    rcases h with ⟨a, zs, rfl, hs, z1, zl, znd, zsub, q⟩ | ⟨hv, q⟩
    · have ne : zs ≠ [] := fun e => by
        rw [e] at z1
        exact absurd z1 (by decide)
      refine .inl ⟨a, zs.map V.str, rfl, hs, by rw [List.length_map]; omega, fun y hy => ?_, fun _ G m0 => ?_, fun e => ?_⟩
      · obtain ⟨z, hz, rfl⟩ := List.mem_map.mp hy
        have := (is.word z (zsub z hz)).2.1
        exact .inl ⟨z, rfl, by omega⟩
      · have cl : ∀ z ∈ ws, ∀ d ∈ ds, nxt ws ds tb z d ∈ ws := fun z hz d hd => by
          obtain ⟨_, _, _, _, _, _, _, _, _, pr⟩ := ob
          obtain ⟨_, _, _, h⟩ := ob_step pr is hd hz
          exact h
        refine ⟨_, rfl, x, ws, ds, tb, ls, m, rfl, ob.sm m0, is, m9, fun nq nu G1 m1 nnq enq al => ?_⟩
        have cong := cong_of cl al
        have m01 := m0.trans m1
        refine ⟨_, rfl, _, rfl, x, ws, ds, tb, ls, m, rfl, ob.sm m01, is, m9, fun mo bs G2 m2 nmo mv => ⟨nq, mo, ws, ds, bs, nxt ws ds tb, nu, rfl, m2 _ _ enq, mv, is.nd, cl, cong, fun mq G3 m3 nmq lm => ?_⟩⟩
        have mA := m01.trans (m2.trans m3)
        have enq := m3 _ _ (m2 _ _ enq)
        refine ⟨TabsN.ext hT mA, fun f1 c1 H4 e4 T4 n4 s4 k4 => ?_⟩
        have eA : ExtN H H4 := (ExtN.of mA).trans e4
        have enq4 := e4 _ _ enq (fun _ z => nomatch z)
        have lm4 := lm.ext e4
        have hs4 := SqL.ext hs eA
        have ob4 := ob.ext eA
        clear mA m0 m1 m2 m3 m01 e4 lm mv enq
        refine ⟨_, rfl, a, rfl, ⟨_, hs4⟩, fun D nD => ?_⟩
        refine sc_ints (ks := zs.map fun z => ((nu z : Nat) : Int)) (walk_list (xs := zs.map V.str)) nD (fun _ => rfl) (by rw [List.length_map, List.length_map]) (by rw [List.length_map]; omega) (fun H2 m => SqL.sm hs4 m) (fun j y k H2 Q2 ey ek m5 q2 => ?_) (fun H5 S n5 m5 eD mem le => ?_)
        · obtain ⟨z, ez, rfl⟩ : ∃ z, zs[j]? = some z ∧ y = .str z := by
            rw [List.getElem?_map] at ey
            cases e : zs[j]? with
            | none =>
              rw [e] at ey
              cases ey
            | some d =>
              rw [e] at ey
              exact ⟨d, rfl, (Option.some.inj ey).symm⟩
          rw [List.getElem?_map, ez] at ek
          have ek := Option.some.inj ek
          subst ek
          exact ⟨_, rfl, _, rfl, nq, .int ((nu z : Nat) : Int), rfl, .inl ⟨_, .inr z, .inl (m5 _ _ enq4), rfl, (num_at (zsub z (List.mem_of_getElem? ez))).symm⟩, q2⟩
        · rw [List.length_map] at le
          refine ⟨D, S, n5, rfl, eD, by omega, fun ms l up mm _ nl => ⟨l, _, rfl, upd_same, fun t0 nt0 => ?_⟩⟩
          have e : ms = srt (zs.map fun z => ((nu z : Nat) : Int)) := srt_eq up fun k => (mm k).trans (mem k)
          subst e
          have m6 := m5.trans ((Sm.new (o := .lst ((srt (zs.map fun z => ((nu z : Nat) : Int))).map V.int)) nl).trans (Sm.new (o := .tup ((srt (zs.map fun z => ((nu z : Nat) : Int))).map V.int)) nt0))
          have et0 := upd_same (H := upd H5 l (.lst ((srt (zs.map fun z => ((nu z : Nat) : Int))).map V.int))) (a := t0) (o := .tup ((srt (zs.map fun z => ((nu z : Nat) : Int))).map V.int))
          generalize upd (upd H5 l (.lst ((srt (zs.map fun z => ((nu z : Nat) : Int))).map V.int))) t0 (.tup ((srt (zs.map fun z => ((nu z : Nat) : Int))).map V.int)) = H6 at m6 et0 ⊢
          refine ⟨_, rfl, _, rfl, TabsN.ext T4 m6, fun f2 c2 H7 e7 T7 n7 s7 k7 => ?_⟩
          have e47 : ExtN H4 H7 := (ExtN.of m6).trans e7
          have eB := eA.trans e47
          have lm7 := lm4.ext e47
          have ob7 := ob4.ext e47
          have et7 := e7 _ _ et0 (fun _ z => nomatch z)
          have s47 : Std2 H7 f1 (FnO f1 (mkM _ c1)) c1 (("sure_row" : Str) ++ ".<locals>." ++ "led_lots") := ⟨e47 _ _ s4 (fun _ z => nomatch z), e47 _ _ k4 (fun _ z => nomatch z)⟩
          have rise := srt_up (ws.map fun z => ((nu z : Nat) : Int))
          have inL : ∀ {k : St2}, k ∈ (subs (srt (ws.map fun z => ((nu z : Nat) : Int)))).map stN → ∃ ns : List Int, k = stN ns ∧ ns.length ≤ 9 ∧ ∀ n ∈ ns, ∃ z ∈ ws, n = ((nu z : Nat) : Int) := fun {k} hk => by
            obtain ⟨ns, hn, rfl⟩ := List.mem_map.mp hk
            have h1 := subs_le hn
            have h2 := srt_len (ws.map fun z => ((nu z : Nat) : Int))
            rw [List.length_map] at h2
            refine ⟨ns, rfl, by omega, fun n hn2 => ?_⟩
            obtain ⟨z, hz, e⟩ := List.mem_map.mp (mem_srt.mp (subs_in hn n hn2))
            exact ⟨z, hz, e.symm⟩
          have toL : ∀ {l : List Int}, (∀ n ∈ l, ∃ z ∈ ws, n = ((nu z : Nat) : Int)) → stN (srt l) ∈ (subs (srt (ws.map fun z => ((nu z : Nat) : Int)))).map stN := fun {l} hl => List.mem_map.mpr ⟨srt l, in_subs rise (srt_up l) fun k hk => by
            obtain ⟨z, hz, rfl⟩ := hl k (mem_srt.mp hk)
            exact mem_srt.mpr (List.mem_map.mpr ⟨z, hz, rfl⟩), rfl⟩
          refine ⟨t0, f1, f2, c1, c2, stAt nu (nxt ws ds tb) zs [], mvS ws ds nu (nxt ws ds tb), fdS, (subs (srt (ws.map fun z => ((nu z : Nat) : Int)))).map stN, rfl, s47, ⟨s7, k7⟩, ⟨fun t k G Q m8 hk ht q => ?_, fun t k G Q m8 hk ht q => ?_, fun k hk e he => ?_, ?_⟩, ?_, ?_, fun u G m8 out => q u G (eB.trans (ExtN.of m8)) (TabsN.ext T7 m8) (srOut_of cl al zsub ne out eB)⟩
          · exact ⟨t, k, rfl, rfl, ht, q G (Sm.refl _)⟩
          · obtain ⟨ns, rfl, n9, hn⟩ := inL hk
            exact ⟨x, mq, t, ns, ws, ds, tb, ls, nu, nxt ws ds tb, rfl, rfl, ob7.sm m8, is.rows, is.dmost, lm7.sm m8, by rw [ht, stN_V], n9, hn, cong, q⟩
          · obtain ⟨ns, rfl, n9, hn⟩ := inL hk
            obtain ⟨d, hd, rfl⟩ := List.mem_map.mp (show e ∈ ds.map fun d => ((V.str d, stN (srt (((stN ns).map unk).map (mvL ws nu (nxt ws ds tb) d)))) : V × St2) from he)
            refine toL fun n h => ?_
            obtain ⟨n2, h2, rfl⟩ := List.mem_map.mp h
            rw [unk_st] at h2
            obtain ⟨z, hz, rfl⟩ := hn n2 h2
            exact ⟨_, cl z hz d hd, mvL_at cong hz hd⟩
          · rw [List.length_map, subs_len]
            have h2 := srt_len (ws.map fun z => ((nu z : Nat) : Int))
            rw [List.length_map] at h2
            have h3 : 2 ^ (srt (ws.map fun z => ((nu z : Nat) : Int))).length ≤ 2 ^ 9 := Nat.pow_le_pow_right (by decide) (by omega)
            have h4 : 2 ^ 9 = 512 := by decide
            omega
          · unfold stAt
            rw [stN_V]
            exact et7
          · exact toL fun n h => by
              obtain ⟨z, hz, rfl⟩ := List.mem_map.mp h
              exact ⟨z, zsub z hz, rfl⟩
      · rw [some_of z1 zl znd zsub] at e
        cases e
    · rcases hv with ⟨a, xs, rfl, hs, xl, hi, e0⟩ | nl
      · exact .inl ⟨a, xs, rfl, hs, xl, hi, (fun e => by rw [e0] at e; cases e), fun _ d G m nd ed => q d G m nd ed⟩
      · exact .inr ⟨nl, fun d G m nd ed => q d G m nd ed⟩
end
end Dk
set_option Elab.async false
set_option linter.all false
set_option maxRecDepth 100000
set_option maxHeartbeats 8000000
/-! ### rising lists of texts -/
namespace SrtT
open PySem PySem.Spec PyProof.Rows
def ltS (a b : Str) : Bool := ltCps a.cps.toList b.cps.toList
theorem cps_ir : ∀ a : List Nat, ltCps a a = false
  | [] => rfl
  | a :: r => by
    unfold ltCps
    rw [cps_ir r]
    simp
theorem cps_tr : ∀ a b c : List Nat, ltCps a b = true → ltCps b c = true → ltCps a c = true
  | [], [], _, h, _ => by simp [ltCps] at h
  | [], _ :: _, [], _, h => by simp [ltCps] at h
  | [], _ :: _, _ :: _, _, _ => rfl
  | _ :: _, [], _, h, _ => by simp [ltCps] at h
  | _ :: _, _ :: _, [], _, h => by simp [ltCps] at h
  | a :: r, b :: s, c :: t, h1, h2 => by
    unfold ltCps at h1 h2 ⊢
    rw [Bool.or_eq_true, Bool.and_eq_true, decide_eq_true_iff, beq_iff_eq] at h1 h2 ⊢
    rcases h1 with h1 | ⟨e1, h1⟩ <;> rcases h2 with h2 | ⟨e2, h2⟩
    · exact .inl (Nat.lt_trans h1 h2)
    · exact .inl (e2 ▸ h1)
    · exact .inl (e1 ▸ h2)
    · exact .inr ⟨e1.trans e2, cps_tr r s t h1 h2⟩
theorem cps_tri : ∀ a b : List Nat, ltCps a b = true ∨ a = b ∨ ltCps b a = true
  | [], [] => .inr (.inl rfl)
  | [], _ :: _ => .inl rfl
  | _ :: _, [] => .inr (.inr rfl)
  | a :: r, b :: s => by
    unfold ltCps
    rw [Bool.or_eq_true, Bool.and_eq_true, decide_eq_true_iff, beq_iff_eq, Bool.or_eq_true, Bool.and_eq_true, decide_eq_true_iff, beq_iff_eq]
    rcases Nat.lt_trichotomy a b with h | h | h
    · exact .inl (.inl h)
    · rcases cps_tri r s with q | q | q
      · exact .inl (.inr ⟨h, q⟩)
      · exact .inr (.inl (by rw [h, q]))
      · exact .inr (.inr (.inr ⟨h.symm, q⟩))
    · exact .inr (.inr (.inl h))
theorem ir (a : Str) : ltS a a = false := cps_ir _
theorem tr {a b c : Str} (h1 : ltS a b = true) (h2 : ltS b c = true) : ltS a c = true := cps_tr _ _ _ h1 h2
theorem tri (a b : Str) : ltS a b = true ∨ a = b ∨ ltS b a = true := by
  rcases cps_tri a.cps.toList b.cps.toList with h | h | h
  · exact .inl h
  · refine .inr (.inl ?_)
    obtain ⟨x⟩ := a
    obtain ⟨y⟩ := b
    congr 1
    exact Array.toList_inj.mp h
  · exact .inr (.inr h)
theorem asym {a b : Str} (h1 : ltS a b = true) (h2 : ltS b a = true) : False := by
  have := tr h1 h2
  rw [ir] at this
  cases this
abbrev Up (l : List Str) : Prop := l.Pairwise fun a b => ltS a b = true
def ins (k : Str) : List Str → List Str
  | [] => [k]
  | x :: l => if ltS k x = true then k :: x :: l else if k = x then x :: l else x :: ins k l
def srt (l : List Str) : List Str := l.foldr ins []
theorem mem_ins {k i : Str} : ∀ {l : List Str}, i ∈ ins k l ↔ i = k ∨ i ∈ l
  | [] => by simp [ins]
  | x :: l => by
    unfold ins
    split
    · simp
    · split
      · rename_i h
        subst h
        simp
      · rw [List.mem_cons, mem_ins, List.mem_cons]
        exact ⟨fun h => h.elim (fun e => .inr (.inl e)) fun h => h.elim .inl fun h => .inr (.inr h), fun h => h.elim (fun e => .inr (.inl e)) fun h => h.elim .inl fun h => .inr (.inr h)⟩
theorem ins_up {k : Str} : ∀ {l : List Str}, Up l → Up (ins k l)
  | [], _ => by simp [ins]
  | x :: l, h => by
    obtain ⟨h1, h2⟩ := List.pairwise_cons.mp h
    unfold ins
    split
    · rename_i c
      refine List.pairwise_cons.mpr ⟨fun y hy => ?_, h⟩
      rcases List.mem_cons.mp hy with e | hy
      · rw [e]
        exact c
      · exact tr c (h1 y hy)
    · split
      · exact h
      · rename_i c1 c2
        refine List.pairwise_cons.mpr ⟨fun y hy => ?_, ins_up h2⟩
        rcases mem_ins.mp hy with e | hy
        · rw [e]
          rcases tri k x with z | z | z
          · exact absurd z c1
          · exact absurd z c2
          · exact z
        · exact h1 y hy
theorem mem_srt {i : Str} : ∀ {l : List Str}, i ∈ srt l ↔ i ∈ l
  | [] => by simp [srt]
  | x :: l => by
    show i ∈ ins x (srt l) ↔ _
    rw [mem_ins, mem_srt, List.mem_cons]
theorem srt_up : ∀ l : List Str, Up (srt l)
  | [] => List.Pairwise.nil
  | x :: l => ins_up (srt_up l)
theorem uniq : ∀ {l m : List Str}, Up l → Up m → (∀ k, k ∈ l ↔ k ∈ m) → l = m
  | [], [], _, _, _ => rfl
  | [], b :: m, _, _, h => absurd ((h b).mpr List.mem_cons_self) (by simp)
  | a :: l, [], _, _, h => absurd ((h a).mp List.mem_cons_self) (by simp)
  | a :: l, b :: m, h1, h2, h => by
    obtain ⟨l1, l2⟩ := List.pairwise_cons.mp h1
    obtain ⟨m1, m2⟩ := List.pairwise_cons.mp h2
    have ab : a = b := by
      rcases List.mem_cons.mp ((h a).mp List.mem_cons_self) with e | ha
      · exact e
      · rcases List.mem_cons.mp ((h b).mpr List.mem_cons_self) with e | hb
        · exact e.symm
        · exact (asym (m1 a ha) (l1 b hb)).elim
    subst ab
    have no : ∀ {k : Str}, ltS a k = true → k ≠ a := fun {k} q e => by
      rw [e, ir] at q
      cases q
    refine congrArg _ (uniq l2 m2 fun k => ⟨fun hk => ?_, fun hk => ?_⟩)
    · rcases List.mem_cons.mp ((h k).mp (List.mem_cons_of_mem _ hk)) with e | z
      · exact absurd e (no (l1 k hk))
      · exact z
    · rcases List.mem_cons.mp ((h k).mpr (List.mem_cons_of_mem _ hk)) with e | z
      · exact absurd e (no (m1 k hk))
      · exact z
theorem srt_ext {l m : List Str} (e : ∀ k, k ∈ l ↔ k ∈ m) : srt l = srt m := uniq (srt_up l) (srt_up m) fun k => by rw [mem_srt, mem_srt, e]
theorem in_subs : ∀ {l m : List Str}, Up l → Up m → (∀ k ∈ m, k ∈ l) → m ∈ Srt.subs l
  | _, [], _, _, _ => Srt.nil_subs _
  | [], b :: m, _, _, h => absurd (h b List.mem_cons_self) (by simp)
  | a :: l, b :: m, h1, h2, h => by
    obtain ⟨l1, l2⟩ := List.pairwise_cons.mp h1
    obtain ⟨m1, m2⟩ := List.pairwise_cons.mp h2
    unfold Srt.subs
    rcases List.mem_cons.mp (h b List.mem_cons_self) with e | hb
    · subst e
      refine List.mem_append_right _ (List.mem_map.mpr ⟨m, in_subs l2 m2 fun k hk => ?_, rfl⟩)
      rcases List.mem_cons.mp (h k (List.mem_cons_of_mem _ hk)) with e | z
      · have q := m1 k hk
        rw [e, ir] at q
        cases q
      · exact z
    · refine List.mem_append_left _ (in_subs l2 h2 fun k hk => ?_)
      rcases List.mem_cons.mp (h k hk) with e | z
      · have q := l1 b hb
        rcases List.mem_cons.mp hk with e2 | z2
        · rw [← e2, e, ir] at q
          cases q
        · rw [e] at z2
          exact (asym q (m1 a z2)).elim
      · exact z
theorem ins_len {k : Str} : ∀ {l : List Str}, (ins k l).length ≤ l.length + 1
  | [] => Nat.le_refl _
  | x :: l => by
    unfold ins
    split
    · simp
    · split
      · simp
      · rw [List.length_cons, List.length_cons]
        exact Nat.succ_le_succ ins_len
theorem srt_len : ∀ l : List Str, (srt l).length ≤ l.length
  | [] => Nat.le_refl _
  | x :: l => Nat.le_trans ins_len (Nat.succ_le_succ (srt_len l))
theorem le_tr {a b c : Str} (h1 : ltS b a = false) (h2 : ltS c b = false) : ltS c a = false := by
  cases h : ltS c a with
  | false => rfl
  | true =>
    rcases tri b c with q | q | q
    · rw [tr q h] at h1
      cases h1
    · rw [q, h] at h1
      cases h1
    · rw [q] at h2
      cases h2
theorem rise_all : ∀ (l : List Str) (p : Str), risingS p l = true → (p :: l).Pairwise fun a b => ltS b a = false
  | [], p, _ => List.pairwise_singleton _ _
  | x :: l, p, h => by
    unfold risingS at h
    rw [Bool.and_eq_true, Bool.not_eq_true'] at h
    have ih := rise_all l x h.2
    refine List.pairwise_cons.mpr ⟨fun y hy => ?_, ih⟩
    rcases List.mem_cons.mp hy with e | hy
    · rw [e]
      exact h.1
    · exact le_tr h.1 ((List.pairwise_cons.mp ih).1 y hy)
theorem up_of {l : List Str} (h : sortedS l = true) (nd : l.Nodup) : Up l := by
  have w : l.Pairwise fun a b => ltS b a = false := by
    cases l with
    | nil => exact List.Pairwise.nil
    | cons x l => exact rise_all l x h
  refine List.Pairwise.imp₂ (fun a b h1 h2 => ?_) w nd
  rcases tri a b with q | q | q
  · exact q
  · exact absurd q h2
  · rw [q] at h1
    cases h1
theorem srt_of {l m : List Str} (h : sortedS l = true) (nd : l.Nodup) (e : ∀ k, k ∈ l ↔ k ∈ m) : l = srt m := uniq (up_of h nd) (srt_up m) fun k => (e k).trans mem_srt.symm
end SrtT
/-! ### a going through by rounds -/
namespace Lvl
open PySem Dk SrtT
section
variable {nx : Str → Str → Str} {lk : Str → Str} {ws ds zs : List Str}
/-- those to which a row leads -/
def st (nx : Str → Str → Str) (zs r : List Str) : List Str := srt (zs.map fun z => Ap.led nx z r)
def go (nx : Str → Str → Str) (d : Str) (L : List Str) : List Str := srt (L.map fun z => nx z d)
theorem st_next {r : List Str} {d : Str} : go nx d (st nx zs r) = st nx zs (r ++ [d]) := by
  refine srt_ext fun k => ?_
  rw [List.mem_map, List.mem_map]
  constructor
  · rintro ⟨a, ha, rfl⟩
    obtain ⟨z, hz, rfl⟩ := List.mem_map.mp (mem_srt.mp ha)
    exact ⟨z, hz, led_snoc⟩
  · rintro ⟨z, hz, rfl⟩
    exact ⟨_, mem_srt.mpr (List.mem_map.mpr ⟨z, hz, rfl⟩), led_snoc.symm⟩
theorem st_more {r r2 : List Str} (e : st nx zs r = st nx zs r2) : ∀ q : List Str, st nx zs (r ++ q) = st nx zs (r2 ++ q) := by
  refine DkSet.rev_ind (by rw [List.append_nil, List.append_nil]; exact e) fun q d ih => ?_
  rw [← List.append_assoc, ← List.append_assoc, ← st_next, ← st_next, ih]
theorem sure_st {r : List Str} : Sure nx lk ds zs r ↔ ∀ a ∈ st nx zs r, ∀ b ∈ st nx zs r, ∀ k, ¬ Ap.Sep nx lk ds a b k := by
  constructor
  · intro h a ha b hb
    obtain ⟨z, hz, rfl⟩ := List.mem_map.mp (mem_srt.mp ha)
    obtain ⟨y, hy, rfl⟩ := List.mem_map.mp (mem_srt.mp hb)
    exact h z hz y hy
  · exact fun h z hz y hy => h _ (mem_srt.mpr (List.mem_map.mpr ⟨z, hz, rfl⟩)) _ (mem_srt.mpr (List.mem_map.mpr ⟨y, hy, rfl⟩))
theorem sure_same {r r2 : List Str} (e : st nx zs r = st nx zs r2) : Sure nx lk ds zs r ↔ Sure nx lk ds zs r2 := by rw [sure_st, sure_st, e]
theorem st_in (cl : ∀ z ∈ ws, ∀ d ∈ ds, nx z d ∈ ws) (sub : ∀ z ∈ zs, z ∈ ws) {r : List Str} (hr : ∀ d ∈ r, d ∈ ds) : ∀ a ∈ st nx zs r, a ∈ ws := fun a ha => by
  obtain ⟨z, hz, rfl⟩ := List.mem_map.mp (mem_srt.mp ha)
  exact led_in cl (sub z hz) hr
theorem st_dom (cl : ∀ z ∈ ws, ∀ d ∈ ds, nx z d ∈ ws) (sub : ∀ z ∈ zs, z ∈ ws) {r : List Str} (hr : ∀ d ∈ r, d ∈ ds) : st nx zs r ∈ Srt.subs (srt ws) := in_subs (srt_up _) (srt_up _) fun k hk => mem_srt.mpr (st_in cl sub hr k hk)
/-- a shorter row leads to the same -/
def Low (nx : Str → Str → Str) (ds zs : List Str) (n : Nat) (r : List Str) : Prop := ∃ r2 : List Str, (∀ d ∈ r2, d ∈ ds) ∧ r2.length < n ∧ st nx zs r2 = st nx zs r
/-- where a round begins -/
structure Rnd (nx : Str → Str → Str) (lk : Str → Str) (ds zs : List Str) (n : Nat) (N M : List (List Str)) : Prop where
  new : ∀ L ∈ N, ∃ r : List Str, (∀ d ∈ r, d ∈ ds) ∧ r.length = n ∧ L = st nx zs r
  met : ∀ L ∈ M, ∃ r : List Str, (∀ d ∈ r, d ∈ ds) ∧ r.length ≤ n ∧ L = st nx zs r
  all : ∀ r : List Str, (∀ d ∈ r, d ∈ ds) → r.length ≤ n → st nx zs r ∈ M
  un : ∀ r : List Str, (∀ d ∈ r, d ∈ ds) → r.length < n → ¬ Sure nx lk ds zs r
  low : ∀ r : List Str, (∀ d ∈ r, d ∈ ds) → r.length = n → st nx zs r ∈ N ∨ Low nx ds zs n r
theorem Rnd.start : Rnd nx lk ds zs 0 [st nx zs []] [st nx zs []] := by
  have one : ∀ L ∈ [st nx zs []], ∃ r : List Str, (∀ d ∈ r, d ∈ ds) ∧ r.length = 0 ∧ L = st nx zs r := fun L h => ⟨[], (fun d hd => nomatch hd), rfl, List.mem_singleton.mp h⟩
  refine ⟨one, fun L h => ?_, fun r _ h => ?_, fun r _ h => absurd h (Nat.not_lt_zero _), fun r _ h => ?_⟩
  · obtain ⟨r, h1, h2, h3⟩ := one L h
    exact ⟨r, h1, by omega, h3⟩
  · rw [List.eq_nil_of_length_eq_zero (by omega : r.length = 0)]
    exact List.mem_singleton.mpr rfl
  · rw [List.eq_nil_of_length_eq_zero h]
    exact .inl (List.mem_singleton.mpr rfl)
/-- within a round: those looked at are not sure, and all to which they lead are met -/
structure Amid (nx : Str → Str → Str) (lk : Str → Str) (ds zs : List Str) (n : Nat) (N M F M2 : List (List Str)) (i : Nat) : Prop where
  far : ∀ L ∈ F, ∃ r : List Str, (∀ d ∈ r, d ∈ ds) ∧ r.length = n + 1 ∧ L = st nx zs r
  split : ∀ L, L ∈ M2 ↔ L ∈ M ∨ L ∈ F
  gone : ∀ L ∈ N.take i, (∀ d ∈ ds, go nx d L ∈ M2) ∧ ∀ r : List Str, (∀ d ∈ r, d ∈ ds) → L = st nx zs r → ¬ Sure nx lk ds zs r
theorem Amid.start {n : Nat} {N M : List (List Str)} : Amid nx lk ds zs n N M [] M 0 := ⟨(fun L h => by cases h), (fun L => by simp), fun L h => by simp at h⟩
theorem Amid.end_ {n : Nat} {N M F M2 : List (List Str)} (R : Rnd nx lk ds zs n N M) (A : Amid nx lk ds zs n N M F M2 N.length) : Rnd nx lk ds zs (n + 1) F M2 := by
  have gone : ∀ L ∈ N, _ := fun L h => A.gone L (by rw [List.take_length]; exact h)
  have un : ∀ r : List Str, (∀ d ∈ r, d ∈ ds) → r.length < n + 1 → ¬ Sure nx lk ds zs r := fun r hr h s => by
    by_cases c : r.length < n
    · exact R.un r hr c s
    · rcases R.low r hr (by omega) with q | ⟨r2, h2, l2, e2⟩
      · exact (gone _ q).2 r hr rfl s
      · exact R.un r2 h2 l2 ((sure_same e2).mpr s)
  have all : ∀ r : List Str, (∀ d ∈ r, d ∈ ds) → r.length ≤ n + 1 → st nx zs r ∈ M2 := fun r hr h => by
    by_cases c : r.length ≤ n
    · exact (A.split _).mpr (.inl (R.all r hr c))
    · obtain ⟨p, d, rfl⟩ : ∃ p d, r = p ++ [d] := by
        have : r ≠ [] := fun e => by rw [e] at c; exact c (Nat.zero_le _)
        exact ⟨_, _, (List.dropLast_concat_getLast this).symm⟩
      rw [List.length_append, List.length_singleton] at h c
      have hp : ∀ x ∈ p, x ∈ ds := fun x hx => hr x (List.mem_append_left _ hx)
      have hd := hr d (List.mem_append_right _ (List.mem_singleton.mpr rfl))
      rcases R.low p hp (by omega) with q | ⟨r2, h2, l2, e2⟩
      · rw [← st_next]
        exact (gone _ q).1 d hd
      · rw [← st_more e2 [d]]
        refine (A.split _).mpr (.inl (R.all _ (fun x hx => ?_) (by rw [List.length_append, List.length_singleton]; omega)))
        rcases List.mem_append.mp hx with a | a
        · exact h2 x a
        · rw [List.mem_singleton.mp a]
          exact hd
  refine ⟨A.far, fun L h => ?_, all, un, fun r hr h => ?_⟩
  · rcases (A.split L).mp h with q | q
    · obtain ⟨r, h1, h2, h3⟩ := R.met L q
      exact ⟨r, h1, by omega, h3⟩
    · obtain ⟨r, h1, h2, h3⟩ := A.far L q
      exact ⟨r, h1, by omega, h3⟩
  · rcases (A.split _).mp (all r hr (by omega)) with q | q
    · obtain ⟨r2, h1, h2, h3⟩ := R.met _ q
      exact .inr ⟨r2, h1, by omega, h3.symm⟩
    · exact .inl q
/-- where none are new, no row is sure -/
theorem Rnd.never {n : Nat} {M : List (List Str)} (R : Rnd nx lk ds zs n [] M) : ∀ (k : Nat) (r : List Str), r.length ≤ k → (∀ d ∈ r, d ∈ ds) → ¬ Sure nx lk ds zs r
  | 0, r, h, hr => by
    by_cases c : r.length < n
    · exact R.un r hr c
    · rcases R.low r hr (by omega) with q | ⟨r2, h2, l2, e2⟩
      · exact nomatch q
      · omega
  | k + 1, r, h, hr => by
    by_cases c : r.length < n
    · exact R.un r hr c
    · have ht : ∀ d ∈ r.take n, d ∈ ds := fun d hd => hr d (List.mem_of_mem_take hd)
      have hq : ∀ d ∈ r.drop n, d ∈ ds := fun d hd => hr d (List.mem_of_mem_drop hd)
      rcases R.low (r.take n) ht (by rw [List.length_take]; omega) with q | ⟨r2, h2, l2, e2⟩
      · exact nomatch q
      · have e := st_more e2 (r.drop n)
        rw [List.take_append_drop] at e
        have ih := Rnd.never R k (r2 ++ r.drop n) (by rw [List.length_append, List.length_drop]; omega) fun d hd => by
          rcases List.mem_append.mp hd with a | a
          · exact h2 d a
          · exact hq d a
        exact fun s => ih ((sure_same e).mpr s)
end
end Lvl
set_option Elab.async false
set_option linter.all false
set_option maxRecDepth 100000
set_option maxHeartbeats 8000000
namespace Dk
open PySem PySem.Spec PyProof.Rows L2 Er LamX NdefX ScX Bf Lvl
/-! ### _law_many -/
def kt (L : List Str) : St2 := L.map fun z => .inr z
theorem kt_V (L : List Str) : (kt L).map kV = L.map V.str := by
  unfold kt
  rw [List.map_map]
  rfl
theorem kt_inj : ∀ {L M : List Str}, kt L = kt M → L = M
  | [], [], _ => rfl
  | [], _ :: _, h => by cases h
  | _ :: _, [], h => by cases h
  | a :: L, b :: M, h => by
    have h1 : (.inr a : Key) = .inr b := (List.cons.inj h).1
    rw [Sum.inr.inj h1, kt_inj (List.cons.inj h).2]
/-- what stands while it goes: those met, those of this round, those of the next -/
structure MaAt (G : Hp) (me nw fu : Addr) (ts : List Addr) (N F M : List (List Str)) : Prop where
  met : ∃ kvs : List (St2 × V), G me = some (.dT kvs) ∧ kvs.length ≤ M.length ∧ ∀ L : List Str, (valV kvs (kt L)).isSome = true ↔ L ∈ M
  nw_ : G nw = some (.lst (ts.map V.ref))
  new : Paired (fun t (L : List Str) => G t = some (.tup (L.map V.str))) ts N
  fu_ : ∃ fs : List Addr, G fu = some (.lst (fs.map V.ref)) ∧ Paired (fun t (L : List Str) => G t = some (.tup (L.map V.str))) fs F
  ne : nw ≠ fu
theorem MaAt.sm {G G2 : Hp} {me nw fu : Addr} {ts : List Addr} {N F M : List (List Str)} (h : MaAt G me nw fu ts N F M) (m : Sm G G2) : MaAt G2 me nw fu ts N F M := by
  obtain ⟨⟨kvs, h1, h2, h3⟩, h4, h5, ⟨fs, h6, h7⟩, h8⟩ := h
  exact ⟨⟨kvs, m _ _ h1, h2, h3⟩, m _ _ h4, pair_mono h5 fun t _ L e => m _ _ e, ⟨fs, m _ _ h6, pair_mono h7 fun t _ L e => m _ _ e⟩, h8⟩
theorem MaAt.dk {G : Hp} {me nw fu d : Addr} {ts : List Addr} {N F M : List (List Str)} {o o0 : HO} (h : MaAt G me nw fu ts N F M) (e : G d = some o0) (n1 : ∀ k, o0 ≠ .dT k) (n2 : ∀ k, o0 ≠ .lst k) (n3 : ∀ k, o0 ≠ .tup k) : MaAt (upd G d o) me nw fu ts N F M := by
  obtain ⟨⟨kvs, h1, h2, h3⟩, h4, h5, ⟨fs, h6, h7⟩, h8⟩ := h
  have keep : ∀ {c : Addr} {u : HO}, G c = some u → u ≠ o0 → upd G d o c = some u := fun {c u} q n => by
    rw [upd_ne (ne_of q e n)]
    exact q
  exact ⟨⟨kvs, keep h1 (fun z => n1 _ z.symm), h2, h3⟩, keep h4 (fun z => n2 _ z.symm), pair_mono h5 fun t _ L q => keep q (fun z => n3 _ z.symm), ⟨fs, keep h6 (fun z => n2 _ z.symm), pair_mono h7 fun t _ L q => keep q (fun z => n3 _ z.symm)⟩, h8⟩
theorem MaAt.add {G : Hp} {me nw fu t2 : Addr} {ts fs : List Addr} {N F M : List (List Str)} {L : List Str} {kvs : List (St2 × V)} {v : V} (h1 : G me = some (.dT kvs)) (h2 : kvs.length ≤ M.length) (h3 : ∀ L : List Str, (valV kvs (kt L)).isSome = true ↔ L ∈ M) (h4 : G nw = some (.lst (ts.map V.ref)))
    (h5 : Paired (fun t (L : List Str) => G t = some (.tup (L.map V.str))) ts N) (h6 : G fu = some (.lst (fs.map V.ref))) (h7 : Paired (fun t (L : List Str) => G t = some (.tup (L.map V.str))) fs F) (h8 : nw ≠ fu) (et : G t2 = some (.tup (L.map V.str))) :
    MaAt (upd (upd G me (.dT (putK kvs (kt L) v))) fu (.lst ((fs ++ [t2]).map V.ref))) me nw fu ts N (F ++ [L]) (M ++ [L]) := by
  have mf : me ≠ fu := ne_of h1 h6 (fun z => nomatch z)
  have tup : ∀ {c : Addr} {xs : List V}, G c = some (.tup xs) → upd (upd G me (.dT (putK kvs (kt L) v))) fu (.lst ((fs ++ [t2]).map V.ref)) c = some (.tup xs) := fun {c xs} q => by
    rw [upd_ne (ne_of q h6 (fun z => nomatch z)), upd_ne (ne_of q h1 (fun z => nomatch z))]
    exact q
  refine ⟨⟨putK kvs (kt L) v, by rw [upd_ne mf, upd_same], ?_, fun L2 => ?_⟩, ?_, pair_mono h5 fun t _ L q => tup q, ⟨fs ++ [t2], upd_same, pair_more (pair_mono h7 fun t _ L q => tup q) (tup et)⟩, h8⟩
  · have := length_putK kvs (kt L) v
    rw [List.length_append]
    show _ ≤ M.length + 1
    omega
  · rw [has_putK, h3, List.mem_append, List.mem_singleton]
    exact ⟨fun q => q.elim (fun e => .inr (kt_inj e)) .inl, fun q => q.elim .inr fun e => .inl (by rw [e])⟩
  · rw [upd_ne h8, upd_ne (ne_of h4 h1 (fun z => nomatch z))]
    exact h4
/-- what it tells -/
def MaOut (nx : Str → Str → Str) (lk : Str → Str) (ds zs : List Str) (v : V) : Prop := (v = .non ∧ ∀ r : List Str, (∀ d ∈ r, d ∈ ds) → ¬ Sure nx lk ds zs r) ∨
  ∃ n : Nat, v = .int (n : Nat) ∧ (∃ r : List Str, (∀ d ∈ r, d ∈ ds) ∧ r.length = n ∧ Sure nx lk ds zs r) ∧ ∀ r : List Str, (∀ d ∈ r, d ∈ ds) → Sure nx lk ds zs r → n ≤ r.length
def spMa (K : PySem.W.Frag) : Sp := fun vs H Q _ => ∃ (u nm dd sg fa a : Addr) (ws ds : List Str) (as : List Addr) (tb : List (List Str)) (ls : List Str) (m : Nat) (far : List (St2 × V)) (zs : List Str), vs = [.ref u, .ref fa, .ref a] ∧ DkAt H u nm dd sg ws ds as tb ls ∧ DkIs m ws ds tb ls ∧ m ≤ 9 ∧
  H fa = some (.dT far) ∧ FarAll (nxt ws ds tb) (look ws ls) ws ds far ∧ SqL K H a (zs.map V.str) ∧ 1 ≤ zs.length ∧ zs.length ≤ 9 ∧ zs.Nodup ∧ (∀ z ∈ zs, z ∈ ws) ∧ ∀ v G, Sm H G → MaOut (nxt ws ds tb) (look ws ls) ds zs v → Q v G
abbrev nMa : List Str := ["_law_desk_here", "_law_far", "_law_some", "_law_outset", "_law_newest", "_law_met", "_law_many_here", "_law_further", "_law_lot", "_law_leads_here", "_law_later", "_law_one"]
theorem scMa : FnScope nMa ["_law_desk_here", "_law_far", "_law_some"] (defScope (top 53)) := ⟨rfl, rfl, rfl, by decide +kernel, rfl, by decide +kernel, by decide +kernel⟩
theorem dp_tups {K : PySem.W.Frag} {G : Hp} {ts : List Addr} {ps : List (List Str)} (h : Paired (fun t (L : List Str) => G t = some (.tup (L.map V.str))) ts ps) (hw : ∀ L ∈ ps, ∀ z ∈ L, IsWord z) : ∃ ds, DpAll K G (ts.map V.ref) ds ∧ PyData.canLayAll0 ds = true ∧ PyData.depthAll ds ≤ 2 ∧ ds.length = ps.length := by
  induction h with
  | nil => exact ⟨[], .nil, by simp [PyData.canLayAll0], by simp [PyData.depthAll], rfl⟩
  | @cons t L ts ps e _ ih =>
    obtain ⟨ds, i1, i2, i3, i4⟩ := ih fun M hM => hw M (List.mem_cons_of_mem _ hM)
    have l := lay_strs (hw L List.mem_cons_self)
    refine ⟨.tuple (L.map PyData.str) :: ds, .cons (.tup (.inl (.inl e)) (dp_strs L)) i1, ?_, ?_, by simp [i4]⟩
    · simp only [PyData.canLayAll0, PyData.canLay0, l.1, i2, Bool.and_true]
    · have := l.2
      simp only [PyData.depthAll, PyData.depth]
      omega
section
variable {nx : Str → Str → Str} {lk : Str → Str} {ws ds : List Str} {far : List (St2 × V)}
theorem far_iff (F : FarAll nx lk ws ds far) {z y : Str} (hz : z ∈ ws) (hy : y ∈ ws) : (valV far (pr z y)).isSome = true ↔ ∃ k, Ap.Sep nx lk ds z y k := by
  constructor
  · intro h
    refine Classical.byContradiction fun n => ?_
    rw [(F z hz y hy).2 fun k s => n ⟨k, s⟩] at h
    cases h
  · rintro ⟨k, s⟩
    obtain ⟨j, _, mn⟩ := Ap.min_some s
    rw [(F z hz y hy).1 j mn]
    rfl
end
section
variable {P : Program} {w : World} {K : PySem.W.Frag} {mg : Str → Option Value} {base : Heap} {f : Addr} {fd : FuncData}
theorem bMa (F : FnP K "_law_many" (top 53) f fd) : Binds K fd ["_law_desk_here", "_law_far", "_law_some"] [] := F.bindsN fun _ _ _ _ _ _ us hl => match us, hl with
  | [_, _, _], _ => rfl
theorem ok_ma (F : FnP K "_law_many" (top 53) f fd) (mT : mg "tuple" = none) (mS : mg "sorted" = none) (mset : mg "set" = none) : FnOk P w K mg base CX0 1 f fd ["_law_desk_here", "_law_far", "_law_some"] (spMa K) := by
  refine F.ok (CX := CX0) scMa (fun vs H Q E h => ?_) (fun cdv A outer s H vs Q E hr h => ?_)
  · obtain ⟨u, nm, dd, sg, fa, a, ws, ds, as, tb, ls, m, far, zs, rfl, _⟩ := h
    rfl
  · refine ⟨_, PSs.nox (pss_cons (ps_set (i := 3) scMa.nd rfl (.inl rfl) (by exact (pe_callTy call_tupO rfl mT PyProof.Rows.boot_tuple (pa_cons (by exact (pe_callB cr_sortedS rfl mS boot_sorted (pa_cons (pv 2) pa_nil))) pa_nil))))
      (pss_cons (ps_par3 (i := 4) (j := 5) (l := 6) rfl scMa.nd rfl rfl rfl (by decide) (by decide) (by decide) rfl rfl rfl (pa_cons (pe_lst (pa_cons (pv 3) pa_nil)) (pa_cons pe_dnewT (pa_cons pe_int pa_nil))) (by rfl))
      (pss_cons (ps_dput (hu_of hr) (pv 5) (pv 3) pe_bl (by rfl))
      (pss_cons (ps_while PassesOwn.never (pt_cmpR (op_neD hr.units) (pv 4) (pe_lst pa_nil) (nomark _))
        (pss_cons (ps_set (i := 7) scMa.nd rfl (.inl rfl) (pe_lst pa_nil))
        (pss_cons (ps_for PassesOwn.never rfl (pi_list (pv 4)) (pg_name (i := 8) scMa.nd rfl (.inr rfl))
          (pss_cons (ps_if (pt_cmpR (op_eqD hr.units) (by exact (pe_lc (own := [("_law_one", 11)]) (g := gName 11) (tt := tB (tDIn (tTup (tCons (tOp (rIxT K) (tVar 8) (tC (.int 0))) (tCons (tVar 11) tNil))) (tVar 1))) (te := tVar 11) rfl scMa.nd (pi_seq (pv 8))
              (blkOk_by (N := nMa) (sc := defScope (top 53)) (by decide +kernel)) (fun _ _ _ _ _ => pg_name (i := 11) scMa.nd rfl (Or.inl rfl))
              (fun _ _ _ _ _ => pts_one (by exact (pt_cmp (pc_din (hu_of hr) (by exact (pe_tup (pa_cons (by exact (pe_ix ix_tup (by exact (pv 8)) pe_int (fun _ _ => rfl))) (pa_cons (by exact (pv 11)) pa_nil)))) (by exact (pv 1))) (by rfl)))) (fun _ _ _ _ _ => by exact (pv 11)))) (pe_lst pa_nil) (nomark _)) (pss_one (ps_ret (pv 6))) pss_nil)
          (pss_one (ps_lock (ps_for PassesOwn.never rfl (pi_values (by exact (pe_ix ix_tup (pv 0) pe_int (fun _ _ => rfl)))) (pg_name (i := 9) scMa.nd rfl (.inr rfl))
            (pss_cons (ps_set (i := 10) scMa.nd rfl (.inl rfl) (by exact (pe_callTy call_tupO rfl mT PyProof.Rows.boot_tuple (pa_cons (by exact (TxSet.pe_sortSet rfl rfl mS rfl mset (by exact (pe_lc (own := [("_law_one", 11)]) (g := gName 11) (tt := tYes) (te := tDGet (tVar 9) (tVar 11)) rfl scMa.nd (pi_seq (pv 8))
                (blkOk_by (N := nMa) (sc := defScope (top 53)) (by decide +kernel)) (fun _ _ _ _ _ => pg_name (i := 11) scMa.nd rfl (Or.inl rfl)) (fun _ _ _ _ _ => pts_nil) (fun _ _ _ _ _ => by exact (pe_dget (hu_of hr) (by exact (pv 9)) (by exact (pv 11)) (fun _ _ => rfl))))))) pa_nil))))
            (pss_one (ps_if (pt_cmp (pc_dnotin (hu_of hr) (pv 10) (pv 5)))
              (pss_cons (ps_dput (hu_of hr) (pv 5) (pv 10) pe_bl (by rfl))
              (pss_one (ps_expr (pe_bm PySem.F.plainAttrs_list PySem.F.slot_list_append PySem.F.type_list_append mt_append (pv 7) (pa_cons (pv 10) pa_nil))))) pss_nil))))))))
        (pss_one (ps_par (i := 4) (j := 6) rfl scMa.nd rfl rfl (by decide) rfl rfl (pa_cons (pv 7) (pa_cons (pe_op op_add (pv 6) pe_int) pa_nil)) (by rfl))))))
      (pss_one (ps_ret pe_non)))))), ?_⟩
    obtain ⟨u, nm, dd, sg, fa, a, ws, ds, as, tb, ls, m, far, zs, rfl, dk, is, m9, hfa, FA, ha, z1, z9, znd, zsub, q⟩ := h
    have cl : ∀ z ∈ ws, ∀ d ∈ ds, nxt ws ds tb z d ∈ ws := fun z hz d hd => by
      obtain ⟨_, _, _, h⟩ := dk_step dk is hd hz
      exact h
    have prd := dk_rows dk is
    obtain ⟨hu, hnm, hdd, hsg, prw⟩ := id dk
    have al : as.length = ds.length := by rw [paired_len prw, is.rows]
    have dkl : (dkv ds (as.map V.ref)).length = ds.length := dkv_len (by rw [List.length_map, al])
    have w9 : ws.length ≤ 9 := Nat.le_trans is.most m9
    have d4 := is.dmost
    have sz : ∀ n : Nat, n ≤ 1000 → n ≤ sizeLine := fun n z => by
      rw [sizeLine_eq]
      omega
    have udd : u ≠ dd := ne_of hu hdd (fun z => nomatch z)
    have zne : zs ≠ [] := fun e => by
      rw [e] at z1
      exact absurd z1 (by decide)
    have rowsF : ∀ {j : Nat} {d : Str} {aj : Addr}, ds[j]? = some d → as[j]? = some aj → aj ≠ dd ∧ ∃ kv : List (Key × V), H aj = some (.dK kv) ∧ ∀ z ∈ ws, valV kv (.inr z) = some (.str (nxt ws ds tb z d)) := fun {j d aj} ed ea => by
      obtain ⟨vs, et, ad, hj⟩ := pair_at prd ea
      exact ⟨ad, _, hj, fun z hz => row_get is.dnd ed et (is.row vs (List.mem_of_getElem? et)).1 hz⟩
    generalize nxt ws ds tb = nx at FA cl q rowsF
    have stne : ∀ r : List Str, st nx zs r ≠ [] := fun r e => by
      obtain ⟨z, hz⟩ := List.exists_mem_of_ne_nil zs zne
      have := SrtT.mem_srt.mpr (List.mem_map.mpr ⟨z, hz, rfl⟩ : Ap.led nx z r ∈ zs.map fun z => Ap.led nx z r)
      unfold Lvl.st at e
      rw [e] at this
      cases this
    have stlen : ∀ r : List Str, (st nx zs r).length ≤ 9 := fun r => by
      have := SrtT.srt_len (zs.map fun z => Ap.led nx z r)
      rw [List.length_map] at this
      exact Nat.le_trans this z9
    have domL : (Srt.subs (SrtT.srt ws)).length ≤ 512 := by
      rw [Srt.subs_len]
      have h1 := SrtT.srt_len ws
      have h2 : 2 ^ (SrtT.srt ws).length ≤ 2 ^ 9 := Nat.pow_le_pow_right (by decide) (by omega)
      have h3 : 2 ^ 9 = 512 := by decide
      omega
    have few : ∀ {M : List (List Str)}, M.Nodup → (∀ L ∈ M, ∃ r : List Str, (∀ d ∈ r, d ∈ ds) ∧ L = st nx zs r) → M.length ≤ 512 := fun {M} nd h => Nat.le_trans (nodup_leG nd fun L hL => by
      obtain ⟨r, hr, rfl⟩ := h L hL
      exact st_dom cl zsub hr) domL
    -- the first of them
    refine ⟨_, rfl, a, zs, rfl, ha, by omega, fun ys l pm so nl => ⟨l, _, rfl, upd_same, fun t0 nt0 => ?_⟩⟩
    have ey : ys = st nx zs [] := by
      unfold Lvl.st
      refine SrtT.srt_of so (pm.nodup_iff.mpr znd) fun k => ?_
      rw [pm.mem_iff, List.mem_map]
      exact ⟨fun h => ⟨k, h, rfl⟩, fun ⟨z, hz, e⟩ => e ▸ hz⟩
    subst ey
    have m0 : Sm H (upd (upd H l (.lst ((st nx zs []).map V.str))) t0 (.tup ((st nx zs []).map V.str))) := (Sm.new nl).trans (Sm.new nt0)
    have et0 : upd (upd H l (.lst ((st nx zs []).map V.str))) t0 (.tup ((st nx zs []).map V.str)) t0 = some (.tup ((st nx zs []).map V.str)) := upd_same
    generalize upd (upd H l (.lst ((st nx zs []).map V.str))) t0 (.tup ((st nx zs []).map V.str)) = G0 at m0 et0 ⊢
    refine ⟨_, rfl, sz _ (by show 1 ≤ 1000; decide), fun nw nnw => fun me nme => ⟨_, _, _, rfl, ?_⟩⟩
    have m1 := Sm.new (o := .lst [.ref t0]) nnw
    have m2 := Sm.new (o := .dT []) nme
    have emeA := upd_same (H := upd G0 nw (.lst [.ref t0])) (a := me) (o := .dT [])
    have enw := m2 _ _ (upd_same (H := G0) (a := nw) (o := .lst [.ref t0]))
    have et1 := m2 _ _ (m1 _ _ et0)
    have nmeH : H me = none := none_of_sm (m0.trans m1) nme
    have mA := m0.trans (m1.trans m2)
    generalize upd (upd G0 nw (.lst [.ref t0])) me (.dT []) = G1 at emeA enw et1 mA ⊢
    refine ⟨_, rfl, _, rfl, me, _, rfl, DPut.t (k := kt (st nx zs [])) emeA (by rw [kt_V]; exact et1) (by show 0 < sizeLine; rw [sizeLine_eq]; decide), ?_⟩
    have upM : ∀ {G : Hp} {o : HO}, Sm H G → Sm H (upd G me o) := fun {G o} m b u e => by
      rw [upd_ne (ne_of_none e nmeH)]
      exact m _ _ e
    refine ⟨fun mu σ G => ∃ (n : Nat) (nw : Addr) (ts : List Addr) (N M : List (List Str)) (kvs : List (St2 × V)) (v7 v8 v9 v10 : Option V), σ = [some (.ref u), some (.ref fa), some (.ref a), some (.ref t0), some (.ref nw), some (.ref me), some (.int (n : Nat)), v7, v8, v9, v10, none] ∧ mu = 2 * (513 - M.length) + (if N = [] then 0 else 1) ∧
        Rnd nx (look ws ls) ds zs n N M ∧ M.Nodup ∧ G me = some (.dT kvs) ∧ kvs.length ≤ M.length ∧ (∀ L : List Str, (valV kvs (kt L)).isSome = true ↔ L ∈ M) ∧ G nw = some (.lst (ts.map V.ref)) ∧ Paired (fun t (L : List Str) => G t = some (.tup (L.map V.str))) ts N ∧ Sm H G,
      ⟨_, 0, nw, [t0], [st nx zs []], [st nx zs []], putK [] (kt (st nx zs [])) (.bl true), none, none, none, none, rfl, rfl, Rnd.start, by simp, upd_same, Nat.le_refl _, fun L => ?_, ?_, .cons ?_ .nil, upM mA⟩, ?_⟩
    · rw [has_putK, List.mem_singleton, valV_nil]
      exact ⟨fun h => h.elim kt_inj (fun z => nomatch z), fun e => .inl (by rw [e])⟩
    · rw [upd_ne (ne_of enw emeA (fun z => nomatch z))]
      exact enw
    · rw [upd_ne (ne_of et1 emeA (fun z => nomatch z))]
      exact et1
    clear mA m0 m1 m2 emeA enw et1 et0 nme nnw nl nt0 so pm nw
    rintro mu σ G ⟨n, nw, ts, N, M, kvs, v7, v8, v9, v10, rfl, rfl, R, Mnd, eme, kl, kin, enw, pn, mG⟩
    have Mst : ∀ L ∈ M, ∃ r : List Str, (∀ d ∈ r, d ∈ ds) ∧ L = st nx zs r := fun L h => by
      obtain ⟨r, h1, _, h2⟩ := R.met L h
      exact ⟨r, h1, h2⟩
    have Nst : ∀ L ∈ N, ∃ r : List Str, (∀ d ∈ r, d ∈ ds) ∧ r.length = n ∧ L = st nx zs r := R.new
    have Nw : ∀ L ∈ N, ∀ z ∈ L, IsWord z := fun L h z hz => by
      obtain ⟨r, h1, _, rfl⟩ := Nst L h
      exact is.word z (st_in cl zsub h1 z hz)
    have M512 := few Mnd Mst
    refine ⟨_, rfl, Nat.zero_le _, fun e1 ne1 => ?_⟩
    have me1 := Sm.new (o := .lst []) ne1
    obtain ⟨dd1, p1, p2, p3, p4⟩ := dp_tups (K := K) (pair_mono pn fun t _ L e => me1 _ _ e) Nw
    refine ⟨.list dd1, .list [], .lst (.inl (.inl (me1 _ _ enw))) p1, .lst (.inl (.inl upd_same)) .nil, shaped_two p2 p3, shaped_nil, _, rfl, ?_⟩
    rw [eqv_nil]
    have eme := me1 _ _ eme
    have enw := me1 _ _ enw
    have pn := pair_mono pn fun t _ L e => me1 _ _ e
    have mG := mG.trans me1
    generalize upd G e1 (.lst []) = G2 at eme enw pn mG ⊢
    clear me1 ne1 p1 p2 p3
    cases hN : N with
    | nil =>
      have z : dd1 = [] := List.length_eq_zero_iff.mp (by rw [p4, hN]; rfl)
      rw [z]
      refine iteF (q .non G2 mG (.inl ⟨rfl, fun r hr => ?_⟩))
      rw [hN] at R
      exact R.never r.length r (Nat.le_refl _) hr
    | cons N0 Nr =>
      have z : dd1.isEmpty = false := by
        cases dd1 with
        | nil =>
          rw [hN] at p4
          cases p4
        | cons _ _ => rfl
      rw [z]
      clear z p4
      have hNne : N ≠ [] := fun e => by
        rw [e] at hN
        cases hN
      rw [← hN]
      rw [if_neg hNne]
      clear hN N0 Nr
      refine iteT ⟨fun σ' G' => ∃ (fu : Addr) (fs : List Addr) (F M2 : List (List Str)) (kvs : List (St2 × V)) (v8 v9 v10 : Option V), σ' = [some (.ref u), some (.ref fa), some (.ref a), some (.ref t0), some (.ref fu), some (.ref me), some (.int ((n + 1 : Nat) : Nat)), some (.ref fu), v8, v9, v10, none] ∧
          Rnd nx (look ws ls) ds zs (n + 1) F M2 ∧ M2.Nodup ∧ M.length + F.length = M2.length ∧ G' me = some (.dT kvs) ∧ kvs.length ≤ M2.length ∧ (∀ L : List Str, (valV kvs (kt L)).isSome = true ↔ L ∈ M2) ∧ G' fu = some (.lst (fs.map V.ref)) ∧ Paired (fun t (L : List Str) => G' t = some (.tup (L.map V.str))) fs F ∧ Sm H G', ?_, ?_⟩
      · rintro σ' G' ⟨fu, fs, F, M2, kvs2, w8, w9', w10, rfl, R2, nd2, len2, h1, h2, h3, h4, h5, h6⟩
        have M2512 := few nd2 fun L h => by
          obtain ⟨r, h1, _, h2⟩ := R2.met L h
          exact ⟨r, h1, h2⟩
        refine ⟨_, ?_, n + 1, fu, fs, F, M2, kvs2, _, w8, w9', w10, rfl, rfl, R2, nd2, h1, h2, h3, h4, h5, h6⟩
        by_cases c : F = []
        · rw [if_pos c]
          rw [c] at len2
          have : M2.length = M.length := by rw [← len2]; rfl
          omega
        · rw [if_neg c]
          have : 0 < F.length := List.length_pos_iff.mpr c
          omega
      · refine ⟨Nat.zero_le _, fun fu nfu => ?_⟩
        have mf := Sm.new (o := .lst []) nfu
        have nwf : nw ≠ fu := ne_of_none enw nfu
        have nfuH : H fu = none := none_of_sm mG nfu
        have ma0 : MaAt (upd G2 fu (.lst [])) me nw fu ts N [] M := ⟨⟨kvs, mf _ _ eme, kl, kin⟩, mf _ _ enw, pair_mono pn fun t _ L e => mf _ _ e, ⟨[], upd_same, .nil⟩, nwf⟩
        have mG := mG.trans mf
        generalize upd G2 fu (.lst []) = G3 at ma0 mG ⊢
        clear eme enw pn mf nfu kl kin
        have upF : ∀ {G : Hp} {o : HO}, Sx dd H G → Sx dd H (upd G fu o) := fun {G o} m b u n e => by
          rw [upd_ne (ne_of_none e nfuH)]
          exact m _ _ n e
        have upM2 : ∀ {G : Hp} {o : HO}, Sx dd H G → Sx dd H (upd G me o) := fun {G o} m b u n e => by
          rw [upd_ne (ne_of_none e nmeH)]
          exact m _ _ n e
        refine ⟨_, rfl, nw, rfl, ⟨_, .inl (.inl ma0.nw_)⟩, ?_⟩
        refine for_it (walk_list (xs := ts.map V.ref)) (fun i σ G => ∃ (F M2 : List (List Str)) (v8 v9 v10 : Option V), σ = [some (.ref u), some (.ref fa), some (.ref a), some (.ref t0), some (.ref nw), some (.ref me), some (.int (n : Nat)), some (.ref fu), v8, v9, v10, none] ∧
            Amid nx (look ws ls) ds zs n N M F M2 i ∧ M2.Nodup ∧ M.length + F.length = M2.length ∧ MaAt G me nw fu ts N F M2 ∧ Sm H G)
          ⟨[], M, v8, v9, v10, rfl, Amid.start, Mnd, rfl, ma0, mG⟩ (fun i σ G _ ⟨_, _, _, _, _, _, _, _, _, h, _⟩ => .inl (.inl h.nw_)) (fun i v σ G G' hi p yy => ?_) (fun σ G p => ?_)
        · obtain ⟨F, M2, w8, w9', w10, rfl, A, nd2, len2, ma, mm⟩ := p
          obtain ⟨rfl, ex⟩ := yy
          obtain ⟨t, et, rfl⟩ : ∃ a, ts[i]? = some a ∧ v = .ref a := by
            rw [List.getElem?_map] at ex
            cases e : ts[i]? with
            | none =>
              rw [e] at ex
              cases ex
            | some a =>
              rw [e] at ex
              exact ⟨a, rfl, (Option.some.inj ex).symm⟩
          obtain ⟨L, eL, ht⟩ := pair_at ma.new et
          have hL := List.mem_of_getElem? eL
          obtain ⟨r, hr, rl, eLr⟩ := Nst L hL
          have Lne : L ≠ [] := eLr ▸ stne r
          have L9 : L.length ≤ 9 := eLr ▸ stlen r
          have Lin : ∀ z ∈ L, z ∈ ws := fun z hz => st_in cl zsub hr z (eLr ▸ hz)
          obtain ⟨L0, Lr, eL0⟩ := List.exists_cons_of_ne_nil Lne
          have L0m : L0 ∈ L := by
            rw [eL0]
            exact List.mem_cons_self
          -- are they all alike
          refine ⟨_, rfl, t, L.map V.str, rfl, .inr ⟨.inl (.inl ht), fun D nD => ?_⟩⟩
          refine lc_it (walk_tup (xs := L.map V.str)) (vs := [11]) (fun j G4 => G4 D = some (.lst (((L.take j).filter fun y => (valV far (pr L0 y)).isSome).map V.str)) ∧ Sm G' G4) ⟨upd_same, Sm.new nD⟩ (fun j G4 _ p => .inl (.inl (p.2 _ _ ht))) (fun j y G4 G5 hj p yy => ?_) (fun G4 p => ?_)
          · obtain ⟨eD, m4⟩ := p
            obtain ⟨rfl, ey⟩ := yy
            obtain ⟨z, ez, rfl⟩ : ∃ z, L[j]? = some z ∧ y = .str z := by
              rw [List.getElem?_map] at ey
              cases e : L[j]? with
              | none =>
                rw [e] at ey
                cases ey
              | some d =>
                rw [e] at ey
                exact ⟨d, rfl, (Option.some.inj ey).symm⟩
            have tk : L.take (j + 1) = L.take j ++ [z] := by
              rw [List.take_add_one, ez]
              rfl
            refine ⟨rfl, _, rfl, t, _, 0, .str L0, rfl, rfl, .inl (.inl (m4 _ _ ht)), atI_nat (j := 0) (by rw [eL0]; rfl), _, rfl, sz _ (by show 2 ≤ 1000; decide), fun p np => ?_⟩
            have mp := Sm.new (o := .tup [.str L0, .str z]) np
            refine ⟨_, rfl, fa, _, rfl, DGet.t (k := pr L0 z) (mp _ _ (m4 _ _ (mm _ _ hfa))) upd_same, _, rfl, ?_⟩
            rw [tk, List.filter_append]
            cases ev : (valV far (pr L0 z)).isSome with
            | true =>
              refine iteT ⟨_, rfl, _, mp _ _ eD, ?_, ?_, fun b o e => ?_⟩
              · have h1 := List.length_filter_le (fun y => (valV far (pr L0 y)).isSome) (L.take j)
                rw [List.length_take] at h1
                rw [List.length_map, sizeLine_eq]
                omega
              · rw [upd_same, show [z].filter (fun y => (valV far (pr L0 y)).isSome) = [z] from by simp [ev], List.map_append]
                rfl
              · rw [upd_ne (ne_of_none e nD)]
                exact mp _ _ (m4 _ _ e)
            | false =>
              refine iteF ⟨?_, m4.trans mp⟩
              rw [show [z].filter (fun y => (valV far (pr L0 y)).isSome) = [] from by simp [ev], List.append_nil]
              exact mp _ _ eD
          · obtain ⟨eD, m4⟩ := p
            rw [List.length_map, List.take_length] at eD
            refine ⟨Nat.zero_le _, fun e2 ne2 => ?_⟩
            have m5 := m4.trans (Sm.new (o := .lst []) ne2)
            have eD2 := Sm.new (o := .lst []) ne2 _ _ eD
            have lay := lay_strs (ws := L.filter fun y => (valV far (pr L0 y)).isSome) fun z hz => is.word z (Lin z (List.mem_filter.mp hz).1)
            refine ⟨.list ((L.filter fun y => (valV far (pr L0 y)).isSome).map PyData.str), .list [], .lst (.inl (.inl eD2)) (dp_strs _), .lst (.inl (.inl upd_same)) .nil, shaped_of lay.1 lay.2, shaped_nil, _, rfl, ?_⟩
            rw [eqv_nil]
            have ma5 := ma.sm m5
            have mm5 := mm.trans m5
            have ht5 := m5 _ _ ht
            generalize upd G4 e2 (.lst []) = G5 at ma5 mm5 ht5 ⊢
            clear eD2 eD m5 m4 ne2 nD
            cases hf : L.filter (fun y => (valV far (pr L0 y)).isSome) with
            | nil =>
              refine iteT ⟨_, rfl, q _ G5 mm5 (.inr ⟨n, rfl, ⟨r, hr, rl, ?_⟩, fun r2 h2 s2 => ?_⟩)⟩
              · rw [sure_st, ← eLr]
                have no : ∀ y ∈ L, ∀ k, ¬ Ap.Sep nx (look ws ls) ds L0 y k := fun y hy k s => by
                  have h1 := List.filter_eq_nil_iff.mp hf y hy
                  exact h1 ((far_iff FA (Lin L0 L0m) (Lin y hy)).mpr ⟨k, s⟩)
                intro x hx y hy k s
                rcases Ap.sep_trans (x := L0) s with h | h
                · exact no x hx k (Ap.sep_symm h)
                · exact no y hy k h
              · by_cases c : r2.length < n
                · exact absurd s2 (R.un r2 h2 c)
                · omega
            | cons f0 fr =>
              refine iteF ?_
              have hf0 : f0 ∈ L ∧ (valV far (pr L0 f0)).isSome = true := by
                have : f0 ∈ L.filter (fun y => (valV far (pr L0 y)).isSome) := by
                  rw [hf]
                  exact List.mem_cons_self
                exact List.mem_filter.mp this
              have unsure : ∀ r : List Str, (∀ d ∈ r, d ∈ ds) → L = st nx zs r → ¬ Sure nx (look ws ls) ds zs r := fun r _ e s => by
                obtain ⟨k, sk⟩ := (far_iff FA (Lin L0 L0m) (Lin f0 hf0.1)).mp hf0.2
                rw [sure_st, ← e] at s
                exact s L0 L0m f0 hf0.1 k sk
              have hdd5 := mm5 _ _ hdd
              refine ⟨dd, .dK (dkv ds (as.map V.ref)), hdd5, True.intro, fun od => ?_⟩
              refine ⟨_, rfl, u, _, 1, .ref dd, rfl, rfl, .inl (.inl (by rw [upd_ne udd]; exact mm5 _ _ hu)), atI_nat (j := 1) rfl, dd, od, _, rfl, upd_same, ?_⟩
              have ma6 : MaAt (upd G5 dd (.frz od (.dK (dkv ds (as.map V.ref))))) me nw fu ts N F M2 := ma5.dk hdd5 (fun _ z => nomatch z) (fun _ z => nomatch z) (fun _ z => nomatch z)
              have sx6 : Sx dd H (upd G5 dd (.frz od (.dK (dkv ds (as.map V.ref))))) := fun b o n e => by
                rw [upd_ne n]
                exact mm5 _ _ e
              have dl6 : upd G5 dd (.frz od (.dK (dkv ds (as.map V.ref)))) dd = some (.frz od (.dK (dkv ds (as.map V.ref)))) := upd_same
              have ht6 : upd G5 dd (.frz od (.dK (dkv ds (as.map V.ref)))) t = some (.tup (L.map V.str)) := by
                rw [upd_ne (ne_of ht5 hdd5 (fun z => nomatch z))]
                exact ht5
              generalize upd G5 dd (.frz od (.dK (dkv ds (as.map V.ref)))) = G6 at ma6 sx6 dl6 ht6 ⊢
              refine for_it (walk_values (kvs := dkv ds (as.map V.ref))) (fun j σ G => ∃ (F M2 : List (List Str)) (v9 v10 : Option V), σ = [some (.ref u), some (.ref fa), some (.ref a), some (.ref t0), some (.ref nw), some (.ref me), some (.int (n : Nat)), some (.ref fu), some (.ref t), v9, v10, none] ∧
                  Amid nx (look ws ls) ds zs n N M F M2 i ∧ (∀ d ∈ ds.take j, go nx d L ∈ M2) ∧ M2.Nodup ∧ M.length + F.length = M2.length ∧ MaAt G me nw fu ts N F M2 ∧ Sx dd H G ∧ G dd = some (.frz od (.dK (dkv ds (as.map V.ref)))) ∧ G t = some (.tup (L.map V.str)))
                ⟨F, M2, w9', w10, rfl, A, (fun d h => nomatch h), nd2, len2, ma6, sx6, dl6, ht6⟩ (fun j σ G _ ⟨_, _, _, _, _, _, _, _, _, _, _, h, _⟩ => h) (fun j v σ G G' hj p yy => ?_) (fun σ G p => ?_)
              · obtain ⟨F, M2, x9, x10, rfl, A, gone, nd2, len2, ma7, sx7, dl7, ht7⟩ := p
                obtain ⟨rfl, kk, ekv⟩ := yy
                obtain ⟨d, ed, _, ev⟩ := dkv_at ekv
                obtain ⟨aj, eaj, rfl⟩ : ∃ b, as[j]? = some b ∧ v = .ref b := by
                  rw [List.getElem?_map] at ev
                  cases e : as[j]? with
                  | none =>
                    rw [e] at ev
                    cases ev
                  | some b =>
                    rw [e] at ev
                    exact ⟨b, rfl, (Option.some.inj ev).symm⟩
                have hd := List.mem_of_getElem? ed
                obtain ⟨ad, kv, hkv, row⟩ := rowsF ed eaj
                have tkd : ds.take (j + 1) = ds.take j ++ [d] := by
                  rw [List.take_add_one, ed]
                  rfl
                have haj := sx7 _ _ ad hkv
                refine ⟨_, rfl, t, L.map V.str, rfl, .inr ⟨.inl (.inl ht7), fun D nD => ?_⟩⟩
                refine lc_it (walk_tup (xs := L.map V.str)) (vs := [11]) (fun i G4 => G4 D = some (.lst (((L.take i).map fun z => nx z d).map V.str)) ∧ Sm G' G4) ⟨upd_same, Sm.new nD⟩ (fun i G4 _ p => .inl (.inl (p.2 _ _ ht7))) (fun i y G4 G5 hi p yy => ?_) (fun G4 p => ?_)
                · obtain ⟨eD, m4⟩ := p
                  obtain ⟨rfl, ey⟩ := yy
                  obtain ⟨z, ez, rfl⟩ : ∃ z, L[i]? = some z ∧ y = .str z := by
                    rw [List.getElem?_map] at ey
                    cases e : L[i]? with
                    | none =>
                      rw [e] at ey
                      cases ey
                    | some d =>
                      rw [e] at ey
                      exact ⟨d, rfl, (Option.some.inj ey).symm⟩
                  have tk : L.take (i + 1) = L.take i ++ [z] := by
                    rw [List.take_add_one, ez]
                    rfl
                  have zin := Lin z (List.mem_of_getElem? ez)
                  refine ⟨rfl, ?_⟩
                  unfold tYes
                  dsimp only
                  rw [if_pos rfl]
                  refine ⟨_, rfl, _, rfl, aj, .str (nx z d), rfl, .inl ⟨_, .inr z, .inl (m4 _ _ haj), rfl, (row z zin).symm⟩, _, eD, by rw [List.length_map, List.length_map, List.length_take, sizeLine_eq]; omega, ?_, fun b o e => ?_⟩
                  · rw [upd_same, tk, List.map_append, List.map_append]
                    rfl
                  · rw [upd_ne (ne_of_none e nD)]
                    exact m4 _ _ e
                · obtain ⟨eD, m4⟩ := p
                  rw [List.length_map, List.take_length] at eD
                  refine ⟨D, L.map fun z => nx z d, rfl, .inl (.inl eD), by rw [List.length_map]; omega, fun ys p so nd mem np => ⟨p, _, rfl, upd_same, fun t2 nt2 => ?_⟩⟩
                  have ey : ys = go nx d L := SrtT.srt_of so nd mem
                  subst ey
                  have m5 := m4.trans ((Sm.new (o := .lst ((go nx d L).map V.str)) np).trans (Sm.new (o := .tup ((go nx d L).map V.str)) nt2))
                  have et2 := upd_same (H := upd G4 p (.lst ((go nx d L).map V.str))) (a := t2) (o := .tup ((go nx d L).map V.str))
                  generalize upd (upd G4 p (.lst ((go nx d L).map V.str))) t2 (.tup ((go nx d L).map V.str)) = G5 at m5 et2 ⊢
                  clear m4 eD nD np nt2 so nd mem
                  have ma8 := ma7.sm m5
                  have sx8 : Sx dd H G5 := fun b o n e => m5 _ _ (sx7 _ _ n e)
                  have dl8 := m5 _ _ dl7
                  have ht8 := m5 _ _ ht7
                  have eg : go nx d L = st nx zs (r ++ [d]) := by rw [eLr, st_next]
                  have hrd : ∀ x ∈ r ++ [d], x ∈ ds := fun x hx => by
                    rcases List.mem_append.mp hx with q | q
                    · exact hr x q
                    · rw [List.mem_singleton.mp q]
                      exact hd
                  have M2few := few nd2 fun L2 h2 => by
                    rcases (A.split L2).mp h2 with q | q
                    · exact Mst L2 q
                    · obtain ⟨r2, h1, _, h3⟩ := A.far L2 q
                      exact ⟨r2, h1, h3⟩
                  obtain ⟨⟨kvs2, h1, h2, h3⟩, h4, h5, ⟨fs, h6, h7⟩, h8⟩ := id ma8
                  refine ⟨_, rfl, _, rfl, me, _, rfl, DGet.t (k := kt (go nx d L)) h1 (by rw [kt_V]; exact et2), _, rfl, ?_⟩
                  by_cases c : go nx d L ∈ M2
                  · rw [(h3 _).mpr c]
                    refine iteF ⟨F, M2, _, _, rfl, A, fun d2 hd2 => ?_, nd2, len2, ma8, sx8, dl8, ht8⟩
                    rw [tkd] at hd2
                    rcases List.mem_append.mp hd2 with q | q
                    · exact gone d2 q
                    · rw [List.mem_singleton.mp q]
                      exact c
                  · have no : (valV kvs2 (kt (go nx d L))).isSome = false := by
                      cases z : (valV kvs2 (kt (go nx d L))).isSome with
                      | true => exact absurd ((h3 _).mp z) c
                      | false => rfl
                    rw [no]
                    have mf : me ≠ fu := ne_of h1 h6 (fun z => nomatch z)
                    have efu : upd G5 me (.dT (putK kvs2 (kt (go nx d L)) (.bl true))) fu = some (.lst (fs.map V.ref)) := by
                      rw [upd_ne (Ne.symm mf)]
                      exact h6
                    have fl : fs.length = F.length := paired_len h7
                    refine iteT ⟨_, rfl, _, rfl, me, _, rfl, DPut.t (k := kt (go nx d L)) h1 (by rw [kt_V]; exact et2) (by rw [sizeLine_eq]; omega), ?_⟩
                    refine ⟨_, rfl, .inl ⟨rfl, _, .inl (.inl efu)⟩, _, rfl, fu, _, .ref t2, rfl, rfl, efu, by rw [List.length_map, fl, sizeLine_eq]; omega, ?_⟩
                    rw [show fs.map V.ref ++ [V.ref t2] = (fs ++ [t2]).map V.ref from by rw [List.map_append]; rfl]
                    have ma9 := MaAt.add (v := .bl true) h1 h2 h3 h4 h5 h6 h7 h8 et2
                    have inl : ∀ {L2 : List Str}, L2 ∈ M2 → L2 ∈ M2 ++ [go nx d L] := fun h => List.mem_append_left _ h
                    have other : ∀ {b : Addr} {o : HO}, G5 b = some o → (∀ k, o ≠ .dT k) → (∀ k, o ≠ .lst k) → upd (upd G5 me (.dT (putK kvs2 (kt (go nx d L)) (.bl true)))) fu (.lst ((fs ++ [t2]).map V.ref)) b = some o := fun {b o} e n1 n2 => by
                      rw [upd_ne (ne_of e h6 (fun z => n2 _ z)), upd_ne (ne_of e h1 (fun z => n1 _ z))]
                      exact e
                    refine ⟨F ++ [go nx d L], M2 ++ [go nx d L], _, _, rfl, ⟨fun L2 h => ?_, fun L2 => ?_, fun L2 h => ⟨fun d2 hd2 => inl ((A.gone L2 h).1 d2 hd2), (A.gone L2 h).2⟩⟩, fun d2 hd2 => ?_, ?_, by rw [List.length_append, List.length_append]; omega, ma9, upF (upM2 sx8), other dl8 (fun _ z => nomatch z) (fun _ z => nomatch z), other ht8 (fun _ z => nomatch z) (fun _ z => nomatch z)⟩
                    · rcases List.mem_append.mp h with q | q
                      · exact A.far L2 q
                      · exact ⟨r ++ [d], hrd, by rw [List.length_append, rl]; rfl, (List.mem_singleton.mp q).trans eg⟩
                    · rw [List.mem_append, List.mem_append, A.split]
                      exact or_assoc
                    · rw [tkd] at hd2
                      rcases List.mem_append.mp hd2 with q | q
                      · exact inl (gone d2 q)
                      · rw [List.mem_singleton.mp q]
                        exact List.mem_append_right _ (List.mem_singleton.mpr rfl)
                    · refine List.nodup_append.mpr ⟨nd2, by simp, fun x hx y hy e => c ?_⟩
                      rw [← List.mem_singleton.mp hy, ← e]
                      exact hx
              · obtain ⟨F, M2, x9, x10, rfl, A, gone, nd2, len2, ma7, sx7, dl7, _⟩ := p
                rw [dkl, List.take_length] at gone
                refine ⟨dl7, F, M2, _, x9, x10, rfl, ⟨A.far, A.split, fun L2 h2 => ?_⟩, nd2, len2, ma7.dk dl7 (fun _ z => nomatch z) (fun _ z => nomatch z) (fun _ z => nomatch z), fun b o e => ?_⟩
                · rw [List.take_add_one, eL] at h2
                  rcases List.mem_append.mp h2 with h2 | h2
                  · exact A.gone L2 h2
                  · have e : L2 = L := by simpa using h2
                    rw [e]
                    exact ⟨gone, unsure⟩
                · by_cases c : b = dd
                  · rw [c, upd_same]
                    rw [c, hdd] at e
                    exact e
                  · rw [upd_ne c]
                    exact sx7 _ _ c e
        · obtain ⟨F, M2, x8, x9, x10, rfl, A, nd2, len2, ma7, mm⟩ := p
          rw [List.length_map, paired_len ma7.new] at A
          obtain ⟨⟨kvs2, h1, h2, h3⟩, _, _, ⟨fs, h4, h5⟩, _⟩ := ma7
          exact ⟨_, rfl, _, rfl, _, _, rfl, rfl, _, _, rfl, fu, fs, F, M2, kvs2, x8, x9, x10, rfl, A.end_ R, nd2, len2, h1, h2, h3, h4, h5, mm⟩
end
end Dk
set_option Elab.async false
set_option linter.all false
set_option maxRecDepth 100000
set_option maxHeartbeats 8000000
namespace Dk
open PySem PySem.Spec PyProof.Rows L2 Er LamX NdefX ScX Bf
/-! ### _law_right -/
/-- what sure_row told, as it stands -/
def RowS (nx : Str → Str → Str) (lk : Str → Str) (ds zs : List Str) (G : Hp) (v : V) : Prop := (v = .non ∧ ∀ r : List Str, (∀ d ∈ r, d ∈ ds) → ¬ Sure nx lk ds zs r) ∨
  ∃ (rr : Addr) (row : List Str), v = .ref rr ∧ G rr = some (.lst (row.map V.str)) ∧ row.length ≤ 1000 ∧ (∀ d ∈ row, d ∈ ds) ∧ Sure nx lk ds zs row ∧ ∀ r : List Str, (∀ d ∈ r, d ∈ ds) → Sure nx lk ds zs r → row.length ≤ r.length
def spRt (K : PySem.W.Frag) : Sp := fun vs H Q _ => ∃ (u nm dd sg fo a : Addr) (zs : List Str) (v1 v2 : V) (ws ds : List Str) (as : List Addr) (tb : List (List Str)) (ls : List Str) (m : Nat) (far : List (St2 × V)), vs = [.ref u, .ref fo, .ref a, v1, v2] ∧ DkAt H u nm dd sg ws ds as tb ls ∧ DkIs m ws ds tb ls ∧
  H fo = some (.dT far) ∧ FarAll (nxt ws ds tb) (look ws ls) ws ds far ∧ SqL K H a (zs.map V.str) ∧ 1 ≤ zs.length ∧ zs.length ≤ 9 ∧ (∀ z ∈ zs, z ∈ ws) ∧ MaOut (nxt ws ds tb) (look ws ls) ds zs v1 ∧ RowS (nxt ws ds tb) (look ws ls) ds zs H v2 ∧ ∀ G, Sm H G → Q (.bl true) G
abbrev nRt : List Str := ["_law_desk_here", "_law_far", "_law_some", "_law_due", "_law_row", "_law_ends", "_law_deed", "_law_one"]
theorem scRt : FnScope nRt ["_law_desk_here", "_law_far", "_law_some", "_law_due", "_law_row"] (defScope (top 54)) := ⟨rfl, rfl, rfl, by decide +kernel, rfl, by decide +kernel, by decide +kernel⟩
theorem DkAt.sm {G G' : Hp} {u nm dd sg : Addr} {ws ds : List Str} {as : List Addr} {tb : List (List Str)} {ls : List Str} (h : DkAt G u nm dd sg ws ds as tb ls) (m : Sm G G') : DkAt G' u nm dd sg ws ds as tb ls := by
  obtain ⟨h1, h2, h3, h4, h5⟩ := h
  exact ⟨m _ _ h1, m _ _ h2, m _ _ h3, m _ _ h4, pair_mono h5 fun a _ vs e => m _ _ e⟩
section
variable {P : Program} {w : World} {K : PySem.W.Frag} {mg : Str → Option Value} {base : Heap} {f fL : Addr} {fd dL : FuncData}
theorem bLL (F : FnP K "_law_lead" (top 49) f fd) : Binds K fd ["_law_desk_here", "_law_standing", "_law_row"] [] := F.bindsN fun _ _ _ _ _ _ us hl => match us, hl with
  | [_, _, _], _ => rfl
theorem bRt (F : FnP K "_law_right" (top 54) f fd) : Binds K fd ["_law_desk_here", "_law_far", "_law_some", "_law_due", "_law_row"] [] := F.bindsN fun _ _ _ _ _ _ us hl => match us, hl with
  | [_, _, _, _, _], _ => rfl
theorem ok_rt (F : FnP K "_law_right" (top 54) f fd) (mi : mg "isinstance" = none) (ms : mg "str" = none) (mL : mg "list" = none) (ml : mg "len" = none)
    (GL : FnOk P w K mg base CX0 1 fL dL ["_law_desk_here", "_law_standing", "_law_row"] (spLeadL K)) (FL : FnP K "_law_lead" (top 49) fL dL) (gL : mg "_law_lead" = some (.ref fL)) : FnOk P w K mg base CX0 2 f fd ["_law_desk_here", "_law_far", "_law_some", "_law_due", "_law_row"] (spRt K) := by
  refine F.ok (CX := CX0) scRt (fun vs H Q E h => ?_) (fun cdv A outer s H vs Q E hr h => ?_)
  · obtain ⟨u, nm, dd, sg, fo, a, zs, v1, v2, ws, ds, as, tb, ls, m, far, rfl, _⟩ := h
    rfl
  · refine ⟨_, PSs.nox (pss_cons (ps_if (PW.pt (pw_or (pt_cmpR op_isN (pv 3) pe_non (nomark _)) (pw_or1 (pt_cmpR op_isN (pv 4) pe_non (nomark _))))) (pss_one (ps_ret (by exact (pe_and (by exact (pe_cmpR op_isN (pv 3) pe_non (nomark _))) (pe_one (by exact (pe_cmpR op_isN (pv 4) pe_non (nomark _)))))))) pss_nil)
      (pss_cons (ps_if (PW.pt (pw_or (pt_not (pt_val (by exact (pe_callB call_isi rfl mi PyProof.Rows.boot_isinstance (pa_cons (pv 4) (pa_cons (pe_bltn (v := .ty "list") rfl mL (by decide +kernel) rfl) pa_nil))))))
          (pw_or1 (pt_cmpR op_ne (pe_callB call_len rfl ml boot_len (pa_cons (pv 4) pa_nil)) (pv 3) (nomark _))))) (pss_one (ps_ret pe_bl)) pss_nil)
      (pss_cons (ps_if (pt_cmpR (op_neD hr.units) (by exact (pe_lc (own := [("_law_deed", 6)]) (g := gName 6) (tt := tOr (tNot (tB (tCB (rIsi K) (tCons (tVar 6) (tCons (tC (.ty "str")) tNil))))) (tB (tDNotIn (tVar 6) (tOp (rIxT K) (tVar 0) (tC (.int 1)))))) (te := tVar 6) rfl scRt.nd (pi_list (pv 4))
          (blkOk_by (N := nRt) (sc := defScope (top 54)) (by decide +kernel)) (fun _ _ _ _ _ => pg_name (i := 6) scRt.nd rfl (Or.inl rfl))
          (fun _ _ _ _ _ => pts_one (PW.pt (pw_or (pt_not (pt_val (by exact (pe_callB call_isi rfl mi PyProof.Rows.boot_isinstance (pa_cons (by exact (pv 6)) (pa_cons (pe_bltn (v := .ty "str") rfl ms (by decide +kernel) rfl) pa_nil)))))) (pw_or1 (by exact (pt_cmp (pc_dnotin (hu_of hr) (by exact (pv 6)) (by exact (pe_ix ix_tup (by exact (pv 0)) pe_int (fun _ _ => rfl)))) (by rfl)))))))
          (fun _ _ _ _ _ => by exact (pv 6)))) (pe_lst pa_nil) (nomark _)) (pss_one (ps_ret pe_bl)) pss_nil)
      (pss_cons (ps_set (i := 5) scRt.nd rfl (.inr rfl) (by exact (pe_lc (own := [("_law_one", 7)]) (g := gName 7) (tt := tYes) (te := tCall (spLeadL K) [] E0 (tCons (tVar 0) (tCons (tVar 7) (tCons (tVar 4) tNil)))) rfl scRt.nd (pi_list (pv 2))
          (blkOk_by (N := nRt) (sc := defScope (top 54)) (by decide +kernel)) (fun _ _ _ _ _ => pg_name (i := 7) scRt.nd rfl (Or.inl rfl)) (fun _ _ _ _ _ => pts_nil) (fun _ _ _ _ _ => by exact (pe_call GL hr rfl gL FL.kp (bLL FL) .nil pass0 (pa_cons (by exact (pv 0)) (pa_cons (by exact (pv 7)) (pa_cons (by exact (pv 4)) pa_nil))))))))
      (pss_one (ps_ret (by exact (pe_cmpR (op_eqD hr.units) (by exact (pe_lc (own := [("_law_one", 7)]) (g := gName 7) (tt := tB (tDIn (tTup (tCons (tOp (rIxL K) (tVar 5) (tC (.int 0))) (tCons (tVar 7) tNil))) (tVar 1))) (te := tVar 7) rfl scRt.nd (pi_list (pv 5))
          (blkOk_by (N := nRt) (sc := defScope (top 54)) (by decide +kernel)) (fun _ _ _ _ _ => pg_name (i := 7) scRt.nd rfl (Or.inl rfl))
          (fun _ _ _ _ _ => pts_one (by exact (pt_cmp (pc_din (hu_of hr) (by exact (pe_tup (pa_cons (by exact (pe_ix ix_list (by exact (pv 5)) pe_int (fun _ _ => rfl))) (pa_cons (by exact (pv 7)) pa_nil)))) (by exact (pv 1))) (by rfl)))) (fun _ _ _ _ _ => by exact (pv 7)))) (pe_lst pa_nil) (nomark _))))))))), ?_⟩
    obtain ⟨u, nm, dd, sg, fo, a, zs, v1, v2, ws, ds, as, tb, ls, m, far, rfl, hk, is, hfo, FA, ha, z1, z9, zsub, h1, h2, q⟩ := h
    have sz : ∀ n : Nat, n ≤ 1000 → n ≤ sizeLine := fun n z => by
      rw [sizeLine_eq]
      omega
    rcases h2 with ⟨rfl, no⟩ | ⟨rr, row, rfl, er, rl, rd, sure, least⟩
    · rcases h1 with ⟨rfl, _⟩ | ⟨n, rfl, ⟨r, hr2, _, s⟩, _⟩
      · refine ⟨_, rfl, rfl, _, rfl, ?_⟩
        rw [show decide (V.non = V.non) = true from rfl]
        refine iteT (iteT ⟨_, rfl, rfl, _, rfl, ?_⟩)
        rw [show decide (V.non = V.non) = true from rfl]
        exact iteT ⟨_, rfl, rfl, q H (Sm.refl _)⟩
      · exact absurd s (no r hr2)
    · rcases h1 with ⟨rfl, no⟩ | ⟨n, rfl, ⟨r, hr2, rl2, s⟩, least2⟩
      · exact absurd sure (no row rd)
      · have nl : n = row.length := by
          have h1 := least r hr2 s
          have h2 := least2 row rd sure
          omega
        subst nl
        refine ⟨_, rfl, rfl, _, rfl, ?_⟩
        rw [show decide (V.int ((row.length : Nat) : Int) = V.non) = false from rfl]
        refine iteF ⟨_, rfl, rfl, _, rfl, ?_⟩
        rw [show decide (V.ref rr = V.non) = false from rfl]
        refine iteF ?_
        refine ⟨_, rfl, .ref rr, .ty "list", _, _, true, rfl, .ty "list", .base (.lst er), kit_ty (by decide +kernel), _, rfl, ?_⟩
        refine iteF ⟨_, rfl, .ref rr, row.length, rfl, .inl ⟨_, .inl (.inl er), by rw [List.length_map]⟩, _, rfl, rfl, _, rfl, ?_⟩
        rw [decide_eq_true rfl]
        obtain ⟨hu, hnm, hdd, hsg, pr0⟩ := id hk
        have al : as.length = ds.length := by rw [paired_len pr0, is.rows]
        refine iteF ⟨_, rfl, rr, rfl, ⟨_, .inl (.inl er)⟩, fun D nD => ?_⟩
        refine lc_list (xs := row.map V.str) (fun j G => G D = some (.lst []) ∧ Sm H G) ⟨upd_same, Sm.new nD⟩ (fun j G _ p => .inl (.inl (p.2 _ _ er))) (fun j x G ex p => ?_) (fun G p => ?_)
        · obtain ⟨eD, mG⟩ := p
          obtain ⟨d, ed, rfl⟩ : ∃ d, row[j]? = some d ∧ x = .str d := by
            rw [List.getElem?_map] at ex
            cases e : row[j]? with
            | none =>
              rw [e] at ex
              cases ex
            | some d =>
              rw [e] at ex
              exact ⟨d, rfl, (Option.some.inj ex).symm⟩
          have hd := rd d (List.mem_of_getElem? ed)
          refine ⟨rfl, _, rfl, .str d, .ty "str", _, _, true, rfl, .ty "str", .base (.str d), kit_ty (by decide +kernel), _, rfl, ?_⟩
          refine iteF ⟨_, rfl, _, rfl, u, _, 1, .ref dd, rfl, rfl, .inl (.inl (mG _ _ hu)), rfl, dd, _, rfl, .inl ⟨_, .inr d, .inl (mG _ _ hdd), rfl, rfl⟩, _, rfl, ?_⟩
          rw [dkv_has (by rw [List.length_map, al]), decide_eq_true hd]
          exact iteF ⟨eD, mG⟩
        · obtain ⟨eD, mG⟩ := p
          refine ⟨Nat.zero_le _, fun e2 ne2 => ?_⟩
          have m3 := mG.trans (Sm.new (o := .lst []) ne2)
          have eD2 := Sm.new (o := .lst []) ne2 _ _ eD
          refine ⟨.list [], .list [], .lst (.inl (.inl eD2)) .nil, .lst (.inl (.inl upd_same)) .nil, shaped_nil, shaped_nil, _, rfl, ?_⟩
          rw [eqv_nil]
          generalize upd G e2 (.lst []) = G3 at m3 ⊢
          refine iteF ⟨_, rfl, a, rfl, ⟨_, SqL.sm ha m3⟩, fun E1 nE1 => ?_⟩
          -- where they end
          refine lc_list (xs := zs.map V.str) (fun j G => G E1 = some (.lst (((zs.take j).map fun z => Ap.led (nxt ws ds tb) z row).map V.str)) ∧ Sm G3 G) ⟨upd_same, Sm.new nE1⟩ (fun j G _ p => SqL.sm ha (m3.trans p.2)) (fun j x G4 ex p => ?_) (fun G4 p => ?_)
          · obtain ⟨eE, m4⟩ := p
            obtain ⟨z, ez, rfl⟩ : ∃ d, zs[j]? = some d ∧ x = .str d := by
              rw [List.getElem?_map] at ex
              cases e : zs[j]? with
              | none =>
                rw [e] at ex
                cases ex
              | some d =>
                rw [e] at ex
                exact ⟨d, rfl, (Option.some.inj ex).symm⟩
            have tk : zs.take (j + 1) = zs.take j ++ [z] := by
              rw [List.take_add_one, ez]
              rfl
            have mA := m3.trans m4
            refine ⟨rfl, ?_⟩
            unfold tYes
            dsimp only
            rw [if_pos rfl]
            refine ⟨_, rfl, _, rfl, _, rfl, u, rr, nm, dd, sg, z, row, ws, ds, as, tb, ls, m, rfl, hk.sm mA, is, zsub z (List.mem_of_getElem? ez), .inl (.inl (mA _ _ er)), rd, fun _ => ⟨_, eE, by rw [List.length_map, List.length_map, List.length_take, sizeLine_eq]; omega, ?_, fun b o e => ?_⟩⟩
            · rw [upd_same, tk, List.map_append, List.map_append]
              rfl
            · rw [upd_ne (ne_of_none e nE1)]
              exact m4 _ _ e
          · obtain ⟨eE, m4⟩ := p
            rw [List.length_map, List.take_length] at eE
            have mA := m3.trans m4
            obtain ⟨z0, zr, ez0⟩ := List.exists_cons_of_ne_nil (show zs ≠ [] from fun e => by rw [e] at z1; exact absurd z1 (by decide))
            have z0m : z0 ∈ zs := by
              rw [ez0]
              exact List.mem_cons_self
            have cl : ∀ z ∈ ws, ∀ d ∈ ds, nxt ws ds tb z d ∈ ws := fun z hz d hd => by
              obtain ⟨_, _, _, h⟩ := dk_step hk is hd hz
              exact h
            refine ⟨_, rfl, E1, rfl, ⟨_, .inl (.inl eE)⟩, fun D2 nD2 => ?_⟩
            refine lc_list (xs := (zs.map fun z => Ap.led (nxt ws ds tb) z row).map V.str) (fun j G => G D2 = some (.lst []) ∧ Sm G4 G) ⟨upd_same, Sm.new nD2⟩ (fun j G _ p => .inl (.inl (p.2 _ _ eE))) (fun j x G5 ex p => ?_) (fun G5 p => ?_)
            · obtain ⟨eD5, m5⟩ := p
              obtain ⟨z, ez, rfl⟩ : ∃ z, zs[j]? = some z ∧ x = .str (Ap.led (nxt ws ds tb) z row) := by
                rw [List.getElem?_map, List.getElem?_map] at ex
                cases e : zs[j]? with
                | none =>
                  rw [e] at ex
                  cases ex
                | some d =>
                  rw [e] at ex
                  exact ⟨d, rfl, (Option.some.inj ex).symm⟩
              have hz := List.mem_of_getElem? ez
              refine ⟨rfl, _, rfl, E1, _, 0, .str (Ap.led (nxt ws ds tb) z0 row), rfl, rfl, .inl (.inl (m5 _ _ eE)), atI_nat (j := 0) (by rw [ez0]; rfl), _, rfl, sz _ (by show 2 ≤ 1000; decide), fun p np => ?_⟩
              have mp := Sm.new (o := .tup [.str (Ap.led (nxt ws ds tb) z0 row), .str (Ap.led (nxt ws ds tb) z row)]) np
              refine ⟨_, rfl, fo, _, rfl, DGet.t (k := pr (Ap.led (nxt ws ds tb) z0 row) (Ap.led (nxt ws ds tb) z row)) (mp _ _ (m5 _ _ (mA _ _ hfo))) upd_same, _, rfl, ?_⟩
              rw [(FA _ (led_in cl (zsub z0 z0m) rd) _ (led_in cl (zsub z hz) rd)).2 (sure z0 z0m z hz)]
              exact iteF ⟨mp _ _ eD5, m5.trans mp⟩
            · obtain ⟨eD5, m5⟩ := p
              refine ⟨Nat.zero_le _, fun e6 ne6 => ?_⟩
              have m6 := mA.trans (m5.trans (Sm.new (o := .lst []) ne6))
              have eD6 := Sm.new (o := .lst []) ne6 _ _ eD5
              refine ⟨.list [], .list [], .lst (.inl (.inl eD6)) .nil, .lst (.inl (.inl upd_same)) .nil, shaped_nil, shaped_nil, ?_⟩
              rw [eqv_nil]
              exact q _ m6
end
end Dk
set_option Elab.async false
set_option linter.all false
set_option maxRecDepth 100000
set_option maxHeartbeats 8000000
namespace Dk
open PySem PySem.Spec PyProof.Rows L2 Er LamX NdefX Bf
/-! ### _law_told -/
def spTo (K : PySem.W.Frag) (C Pt : Addr) : Sp := fun vs H Q _ => ∃ (x : Addr) (v : V) (ws ds : List Str) (tb : List (List Str)) (ls : List Str) (m : Nat), vs = [.ref x, v] ∧ DeskOb K C H x ws ds tb ls ∧ DkIs m ws ds tb ls ∧ m ≤ 9 ∧ TabsN (sureT Pt) H ∧ NotSome K H ws v ∧
  ∀ (p : Addr) G, Sm H G → H p = none → G p = some (.tup [.str "standings", v]) → Q (.ref p) G
abbrev nTo : List Str := ["_law_desk_here", "_law_value", "_law_found", "error"]
theorem scTo : FnScope nTo ["_law_desk_here", "_law_value"] (defScope (top 55)) := ⟨rfl, rfl, rfl, by decide +kernel, rfl, by decide +kernel, by decide +kernel⟩
section
variable {P : Program} {w : World} {K : PySem.W.Frag} {mg : Str → Option Value} {base : Heap} {f fI C CB Pt fR : Addr} {fd dI dR : FuncData}
theorem bSr (F : FnP K "sure_row" (top 34) f fd) : Binds K fd ["desk", "standings"] [] := F.bindsN fun _ _ _ _ _ _ us hl => match us, hl with
  | [_, _], _ => rfl
theorem bTo (F : FnP K "_law_told" (top 55) f fd) : Binds K fd ["_law_desk_here", "_law_value"] [] := F.bindsN fun _ _ _ _ _ _ us hl => match us, hl with
  | [_, _], _ => rfl
theorem ok_to (F : FnP K "_law_told" (top 55) f fd) (B : Bad K mg "BadStandings" "value" (ini (top 2)) CB fI dI) (te : PySem.W.exmOne K (.ref CB) (.ref CB) = some true)
    (GR : FnOk P w K mg base (L2.CX P w) 6 fR dR ["desk", "standings"] (spSr K C CB Pt)) (FR : FnP K "sure_row" (top 34) fR dR) (gR : mg "sure_row" = some (.ref fR)) :
    FnOk P w K mg base CX0 7 f fd ["_law_desk_here", "_law_value"] (spTo K C Pt) := by
  refine F.ok (CX := CX0) scTo (fun vs H Q E h => ?_) (fun cdv A outer s H vs Q E hr h => ?_)
  · obtain ⟨x, v, ws, ds, tb, ls, m, rfl, _⟩ := h
    rfl
  · refine ⟨_, PSs.nox (pss_cons (ps_set (i := 2) scTo.nd rfl (.inl rfl) pe_non)
      (pss_cons (ps_try_as (i := 3) (c := .ref CB) (Wout := fun _ _ _ _ => False) rfl rfl scTo.nd rfl rfl ⟨rfl, by decide, .inl B.gl⟩ takesN
        (fun W pn xe tk _ => pss_one (ps_set (i := 2) scTo.nd rfl (.inl rfl) (pe_tup (pa_cons pe_str (pa_cons (by exact (pe_callS GR hr rfl gR FR.kp (bSr FR) (fun σ => passAt tk σ) (pa_cons (pv 0) (pa_cons (pv 1) pa_nil)))) pa_nil)))))
        (fun a oe cls d pn hz hf => by exact (pss_one (ps_set (i := 2) scTo.nd rfl (.inl rfl) (pe_tup (pa_cons pe_str (pa_cons (by exact (pe_xf (C := CB) B.ec.xf B.ec.noN hz hf (pv 3))) pa_nil)))))))
      (pss_one (ps_ret (pv 2))))), ?_⟩
    obtain ⟨x, v, ws, ds, tb, ls, m, rfl, ob, is, m9, hT, ns, q⟩ := h
    have two : 2 ≤ sizeLine := by rw [sizeLine_eq]; decide
    refine ⟨_, rfl, _, rfl, x, v, ws, ds, tb, ls, m, rfl, ob, is, m9, hT, .inr ⟨ns, fun d G mG nd ed => ⟨true, te, fun _ a na => ?_, fun z => nomatch z⟩⟩⟩
    exact ⟨_, rfl, rfl, rfl, d, _, v, rfl, ed, rfl, two, fun p np => ⟨_, rfl, q p _ (mG.trans (Sm.new np)) (none_of_sm mG np) upd_same⟩⟩
end
end Dk
set_option Elab.async false
set_option linter.all false
set_option maxRecDepth 100000
set_option maxHeartbeats 8000000
namespace Dk
open PySem PySem.Spec PyProof.Rows L2 Er LamX NdefX
open PySem.ErK (EC)
/-! ### repr of lists and tuples of any depth, with empty dicts -/
mutual
inductive Rr (H : Hp) : V → PyData → Prop
  | non : Rr H .non .none
  | bl (b : Bool) : Rr H (.bl b) (.bool b)
  | int (i : Int) : Rr H (.int i) (.int i)
  | str (x : Str) : Rr H (.str x) (.str x)
  | lst {a : Addr} {xs : List V} {ds : List PyData} (e : H a = some (.lst xs)) (h : Rrs H xs ds) : Rr H (.ref a) (.list ds)
  | tup {a : Addr} {xs : List V} {ds : List PyData} (e : H a = some (.tup xs)) (h : Rrs H xs ds) : Rr H (.ref a) (.tuple ds)
  | dct {a : Addr} {ks : List Str} {xs : List V} {ds : List PyData} (e : H a = some (.dK ((ks.map Sum.inr).zip xs))) (l : ks.length = xs.length) (h : Flats xs ds) : Rr H (.ref a) (.dict ((ks.map PyData.str).zip ds))
inductive Rrs (H : Hp) : List V → List PyData → Prop
  | nil : Rrs H [] []
  | cons {v : V} {d : PyData} {vs : List V} {ds : List PyData} (h : Rr H v d) (r : Rrs H vs ds) : Rrs H (v :: vs) (d :: ds)
end
mutual
theorem Rr.sm {H H' : Hp} (m : Sm H H') : ∀ {v : V} {d : PyData}, Rr H v d → Rr H' v d
  | _, _, .non => .non
  | _, _, .bl b => .bl b
  | _, _, .int i => .int i
  | _, _, .str x => .str x
  | _, _, .lst e h => .lst (m _ _ e) (Rrs.sm m h)
  | _, _, .tup e h => .tup (m _ _ e) (Rrs.sm m h)
  | _, _, .dct e l h => .dct (m _ _ e) l h
theorem Rrs.sm {H H' : Hp} (m : Sm H H') : ∀ {vs : List V} {ds : List PyData}, Rrs H vs ds → Rrs H' vs ds
  | _, _, .nil => .nil
  | _, _, .cons h r => .cons (Rr.sm m h) (Rrs.sm m r)
end
theorem Rrs.len {H : Hp} : ∀ {vs : List V} {ds : List PyData}, Rrs H vs ds → vs.length = ds.length
  | _, _, .nil => rfl
  | _, _, .cons _ r => by
    rw [List.length_cons, List.length_cons, r.len]
theorem Rrs.app {H : Hp} : ∀ {vs us : List V} {ds es : List PyData}, Rrs H vs ds → Rrs H us es → Rrs H (vs ++ us) (ds ++ es)
  | _, _, _, _, .nil, h => h
  | _, _, _, _, .cons a r, h => .cons a (r.app h)
theorem Rrs.strs {H : Hp} : ∀ (ws : List Str), Rrs H (ws.map V.str) (ws.map PyData.str)
  | [] => .nil
  | w :: ws => .cons (.str w) (Rrs.strs ws)
theorem Rrs.of {H : Hp} : ∀ {vs : List V}, (∀ v ∈ vs, ∃ d, Rr H v d) → ∃ ds, Rrs H vs ds
  | [], _ => ⟨[], .nil⟩
  | v :: vs, h => by
    obtain ⟨d, hd⟩ := h v List.mem_cons_self
    obtain ⟨ds, hs⟩ := Rrs.of (vs := vs) fun x hx => h x (List.mem_cons_of_mem _ hx)
    exact ⟨d :: ds, .cons hd hs⟩
section
variable {X : Cx} {pins : List (Addr × Obj)} {σ : L2.St} {H : Hp} {s : Shared}
mutual
theorem Rr.reads (S : IsSys X.K) (I : Inv X pins σ H s) : ∀ {v : V} {d : PyData}, Rr H v d → ∃ as : List Addr, (∀ u, RelV v u → Reads s.heap u d as) ∧ sysModules ∉ as
  | _, _, .non => ⟨[], fun u r => (Flat.non).reads r, fun z => nomatch z⟩
  | _, _, .bl b => ⟨[], fun u r => (Flat.bl b).reads r, fun z => nomatch z⟩
  | _, _, .int i => ⟨[], fun u r => by
      obtain ⟨t, q⟩ := (show ∃ t, u = Value.int i t from r)
      cases q
      exact .int i t, fun z => nomatch z⟩
  | _, _, .str x => ⟨[], fun u r => (Flat.str x).reads r, fun z => nomatch z⟩
  | _, _, .lst (a := a) (xs := xs) e h => by
    obtain ⟨_, its, n, rv, ho⟩ := (show ObjOk X.prog X.w H s.heap a (.lst xs) from I.hok a _ e)
    have ne := not_sys S I ho rfl
    obtain ⟨as, k, nas⟩ := Rrs.reads S I h
    refine ⟨a :: as, fun u r => ?_, fun z => ?_⟩
    · cases (show u = Value.ref a from r)
      exact Reads.list ho rfl rfl (by simpa using k _ rv)
    · rcases List.mem_cons.mp z with z | z
      · exact ne z.symm
      · exact nas z
  | _, _, .tup (a := a) (xs := xs) e h => by
    obtain ⟨_, its, rv, o, ho, hc, n, hd⟩ := (show ObjOk X.prog X.w H s.heap a (.tup xs) from I.hok a _ e)
    obtain ⟨as, k, nas⟩ := Rrs.reads S I h
    refine ⟨as, fun u r => ?_, nas⟩
    cases (show u = Value.ref a from r)
    exact Reads.tuple ho hc hd (by simpa using k _ rv)
  | _, _, .dct e l h => (Thing.dct e l h).reads S I
theorem Rrs.reads (S : IsSys X.K) (I : Inv X pins σ H s) : ∀ {vs : List V} {ds : List PyData}, Rrs H vs ds → ∃ as : List Addr, (∀ us, Vals vs us → ReadsAll s.heap us ds as) ∧ sysModules ∉ as
  | _, _, .nil => ⟨[], fun us r => by
      cases r
      exact .nil, fun z => nomatch z⟩
  | _, _, .cons h r => by
    obtain ⟨as, k, na⟩ := Rr.reads S I h
    obtain ⟨bs, l, nb⟩ := Rrs.reads S I r
    refine ⟨as ++ bs, fun us z => ?_, fun z => ?_⟩
    · cases z with
      | cons r1 r2 => exact .cons (k _ r1) (l _ r2)
    · rcases List.mem_append.mp z with z | z
      · exact na z
      · exact nb z
end
end
/-- d can be shown, is no deeper than k, and its text is no longer than n -/
def Fit (d : PyData) (k n : Nat) : Prop := d.showable = true ∧ d.depth ≤ k ∧ d.shown.length ≤ n
theorem Fit.more {d : PyData} {k n k2 n2 : Nat} (h : Fit d k n) (a : k ≤ k2) (b : n ≤ n2) : Fit d k2 n2 := ⟨h.1, Nat.le_trans h.2.1 a, Nat.le_trans h.2.2 b⟩
theorem fits_all {k n : Nat} : ∀ {ds : List PyData}, (∀ d ∈ ds, Fit d k n) → PyData.showableAll ds = true ∧ PyData.depthAll ds ≤ k ∧ ((PyData.shownAll ds).map (·.length)).sum ≤ n * ds.length ∧ (PyData.shownAll ds).length = ds.length
  | [], _ => by simp [PyData.showableAll, PyData.depthAll, PyData.shownAll]
  | d :: ds, h => by
    have a := h d List.mem_cons_self
    have ih := fits_all (ds := ds) fun x hx => h x (List.mem_cons_of_mem _ hx)
    refine ⟨by simp [PyData.showableAll, a.1, ih.1], ?_, ?_, ?_⟩
    · have := a.2.1
      have := ih.2.1
      simp only [PyData.depthAll]
      omega
    · simp only [PyData.shownAll, List.map_cons, List.sum_cons, List.length_cons, Nat.mul_succ]
      have := a.2.2
      have := ih.2.2.1
      omega
    · simp only [PyData.shownAll, List.length_cons, ih.2.2.2]
theorem Fit.list {k n : Nat} {ds : List PyData} (h : ∀ d ∈ ds, Fit d k n) : Fit (.list ds) (k + 1) ((n + 2) * ds.length + 3) := by
  obtain ⟨a, b, c, d⟩ := fits_all h
  refine ⟨by simpa [PyData.showable] using a, by simp only [PyData.depth]; omega, ?_⟩
  have z := listText_len_le (PyData.shownAll ds)
  rw [d] at z
  rw [Nat.add_mul]
  simp only [PyData.shown]
  omega
theorem Fit.tuple {k n : Nat} {ds : List PyData} (h : ∀ d ∈ ds, Fit d k n) : Fit (.tuple ds) (k + 1) ((n + 2) * ds.length + 3) := by
  obtain ⟨a, b, c, d⟩ := fits_all h
  refine ⟨by simpa [PyData.showable] using a, by simp only [PyData.depth]; omega, ?_⟩
  have z := tupleText_len_le (PyData.shownAll ds)
  rw [d] at z
  rw [Nat.add_mul]
  simp only [PyData.shown]
  omega
def rShA : List V → Hp → VK → Prop := fun xs H Q => ∃ (p : Addr) (d : PyData), xs = [.ref p] ∧ Rr H (.ref p) d ∧ Fit d 20 500000 ∧ Q (.str (PyData.shown d)) H
theorem call_rA {X : Cx} (S : IsSys X.K) (hg : X.A.guards = some []) (hu : X.A.units + 64 < cLine) : CallR X (.builtin "repr") rShA := by
  intro pins s σ H xs us Q I r h
  obtain ⟨p, d, rfl, hd, ⟨sh, dp, sl⟩, q⟩ := h
  obtain ⟨u, rfl, ru⟩ := r.one
  obtain rfl : u = Value.ref p := ru
  obtain ⟨as, k, nas⟩ := Rr.reads S I hd
  exact repr_of_reads' (k _ rfl) sh (fun _ => nas) hg (by omega) (fun _ _ z => z) (fun h' w tk kk => ⟨.str _, H, I.kept (t' := tk) kk, ⟨w, rfl⟩, q⟩) (by
    rw [sizeLine_eq]
    omega)
def rShR : List V → Hp → VK → Prop := fun xs H Q => ∃ (p : Addr) (vs : List V) (ds : List PyData), xs = [.ref p] ∧ H p = some (.lst vs) ∧ Rrs H vs ds ∧ Fit (.list ds) 20 500000 ∧ Q (.str (PyData.shown (.list ds))) H
theorem call_rR {X : Cx} (S : IsSys X.K) (hg : X.A.guards = some []) (hu : X.A.units + 64 < cLine) : CallR X (.builtin "repr") rShR := by
  intro pins s σ H xs us Q I r h
  obtain ⟨p, vs, ds, rfl, e, hd, ⟨sh, dp, sl⟩, q⟩ := h
  obtain ⟨u, rfl, ru⟩ := r.one
  obtain rfl : u = Value.ref p := ru
  obtain ⟨as, k, nas⟩ := Rr.reads S I (Rr.lst e hd)
  exact repr_of_reads' (k _ rfl) sh (fun _ => nas) hg (by omega) (fun _ _ z => z) (fun h' w tk kk => ⟨.str _, H, I.kept (t' := tk) kk, ⟨w, rfl⟩, q⟩) (by
    rw [sizeLine_eq]
    omega)

theorem DkIs.more {m m2 : Nat} {ws ds : List Str} {tb : List (List Str)} {ls : List Str} (h : DkIs m ws ds tb ls) (l : m ≤ m2) : DkIs m2 ws ds tb ls := { h with most := Nat.le_trans h.most l }
theorem src_ne {H : Hp} {p a : Addr} {o : HO} (s : Src H p) (e : H a = some o) (n : ∀ i j : Int, o ≠ .lst [.int i, .int j]) : a ≠ p := fun z => by
  obtain ⟨own, mix, h, _⟩ := s
  rw [z, h] at e
  exact n _ _ (Option.some.inj e).symm
theorem src_ne_strs {H : Hp} {p a : Addr} {ws : List Str} (s : Src H p) (e : H a = some (.lst (ws.map V.str))) (h : 1 ≤ ws.length) : a ≠ p := src_ne s e fun i j z => by
  cases ws with
  | nil => simp at h
  | cons w ws =>
    have := HO.lst.inj z
    simp at this
theorem DkAt.sx {H H' : Hp} {u nm dd sg p : Addr} {ws ds : List Str} {as : List Addr} {tb : List (List Str)} {ls : List Str} {m0 : Nat} (h : DkAt H u nm dd sg ws ds as tb ls) (is : DkIs m0 ws ds tb ls) (s : Src H p) (m : Sx p H H') : DkAt H' u nm dd sg ws ds as tb ls := by
  obtain ⟨h1, h2, h3, h4, h5⟩ := h
  exact ⟨m _ _ (src_ne s h1 fun _ _ z => nomatch z) h1, m _ _ (src_ne_strs s h2 is.some) h2, m _ _ (src_ne s h3 fun _ _ z => nomatch z) h3, m _ _ (src_ne s h4 fun _ _ z => nomatch z) h4, pair_mono h5 fun a _ vs e => m _ _ (src_ne s e fun _ _ z => nomatch z) e⟩
theorem ifp {c : Prop} [Decidable c] {A B : Prop} (h : c) (a : A) : if c then A else B := by
  rw [if_pos h]
  exact a
theorem ifn {c : Prop} [Decidable c] {A B : Prop} (h : ¬ c) (b : B) : if c then A else B := by
  rw [if_neg h]
  exact b
theorem str_at {ws : List Str} {k : Nat} {v : V} (h : (ws.map V.str)[k]? = some v) : ∃ z ∈ ws, v = .str z := by
  obtain ⟨z, hz, e⟩ := List.mem_map.mp (List.mem_of_getElem? h)
  exact ⟨z, hz, e.symm⟩
theorem src_upd {H : Hp} {p a : Addr} {o : HO} (s : Src H p) (n : a ≠ p) : Src (upd H a o) p := by
  obtain ⟨own, mix, e, r⟩ := s
  exact ⟨own, mix, by rw [upd_ne (Ne.symm n)]; exact e, r⟩
theorem sx_own {H M : Hp} {p a : Addr} {o : HO} (m : Sx p H M) (n : H a = none) : Sx p H (upd M a o) := fun b u nb e => by
  rw [upd_ne (fun z => by rw [z, n] at e; cases e)]
  exact m b u nb e
theorem none_sx {H M : Hp} {p a : Addr} (s : Src H p) (m : Sx p H M) (s2 : Src M p) (n : M a = none) : H a = none := by
  cases e : H a with
  | none => rfl
  | some o => rw [m a o (s2.ne n) e] at n; cases n
section
variable {P : Program} {w : World} {K : PySem.W.Frag} {mg : Str → Option Value} {base : Heap} {f fP fT fK : Addr} {fd dP dT dK : FuncData}
theorem bDk (F : FnP K "_law_desk" (top 46) fK dK) : Binds K dK ["_law_source_here", "_law_most"] [] := F.bindsN fun _ _ _ _ _ _ us hl => match us, hl with
  | [_, _], _ => rfl
end
/-! ### defs that are called where no repr runs -/
structure FnOkG (P : Program) (w : World) (K : PySem.W.Frag) (mg : Str → Option Value) (base : Heap) (CX : CXT) (k : Nat) (f : Addr) (fd : FuncData) (ps : List Str) (sp : Sp) : Prop where
  len : ∀ vs H Q E, sp vs H Q E → vs.length = ps.length
  run : ∀ (A : Around) (outer : List Env) (s : Shared) (H : Hp) (args : Args) (us : List Value) (vs : List V) (Q : VK) (E : XK), A.guards = some [] → Room k A → Env0 P w K mg base A outer s H → BindsTo s fd args (ps.zip us) → Vals vs us → sp vs H Q E →
    codeAny (model P w) A (.call (.ref f) args) (CR CX outer P w H s Q E) s
section
variable {P : Program} {w : World} {K : PySem.W.Frag} {mg : Str → Option Value} {base : Heap} {k : Nat} {f : Addr} {fd : FuncData} {x qual : Str} {params : Arguments} {body : List Stmt} {scope : Scope} {dvs : List V} {kws : List (Str × V)}
theorem okG {CX : CXT} {N ps : List Str} {sp : Sp} (F : FunD K x qual params body scope dvs kws f fd) (S : FnScope N ps scope) (len : ∀ vs H Q E, sp vs H Q E → vs.length = ps.length)
    (hbody : ∀ (cdv : Value) (A : Around) (outer : List Env) (s : Shared) (H : Hp) (vs : List V) (Q : VK) (E : XK), A.guards = some [] → Room k (A.deeper (envOfC qual scope s.heap.objs.size f cdv)) → sp vs H Q E →
      ∃ t, PSs (cxOf CX P w K mg base N qual scope f cdv A outer s H E) body t ∧ t { nx := fun _ H' => Q .non H', rt := Q } (start N vs) H) : FnOkG P w K mg base CX (k + 1) f fd ps sp := by
  obtain ⟨oc, od, dV, kV, doc, pm, an, cdv, ct, osl, rfl, lk, hcd, _, _⟩ := F.ex
  refine ⟨len, fun A outer s H args us vs Q E hg hr e0 hb r hsp => ?_⟩
  have many := len _ _ _ _ hsp
  have inK : K.In s.heap := PySem.W.Frag.In.keeps e0.mod.kin fun b o e => (e0.bs b o e).1
  have free : s.heap.NoLimit := e0.mod.nolimit.keeps fun b o e => (e0.bs b o e).1
  have kinds : ∀ y ∈ ps.zip us, scope.names.lookup y.1 = some .local ∨ (scope.names.lookup y.1 = some .cell ∧ ((cellsFrom (s.heap.objs.size + 1) scope.names []).lookup y.1).isSome = true) := fun y hy => by
    obtain ⟨n, v⟩ := y
    rcases S.par n (List.of_mem_zip hy).1 with e | e
    · exact .inl e
    · exact .inr ⟨e, PySem.W.cellsFrom_some _ _ _ (.inl e)⟩
  refine codeAny_call_function hr.depth (inK _ _ lk) rfl S.co S.gen rfl (PySem.W.codeRec_of inK hcd) (hb _ _ _ _ ?_)
  refine wpAny_newFunctionEnv_cells S.kind kinds fun env he s1 x => ?_
  subst he
  refine ⟨free.keeps x.toInCall.keep, codeAny_func ?_⟩
  obtain ⟨t, ht, hq⟩ := hbody cdv A outer s H vs Q E hg (hr.deeper _) hsp
  have I := inv_start (CX := CX) (P := P) (w := w) (K := K) (mg := mg) (base := base) (E := E) S hr.hd e0 many r x
  refine wpAny_mono (ht.run [] s1 (start N vs) H _ I hq) (fun fl s' hs => ?_) fun e s' z => z
  cases fl with
  | ret u =>
    obtain ⟨v, σ', H', J, rv, q⟩ := hs
    exact ⟨v, H', J.os, J.bare, J.base, J.hok, rv, q⟩
  | next =>
    obtain ⟨σ', H', J, q⟩ := hs
    exact ⟨V.non, H', J.os, J.bare, J.base, J.hok, rfl, q⟩
  | brk =>
    obtain ⟨_, _, _, q⟩ := hs
    exact q.elim
  | cont =>
    obtain ⟨_, _, _, q⟩ := hs
    exact q.elim
end
section
variable {X : Cx} {CX : CXT} {k : Nat} {f : Addr} {fd : FuncData} {ps : List Str} {sp : Sp} {x : Str} {p pos : Pos} {e : Expr} {es : List Expr} {t : TA} {E : XK}
theorem pe_callGG (F : FnOkG X.prog X.w X.K X.mg X.base CX k f fd ps sp) (hgd : X.A.guards = some []) (hr : Room k X.A) (hg : Gl X x) (hm : X.mg x = some (.ref f)) (hk : PySem.W.keepIn X.K (.ref f) = true) (hb : Binds X.K fd ps []) (hx : Passes CX X E)
    (ha : PA X (e :: es) t) (hdb : (x == ("__debug__" : Str)) = false := by decide) (he : starEach (e :: es) X.env = (false, eval e X.env) :: starEach es X.env := by rfl) (hpl : (backTo pos (starEach es X.env)).any (·.1) = false := by rfl) :
    PE X (.Call (.Name x p) (e :: es) [] pos) (tCall sp [] E t) := by
  refine ⟨fun pins s σ H Q I h => ?_⟩
  refine wpAny_Call_Name_kw (ld_glob I hg hm ?_ hdb)
  refine PySem.W.callWith_K (h₀ := X.base) I.ok.mod.kin hk (thn (ha.run pos pins s σ H _ I h) fun us s1 ⟨vs, H1, I1, r, q⟩ => ⟨I1.kIn, ?_⟩) he hpl
  have r2 : Vals (vs ++ []) (us ++ []) := r.append .nil
  have hl : (us ++ []).length = ps.length := by rw [← r2.length]; exact F.len _ _ _ _ q
  refine wpAny_call (codeAny_mono (F.run X.A X.stack s1 H1 ⟨us, []⟩ (us ++ []) (vs ++ []) Q E hgd hr I1.env0 (hb s1 us I1.kIn hl) r2 q) fun r s' hq => ?_)
  cases r with
  | error e => exact hx pins σ H1 s1 e s' I1 hq
  | ok fl =>
    cases fl with
    | ret u => exact I1.after hq
    | next => exact False.elim hq
    | brk => exact False.elim hq
    | cont => exact False.elim hq
end
/-! ### what stays over a draw -/
theorem src_ne_strs0 {H : Hp} {p a : Addr} {ws : List Str} (s : Src H p) (e : H a = some (.lst (ws.map V.str))) : a ≠ p := src_ne s e fun i j z => by
  cases ws with
  | nil => exact nomatch HO.lst.inj z
  | cons w ws =>
    have := HO.lst.inj z
    simp at this
theorem SqT.sx {K : PySem.W.Frag} {H H' : Hp} {a p : Addr} {xs : List V} (h : SqT K H a xs) (s : Src H p) (m : Sx p H H') : SqT K H' a xs := by
  rcases h with (h | ⟨o, h⟩) | h
  · exact .inl (.inl (m _ _ (src_ne s h fun _ _ z => nomatch z) h))
  · exact .inl (.inr ⟨o, m _ _ (src_ne s h fun _ _ z => nomatch z) h⟩)
  · exact .inr h
theorem DeskOb.sx {K : PySem.W.Frag} {C : Addr} {H H' : Hp} {x p : Addr} {ws ds : List Str} {tb : List (List Str)} {ls : List Str} (h : DeskOb K C H x ws ds tb ls) (s : Src H p) (m : Sx p H H') : DeskOb K C H' x ws ds tb ls := by
  obtain ⟨dx, st, ld, si, as, h1, h2, h3, h4, pr⟩ := h
  exact ⟨dx, st, ld, si, as, m _ _ (src_ne s h1 fun _ _ z => nomatch z) h1, SqT.sx h2 s m, m _ _ (src_ne s h3 fun _ _ z => nomatch z) h3, m _ _ (src_ne s h4 fun _ _ z => nomatch z) h4, pair_mono pr fun a _ vs e => m _ _ (src_ne s e fun _ _ z => nomatch z) e⟩

/-! ### a heap without two things that change -/
def rid (p q : Addr) (G : Hp) : Hp := fun b => if b = p ∨ b = q then none else G b
theorem rid_ne {p q b : Addr} {G : Hp} (h1 : b ≠ p) (h2 : b ≠ q) : rid p q G b = G b := if_neg fun z => z.elim h1 h2
theorem rid_l {p q : Addr} {G : Hp} : rid p q G p = none := if_pos (.inl rfl)
theorem rid_r {p q : Addr} {G : Hp} : rid p q G q = none := if_pos (.inr rfl)
theorem rid_le {p q : Addr} {G : Hp} : Sm (rid p q G) G := fun b o e => by
  unfold rid at e
  by_cases c : b = p ∨ b = q
  · rw [if_pos c] at e
    cases e
  · rw [if_neg c] at e
    exact e
theorem sm_rid {p q : Addr} {B G : Hp} (m : Sm B G) (h1 : B p = none) (h2 : B q = none) : Sm B (rid p q G) := fun b o e => by
  rw [rid_ne (fun z => by rw [z, h1] at e; cases e) (fun z => by rw [z, h2] at e; cases e)]
  exact m b o e
theorem sm_upd {B G : Hp} {a : Addr} {o : HO} (m : Sm B G) (h : B a = none) : Sm B (upd G a o) := fun b u e => by
  rw [upd_ne (fun z => by rw [z, h] at e; cases e)]
  exact m b u e
theorem sm_sx {B G G2 : Hp} {p : Addr} (m : Sm B G) (h : B p = none) (x : Sx p G G2) : Sm B G2 := fun b o e => x b o (fun z => by rw [z, h] at e; cases e) (m b o e)
theorem sx_rid {p q : Addr} {H G : Hp} (m : Sx p H G) (h : H q = none) : Sx p H (rid p q G) := fun b o n e => by
  rw [rid_ne n (fun z => by rw [z, h] at e; cases e)]
  exact m b o n e
theorem sx_of_rid {p : Addr} {H B G : Hp} (m : Sx p H B) (k : Sm B G) : Sx p H G := fun b o n e => k b o (m b o n e)
/-! ### things that are no deeds -/
theorem word_fit {z : Str} (l : z.length ≤ 8) (o : PyData.strOk z = true) : Fit (.str z) 1 88 := by
  refine ⟨rfl, by simp [PyData.depth], ?_⟩
  have a := PyData.shown_le 8 (Nat.le_refl 8) (.str z) (PyData.leavesShort_of_canLay0 8 _ (by simpa [PyData.canLay0] using o) rfl)
  have b : (PyData.str z).weight ≤ 8 := l
  omega
theorem list_fit {z : Str} (l : z.length ≤ 8) (o : PyData.strOk z = true) : Fit (.list [.str z]) 2 93 := by
  have a := Fit.list (ds := [.str z]) (k := 1) (n := 88) fun d hd => by
    have e : d = .str z := by simpa using hd
    rw [e]
    exact word_fit l o
  exact a.more (by decide) (by show (88 + 2) * 1 + 3 ≤ 93; decide)
theorem tup_fit {z : Str} (l : z.length ≤ 8) (o : PyData.strOk z = true) : Fit (.tuple [.str z]) 2 93 := by
  have a := Fit.tuple (ds := [.str z]) (k := 1) (n := 88) fun d hd => by
    have e : d = .str z := by simpa using hd
    rw [e]
    exact word_fit l o
  exact a.more (by decide) (by show (88 + 2) * 1 + 3 ≤ 93; decide)
theorem rrs_of {H : Hp} : ∀ {xs : List V}, (∀ y ∈ xs, ∃ e, Rr H y e ∧ Fit e 3 200) → ∃ es, Rrs H xs es ∧ ∀ e ∈ es, Fit e 3 200
  | [], _ => ⟨[], .nil, fun e z => nomatch z⟩
  | x :: xs, h => by
    obtain ⟨e, h1, h2⟩ := h x List.mem_cons_self
    obtain ⟨es, h3, h4⟩ := rrs_of (xs := xs) fun y hy => h y (List.mem_cons_of_mem _ hy)
    refine ⟨e :: es, .cons h1 h3, fun d hd => ?_⟩
    rcases List.mem_cons.mp hd with z | z
    · exact z ▸ h2
    · exact h4 d z
theorem rrs_rep {H : Hp} {d : PyData} : ∀ {as : List Addr}, (∀ a ∈ as, Rr H (.ref a) d) → Rrs H (as.map V.ref) (List.replicate as.length d)
  | [], _ => .nil
  | a :: as, h => .cons (h a List.mem_cons_self) (rrs_rep (as := as) fun b hb => h b (List.mem_cons_of_mem _ hb))
theorem lc_filt {K : PySem.W.Frag} {a b : Addr} {ws vs : List Str} {σ : L2.St} {i k : Nat} {H1 : Hp} {Q : Addr → Hp → Prop} (ha : SqL K H1 a (ws.map V.str)) (hb : SqL K H1 b (vs.map V.str)) (hn : ws.length ≤ 1000) (w1 : ∀ v, wipe ((wipe σ [i]).set i (some v)) [i] = wipe σ [i])
    (s1 : ∀ v, ((wipe σ [i]).set i (some v))[i]? = some (some v)) (s2 : ∀ v, ((wipe σ [i]).set i (some v))[k]? = some (some (.ref b)))
    (q : ∀ (D : Addr) (H' : Hp), Sm H1 H' → H1 D = none → H' D = some (.lst ((ws.filter fun z => decide (z ∉ vs)).map V.str)) → Q D H') :
    ∀ D, H1 D = none → ∃ W : Nat → Nat → Hp → Prop, (∃ m, W 0 m (upd H1 D (.lst []))) ∧ ∀ i₁ m H, W i₁ m H →
      ((Itl K a).stop i₁ H ∧ Q D H) ∨ ((Itl K a).go i₁ H ∧ ∃ Nx : Hp → Prop, (∀ H', Nx H' → ∃ m', m' < m ∧ W (i₁ + 1) m' H') ∧ ∀ x H', (Itl K a).yld i₁ H x H' → gName i x (wipe σ [i]) H' fun σ2 H2 => wipe σ2 [i] = wipe σ [i] ∧ (tTest (tOp (rIn K true) (tVar i) (tVar k))) σ2 H2 fun b H3 =>
        if b = true then (tVar i) σ2 H3 fun y H4 => ∃ acc, H4 D = some (.lst acc) ∧ acc.length < sizeLine ∧ Nx (upd H4 D (.lst (acc ++ [y]))) else Nx H3) := by
  intro D hD
  refine lc_list (xs := ws.map V.str) (g := gName i) (tt := tTest (tOp (rIn K true) (tVar i) (tVar k))) (te := tVar i) (vs := [i]) (Qd := fun H => Q D H) (fun j G2 => G2 D = some (.lst (((ws.take j).filter (fun z => decide (z ∉ vs))).map V.str)) ∧ Sm H1 G2) ⟨upd_same, Sm.new hD⟩ (fun j G2 _ p => SqL.sm ha p.2) ?_ ?_
  · rintro j x G2 ex ⟨ed, sg⟩
    obtain ⟨z, ez, rfl⟩ : ∃ z, ws[j]? = some z ∧ x = .str z := by
      rw [List.getElem?_map] at ex
      cases e : ws[j]? with
      | none =>
        rw [e] at ex
        cases ex
      | some d =>
        rw [e] at ex
        exact ⟨d, rfl, (Option.some.inj ex).symm⟩
    have tk : ws.take (j + 1) = ws.take j ++ [z] := by
      rw [List.take_add_one, ez]
      rfl
    have jl := (List.getElem?_eq_some_iff.mp ez).1
    refine ⟨w1 _, _, s1 _, _, s2 _, b, vs.map V.str, rfl, .inl (SqL.sm hb sg), rfl, flat_strs vs, _, rfl, ?_⟩
    rw [in_strs, if_pos rfl]
    by_cases c : z ∈ vs
    · rw [decide_eq_true c]
      refine iteF ⟨?_, sg⟩
      rw [tk, List.filter_append, List.filter_cons_of_neg (by simpa using c), List.filter_nil, List.append_nil]
      exact ed
    · rw [decide_eq_false c]
      refine iteT ⟨_, s1 _, _, ed, ?_, ?_, ?_⟩
      · have h1 := List.length_filter_le (fun z => decide (z ∉ vs)) (ws.take j)
        rw [List.length_take] at h1
        rw [List.length_map, sizeLine_eq]
        omega
      · rw [upd_same, tk, List.filter_append, List.filter_cons_of_pos (by simpa using c), List.filter_nil, List.map_append]
        rfl
      · intro b o eb
        rw [upd_ne (ne_of_none eb hD)]
        exact sg _ _ eb
  · rintro G2 ⟨ed, sg⟩
    rw [List.length_map, List.take_length] at ed
    exact q D G2 sg hD ed
theorem menu_ok : ∀ z ∈ menu, z.length ≤ 8 ∧ PyData.strOk z = true := by decide +kernel
section
variable {P : Program} {w : World} {K : PySem.W.Frag} {mg : Str → Option Value} {base : Heap} {f fD fG fM fT fS C : Addr} {fd dD dG dM dT dS : FuncData}
theorem bStr (F : FnP K "_law_stranger" (top 52) fG dG) : Binds K dG ["_law_names_here"] [] := F.bindsN fun _ _ _ _ _ _ us hl => match us, hl with
  | [_], _ => rfl
end
/-! ### == and != of an instance with its own __eq__, and of anything whose type is known -/
section
open PySem.W PySem.Calls
variable {prog : Program} {w : World} {M : Model} {A A₀ : Around} {E : Value → Shared → Prop} {s : Shared} {K : PySem.W.Frag} {x C L f : Addr} {h₀ : Heap} {m : Str → Option Value} {ox : Obj} {od : Option Obj} {name : Str} {b tb : Value} {id : String}
theorem ifBound_B {args : List Value} {Q : Option Value → Shared → Prop} (X : K.In s.heap) (I : InstAt s.heap x ox C od) (hs : findIn K (.ref C) name = some (some (.builtin id))) (hb : ∀ self, bindSpecial (.builtin id) self = pure (.builtin id, [self]))
    (h : wpAny M A (call (.builtin id) (.ref x :: args)) (fun v => Q (some v)) E s) : wpAny M A (callSpecialIfBound? (.ref x) name args) Q E s := by
  simp only [callSpecialIfBound?, bindSpecialIfBound?]
  refine wpAny_holding (wpAny_bind (wpAny_bind (wpAny_bind (I.type.here ((looks_findIn X hs).here ?_)))))
  refine wpAny_bind (wpAny_askSetting (wpAny_ite ?_))
  have fin : wpAny M A (call (.builtin id) ([.ref x] ++ args) >>= fun v => pure (some v)) Q E s := wpAny_bind (wpAny_mono h (fun v s' h' => wpAny_pure h') fun _ _ h' => h')
  split
  · exact wpAny_bind ((Looks.of_pure (hb _)).here (wpAny_pure (by exact fin)))
  · exact wpAny_tryCatch (wpAny_bind ((Looks.of_pure (hb _)).here (wpAny_pure (by exact fin))))
open Builtin in
theorem one_ne {Q : Value → Shared → Prop} (hu : A.in1.units < cLine) (X : K.In s.heap) (I : InstAt s.heap x ox C od) (hm : mroIn K C (.type "object") = some true) (hr : findIn K (.ref C) "__eq__" = some (some (.ref f))) (hf : isFn K (.ref f) = true)
    (h : wpAny (model prog w) A.in1 (call (.ref f) [.ref x, b]) (fun v s' => ∃ k, v = .bool k ∧ Q (.bool (!k)) s') E s) : wpAny (model prog w) A (call (.builtin "object.__ne__") [.ref x, b]) Q E s := by
  refine wpAny_call (codeAny_call_builtin PySem.F.slot_object_ne.plain PySem.F.entry_object_ne (PySem.W.check_slot (i := "object.__ne__") (owner := "object") (n := "__ne__") (by decide +kernel) (by decide +kernel) (I.type.andThen (looks_mroIn X hm)) (F.cmpArgs_ne _ _) ?_))
  unfold Builtin.«object.__ne__»
  refine wpAny_bind (m := slotArgs "__ne__" 1 _) (wpAny_pure ?_)
  refine wpAny_bind (m := cRoomFor _ _) (wpAny_cRoomFor hu ?_)
  refine wpAny_bind (m := callSpecialIfBound? (.ref x) (Str.ofString "__eq__") _) (ifBound_K X I hr hf (wpAny_mono h (fun r s' hq => ?_) fun _ _ y => y))
  obtain ⟨k, rfl, q⟩ := hq
  exact wpAny_bind (wpAny_truthy_bool (wpAny_pure q))
open PySem.W in
theorem ne_K {Q : Value → Shared → Prop} (hu : A.in1.units < cLine) (hu0 : A.units < cLine) (F : Fr h₀ L s.heap m) (X₀ : K.In h₀) (I : InstAt s.heap x ox C od) (hb : Looks (model prog w) s.heap (typeOf b) tb) (hn : notFirst K C tb = true)
    (hm : mroIn K C (.type "object") = some true) (hs : findIn K (.ref C) "__ne__" = some (some (.builtin "object.__ne__"))) (hr : findIn K (.ref C) "__eq__" = some (some (.ref f))) (hf : isFn K (.ref f) = true)
    (h : wpAny (model prog w) A.in1 (call (.ref f) [.ref x, b]) (fun v s' => ∃ k, v = .bool k ∧ Q (.bool (!k)) s') E s) : wpAny (model prog w) A (richCompare .NotEq (.ref x) b) Q E s := by
  have X := X₀.keeps F.keep
  have one : wpAny (model prog w) A (tryCompare (.ref x) (cmpInfo .NotEq).2.1 b) (fun r s' => ∃ v, r = some v ∧ Q v s') E s := by
    unfold tryCompare
    refine wpAny_bind (ifBound_B X I hs PySem.F.slot_object_ne.bind (one_ne hu X I hm hr hf (wpAny_mono h (fun v s' hv => ?_) fun _ _ e => e)))
    obtain ⟨k, rfl, q⟩ := hv
    exact ⟨k, rfl, wpAny_pure ⟨_, rfl, q⟩⟩
  unfold richCompare
  simp only [oneThing_ref]
  refine wpAny_holding (wpAny_bind (wpAny_cRoomFor hu0 ?_))
  refine wpAny_bind (I.type.here (wpAny_bind (hb.here ?_)))
  split
  · rename_i q
    have e : subIn K tb (.ref C) = some false := by
      rcases Bool.or_eq_true_iff.mp hn with e | e
      · rw [beq_iff_eq.mp e] at q; simp at q
      · exact beq_iff_eq.mp e
    refine wpAny_bind ((looks_subIn X e).here ?_)
    simp only [Bool.false_eq_true, if_false]
    refine wpAny_bind (wpAny_mono one (fun r s' z => ?_) fun _ _ e => e)
    obtain ⟨v, rfl, hq⟩ := z
    exact wpAny_pure hq
  · refine wpAny_bind (wpAny_pure ?_)
    simp only [Bool.false_eq_true, if_false]
    refine wpAny_bind (wpAny_mono one (fun r s' z => ?_) fun _ _ e => e)
    obtain ⟨v, rfl, hq⟩ := z
    exact wpAny_pure hq
end
/-- None, a number, a text, a list, a tuple, a dict, an object of the class -/
inductive EqY (C : Addr) (H : Hp) : V → Prop
  | own {b dy : Addr} {gs : List (Str × V)} (e : H b = some (.ins C dy gs)) : EqY C H (.ref b)
  | non : EqY C H .non
  | int (i : Int) : EqY C H (.int i)
  | str (z : Str) : EqY C H (.str z)
  | lst {b : Addr} {xs : List V} (e : H b = some (.lst xs)) : EqY C H (.ref b)
  | tup {b : Addr} {xs : List V} (e : H b = some (.tup xs)) : EqY C H (.ref b)
  | dK {b : Addr} {kvs : List (Key × V)} (e : H b = some (.dK kvs)) : EqY C H (.ref b)
abbrev eqTypes : List String := ["NoneType", "int", "str", "list", "tuple", "dict"]
section
variable {X : Cx} {CX : CXT} {n : Nat} {C f : Addr} {fd : FuncData} {ps : List Str} {sp : Sp} {E : XK}
theorem eqy_ty {pins : List (Addr × Obj)} {σ : L2.St} {s : Shared} {H : Hp} {y : V} {u : Value} (I : Inv X pins σ H s) (N : ∀ t ∈ eqTypes, PySem.W.notFirst X.K C (.type t) = true) (h : EqY C H y) (ry : RelV y u) :
    ∃ t, PySem.W.Looks (model X.prog X.w) s.heap (typeOf u) t ∧ PySem.W.notFirst X.K C t = true := by
  cases h with
  | own hb =>
    rename_i b dy gs
    cases (show u = Value.ref b from ry)
    obtain ⟨mB, J', _⟩ := ins_get I.hok hb
    obtain ⟨od', J', _⟩ := J'.look
    exact ⟨_, J'.type, by simp [PySem.W.notFirst]⟩
  | non =>
    cases (show u = Value.none from ry)
    exact ⟨_, PySem.W.Looks.of_pure rfl, N "NoneType" (by decide)⟩
  | int i =>
    obtain ⟨t, e⟩ := (show ∃ t, u = Value.int i t from ry)
    subst e
    exact ⟨_, PySem.W.Looks.of_pure rfl, N "int" (by decide)⟩
  | str z =>
    obtain ⟨t, e⟩ := (show ∃ t, u = Value.str z t from ry)
    subst e
    exact ⟨_, PySem.W.Looks.of_pure rfl, N "str" (by decide)⟩
  | lst e =>
    rename_i b xs
    cases (show u = Value.ref b from ry)
    obtain ⟨_, its, k, rv, ho⟩ := (show ObjOk X.prog X.w H s.heap b (.lst xs) from I.hok b _ e)
    exact ⟨.type "list", (PySem.W.Looks.ld ho).andThen .now, N "list" (by decide)⟩
  | tup e =>
    rename_i b xs
    cases (show u = Value.ref b from ry)
    obtain ⟨_, its, rv, o, ho, hc, k, hd⟩ := (show ObjOk X.prog X.w H s.heap b (.tup xs) from I.hok b _ e)
    exact ⟨.type "tuple", hc ▸ (PySem.W.Looks.ld ho).andThen .now, N "tuple" (by decide)⟩
  | dK e =>
    rename_i b kvs
    cases (show u = Value.ref b from ry)
    obtain ⟨_, ns, vs, kv, o, es, ep, ho, hx, hd, _, hp, _⟩ := (show ObjOk X.prog X.w H s.heap b (.dK kvs) from I.hok b _ e)
    exact ⟨.type "dict", hx.1 ▸ (PySem.W.Looks.ld ho).andThen .now, N "dict" (by decide)⟩
def rEqY (C : Addr) (sp : Sp) (E : XK) : R2 := fun x y H Q => ∃ a dx fs, x = .ref a ∧ H a = some (.ins C dx fs) ∧ EqY C H y ∧ sp [x, y] H Q E
def rNeY (C : Addr) (sp : Sp) (E : XK) : R2 := fun x y H Q => ∃ a dx fs, x = .ref a ∧ H a = some (.ins C dx fs) ∧ EqY C H y ∧ sp [x, y] H (fun v H' => ∃ k, v = .bl k ∧ Q (.bl (!k)) H') E
theorem op_eqY (F : FnOk X.prog X.w X.K X.mg X.base CX n f fd ps sp) (hs : PySem.W.findIn X.K (.ref C) "__eq__" = some (some (.ref f))) (hf : PySem.W.isFn X.K (.ref f) = true) (hb : Binds X.K fd ps []) (hr : Room n X.A) (hx : Passes CX X E)
    (N : ∀ t ∈ eqTypes, PySem.W.notFirst X.K C (.type t) = true) : OpR X (compareOp .Eq) (rEqY C sp E) := by
  intro pins s σ H x y v u Q I rx ry h
  obtain ⟨a, dx, fs, rfl, ha, hy, q⟩ := h
  cases (show v = Value.ref a from rx)
  obtain ⟨mA, J, _⟩ := ins_get I.hok ha
  obtain ⟨od, J, _⟩ := J.look
  obtain ⟨m, hF⟩ := I.fr
  obtain ⟨t, lk, nf⟩ := eqy_ty I N hy ry
  show wpAny (model X.prog X.w) X.A (richCompare .Eq _ u) (EP X pins σ Q) X.xe s
  refine PySem.W.cmp_K (op := .Eq) hr.units0 hF I.ok.mod.kin J lk nf hs hf ?_
  refine wpAny_mono (run_fn (us := [.ref a, u]) (vs := [.ref a, y]) F hr hb .nil hx I (.cons rfl (.cons ry .nil)) q) (fun w s' z => ?_) fun _ _ x => x
  obtain ⟨z', H', I', rz, qz⟩ := z
  exact SlX.cmpback rz ⟨z', H', I', rz, qz⟩
theorem op_neY (F : FnOk X.prog X.w X.K X.mg X.base CX n f fd ps sp) (hm : PySem.W.mroIn X.K C (.type "object") = some true) (hne : PySem.W.findIn X.K (.ref C) "__ne__" = some (some (.builtin "object.__ne__"))) (hs : PySem.W.findIn X.K (.ref C) "__eq__" = some (some (.ref f))) (hf : PySem.W.isFn X.K (.ref f) = true) (hb : Binds X.K fd ps []) (hr : Room (n + 1) X.A) (hx : Passes CX X E)
    (N : ∀ t ∈ eqTypes, PySem.W.notFirst X.K C (.type t) = true) : OpR X (compareOp .NotEq) (rNeY C sp E) := by
  intro pins s σ H x y v u Q I rx ry h
  obtain ⟨a, dx, fs, rfl, ha, hy, q⟩ := h
  cases (show v = Value.ref a from rx)
  obtain ⟨mA, J, _⟩ := ins_get I.hok ha
  obtain ⟨od, J, _⟩ := J.look
  obtain ⟨m, hF⟩ := I.fr
  obtain ⟨t, lk, nf⟩ := eqy_ty I N hy ry
  show wpAny (model X.prog X.w) X.A (richCompare .NotEq _ u) (EP X pins σ Q) X.xe s
  have r2 : Vals [V.ref a, y] [Value.ref a, u] := .cons rfl (.cons ry .nil)
  have hl : [Value.ref a, u].length = ps.length := by rw [← r2.length]; exact F.len _ _ _ _ q
  refine ne_K hr.in1.units0 hr.units0 hF I.ok.mod.kin J lk nf hm hne hs hf ?_
  refine wpAny_call (codeAny_mono (F.run X.A.in1 X.stack s H ⟨[.ref a, u], []⟩ [.ref a, u] [.ref a, y] _ E hr.in1 I.env0.in1 (by simpa using hb s [.ref a, u] I.kIn (by simpa using hl)) r2 q) fun r s' hq => ?_)
  cases r with
  | error e => exact hx pins σ H s e s' I hq
  | ok fl =>
    cases fl with
    | ret u' =>
      obtain ⟨z', H', I', rz, k, rfl, qz⟩ := I.after hq
      cases (show u' = Value.bool k from rz)
      exact ⟨k, rfl, .bl (!k), H', I', rfl, qz⟩
    | next => exact False.elim hq
    | brk => exact False.elim hq
    | cont => exact False.elim hq
end
end Dk
set_option Elab.async false
set_option linter.all false
set_option maxRecDepth 100000
set_option maxHeartbeats 8000000
namespace Dk
open PySem PySem.Spec PyProof.Rows L2 Er LamX NdefX
/-! ### _law_all_refused -/
/-- without the lists that came since H, but for those of one text, and f -/
def still (H G : Hp) (f : Addr) : Hp := fun b => if b = f then G b else match G b with
  | some (.lst [.str z]) => some (.lst [.str z])
  | some (.lst _) => H b
  | o => o
section
variable {H G : Hp} {f b : Addr}
theorem still_le (m : Sm H G) : Sm (still H G f) G := fun b o e => by
  unfold still at e
  by_cases c : b = f
  · rw [if_pos c] at e
    exact e
  · rw [if_neg c] at e
    split at e
    · rename_i z h
      rw [h]
      exact e
    · exact m _ _ e
    · exact e
theorem still_f : still H G f f = G f := if_pos rfl
theorem still_one {z : Str} (e : G b = some (.lst [.str z])) : still H G f b = some (.lst [.str z]) := by
  unfold still
  by_cases c : b = f
  · rw [if_pos c, e]
  · rw [if_neg c, e]
theorem still_at {o : HO} (e : G b = some o) (n : ∀ xs, o ≠ .lst xs) : still H G f b = some o := by
  unfold still
  by_cases c : b = f
  · rw [if_pos c, e]
  · rw [if_neg c]
    split
    · rename_i z h
      rw [e] at h
      exact absurd (Option.some.inj h) (n _)
    · rename_i xs h0 h
      rw [e] at h
      exact absurd (Option.some.inj h) (n _)
    · exact e
theorem still_of (m : Sm H G) (nf : H f = none) : Sm H (still H G f) := fun b o e => by
  have c : b ≠ f := fun z => by
    rw [z, nf] at e
    cases e
  unfold still
  rw [if_neg c]
  have g := m _ _ e
  split
  · rename_i z h
    rw [← h]
    exact g
  · exact e
  · exact g
theorem still_no {xs : List V} (c : b ≠ f) (e : G b = some (.lst xs)) (n : ∀ z : Str, xs ≠ [.str z]) (nh : H b = none) : still H G f b = none := by
  unfold still
  rw [if_neg c]
  split
  · rename_i z h
    rw [e] at h
    exact absurd (HO.lst.inj (Option.some.inj h)) (n z)
  · exact nh
  · rename_i h1 h2
    exact absurd e (h2 _)
end
/-- what may stand in a list that is refused -/
def Elt (K : PySem.W.Frag) (B : Hp) (y : V) : Prop := (∃ e, Rr B y e ∧ Fit e 3 200) ∧ Itm K B y
inductive Fv (K : PySem.W.Frag) (ws : List Str) (B G : Hp) : V → Prop
  | flat {v : V} {d : PyData} (n : NoLst K B v) (r : Rr B v d) (f : Fit d 4 9000) : Fv K ws B G v
  | lst {a : Addr} {xs : List V} (n : B a = none) (e : G a = some (.lst xs)) (h : ∀ y ∈ xs, Elt K B y) (l : xs.length ≤ 20) (no : someB ws xs = false) : Fv K ws B G (.ref a)
theorem Fv.keep {K : PySem.W.Frag} {ws : List Str} {B G G2 : Hp} {v : V} (h : Fv K ws B G v) (k : ∀ a xs, v = .ref a → B a = none → G a = some (.lst xs) → G2 a = some (.lst xs)) : Fv K ws B G2 v := by
  cases h with
  | flat n r f => exact .flat n r f
  | lst n e h l no => exact .lst n (k _ _ rfl n e) h l no
theorem Elt.str {K : PySem.W.Frag} {B : Hp} {z : Str} (l : z.length ≤ 8) (o : PyData.strOk z = true) : Elt K B (.str z) := ⟨⟨_, .str z, (word_fit l o).more (by decide) (by decide)⟩, .inl ⟨z, rfl, by omega⟩⟩
theorem Elt.non {K : PySem.W.Frag} {B : Hp} : Elt K B .non := ⟨⟨_, .non, ⟨rfl, by decide, by decide +kernel⟩⟩, .inr .non⟩
theorem Elt.five {K : PySem.W.Frag} {B : Hp} : Elt K B (.int 5) := ⟨⟨_, .int 5, ⟨by decide +kernel, by decide, by decide +kernel⟩⟩, .inr .int⟩
theorem Elt.lst {K : PySem.W.Frag} {B : Hp} {a : Addr} {z : Str} (e : B a = some (.lst [.str z])) (l : z.length ≤ 8) (o : PyData.strOk z = true) : Elt K B (.ref a) := ⟨⟨_, .lst e (.cons (.str z) .nil), (list_fit l o).more (by decide) (by decide)⟩, .inr (.lst e)⟩
theorem Elt.tlst {K : PySem.W.Frag} {B : Hp} {a b : Addr} {z : Str} (e : B a = some (.tup [.ref b])) (e2 : B b = some (.lst [.str z])) (l : z.length ≤ 8) (o : PyData.strOk z = true) : Elt K B (.ref a) := by
  refine ⟨⟨_, .tup e (.cons (.lst e2 (.cons (.str z) .nil)) .nil), ?_⟩, .inr (.tup e)⟩
  have a := Fit.tuple (ds := [.list [.str z]]) (k := 2) (n := 93) fun d hd => by
    have e : d = .list [.str z] := by simpa using hd
    rw [e]
    exact list_fit l o
  exact a.more (by decide) (by show (93 + 2) * 1 + 3 ≤ 200; decide)
/-- the list, with a word behind it -/
theorem late_fit {d : PyData} (f : Fit d 4 9000) : Fit (.tuple [.str "standings", d]) 20 500000 := by
  have a := Fit.tuple (ds := [.str "standings", d]) (k := 4) (n := 9000) fun e he => by
    rcases List.mem_cons.mp he with z | z
    · rw [z]
      exact ⟨rfl, by simp [PyData.depth], by decide +kernel⟩
    · rw [List.mem_singleton.mp z]
      exact f
  exact a.more (by decide) (by show (9000 + 2) * 2 + 3 ≤ 500000; decide)
theorem elts_list {K : PySem.W.Frag} {B : Hp} {xs : List V} (h : ∀ y ∈ xs, Elt K B y) (l : xs.length ≤ 21) : ∃ ds, Rrs B xs ds ∧ Fit (.list ds) 4 9000 := by
  obtain ⟨es, r, f⟩ := rrs_of (xs := xs) fun y hy => (h y hy).1
  refine ⟨es, r, (Fit.list f).more (by decide) ?_⟩
  rw [← r.len]
  have : (200 + 2) * xs.length ≤ (200 + 2) * 21 := Nat.mul_le_mul_left _ l
  omega
theorem Fv.not {K : PySem.W.Frag} {ws : List Str} {B G : Hp} {v : V} (h : Fv K ws B G v) (m : Sm B G) : NotSome K G ws v := by
  cases h with
  | flat n r f => exact .inr (n.sm m)
  | lst n e h l no => exact .inl ⟨_, _, rfl, .inl (.inl e), by omega, fun y hy => (h y hy).2.sm m, no⟩
theorem words_fit {zs : List Str} (l : zs.length ≤ 9) (h : ∀ z ∈ zs, z.length ≤ 8 ∧ PyData.strOk z = true) : Fit (.tuple (zs.map PyData.str)) 4 9000 := by
  have a := Fit.tuple (ds := zs.map PyData.str) (k := 1) (n := 88) fun d hd => by
    obtain ⟨z, hz, rfl⟩ := List.mem_map.mp hd
    exact word_fit (h z hz).1 (h z hz).2
  rw [List.length_map] at a
  refine a.more (by decide) ?_
  have : (88 + 2) * zs.length ≤ (88 + 2) * 9 := Nat.mul_le_mul_left _ l
  omega
theorem one_fit {z : Str} (l : z.length ≤ 8) (o : PyData.strOk z = true) : Fit (.dict (([z].map PyData.str).zip [.bool true])) 4 9000 := by
  have c := PyData.leavesShort_of_canLay0 8 (.str z) (by simpa [PyData.canLay0] using o) rfl
  have d : PyData.leavesShort 8 (.dict [(.str z, .bool true)]) = true := by
    simp only [PyData.leavesShort, PyData.leavesShortKv, Bool.and_true] at c ⊢
    exact c
  have a := PyData.shown_le 8 (Nat.le_refl 8) (.dict [(.str z, .bool true)]) d
  have e : PyData.weight (.dict [(.str z, .bool true)]) = z.length + 2 := by
    simp only [PyData.weight, PyData.weightKv]
    rfl
  rw [e] at a
  refine ⟨by simp [PyData.showable, PyData.showableKv], by simp [PyData.depth, PyData.depthKv], ?_⟩
  have a : (PyData.shown (.dict (([z].map PyData.str).zip [.bool true]))).length ≤ (8 + 2) * (z.length + 2) + 8 := a
  omega
def spRf (K : PySem.W.Frag) (C Pt : Addr) : Sp := fun vs H Q _ => ∃ (p x nm : Addr) (ws ds : List Str) (tb : List (List Str)) (ls : List Str), vs = [.ref p, .ref x, .ref nm] ∧ Src H p ∧ H nm = some (.lst (ws.map V.str)) ∧ DkIs 9 ws ds tb ls ∧ DeskOb K C H x ws ds tb ls ∧ TabsN (sureT Pt) H ∧
  ∀ G, Sx p H G → Src G p → TabsN (sureT Pt) G → Q (.bl true) G
abbrev pRf : List Str := ["_law_source_here", "_law_desk_here", "_law_names_here"]
abbrev nRf : List Str := ["_law_source_here", "_law_desk_here", "_law_names_here", "_law_some", "_law_at", "_law_strange", "_law_faulty", "_law_odd", "_law_value", "_law_told_here", "_law_thing"]
theorem scRf : FnScope nRf pRf (defScope (top 56)) := ⟨rfl, rfl, rfl, by decide +kernel, rfl, by decide +kernel, by decide +kernel⟩
theorem tabs_sx {Pt p : Addr} {H G : Hp} (h : TabsN (sureT Pt) H) (s : Src H p) (m : Sx p H G) : TabsN (sureT Pt) G := by
  intro q hq
  obtain ⟨ps, e, r1, r2⟩ := h q hq
  refine ⟨ps, m _ _ (src_ne s e fun _ _ z => nomatch z) e, r1, fun pos cv hc => ?_⟩
  obtain ⟨c, e1, e2⟩ := r2 pos cv hc
  exact ⟨c, e1, m _ _ (src_ne s e2 fun _ _ z => nomatch z) e2⟩
theorem long_no {ws : List Str} {xs : List V} (h : ws.length < xs.length ∨ xs.length = 0) : someB ws xs = false := by
  unfold someB
  rw [decide_eq_false (by omega)]
  rfl
theorem odd_no {ws : List Str} {y : V} (h : ∀ z : Str, y ≠ .str z) : someB ws [y] = false := by
  have e : oneB ws y = false := by
    cases y with
    | str z => exact absurd rfl (h z)
    | _ => rfl
  unfold someB
  rw [List.all_cons, e, Bool.false_and, Bool.false_and, Bool.and_false]
section
variable {P : Program} {w : World} {K : PySem.W.Frag} {mg : Str → Option Value} {base : Heap} {f fG fT fM fD C Pt : Addr} {fd dG dT dM dD : FuncData}
theorem ok_rf (F : FnP K "_law_all_refused" (top 56) f fd) (S : IsSys K) (mL : mg "list" = none) (mT : mg "tuple" = none) (md : mg "dict" = none) (ml : mg "len" = none) (mr : mg "repr" = none) (mi : mg "isinstance" = none)
    (GM : FnOk P w K mg base CX0 2 fM dM ["_law_source_here", "_law_things"] (spMixed K)) (FM : FnP K "_law_mixed" (top 40) fM dM) (gM : mg "_law_mixed" = some (.ref fM))
    (GD : FnOk P w K mg base CX0 1 fD dD ["_law_source_here", "_law_span"] spD) (FD : FnP K "_law_draw" (top 38) fD dD) (gD : mg "_law_draw" = some (.ref fD))
    (GG : FnOk P w K mg base CX0 1 fG dG ["_law_names_here"] (spStranger K)) (FG : FnP K "_law_stranger" (top 52) fG dG) (gG : mg "_law_stranger" = some (.ref fG))
    (GT : FnOk P w K mg base CX0 7 fT dT ["_law_desk_here", "_law_value"] (spTo K C Pt)) (FT : FnP K "_law_told" (top 55) fT dT) (gT : mg "_law_told" = some (.ref fT)) :
    FnOkG P w K mg base CX0 8 f fd pRf (spRf K C Pt) := by
  refine okG (CX := CX0) F scRf (fun vs H Q E h => ?_) (fun cdv A outer s H vs Q E hgd hr h => ?_)
  · obtain ⟨p, x, nm, ws, ds, tb, ls, rfl, _⟩ := h
    rfl
  · have hr1 := hr.mono (show 1 ≤ 7 by decide)
    have hr2 := hr.mono (show 2 ≤ 7 by decide)
    have rep : CallR (cxOf CX0 P w K mg base nRf "_law_all_refused" (defScope (top 56)) f cdv A outer s H E).nox (.builtin "repr") rShA := call_rA S hgd hr.units
    refine ⟨_, PSs.nox (pss_cons (ps_asg (pe_tup (pa_cons (by exact (pe_call GM hr2 rfl gM FM.kp (bM FM) .nil pass0 (pa_cons (pv 0) (pa_cons (pv 2) pa_nil)))) (pa_cons (by exact (pe_call GD hr1 rfl gD FD.kp (bD FD) .nil pass0 (pa_cons (pv 0) (pa_cons (by exact (pe_op op_add (pe_callB call_len rfl ml boot_len (pa_cons (pv 2) pa_nil)) pe_int)) pa_nil)))) pa_nil)))
        (pg_tup rfl (pgs_cons (pg_name (i := 3) scRf.nd rfl (.inr rfl)) (pgs_cons (pg_name (i := 4) scRf.nd rfl (.inr rfl)) pgs_nil))))
      (pss_cons (ps_set (i := 5) scRf.nd rfl (.inl rfl) (by exact (pe_call GG hr1 rfl gG FG.kp (bStr FG) .nil pass0 (pa_cons (pv 2) pa_nil))))
      (pss_cons (ps_set (i := 6) scRf.nd rfl (.inl rfl) (pe_lst (pa_cons pe_non (pa_cons pe_int (pa_cons pe_str (pa_cons (by exact (pe_ix ix_list (pv 2) pe_int (fun _ _ => rfl))) (pa_cons pe_dnewK (pa_cons (by exact (pe_tup pa_nil)) (pa_cons (by exact (pe_lst pa_nil))
          (pa_cons (by exact (pe_callTy call_tupO rfl mT PyProof.Rows.boot_tuple (pa_cons (pv 3) pa_nil))) (pa_cons (by exact (pe_lst (pa_cons (by exact (pe_lst (pa_cons (by exact (pe_ix ix_list (pv 2) pe_int (fun _ _ => rfl))) pa_nil))) pa_nil))) (pa_cons (by exact (pe_lst (pa_cons pe_int pa_nil))) (pa_cons (by exact (pe_lst (pa_cons pe_non pa_nil)))
          (pa_cons (by exact (pe_callTy (call_dictP rfl) rfl md PyProof.Rows.boot_dict (pa_cons (by exact (pe_lst (pa_cons (by exact (pe_tup (pa_cons (by exact (pe_ix ix_list (pv 2) pe_int (fun _ _ => rfl))) (pa_cons pe_bl pa_nil)))) pa_nil))) pa_nil))) pa_nil))))))))))))))
      (pss_cons (ps_set (i := 7) scRf.nd rfl (.inl rfl) (pe_lst (pa_cons (pv 5) (pa_cons pe_str (pa_cons pe_non (pa_cons (by exact (pe_lst (pa_cons pe_str pa_nil))) (pa_cons (by exact (pe_tup (pa_cons (by exact (pe_lst (pa_cons pe_str pa_nil))) pa_nil))) (pa_cons (by exact (pe_ix ix_list (pv 2) pe_int (fun _ _ => rfl)))
          (pa_cons (by exact (pe_ix ix_list (pv 3) (pe_op op_sub pe_int pe_int) (fun _ _ => rfl))) pa_nil)))))))))
      (pss_cons (ps_set (i := 6) scRf.nd rfl (.inl rfl) (by exact (pe_op op_cat (pv 6) (by exact (pe_lc (own := [("_law_thing", 10)]) (g := gName 10) (tt := tYes) (te := tOp rCat (tOp rCat (tSl (rSlL K) (tVar 3) tNoPart (tPart (tVar 4))) (tLst (tCons (tVar 10) tNil))) (tSl (rSlL K) (tVar 3) (tPart (tVar 4)) tNoPart)) rfl scRf.nd (pi_list (pv 7))
            (blkOk_by (N := nRf) (sc := defScope (top 56)) (by decide +kernel)) (fun _ _ _ _ _ => pg_name (i := 10) scRf.nd rfl (Or.inl rfl)) (fun _ _ _ _ _ => pts_nil)
            (fun _ _ _ _ _ => by exact (pe_op op_cat (by exact (pe_op op_cat (by exact (pe_slice sl_list (by exact (pv 3)) po_none (po_some (by exact (pv 4))))) (by exact (pe_lst (pa_cons (by exact (pv 10)) pa_nil))))) (by exact (pe_slice sl_list (by exact (pv 3)) (po_some (by exact (pv 4))) po_none)))))))))
      (pss_cons (ps_for PassesOwn.never rfl (pi_list (pv 6)) (pg_name (i := 8) scRf.nd rfl (.inl rfl))
        (pss_cons (ps_set (i := 9) scRf.nd rfl (.inl rfl) (by exact (pe_call GT hr rfl gT FT.kp (bTo FT) .nil pass0 (pa_cons (pv 1) (pa_cons (pv 8) pa_nil)))))
        (pss_cons (ps_if (pt_val (by exact (pe_callB call_isi rfl mi PyProof.Rows.boot_isinstance (pa_cons (pv 8) (pa_cons (pe_bltn (v := .ty "list") rfl mL (by decide +kernel) rfl) pa_nil))))) (pss_one (ps_expr (pe_bm PySem.F.plainAttrs_list PySem.F.slot_list_append PySem.F.type_list_append mt_append (pv 8) (pa_cons pe_str pa_nil)))) pss_nil)
        (pss_one (ps_if (pt_cmpR op_ne (by exact (pe_callB rep rfl mr boot_repr (pa_cons (pv 9) pa_nil))) (by exact (pe_callB rep rfl mr boot_repr (pa_cons (by exact (pe_tup (pa_cons pe_str (pa_cons (pv 8) pa_nil)))) pa_nil))) (nomark _)) (pss_one (ps_ret pe_bl)) pss_nil)))))
      (pss_one (ps_ret pe_bl)))))))), ?_⟩
    obtain ⟨p, x, nm, ws, ds, tb, ls, rfl, hs, hnm, is, ob, hT, q⟩ := h
    have w1 := is.some
    have w9 := is.most
    have sz : ∀ n : Nat, n ≤ 1000 → n ≤ sizeLine := fun n z => by
      rw [sizeLine_eq]
      omega
    have nmp : nm ≠ p := src_ne_strs0 hs hnm
    have ok_word : ∀ {y : Str}, IsWord y → PyData.strOk y = true := fun {y} hy => by
      have := (lay_strs (ws := [y]) fun x hx => by rw [List.mem_singleton.mp hx]; exact hy).1
      simpa [PyData.canLayAll0, PyData.canLay0] using this
    have wok : ∀ z ∈ ws, z.length ≤ 8 ∧ PyData.strOk z = true := fun z hz => ⟨(is.word z hz).2.1, ok_word (is.word z hz)⟩
    refine ⟨_, rfl, _, rfl, p, nm, ws.map V.str, rfl, hs, .inl (.inl hnm), by rw [List.length_map]; omega, fun y hy => ?_, fun so ys H1 m1 s1 nso e1 pm => ?_⟩
    · obtain ⟨z, hz, rfl⟩ := List.mem_map.mp hy
      exact ⟨_, .str z (wok z hz).2⟩
    obtain ⟨zs, rfl⟩ := strs_of (ys := ys) fun y hy => by
      obtain ⟨z, _, e⟩ := List.mem_map.mp (pm.subset hy)
      exact ⟨z, e.symm⟩
    have pm := map_perm pm
    have zl : zs.length = ws.length := pm.length_eq
    have zok : ∀ z ∈ zs, z.length ≤ 8 ∧ PyData.strOk z = true := fun z hz => wok z (pm.subset hz)
    have hnm1 := m1 _ _ nmp hnm
    have sop : so ≠ p := hs.ne nso
    refine ⟨_, rfl, _, rfl, .ref nm, ws.length, rfl, .inl ⟨_, .inl (.inl hnm1), by rw [List.length_map]⟩, _, _, rfl, rfl, ?_⟩
    refine ⟨p, ws.length + 1, rfl, s1, by omega, by omega, fun k H2 hk m2 s2 fr2 => ⟨sz _ (by show 2 ≤ 1000; decide), fun u nu => ⟨u, _, rfl, .inl (.inl upd_same), rfl, _, _, rfl, _, _, rfl, rfl, ?_⟩⟩⟩
    have m3 : Sx p H (upd H2 u (.tup [.ref so, .int ((k : Nat) : Int)])) := m1.trans (m2.trans (Sx.of (Sm.new nu)))
    have s3 := s2.new (o := .tup [.ref so, .int ((k : Nat) : Int)]) nu
    have hS := Sm.new (o := .tup [.ref so, .int ((k : Nat) : Int)]) nu _ _ (m2 _ _ sop e1)
    generalize (upd H2 u (.tup [.ref so, .int ((k : Nat) : Int)])) = H3 at m3 s3 hS ⊢
    clear m1 s1 nso e1 m2 s2 fr2 nu hnm1
    refine ⟨_, rfl, nm, ws, rfl, .inl (.inl (m3 _ _ nmp hnm)), by omega, fun st Hz smz hst hno => ?_⟩
    obtain ⟨stl, sto⟩ := menu_ok st hst
    have mz : Sx p H Hz := m3.trans (Sx.of smz)
    have sZ := s3.sm smz
    have hSz := smz _ _ hS
    have hNz := mz _ _ nmp hnm
    have obz := ob.sx hs mz
    have tabz := tabs_sx hT hs mz
    clear m3 s3 hS smz
    obtain ⟨z0, wr, ez0⟩ := List.exists_cons_of_ne_nil (show ws ≠ [] from fun e => by rw [e] at w1; exact absurd w1 (by decide))
    have z0m : z0 ∈ ws := by
      rw [ez0]
      exact List.mem_cons_self
    have at0 : ((ws.map V.str)[0]? : Option V) = some (.str z0) := by
      rw [ez0]
      rfl
    have m := Sm.refl Hz
    have eN := hNz
    have eS := hSz
    refine ⟨_, rfl, nm, _, 0, .str z0, rfl, rfl, .inl (.inl eN), atI_nat (j := 0) at0, fun d0 nd0 => ?_⟩
    have qd0 := Sm.new (o := .dK []) nd0
    have ed0 : upd Hz d0 (.dK []) d0 = some (.dK []) := upd_same
    have zd0 := none_of_sm m nd0
    replace eN := qd0 _ _ eN
    replace eS := qd0 _ _ eS
    replace m := m.trans qd0
    generalize upd Hz d0 (.dK []) = G1 at eN eS ed0 m ⊢
    clear qd0 nd0
    refine ⟨sz _ (by show 0 ≤ 1000; decide), fun t1 nt1 => ?_⟩
    have qt1 := Sm.new (o := .tup []) nt1
    have et1 : upd G1 t1 (.tup []) t1 = some (.tup []) := upd_same
    have zt1 := none_of_sm m nt1
    replace eN := qt1 _ _ eN
    replace eS := qt1 _ _ eS
    replace ed0 := qt1 _ _ ed0
    replace m := m.trans qt1
    generalize upd G1 t1 (.tup []) = G2 at eN eS ed0 et1 m ⊢
    clear qt1 nt1
    refine ⟨sz _ (by show 0 ≤ 1000; decide), fun l1 nl1 => ?_⟩
    have ql1 := Sm.new (o := .lst []) nl1
    have el1 : upd G2 l1 (.lst []) l1 = some (.lst []) := upd_same
    have zl1 := none_of_sm m nl1
    replace eN := ql1 _ _ eN
    replace eS := ql1 _ _ eS
    replace ed0 := ql1 _ _ ed0
    replace et1 := ql1 _ _ et1
    replace m := m.trans ql1
    generalize upd G2 l1 (.lst []) = G3 at eN eS ed0 et1 el1 m ⊢
    clear ql1 nl1
    refine ⟨_, rfl, so, _, rfl, eS, fun t2 nt2 => ?_⟩
    have qt2 := Sm.new (o := .tup (zs.map V.str)) nt2
    have et2 : upd G3 t2 (.tup (zs.map V.str)) t2 = some (.tup (zs.map V.str)) := upd_same
    have zt2 := none_of_sm m nt2
    replace eN := qt2 _ _ eN
    replace eS := qt2 _ _ eS
    replace ed0 := qt2 _ _ ed0
    replace et1 := qt2 _ _ et1
    replace el1 := qt2 _ _ el1
    replace m := m.trans qt2
    generalize upd G3 t2 (.tup (zs.map V.str)) = G4 at eN eS ed0 et1 el1 et2 m ⊢
    clear qt2 nt2
    refine ⟨_, rfl, nm, _, 0, .str z0, rfl, rfl, .inl (.inl eN), atI_nat (j := 0) at0, sz _ (by show 1 ≤ 1000; decide), fun b1 nb1 => ?_⟩
    have qb1 := Sm.new (o := .lst [.str z0]) nb1
    have eb1 : upd G4 b1 (.lst [.str z0]) b1 = some (.lst [.str z0]) := upd_same
    have zb1 := none_of_sm m nb1
    replace eN := qb1 _ _ eN
    replace eS := qb1 _ _ eS
    replace ed0 := qb1 _ _ ed0
    replace et1 := qb1 _ _ et1
    replace el1 := qb1 _ _ el1
    replace et2 := qb1 _ _ et2
    replace m := m.trans qb1
    generalize upd G4 b1 (.lst [.str z0]) = G5 at eN eS ed0 et1 el1 et2 eb1 m ⊢
    clear qb1 nb1
    refine ⟨sz _ (by show 1 ≤ 1000; decide), fun l2 nl2 => ?_⟩
    have ql2 := Sm.new (o := .lst [.ref b1]) nl2
    have el2 : upd G5 l2 (.lst [.ref b1]) l2 = some (.lst [.ref b1]) := upd_same
    have zl2 := none_of_sm m nl2
    replace eN := ql2 _ _ eN
    replace eS := ql2 _ _ eS
    replace ed0 := ql2 _ _ ed0
    replace et1 := ql2 _ _ et1
    replace el1 := ql2 _ _ el1
    replace et2 := ql2 _ _ et2
    replace eb1 := ql2 _ _ eb1
    replace m := m.trans ql2
    generalize upd G5 l2 (.lst [.ref b1]) = G6 at eN eS ed0 et1 el1 et2 eb1 el2 m ⊢
    clear ql2 nl2
    refine ⟨sz _ (by show 1 ≤ 1000; decide), fun l3 nl3 => ?_⟩
    have ql3 := Sm.new (o := .lst [.int 5]) nl3
    have el3 : upd G6 l3 (.lst [.int 5]) l3 = some (.lst [.int 5]) := upd_same
    have zl3 := none_of_sm m nl3
    replace eN := ql3 _ _ eN
    replace eS := ql3 _ _ eS
    replace ed0 := ql3 _ _ ed0
    replace et1 := ql3 _ _ et1
    replace el1 := ql3 _ _ el1
    replace et2 := ql3 _ _ et2
    replace eb1 := ql3 _ _ eb1
    replace el2 := ql3 _ _ el2
    replace m := m.trans ql3
    generalize upd G6 l3 (.lst [.int 5]) = G7 at eN eS ed0 et1 el1 et2 eb1 el2 el3 m ⊢
    clear ql3 nl3
    refine ⟨sz _ (by show 1 ≤ 1000; decide), fun l4 nl4 => ?_⟩
    have ql4 := Sm.new (o := .lst [.non]) nl4
    have el4 : upd G7 l4 (.lst [.non]) l4 = some (.lst [.non]) := upd_same
    have zl4 := none_of_sm m nl4
    replace eN := ql4 _ _ eN
    replace eS := ql4 _ _ eS
    replace ed0 := ql4 _ _ ed0
    replace et1 := ql4 _ _ et1
    replace el1 := ql4 _ _ el1
    replace et2 := ql4 _ _ et2
    replace eb1 := ql4 _ _ eb1
    replace el2 := ql4 _ _ el2
    replace el3 := ql4 _ _ el3
    replace m := m.trans ql4
    generalize upd G7 l4 (.lst [.non]) = G8 at eN eS ed0 et1 el1 et2 eb1 el2 el3 el4 m ⊢
    clear ql4 nl4
    refine ⟨_, rfl, nm, _, 0, .str z0, rfl, rfl, .inl (.inl eN), atI_nat (j := 0) at0, sz _ (by show 2 ≤ 1000; decide), fun pt npt => ?_⟩
    have qpt := Sm.new (o := .tup [.str z0, .bl true]) npt
    have ept : upd G8 pt (.tup [.str z0, .bl true]) pt = some (.tup [.str z0, .bl true]) := upd_same
    have zpt := none_of_sm m npt
    replace eN := qpt _ _ eN
    replace eS := qpt _ _ eS
    replace ed0 := qpt _ _ ed0
    replace et1 := qpt _ _ et1
    replace el1 := qpt _ _ el1
    replace et2 := qpt _ _ et2
    replace eb1 := qpt _ _ eb1
    replace el2 := qpt _ _ el2
    replace el3 := qpt _ _ el3
    replace el4 := qpt _ _ el4
    replace m := m.trans qpt
    generalize upd G8 pt (.tup [.str z0, .bl true]) = G9 at eN eS ed0 et1 el1 et2 eb1 el2 el3 el4 ept m ⊢
    clear qpt npt
    refine ⟨sz _ (by show 1 ≤ 1000; decide), fun pl npl => ?_⟩
    have qpl := Sm.new (o := .lst [.ref pt]) npl
    have epl : upd G9 pl (.lst [.ref pt]) pl = some (.lst [.ref pt]) := upd_same
    have zpl := none_of_sm m npl
    replace eN := qpl _ _ eN
    replace eS := qpl _ _ eS
    replace ed0 := qpl _ _ ed0
    replace et1 := qpl _ _ et1
    replace el1 := qpl _ _ el1
    replace et2 := qpl _ _ et2
    replace eb1 := qpl _ _ eb1
    replace el2 := qpl _ _ el2
    replace el3 := qpl _ _ el3
    replace el4 := qpl _ _ el4
    replace ept := qpl _ _ ept
    replace m := m.trans qpl
    generalize upd G9 pl (.lst [.ref pt]) = G10 at eN eS ed0 et1 el1 et2 eb1 el2 el3 el4 ept epl m ⊢
    clear qpl npl
    refine ⟨pl, [pt], [(.inr z0, .bl true)], rfl, .inl (.inl epl), .cons (.inl (.inl ept)) .nil, fun d1 nd1 => ?_⟩
    have qd1 := Sm.new (o := .dK (mergeK [] [(.inr z0, .bl true)])) nd1
    have ed1 : upd G10 d1 (.dK (mergeK [] [(.inr z0, .bl true)])) d1 = some (.dK (mergeK [] [(.inr z0, .bl true)])) := upd_same
    have zd1 := none_of_sm m nd1
    replace eN := qd1 _ _ eN
    replace eS := qd1 _ _ eS
    replace ed0 := qd1 _ _ ed0
    replace et1 := qd1 _ _ et1
    replace el1 := qd1 _ _ el1
    replace et2 := qd1 _ _ et2
    replace eb1 := qd1 _ _ eb1
    replace el2 := qd1 _ _ el2
    replace el3 := qd1 _ _ el3
    replace el4 := qd1 _ _ el4
    replace ept := qd1 _ _ ept
    replace epl := qd1 _ _ epl
    replace m := m.trans qd1
    generalize upd G10 d1 (.dK (mergeK [] [(.inr z0, .bl true)])) = G11 at eN eS ed0 et1 el1 et2 eb1 el2 el3 el4 ept epl ed1 m ⊢
    clear qd1 nd1
    replace ed1 : G11 d1 = some (.dK [(.inr z0, .bl true)]) := ed1
    refine ⟨sz _ (by show 12 ≤ 1000; decide), fun fl nfl => ?_⟩
    have qfl := Sm.new (o := .lst [.non, .int 5, .str "", .str z0, .ref d0, .ref t1, .ref l1, .ref t2, .ref l2, .ref l3, .ref l4, .ref d1]) nfl
    have efl : upd G11 fl (.lst [.non, .int 5, .str "", .str z0, .ref d0, .ref t1, .ref l1, .ref t2, .ref l2, .ref l3, .ref l4, .ref d1]) fl = some (.lst [.non, .int 5, .str "", .str z0, .ref d0, .ref t1, .ref l1, .ref t2, .ref l2, .ref l3, .ref l4, .ref d1]) := upd_same
    have zfl := none_of_sm m nfl
    replace eN := qfl _ _ eN
    replace eS := qfl _ _ eS
    replace ed0 := qfl _ _ ed0
    replace et1 := qfl _ _ et1
    replace el1 := qfl _ _ el1
    replace et2 := qfl _ _ et2
    replace eb1 := qfl _ _ eb1
    replace el2 := qfl _ _ el2
    replace el3 := qfl _ _ el3
    replace el4 := qfl _ _ el4
    replace ept := qfl _ _ ept
    replace epl := qfl _ _ epl
    replace ed1 := qfl _ _ ed1
    replace m := m.trans qfl
    generalize upd G11 fl (.lst [.non, .int 5, .str "", .str z0, .ref d0, .ref t1, .ref l1, .ref t2, .ref l2, .ref l3, .ref l4, .ref d1]) = G12 at eN eS ed0 et1 el1 et2 eb1 el2 el3 el4 ept epl ed1 efl m ⊢
    clear qfl nfl
    refine ⟨_, rfl, sz _ (by show 1 ≤ 1000; decide), fun a1 na1 => ?_⟩
    have qa1 := Sm.new (o := .lst [.str "a"]) na1
    have ea1 : upd G12 a1 (.lst [.str "a"]) a1 = some (.lst [.str "a"]) := upd_same
    have za1 := none_of_sm m na1
    replace eN := qa1 _ _ eN
    replace eS := qa1 _ _ eS
    replace ed0 := qa1 _ _ ed0
    replace et1 := qa1 _ _ et1
    replace el1 := qa1 _ _ el1
    replace et2 := qa1 _ _ et2
    replace eb1 := qa1 _ _ eb1
    replace el2 := qa1 _ _ el2
    replace el3 := qa1 _ _ el3
    replace el4 := qa1 _ _ el4
    replace ept := qa1 _ _ ept
    replace epl := qa1 _ _ epl
    replace ed1 := qa1 _ _ ed1
    replace efl := qa1 _ _ efl
    replace m := m.trans qa1
    generalize upd G12 a1 (.lst [.str "a"]) = G13 at eN eS ed0 et1 el1 et2 eb1 el2 el3 el4 ept epl ed1 efl ea1 m ⊢
    clear qa1 na1
    refine ⟨sz _ (by show 1 ≤ 1000; decide), fun a2 na2 => ?_⟩
    have qa2 := Sm.new (o := .lst [.str "a"]) na2
    have ea2 : upd G13 a2 (.lst [.str "a"]) a2 = some (.lst [.str "a"]) := upd_same
    have za2 := none_of_sm m na2
    replace eN := qa2 _ _ eN
    replace eS := qa2 _ _ eS
    replace ed0 := qa2 _ _ ed0
    replace et1 := qa2 _ _ et1
    replace el1 := qa2 _ _ el1
    replace et2 := qa2 _ _ et2
    replace eb1 := qa2 _ _ eb1
    replace el2 := qa2 _ _ el2
    replace el3 := qa2 _ _ el3
    replace el4 := qa2 _ _ el4
    replace ept := qa2 _ _ ept
    replace epl := qa2 _ _ epl
    replace ed1 := qa2 _ _ ed1
    replace efl := qa2 _ _ efl
    replace ea1 := qa2 _ _ ea1
    replace m := m.trans qa2
    generalize upd G13 a2 (.lst [.str "a"]) = G14 at eN eS ed0 et1 el1 et2 eb1 el2 el3 el4 ept epl ed1 efl ea1 ea2 m ⊢
    clear qa2 na2
    refine ⟨sz _ (by show 1 ≤ 1000; decide), fun t3 nt3 => ?_⟩
    have qt3 := Sm.new (o := .tup [.ref a2]) nt3
    have et3 : upd G14 t3 (.tup [.ref a2]) t3 = some (.tup [.ref a2]) := upd_same
    have zt3 := none_of_sm m nt3
    replace eN := qt3 _ _ eN
    replace eS := qt3 _ _ eS
    replace ed0 := qt3 _ _ ed0
    replace et1 := qt3 _ _ et1
    replace el1 := qt3 _ _ el1
    replace et2 := qt3 _ _ et2
    replace eb1 := qt3 _ _ eb1
    replace el2 := qt3 _ _ el2
    replace el3 := qt3 _ _ el3
    replace el4 := qt3 _ _ el4
    replace ept := qt3 _ _ ept
    replace epl := qt3 _ _ epl
    replace ed1 := qt3 _ _ ed1
    replace efl := qt3 _ _ efl
    replace ea1 := qt3 _ _ ea1
    replace ea2 := qt3 _ _ ea2
    replace m := m.trans qt3
    generalize upd G14 t3 (.tup [.ref a2]) = G15 at eN eS ed0 et1 el1 et2 eb1 el2 el3 el4 ept epl ed1 efl ea1 ea2 et3 m ⊢
    clear qt3 nt3
    have zne : zs ≠ [] := fun e => by
      rw [e] at zl
      exact absurd (show (0 : Nat) = ws.length from zl) (by omega)
    obtain ⟨zr, zq, ezq⟩ : ∃ zr zq, zs = zr ++ [zq] := ⟨_, _, (List.dropLast_concat_getLast zne).symm⟩
    have zqm : zq ∈ zs := by
      rw [ezq]
      exact List.mem_append_right _ (List.mem_singleton.mpr rfl)
    have atl : atI (zs.map V.str) (-1) = some (.str zq) := by
      have e : ixN (zs.map V.str).length (-1) = some zr.length := by
        unfold ixN
        rw [if_neg (by decide), if_pos (by rw [List.length_map]; omega), List.length_map, ezq, List.length_append]
        congr 1
        show (-1 + ((zr.length + 1 : Nat) : Int)).toNat = zr.length
        omega
      unfold atI
      rw [e, ezq]
      show ((zr ++ [zq]).map V.str)[zr.length]? = _
      rw [List.map_append, List.getElem?_append_right (by rw [List.length_map]; omega), List.length_map, Nat.sub_self]
      rfl
    refine ⟨_, rfl, nm, _, 0, .str z0, rfl, rfl, .inl (.inl eN), atI_nat (j := 0) at0, _, rfl, _, _, rfl, rfl, so, _, -1, .str zq, rfl, rfl, .inl (.inl eS), atl, sz _ (by show 7 ≤ 1000; decide), fun od nod => ?_⟩
    have qod := Sm.new (o := .lst [.str st, .str "Zz", .non, .ref a1, .ref t3, .str z0, .str zq]) nod
    have eod : upd G15 od (.lst [.str st, .str "Zz", .non, .ref a1, .ref t3, .str z0, .str zq]) od = some (.lst [.str st, .str "Zz", .non, .ref a1, .ref t3, .str z0, .str zq]) := upd_same
    have zod := none_of_sm m nod
    replace eN := qod _ _ eN
    replace eS := qod _ _ eS
    replace ed0 := qod _ _ ed0
    replace et1 := qod _ _ et1
    replace el1 := qod _ _ el1
    replace et2 := qod _ _ et2
    replace eb1 := qod _ _ eb1
    replace el2 := qod _ _ el2
    replace el3 := qod _ _ el3
    replace el4 := qod _ _ el4
    replace ept := qod _ _ ept
    replace epl := qod _ _ epl
    replace ed1 := qod _ _ ed1
    replace efl := qod _ _ efl
    replace ea1 := qod _ _ ea1
    replace ea2 := qod _ _ ea2
    replace et3 := qod _ _ et3
    replace m := m.trans qod
    generalize upd G15 od (.lst [.str st, .str "Zz", .non, .ref a1, .ref t3, .str z0, .str zq]) = G16 at eN eS ed0 et1 el1 et2 eb1 el2 el3 el4 ept epl ed1 efl ea1 ea2 et3 eod m ⊢
    clear qod nod
    have cf : cutV (zs.map V.str) none (some ((k : Nat) : Int)) = (zs.take k).map V.str := by
      rw [cut_to _ _ (by rw [List.length_map]; omega), List.map_take]
    have ct : cutV (zs.map V.str) (some ((k : Nat) : Int)) none = (zs.drop k).map V.str := by
      unfold cutV
      rw [HT.sIx_none, HT.sIx_nat, List.length_map, show min k zs.length = k by omega, List.take_of_length_le (by rw [List.length_drop, List.length_map]; exact Nat.le_refl _), List.map_drop]
    refine ⟨_, rfl, _, rfl, od, rfl, ⟨_, .inl (.inl eod)⟩, fun D nD => ?_⟩
    have cl : ∀ y : V, ((zs.take k).map V.str ++ [y] ++ (zs.drop k).map V.str).length = ws.length + 1 := fun y => by
      rw [List.length_append, List.length_append, List.length_map, List.length_map, List.length_take, List.length_drop]
      show min k zs.length + 1 + (zs.length - k) = _
      omega
    refine lc_list (xs := [.str st, .str "Zz", .non, .ref a1, .ref t3, .str z0, .str zq]) (fun j G => ∃ cs : List Addr, G D = some (.lst (cs.map V.ref)) ∧ cs.length = j ∧ cs.Nodup ∧ (∀ (i : Nat) (c : Addr) (y : V), cs[i]? = some c → ([.str st, .str "Zz", .non, .ref a1, .ref t3, .str z0, .str zq] : List V)[i]? = some y → Hz c = none ∧ c ≠ D ∧ G c = some (.lst ((zs.take k).map V.str ++ [y] ++ (zs.drop k).map V.str))) ∧ Sm G16 G)
      ⟨[], upd_same, rfl, .nil, (fun i c y h => nomatch h), Sm.new nD⟩ (fun j G _ p => by obtain ⟨cs, _, _, _, _, mm⟩ := p; exact .inl (.inl (mm _ _ eod))) (fun j y G ey p => ?_) (fun G p => ?_)
    · obtain ⟨cs, eD, csl, nd, hc, mm⟩ := p
      have jl : j < 7 := (List.getElem?_eq_some_iff.mp ey).1
      refine ⟨rfl, ?_⟩
      unfold tYes
      dsimp only
      rw [if_pos rfl]
      refine ⟨_, rfl, _, rfl, k, rfl, so, _, rfl, .inl (.inl (mm _ _ eS)), fun c1 nc1 => ?_⟩
      rw [cf]
      have g1 := Sm.new (o := .lst ((zs.take k).map V.str)) nc1
      refine ⟨_, rfl, sz _ (by show 1 ≤ 1000; decide), fun c2 nc2 => ?_⟩
      have g2 := Sm.new (o := .lst [y]) nc2
      refine ⟨c1, c2, _, _, rfl, rfl, g2 _ _ upd_same, upd_same, sz _ (by rw [List.length_map, List.length_take]; show _ + 1 ≤ 1000; omega), fun c3 nc3 => ?_⟩
      have g3 := Sm.new (o := .lst ((zs.take k).map V.str ++ [y])) nc3
      refine ⟨_, rfl, _, rfl, k, rfl, so, _, rfl, .inl (.inl (g3 _ _ (g2 _ _ (g1 _ _ (mm _ _ eS))))), fun c4 nc4 => ?_⟩
      rw [ct]
      have g4 := Sm.new (o := .lst ((zs.drop k).map V.str)) nc4
      refine ⟨c3, c4, _, _, rfl, rfl, g4 _ _ upd_same, upd_same, sz _ (by have := cl y; rw [List.length_append] at this; omega), fun c nc => ?_⟩
      have g5 := Sm.new (o := .lst ((zs.take k).map V.str ++ [y] ++ (zs.drop k).map V.str)) nc
      have gg := g1.trans (g2.trans (g3.trans (g4.trans g5)))
      have ncG : G c = none := none_of_sm (g1.trans (g2.trans (g3.trans g4))) nc
      have ec : upd (upd (upd (upd (upd G c1 (.lst ((zs.take k).map V.str))) c2 (.lst [y])) c3 (.lst ((zs.take k).map V.str ++ [y]))) c4 (.lst ((zs.drop k).map V.str))) c (.lst ((zs.take k).map V.str ++ [y] ++ (zs.drop k).map V.str)) c = some (.lst ((zs.take k).map V.str ++ [y] ++ (zs.drop k).map V.str)) := upd_same
      generalize upd (upd (upd (upd (upd G c1 (.lst ((zs.take k).map V.str))) c2 (.lst [y])) c3 (.lst ((zs.take k).map V.str ++ [y]))) c4 (.lst ((zs.drop k).map V.str))) c (.lst ((zs.take k).map V.str ++ [y] ++ (zs.drop k).map V.str)) = G2 at gg ec ⊢
      have cD : c ≠ D := fun z => by
        rw [z, eD] at ncG
        cases ncG
      have cz : Hz c = none := none_of_sm (m.trans mm) ncG
      refine ⟨_, gg _ _ eD, by rw [List.length_map, sizeLine_eq]; omega, cs ++ [c], by rw [upd_same, List.map_append]; rfl, by rw [List.length_append, csl]; rfl, ?_, fun i c5 y5 h5 h6 => ?_, fun b o eb => ?_⟩
      · refine List.nodup_append.mpr ⟨nd, List.nodup_cons.mpr ⟨(fun h => nomatch h), .nil⟩, fun a ha b hb e => ?_⟩
        rw [List.mem_singleton.mp hb] at e
        obtain ⟨i, hi, ei⟩ := List.mem_iff_getElem.mp ha
        have e3 := (hc i a _ (by rw [List.getElem?_eq_getElem hi, ei]) (List.getElem?_eq_getElem (show i < 7 by omega))).2.2
        rw [e, ncG] at e3
        cases e3
      · by_cases hi : i < cs.length
        · rw [List.getElem?_append_left hi] at h5
          obtain ⟨r1, r2, r3⟩ := hc i c5 y5 h5 h6
          refine ⟨r1, r2, ?_⟩
          rw [upd_ne r2]
          exact gg _ _ r3
        · have e : i = cs.length := by
            have h := (List.getElem?_eq_some_iff.mp h5).1
            rw [List.length_append] at h
            have h : i < cs.length + 1 := h
            omega
          subst e
          rw [List.getElem?_append_right (Nat.le_refl _), Nat.sub_self] at h5
          have e5 : c = c5 := Option.some.inj h5
          subst e5
          rw [csl, ey] at h6
          have e6 : y = y5 := Option.some.inj h6
          subst e6
          refine ⟨cz, cD, ?_⟩
          rw [upd_ne cD]
          exact ec
      · rw [upd_ne (ne_of_none eb nD)]
        exact gg _ _ (mm _ _ eb)
    · obtain ⟨cs, eD, csl, nd, hc, mm⟩ := p
      have csl : cs.length = 7 := csl
      refine ⟨fl, D, _, _, rfl, rfl, mm _ _ efl, eD, sz _ (by rw [List.length_map, csl]; show 12 + 7 ≤ 1000; decide), fun af naf => ?_⟩
      have gaf := Sm.new (o := .lst ([.non, .int 5, .str "", .str z0, .ref d0, .ref t1, .ref l1, .ref t2, .ref l2, .ref l3, .ref l4, .ref d1] ++ cs.map V.ref)) naf
      have eaf : upd G af (.lst ([.non, .int 5, .str "", .str z0, .ref d0, .ref t1, .ref l1, .ref t2, .ref l2, .ref l3, .ref l4, .ref d1] ++ cs.map V.ref)) af = some (.lst ([.non, .int 5, .str "", .str z0, .ref d0, .ref t1, .ref l1, .ref t2, .ref l2, .ref l3, .ref l4, .ref d1] ++ cs.map V.ref)) := upd_same
      have zaf := none_of_sm (m.trans mm) naf
      have ccf : ∀ (i : Nat) (c : Addr), cs[i]? = some c → c ≠ af ∧ Hz c = none ∧ ∃ y : V, ([.str st, .str "Zz", .non, .ref a1, .ref t3, .str z0, .str zq] : List V)[i]? = some y ∧ upd G af (.lst ([.non, .int 5, .str "", .str z0, .ref d0, .ref t1, .ref l1, .ref t2, .ref l2, .ref l3, .ref l4, .ref d1] ++ cs.map V.ref)) c = some (.lst ((zs.take k).map V.str ++ [y] ++ (zs.drop k).map V.str)) := fun i c h => by
        have il := (List.getElem?_eq_some_iff.mp h).1
        obtain ⟨y, ey⟩ : ∃ y : V, ([.str st, .str "Zz", .non, .ref a1, .ref t3, .str z0, .str zq] : List V)[i]? = some y := ⟨_, List.getElem?_eq_getElem (show i < 7 by omega)⟩
        obtain ⟨r1, r2, r3⟩ := hc i c y h ey
        exact ⟨ne_of_none r3 naf, r1, y, ey, gaf _ _ r3⟩
      have fl1 := ne_of_none (mm _ _ el1) naf
      have fl2 := ne_of_none (mm _ _ el2) naf
      have fl3 := ne_of_none (mm _ _ el3) naf
      have fl4 := ne_of_none (mm _ _ el4) naf
      replace ed0 := gaf _ _ (mm _ _ ed0)
      replace et1 := gaf _ _ (mm _ _ et1)
      replace el1 := gaf _ _ (mm _ _ el1)
      replace et2 := gaf _ _ (mm _ _ et2)
      replace eb1 := gaf _ _ (mm _ _ eb1)
      replace el2 := gaf _ _ (mm _ _ el2)
      replace el3 := gaf _ _ (mm _ _ el3)
      replace el4 := gaf _ _ (mm _ _ el4)
      replace ept := gaf _ _ (mm _ _ ept)
      replace ed1 := gaf _ _ (mm _ _ ed1)
      replace ea1 := gaf _ _ (mm _ _ ea1)
      replace ea2 := gaf _ _ (mm _ _ ea2)
      replace et3 := gaf _ _ (mm _ _ et3)
      have mG := m.trans (mm.trans gaf)
      generalize upd G af (.lst ([.non, .int 5, .str "", .str z0, .ref d0, .ref t1, .ref l1, .ref t2, .ref l2, .ref l3, .ref l4, .ref d1] ++ cs.map V.ref)) = Gf at eaf ccf ed0 et1 el1 et2 eb1 el2 el3 el4 ept ed1 ea1 ea2 et3 mG ⊢
      clear gaf naf mm hc eD eN eS epl efl eod
      obtain ⟨B, hB⟩ : ∃ B, B = still Hz Gf af := ⟨_, rfl⟩
      have bm : Sm B Gf := by
        rw [hB]
        exact still_le mG
      have bz : Sm Hz B := by
        rw [hB]
        exact still_of mG zaf
      have eB : B af = some (.lst ([.non, .int 5, .str "", .str z0, .ref d0, .ref t1, .ref l1, .ref t2, .ref l2, .ref l3, .ref l4, .ref d1] ++ cs.map V.ref)) := by
        rw [hB]
        exact still_f.trans eaf
      replace ed0 := (show still Hz Gf af d0 = _ from still_at ed0 (fun _ z => nomatch z))
      rw [← hB] at ed0
      replace et1 := (show still Hz Gf af t1 = _ from still_at et1 (fun _ z => nomatch z))
      rw [← hB] at et1
      replace et2 := (show still Hz Gf af t2 = _ from still_at et2 (fun _ z => nomatch z))
      rw [← hB] at et2
      replace ed1 := (show still Hz Gf af d1 = _ from still_at ed1 (fun _ z => nomatch z))
      rw [← hB] at ed1
      replace et3 := (show still Hz Gf af t3 = _ from still_at et3 (fun _ z => nomatch z))
      rw [← hB] at et3
      replace eb1 := (show still Hz Gf af b1 = _ from still_one eb1)
      rw [← hB] at eb1
      replace ea1 := (show still Hz Gf af a1 = _ from still_one ea1)
      rw [← hB] at ea1
      replace ea2 := (show still Hz Gf af a2 = _ from still_one ea2)
      rw [← hB] at ea2
      have Bl1 : B l1 = none := by
        rw [hB]
        exact still_no fl1 el1 (fun z h => nomatch h) zl1
      have Bl2 : B l2 = none := by
        rw [hB]
        exact still_no fl2 el2 (fun z h => nomatch h) zl2
      have Bl3 : B l3 = none := by
        rw [hB]
        exact still_no fl3 el3 (fun z h => nomatch h) zl3
      have Bl4 : B l4 = none := by
        rw [hB]
        exact still_no fl4 el4 (fun z h => nomatch h) zl4
      have big : ∀ {y z : V}, (zs.take k).map V.str ++ [y] ++ (zs.drop k).map V.str ≠ [z] := fun {y z} h => by
        have := cl y
        rw [h] at this
        have : 1 = ws.length + 1 := this
        omega
      have Bc : ∀ (i : Nat) (c : Addr), cs[i]? = some c → B c = none := fun i c h => by
        obtain ⟨r1, r2, y, _, r3⟩ := ccf i c h
        rw [hB]
        exact still_no r1 r3 (fun z => big) r2
      have elt : ∀ y ∈ ([.str st, .str "Zz", .non, .ref a1, .ref t3, .str z0, .str zq] : List V), Elt K B y := fun y hy => by
        have a8 : ("a" : Str).length ≤ 8 ∧ PyData.strOk "a" = true := by decide +kernel
        simp only [List.mem_cons, List.not_mem_nil, or_false] at hy
        rcases hy with rfl | rfl | rfl | rfl | rfl | rfl | rfl
        · exact .str stl sto
        · exact .str (by decide +kernel) (by decide +kernel)
        · exact .non
        · exact .lst ea1 a8.1 a8.2
        · exact .tlst et3 ea2 a8.1 a8.2
        · exact .str (wok _ z0m).1 (wok _ z0m).2
        · exact .str (zok _ zqm).1 (zok _ zqm).2
      have all : ∀ v ∈ [.non, .int 5, .str "", .str z0, .ref d0, .ref t1, .ref l1, .ref t2, .ref l2, .ref l3, .ref l4, .ref d1] ++ cs.map V.ref, Fv K ws B Gf v := fun v hv => by
        rcases List.mem_append.mp hv with hv | hv
        · simp only [List.mem_cons, List.not_mem_nil, or_false] at hv
          rcases hv with rfl | rfl | rfl | rfl | rfl | rfl | rfl | rfl | rfl | rfl | rfl | rfl
          · exact .flat ⟨_, .base .non, kit_ty (by decide +kernel)⟩ .non ⟨rfl, by decide, by decide +kernel⟩
          · exact .flat ⟨_, .base (.int 5), kit_ty (by decide +kernel)⟩ (.int 5) ⟨by decide +kernel, by decide, by decide +kernel⟩
          · exact .flat ⟨_, .base (.str _), kit_ty (by decide +kernel)⟩ (.str _) ((word_fit (z := "") (by decide +kernel) (by decide +kernel)).more (by decide) (by decide))
          · exact .flat ⟨_, .base (.str _), kit_ty (by decide +kernel)⟩ (.str _) ((word_fit (wok _ z0m).1 (wok _ z0m).2).more (by decide) (by decide))
          · exact .flat ⟨_, .base (.dK ed0), kit_ty (by decide +kernel)⟩ (.dct (ks := []) (xs := []) (ds := []) ed0 rfl .nil) ⟨by decide +kernel, by decide +kernel, by decide +kernel⟩
          · exact .flat ⟨_, .base (.tup et1), kit_ty (by decide +kernel)⟩ (.tup et1 .nil) ⟨by decide +kernel, by decide +kernel, by decide +kernel⟩
          · exact .lst Bl1 el1 (fun y hy => nomatch hy) (by decide) (long_no (.inr rfl))
          · exact .flat ⟨_, .base (.tup et2), kit_ty (by decide +kernel)⟩ (.tup et2 (Rrs.strs zs)) (words_fit (by omega) zok)
          · exact .lst Bl2 el2 (fun y hy => by rw [List.mem_singleton.mp hy]; exact .lst eb1 (wok _ z0m).1 (wok _ z0m).2) (by show 1 ≤ 20; decide) (odd_no fun z h => nomatch h)
          · exact .lst Bl3 el3 (fun y hy => by rw [List.mem_singleton.mp hy]; exact .five) (by show 1 ≤ 20; decide) (odd_no fun z h => nomatch h)
          · exact .lst Bl4 el4 (fun y hy => by rw [List.mem_singleton.mp hy]; exact .non) (by show 1 ≤ 20; decide) (odd_no fun z h => nomatch h)
          · exact .flat ⟨_, .base (.dK ed1), kit_ty (by decide +kernel)⟩ (.dct (ks := [z0]) (xs := [.bl true]) (ds := [.bool true]) ed1 rfl (.cons (.bl true) .nil)) (one_fit (wok _ z0m).1 (wok _ z0m).2)
        · obtain ⟨c, hc, rfl⟩ := List.mem_map.mp hv
          obtain ⟨i, hi, ei⟩ := List.mem_iff_getElem.mp hc
          have ei2 : cs[i]? = some c := by rw [List.getElem?_eq_getElem hi, ei]
          obtain ⟨r1, r2, y, ey, r3⟩ := ccf i c ei2
          refine .lst (Bc i c ei2) r3 (fun u hu => ?_) (by rw [cl]; omega) (long_no (.inl (by rw [cl]; omega)))
          have word : ∀ z ∈ zs, Elt K B (.str z) := fun z hz => .str (zok z hz).1 (zok z hz).2
          rcases List.mem_append.mp hu with hu | hu
          · rcases List.mem_append.mp hu with hu | hu
            · obtain ⟨z, hz, rfl⟩ := List.mem_map.mp hu
              exact word z (List.mem_of_mem_take hz)
            · rw [List.mem_singleton.mp hu]
              exact elt y (List.mem_of_getElem? ey)
          · obtain ⟨z, hz, rfl⟩ := List.mem_map.mp hu
            exact word z (List.mem_of_mem_drop hz)
      -- each list stands once
      have place : ∀ (i : Nat) (a : Addr), ([.non, .int 5, .str "", .str z0, .ref d0, .ref t1, .ref l1, .ref t2, .ref l2, .ref l3, .ref l4, .ref d1] ++ cs.map V.ref)[i]? = some (V.ref a) → B a = none → (i = 6 ∧ a = l1) ∨ (i = 8 ∧ a = l2) ∨ (i = 9 ∧ a = l3) ∨ (i = 10 ∧ a = l4) ∨ (12 ≤ i ∧ cs[i - 12]? = some a) := fun i a h n => by
        match i, h with
        | 0, h => cases (show some V.non = some (V.ref a) from h)
        | 1, h => cases (show some (V.int 5) = some (V.ref a) from h)
        | 2, h => cases (show some (V.str "") = some (V.ref a) from h)
        | 3, h => cases (show some (V.str z0) = some (V.ref a) from h)
        | 4, h =>
          cases (show some (V.ref d0) = some (V.ref a) from h)
          rw [ed0] at n
          cases n
        | 5, h =>
          cases (show some (V.ref t1) = some (V.ref a) from h)
          rw [et1] at n
          cases n
        | 6, h =>
          cases (show some (V.ref l1) = some (V.ref a) from h)
          exact .inl ⟨rfl, rfl⟩
        | 7, h =>
          cases (show some (V.ref t2) = some (V.ref a) from h)
          rw [et2] at n
          cases n
        | 8, h =>
          cases (show some (V.ref l2) = some (V.ref a) from h)
          exact .inr (.inl ⟨rfl, rfl⟩)
        | 9, h =>
          cases (show some (V.ref l3) = some (V.ref a) from h)
          exact .inr (.inr (.inl ⟨rfl, rfl⟩))
        | 10, h =>
          cases (show some (V.ref l4) = some (V.ref a) from h)
          exact .inr (.inr (.inr (.inl ⟨rfl, rfl⟩)))
        | 11, h =>
          cases (show some (V.ref d1) = some (V.ref a) from h)
          rw [ed1] at n
          cases n
        | i + 12, h =>
          refine .inr (.inr (.inr (.inr ⟨by omega, ?_⟩)))
          have h : (cs.map V.ref)[i]? = some (V.ref a) := h
          rw [List.getElem?_map] at h
          show cs[i]? = some a
          cases e : cs[i]? with
          | none =>
            rw [e] at h
            cases h
          | some c =>
            rw [e] at h
            cases h
            rfl
      have n12 : l1 ≠ l2 := ne_of el1 el2 (fun z => nomatch z)
      have n13 : l1 ≠ l3 := ne_of el1 el3 (fun z => nomatch z)
      have n14 : l1 ≠ l4 := ne_of el1 el4 (fun z => nomatch z)
      have n23 : l2 ≠ l3 := ne_of el2 el3 (fun z => nomatch z)
      have n24 : l2 ≠ l4 := ne_of el2 el4 (fun z => nomatch z)
      have n34 : l3 ≠ l4 := ne_of el3 el4 (fun z => nomatch z)
      have nc : ∀ (i : Nat) (c : Addr), cs[i]? = some c → c ≠ l1 ∧ c ≠ l2 ∧ c ≠ l3 ∧ c ≠ l4 := fun i c h => by
        obtain ⟨r1, r2, y, _, r3⟩ := ccf i c h
        refine ⟨ne_of r3 el1 fun z => ?_, ne_of r3 el2 fun z => big (HO.lst.inj z), ne_of r3 el3 fun z => big (HO.lst.inj z), ne_of r3 el4 fun z => big (HO.lst.inj z)⟩
        have h := cl y
        rw [HO.lst.inj z] at h
        cases h
      have dist : ∀ (i j : Nat) (a : Addr), ([.non, .int 5, .str "", .str z0, .ref d0, .ref t1, .ref l1, .ref t2, .ref l2, .ref l3, .ref l4, .ref d1] ++ cs.map V.ref)[i]? = some (V.ref a) → ([.non, .int 5, .str "", .str z0, .ref d0, .ref t1, .ref l1, .ref t2, .ref l2, .ref l3, .ref l4, .ref d1] ++ cs.map V.ref)[j]? = some (V.ref a) → B a = none → i = j := fun i j a h1 h2 n => by
        rcases place i a h1 n with ⟨rfl, e1⟩ | ⟨rfl, e1⟩ | ⟨rfl, e1⟩ | ⟨rfl, e1⟩ | ⟨g1, e1⟩ <;> rcases place j a h2 n with ⟨rfl, e2⟩ | ⟨rfl, e2⟩ | ⟨rfl, e2⟩ | ⟨rfl, e2⟩ | ⟨g2, e2⟩ <;>
          first
            | rfl
            | exact absurd (e1.symm.trans e2) (by assumption)
            | exact absurd (e2.symm.trans e1) (by assumption)
            | exact absurd e1 (nc _ _ e2).1
            | exact absurd e1 (nc _ _ e2).2.1
            | exact absurd e1 (nc _ _ e2).2.2.1
            | exact absurd e1 (nc _ _ e2).2.2.2
            | exact absurd e2 (nc _ _ e1).1
            | exact absurd e2 (nc _ _ e1).2.1
            | exact absurd e2 (nc _ _ e1).2.2.1
            | exact absurd e2 (nc _ _ e1).2.2.2
            | (have := (List.getElem?_inj (List.getElem?_eq_some_iff.mp e1).1 nd).mp (e1.trans e2.symm)
               omega)
      clear place n12 n13 n14 n23 n24 n34 nc
      refine ⟨_, rfl, af, rfl, ⟨_, .inl (.inl eaf)⟩, ?_⟩
      generalize hVS : [.non, .int 5, .str "", .str z0, .ref d0, .ref t1, .ref l1, .ref t2, .ref l2, .ref l3, .ref l4, .ref d1] ++ cs.map V.ref = VS at all dist eB eaf ⊢
      refine for_list (K := K) (a := af) (xs := VS) (fun j σ G' => ∃ v8 v9 : Option V, σ = [some (.ref p), some (.ref x), some (.ref nm), some (.ref so), some (.int ((k : Nat) : Int)), some (.str st), some (.ref af), some (.ref od), v8, v9, none] ∧ Sm B G' ∧ ∀ i v, j ≤ i → VS[i]? = some v → Fv K ws B G' v) ?_ ?_ ?_ ?_
      · exact ⟨none, none, rfl, bm, fun i v _ h => all v (List.mem_of_getElem? h)⟩
      · rintro i σ G' _ ⟨v8, v9, rfl, mB, _⟩
        exact .inl (.inl (mB _ _ eB))
      · rintro i y σ G' hy ⟨v8, v9, rfl, mB, fv⟩
        have fy := fv i y (Nat.le_refl _) hy
        refine ⟨_, rfl, _, rfl, x, y, ws, ds, tb, ls, 9, rfl, obz.sm (bz.trans mB), is, Nat.le_refl _, TabsN.ext tabz (bz.trans mB), fy.not mB, fun p2 G2 m2 n2 e2 => ?_⟩
        have mB2 := mB.trans m2
        cases fy with
        | flat n r f =>
          obtain ⟨t, ty, kk⟩ := n
          refine ⟨_, rfl, y, .ty "list", _, _, false, rfl, .ty "list", tyx_sm ty mB2, kk, _, rfl, iteF ?_⟩
          refine ⟨_, rfl, p2, _, rfl, .tup e2 (.cons (.str _) (.cons (r.sm mB2) .nil)), late_fit f, _, rfl, sz _ (by show 2 ≤ 1000; decide), fun p3 np3 => ?_⟩
          have g3 := Sm.new (o := .tup [.str "standings", y]) np3
          refine ⟨p3, _, rfl, .tup upd_same (.cons (.str _) (.cons (r.sm (mB2.trans g3)) .nil)), late_fit f, rfl, _, rfl, ?_⟩
          rw [decide_eq_true rfl]
          exact iteF ⟨_, _, rfl, mB2.trans g3, fun i2 v2 hi2 hv2 => (fv i2 v2 (by omega) hv2).keep fun a xs _ _ e => g3 _ _ (m2 _ _ e)⟩
        | @lst a xs n e h l no =>
          have ea := m2 _ _ e
          have ap := ne_of_none e n2
          refine ⟨_, rfl, .ref a, .ty "list", _, _, true, rfl, .ty "list", .base (.lst ea), kit_ty (by decide +kernel), _, rfl, ?_⟩
          refine iteT ⟨_, rfl, .inl ⟨rfl, _, .inl (.inl ea)⟩, a, _, .str "late", rfl, rfl, ea, by rw [sizeLine_eq]; omega, ?_⟩
          have mB3 : Sm B (upd G2 a (.lst (xs ++ [.str "late"]))) := sm_upd mB2 n
          have e3 : upd G2 a (.lst (xs ++ [.str "late"])) a = some (.lst (xs ++ [.str "late"])) := upd_same
          have p23 : upd G2 a (.lst (xs ++ [.str "late"])) p2 = some (.tup [.str "standings", .ref a]) := by
            rw [upd_ne (Ne.symm ap)]
            exact e2
          obtain ⟨es, rs, fs⟩ := elts_list (K := K) (B := B) (xs := xs ++ [.str "late"]) (fun z hz => by
            rcases List.mem_append.mp hz with hz | hz
            · exact h z hz
            · rw [List.mem_singleton.mp hz]
              exact .str (by decide +kernel) (by decide +kernel)) (by rw [List.length_append]; show xs.length + 1 ≤ 21; omega)
          have oth : ∀ a2 xs2, a2 ≠ a → G' a2 = some (.lst xs2) → upd G2 a (.lst (xs ++ [.str "late"])) a2 = some (.lst xs2) := fun a2 xs2 ne e => by
            rw [upd_ne ne]
            exact m2 _ _ e
          generalize upd G2 a (.lst (xs ++ [.str "late"])) = G3 at mB3 e3 p23 oth ⊢
          refine ⟨_, rfl, p2, _, rfl, .tup p23 (.cons (.str _) (.cons (.lst e3 (rs.sm mB3)) .nil)), late_fit fs, _, rfl, sz _ (by show 2 ≤ 1000; decide), fun p3 np3 => ?_⟩
          have g3 := Sm.new (o := .tup [.str "standings", .ref a]) np3
          refine ⟨p3, _, rfl, .tup upd_same (.cons (.str _) (.cons (.lst (g3 _ _ e3) (rs.sm (mB3.trans g3))) .nil)), late_fit fs, rfl, _, rfl, ?_⟩
          rw [decide_eq_true rfl]
          refine iteF ⟨_, _, rfl, mB3.trans g3, fun i2 v2 hi2 hv2 => (fv i2 v2 (by omega) hv2).keep fun a2 xs2 e2 n2 e => g3 _ _ (oth a2 xs2 (fun z => ?_) e)⟩
          rw [e2, z] at hv2
          have := dist i i2 a hy hv2 n
          omega
      · rintro σ G' ⟨v8, v9, rfl, mB, _⟩
        exact q G' (mz.trans (Sx.of (bz.trans mB))) (sZ.sm (bz.trans mB)) (TabsN.ext tabz (bz.trans mB))
end
end Dk
set_option Elab.async false
set_option linter.all false
set_option maxRecDepth 100000
set_option maxHeartbeats 8000000
namespace Dk
open PySem PySem.Spec PyProof.Rows L2 Er LamX NdefX
/-! ### all that the law's body asks of the program's and its own functions -/
def Has (K : PySem.W.Frag) (mg : Str → Option Value) (x : Str) (st : Stmt) : Prop := ∃ f d, FnP K x st f d ∧ mg x = some (.ref f)
structure Lk (K : PySem.W.Frag) (mg : Str → Option Value) (base : Heap) (C CB Pt : Addr) : Prop where
  h8 : Has K mg "is_name" (top 8)
  h9 : Has K mg "is_one_of" (top 9)
  h10 : Has K mg "are_different" (top 10)
  h11 : Has K mg "is_table" (top 11)
  h14 : Has K mg "spread" (top 14)
  h15 : Has K mg "shortest_row" (top 15)
  h16 : Has K mg "numbered" (top 16)
  h17 : Has K mg "lot_numbers" (top 17)
  h18 : Has K mg "count_lots" (top 18)
  h19 : Has K mg "lot_moves" (top 19)
  h22 : Has K mg "are_standings" (top 22)
  h23 : Has K mg "are_deeds" (top 23)
  h24 : Has K mg "is_lead" (top 24)
  h25 : Has K mg "are_sights" (top 25)
  h26 : Has K mg "desk_leads" (top 26)
  h27 : Has K mg "desk_moves" (top 27)
  h28 : Has K mg "desk_sights" (top 28)
  h30 : Has K mg "desk_lots" (top 30)
  h32 : Has K mg "check_standings" (top 32)
  h33 : Has K mg "are_some" (top 33)
  h35 : Has K mg "led_all" (top 35)
  h37 : Has K mg "_law_source" (top 37)
  h38 : Has K mg "_law_draw" (top 38)
  h39 : Has K mg "_law_pick" (top 39)
  h40 : Has K mg "_law_mixed" (top 40)
  h41 : Has K mg "_law_word" (top 41)
  h42 : Has K mg "_law_names" (top 42)
  h43 : Has K mg "_law_twins" (top 43)
  h44 : Has K mg "_law_leads" (top 44)
  h45 : Has K mg "_law_sights" (top 45)
  h46 : Has K mg "_law_desk" (top 46)
  h47 : Has K mg "_law_turned" (top 47)
  h48 : Has K mg "_law_made" (top 48)
  h49 : Has K mg "_law_lead" (top 49)
  h50 : Has K mg "_law_nexts" (top 50)
  h51 : Has K mg "_law_apart" (top 51)
  h52 : Has K mg "_law_stranger" (top 52)
  h53 : Has K mg "_law_many" (top 53)
  h54 : Has K mg "_law_right" (top 54)
  h55 : Has K mg "_law_told" (top 55)
  h56 : Has K mg "_law_all_refused" (top 56)
  mi : mg "isinstance" = none
  mn : mg "int" = none
  ms : mg "str" = none
  mL : mg "list" = none
  mT : mg "tuple" = none
  md : mg "dict" = none
  mS : mg "set" = none
  mso : mg "sorted" = none
  ml : mg "len" = none
  ma : mg "all" = none
  mR : mg "range" = none
  mr : mg "repr" = none
  mx : mg "max" = none
  mm : mg "min" = none
  T : DkC K mg C
  N : ∀ t ∈ eqTypes, PySem.W.notFirst K C (.type t) = true
  hne : PySem.W.findIn K (.ref C) "__ne__" = some (some (.builtin "object.__ne__"))
  eq : ∃ f d, FunD K "__eq__" "Desk.__eq__" (defArgs (meth 7)) (defBody (meth 7)) (defScope (meth 7)) [] [] f d ∧ PySem.W.findIn K (.ref C) "__eq__" = some (some (.ref f)) ∧ PySem.W.isFn K (.ref f) = true
  ini_ : ∃ f d, FunD K "__init__" "Desk.__init__" (defArgs (meth 0)) (defBody (meth 0)) (defScope (meth 0)) [] [] f d ∧ Mk K C f
  sight_ : ∃ f d, FunD K "sight" "Desk.sight" (defArgs (meth 5)) (defBody (meth 5)) (defScope (meth 5)) [] [] f d ∧ Meth K C "sight" f
  sure_ : ∃ (f c : Addr) (dV kV doc pm ct oc : Value) (an od : Option Addr) (osl : Array (Option Value)), K.lookup f = some ⟨oc, od, .func (PySem.W.fnOf "sure_row" "sure_row" (defArgs (top 34)) (defBody (top 34)) (defScope (top 34)) dV kV doc pm an (.ref c) ct), osl⟩ ∧ PySem.W.codeIn K (.ref c) "sure_row" = true ∧ TabB base mg c Pt ∧
    FnP K "sure_row" (top 34) f (PySem.W.fnOf "sure_row" "sure_row" (defArgs (top 34)) (defBody (top 34)) (defScope (top 34)) dV kV doc pm an (.ref c) ct) ∧ mg "sure_row" = some (.ref f)
  std : ∃ p g d, FunD K "standings" "Desk.standings" (defArgs (meth 1)) (defBody (meth 1)) (defScope (meth 1)) [] [] g d ∧ PropOf K C "standings" p g
  dds : ∃ p g d, FunD K "deeds" "Desk.deeds" (defArgs (meth 2)) (defBody (meth 2)) (defScope (meth 2)) [] [] g d ∧ PropOf K C "deeds" p g
  B : ∃ f d, Bad K mg "BadStandings" "value" (ini (top 2)) CB f d
  te : PySem.W.exmOne K (.ref CB) (.ref CB) = some true
  sys : IsSys K
/-! ### what stays, but for a source and a table -/
structure Kp (B G : Hp) (Pt p : Addr) : Prop where
  sm : Sm B G
  tabs : TabsN (sureT Pt) G
  src : Src G p
  bp : B p = none
  nt : ∀ b ps, B b ≠ some (.tbl ps)
theorem tabs_at {Pt : Addr} {H : Hp} (t : TabsN (sureT Pt) H) : ∃ ps, H Pt = some (.tbl ps) := by
  obtain ⟨ps, h, _⟩ := t (Pt, _) (List.mem_singleton.mpr rfl)
  exact ⟨ps, h⟩
theorem tabs_of {Pt : Addr} {H H' : Hp} (t : TabsN (sureT Pt) H) (e : H' Pt = H Pt) (n : ∀ c q, H c = some (CodeO c q) → H' c = some (CodeO c q)) : TabsN (sureT Pt) H' := by
  intro q hq
  have hq2 : q = (Pt, _) := List.mem_singleton.mp hq
  subst hq2
  obtain ⟨ps, h, r1, r2⟩ := t (Pt, _) (List.mem_singleton.mpr rfl)
  refine ⟨ps, e.trans h, r1, fun pos cv hc => ?_⟩
  obtain ⟨c, e1, e2⟩ := r2 pos cv hc
  exact ⟨c, e1, n _ _ e2⟩
section
variable {B G G' : Hp} {Pt p : Addr}
theorem Kp.grow (k : Kp B G Pt p) (m : Sm G G') : Kp B G' Pt p := ⟨Sm.trans k.sm m, k.tabs.ext m, k.src.sm m, k.bp, k.nt⟩
theorem Kp.drawn (k : Kp B G Pt p) (m : Sx p G G') (s : Src G' p) : Kp B G' Pt p := by
  obtain ⟨ps, h⟩ := tabs_at k.tabs
  exact ⟨sm_sx k.sm k.bp m, tabs_of k.tabs (by rw [h]; exact m _ _ (src_ne k.src h fun _ _ z => nomatch z) h) (fun c q e => m _ _ (src_ne k.src e fun _ _ z => nomatch z) e), s, k.bp, k.nt⟩
theorem Kp.come (k : Kp B G Pt p) (m : ExtN G G') (t : TabsN (sureT Pt) G') : Kp B G' Pt p := by
  obtain ⟨own, mix, e, r⟩ := k.src
  exact ⟨fun b o e => m b o (k.sm b o e) fun ps z => k.nt b ps (z ▸ e), t, ⟨own, mix, m _ _ e (fun _ z => nomatch z), r⟩, k.bp, k.nt⟩
theorem Kp.set (k : Kp B G Pt p) {a : Addr} {o : HO} {xs : List V} (e : G a = some (.lst xs)) (h : B a = none) (n2 : a ≠ p) : Kp B (upd G a o) Pt p := by
  obtain ⟨ps, hp⟩ := tabs_at k.tabs
  refine ⟨sm_upd k.sm h, tabs_of k.tabs (upd_ne fun z => ?_) (fun c q ec => ?_), src_upd k.src n2, k.bp, k.nt⟩
  · rw [z, e] at hp
    cases hp
  · rw [upd_ne fun z => by
      rw [z, e] at ec
      cases ec]
    exact ec
/-- a heap without the source and without tables -/
def cl (p : Addr) (G : Hp) : Hp := fun b => if b = p then none else match G b with
  | some (.tbl _) => none
  | o => o
theorem cl_at {b : Addr} {o : HO} (e : G b = some o) (n : b ≠ p) (h : ∀ ps, o ≠ .tbl ps) : cl p G b = some o := by
  unfold cl
  rw [if_neg n, e]
  cases o with
  | tbl ps => exact absurd rfl (h ps)
  | _ => rfl
theorem cl_le : Sm (cl p G) G := fun b o e => by
  unfold cl at e
  by_cases c : b = p
  · rw [if_pos c] at e
    cases e
  · rw [if_neg c] at e
    cases z : G b with
    | none =>
      rw [z] at e
      cases e
    | some u =>
      rw [z] at e
      cases u with
      | tbl ps => cases e
      | _ => exact e
theorem Kp.cl (k : Kp B G Pt p) : Kp (cl p G) G Pt p := by
  refine ⟨cl_le, k.tabs, k.src, if_pos rfl, fun b ps e => ?_⟩
  have z := cl_le b _ e
  unfold Dk.cl at e
  by_cases c : b = p
  · rw [if_pos c] at e
    cases e
  · rw [if_neg c, z] at e
    cases e
theorem Kp.le (k : Kp B G Pt p) : Sm B (Dk.cl p G) := fun b o e => cl_at (k.sm b o e) (fun z => by rw [z, k.bp] at e; cases e) fun ps z => k.nt b ps (z ▸ e)
theorem cl_src {b : Addr} {o : HO} (s : Src G p) (e : G b = some o) (h : ∀ i j : Int, o ≠ .lst [.int i, .int j]) (n : ∀ ps, o ≠ .tbl ps) : Dk.cl p G b = some o := cl_at e (src_ne s e h) n
end
theorem DkAt.cl {G : Hp} {u nm dd sg p : Addr} {ws ds : List Str} {as : List Addr} {tb : List (List Str)} {ls : List Str} (h : DkAt G u nm dd sg ws ds as tb ls) (s : Src G p) : DkAt (Dk.cl p G) u nm dd sg ws ds as tb ls := by
  obtain ⟨h1, h2, h3, h4, h5⟩ := h
  exact ⟨cl_src s h1 (fun _ _ z => nomatch z) (fun _ z => nomatch z), cl_at h2 (src_ne_strs0 s h2) (fun _ z => nomatch z), cl_src s h3 (fun _ _ z => nomatch z) (fun _ z => nomatch z), cl_src s h4 (fun _ _ z => nomatch z) (fun _ z => nomatch z),
    pair_mono h5 fun a _ vs e => cl_src s e (fun _ _ z => nomatch z) (fun _ z => nomatch z)⟩
theorem SqT.cl {K : PySem.W.Frag} {G : Hp} {a p : Addr} {xs : List V} (h : SqT K G a xs) (s : Src G p) : SqT K (Dk.cl p G) a xs := by
  rcases h with (h | ⟨o, h⟩) | h
  · exact .inl (.inl (cl_src s h (fun _ _ z => nomatch z) (fun _ z => nomatch z)))
  · exact .inl (.inr ⟨o, cl_src s h (fun _ _ z => nomatch z) (fun _ z => nomatch z)⟩)
  · exact .inr h
theorem DeskOb.cl {K : PySem.W.Frag} {C : Addr} {G : Hp} {x p : Addr} {ws ds : List Str} {tb : List (List Str)} {ls : List Str} (h : DeskOb K C G x ws ds tb ls) (s : Src G p) : DeskOb K C (Dk.cl p G) x ws ds tb ls := by
  obtain ⟨dx, st, ld, si, as, h1, h2, h3, h4, pr⟩ := h
  exact ⟨dx, st, ld, si, as, cl_src s h1 (fun _ _ z => nomatch z) (fun _ z => nomatch z), SqT.cl h2 s, cl_src s h3 (fun _ _ z => nomatch z) (fun _ z => nomatch z), cl_src s h4 (fun _ _ z => nomatch z) (fun _ z => nomatch z),
    pair_mono pr fun a _ vs e => cl_src s e (fun _ _ z => nomatch z) (fun _ z => nomatch z)⟩
end Dk
set_option Elab.async false
set_option linter.all false
set_option maxRecDepth 100000
set_option maxHeartbeats 16000000
namespace Dk
open PySem PySem.Spec PyProof.Rows L2 Er LamX NdefX
open PySem.ErK (EC)
/-! ### the law's body -/
def spLaw (K : PySem.W.Frag) (Pt : Addr) : Sp := fun vs H Q _ => ∃ (a : Addr) (ns : List Int), vs = [.ref a] ∧ SqL K H a (ns.map V.int) ∧ ns.length ≤ 63 ∧ (∀ z ∈ ns, Builtin.Int.intBits z ≤ 1048576) ∧ TabsN (sureT Pt) H ∧ ∀ H', Q (.bl true) H'
abbrev nW : List Str := ["_law_script", "_law_start", "_law_source_here", "_law_turn", "_law_base", "_law_desk_here", "_law_far", "_law_look", "_law_some", "_law_due", "_law_before", "_law_lap", "_law_row"]
theorem scW : FnScope nW ["_law_script"] (defScope (top 57)) := ⟨rfl, rfl, rfl, by decide +kernel, rfl, by decide +kernel, by decide +kernel⟩
theorem tif_two {c : Bool} {σ : L2.St} {H : Hp} {Q : V → Hp → Prop} (h : ∀ m : Nat, 1 ≤ m → m ≤ 9 → Q (.int ((m : Nat) : Int)) H) : if c = true then tC (.int 9) σ H Q else tC (.int 5) σ H Q := by
  cases c with
  | true => exact iteT (h 9 (by decide) (by decide))
  | false => exact iteF (h 5 (by decide) (by decide))
/-- either way it is such a value -/
theorem tif_use {c : Bool} {t1 t2 : TE} {σ : L2.St} {H : Hp} {Q : V → Hp → Prop} (R : V → Hp → Prop) (h : ∀ v G, R v G → Q v G) (h1 : (∀ v G, R v G → Q v G) → t1 σ H Q) (h2 : (∀ v G, R v G → Q v G) → t2 σ H Q) : if c = true then t1 σ H Q else t2 σ H Q := by
  cases c with
  | true => exact iteT (h1 h)
  | false => exact iteF (h2 h)
theorem passE0 {X : Cx} : Passes (L2.CX X.prog X.w) X E0 := fun _ _ _ _ _ _ _ h => by
  obtain ⟨_, _, _, _, _, _, _, _, _, _, _, _, f⟩ := h
  exact f.elim
theorem list_fit9 {zs : List Str} (l : zs.length ≤ 9) (h : ∀ z ∈ zs, z.length ≤ 8 ∧ PyData.strOk z = true) : Fit (.list (zs.map PyData.str)) 20 500000 := by
  have a := Fit.list (ds := zs.map PyData.str) (k := 1) (n := 88) fun d hd => by
    obtain ⟨z, hz, rfl⟩ := List.mem_map.mp hd
    exact word_fit (h z hz).1 (h z hz).2
  rw [List.length_map] at a
  refine a.more (by decide) ?_
  have : (88 + 2) * zs.length ≤ (88 + 2) * 9 := Nat.mul_le_mul_left _ l
  omega
section
variable {P : Program} {w : World} {K : PySem.W.Frag} {mg : Str → Option Value} {base : Heap} {C CB Pt f : Addr} {fd : FuncData}
theorem bSrc {fS : Addr} {dS : FuncData} (F : FnP K "_law_source" (top 37) fS dS) : Binds K dS ["_law_script", "_law_start"] [] := F.bindsN fun _ _ _ _ _ _ us hl => match us, hl with
  | [_, _], _ => rfl
theorem bMd {fS : Addr} {dS : FuncData} (F : FnP K "_law_made" (top 48) fS dS) : Binds K dS ["_law_desk_here"] [] := F.bindsN fun _ _ _ _ _ _ us hl => match us, hl with
  | [_], _ => rfl
theorem bNx {fS : Addr} {dS : FuncData} (F : FnP K "_law_nexts" (top 50) fS dS) : Binds K dS ["_law_desk_here"] [] := F.bindsN fun _ _ _ _ _ _ us hl => match us, hl with
  | [_], _ => rfl
theorem bAp {fS : Addr} {dS : FuncData} (F : FnP K "_law_apart" (top 51) fS dS) : Binds K dS ["_law_names_here", "_law_visible", "_law_nexts_here"] [] := F.bindsN fun _ _ _ _ _ _ us hl => match us, hl with
  | [_, _, _], _ => rfl
theorem bRf {fS : Addr} {dS : FuncData} (F : FnP K "_law_all_refused" (top 56) fS dS) : Binds K dS pRf [] := F.bindsN fun _ _ _ _ _ _ us hl => match us, hl with
  | [_, _, _], _ => rfl
theorem ok_law (F : FnP K "law" (top 57) f fd) (L : Lk K mg base C CB Pt) : FnOkG P w K mg base CX0 9 f fd ["_law_script"] (spLaw K Pt) := by
  obtain ⟨f8, d8, F8, g8⟩ := L.h8
  obtain ⟨f9, d9, F9, g9⟩ := L.h9
  obtain ⟨f10, d10, F10, g10⟩ := L.h10
  obtain ⟨f11, d11, F11, g11⟩ := L.h11
  obtain ⟨f14, d14, F14, g14⟩ := L.h14
  obtain ⟨f15, d15, F15, g15⟩ := L.h15
  obtain ⟨f16, d16, F16, g16⟩ := L.h16
  obtain ⟨f17, d17, F17, g17⟩ := L.h17
  obtain ⟨f18, d18, F18, g18⟩ := L.h18
  obtain ⟨f19, d19, F19, g19⟩ := L.h19
  obtain ⟨f22, d22, F22, g22⟩ := L.h22
  obtain ⟨f23, d23, F23, g23⟩ := L.h23
  obtain ⟨f24, d24, F24, g24⟩ := L.h24
  obtain ⟨f25, d25, F25, g25⟩ := L.h25
  obtain ⟨f26, d26, F26, g26⟩ := L.h26
  obtain ⟨f27, d27, F27, g27⟩ := L.h27
  obtain ⟨f28, d28, F28, g28⟩ := L.h28
  obtain ⟨f30, d30, F30, g30⟩ := L.h30
  obtain ⟨f32, d32, F32, g32⟩ := L.h32
  obtain ⟨f33, d33, F33, g33⟩ := L.h33
  obtain ⟨f35, d35, F35, g35⟩ := L.h35
  obtain ⟨f37, d37, F37, g37⟩ := L.h37
  obtain ⟨f38, d38, F38, g38⟩ := L.h38
  obtain ⟨f39, d39, F39, g39⟩ := L.h39
  obtain ⟨f40, d40, F40, g40⟩ := L.h40
  obtain ⟨f41, d41, F41, g41⟩ := L.h41
  obtain ⟨f42, d42, F42, g42⟩ := L.h42
  obtain ⟨f43, d43, F43, g43⟩ := L.h43
  obtain ⟨f44, d44, F44, g44⟩ := L.h44
  obtain ⟨f45, d45, F45, g45⟩ := L.h45
  obtain ⟨f46, d46, F46, g46⟩ := L.h46
  obtain ⟨f47, d47, F47, g47⟩ := L.h47
  obtain ⟨f48, d48, F48, g48⟩ := L.h48
  obtain ⟨f49, d49, F49, g49⟩ := L.h49
  obtain ⟨f50, d50, F50, g50⟩ := L.h50
  obtain ⟨f51, d51, F51, g51⟩ := L.h51
  obtain ⟨f52, d52, F52, g52⟩ := L.h52
  obtain ⟨f53, d53, F53, g53⟩ := L.h53
  obtain ⟨f54, d54, F54, g54⟩ := L.h54
  obtain ⟨f55, d55, F55, g55⟩ := L.h55
  obtain ⟨f56, d56, F56, g56⟩ := L.h56
  obtain ⟨fE, dE, FE, eE, iE⟩ := L.eq
  obtain ⟨fI, dI, FI, Mk1⟩ := L.ini_
  obtain ⟨fS, dS, FS, MS⟩ := L.sight_
  obtain ⟨f34, c34, dV, kV, doc, pm, ct, oc, an, od, osl, lk34, cd34, TB, F34, g34⟩ := L.sure_
  obtain ⟨pS, gS, dG, FG, PS_⟩ := L.std
  obtain ⟨pD, gD, dD, FD_, PD⟩ := L.dds
  obtain ⟨fB, dB, B⟩ := L.B
  have T := L.T
  have G8 : FnOk P w K mg base CX0 1 f8 d8 ["value"] (spIsName K) := ok_isname F8 L.mi L.ms L.ml L.ma
  have G9 : FnOk P w K mg base CX0 1 f9 d9 nOneOf (spOneOf K) := ok_oneof F9 L.mi L.ms
  have G10 : FnOk P w K mg base CX0 1 f10 d10 nDiff (spDiff K) := ok_diff F10 L.mS L.ml
  have G11 : FnOk P w K mg base CX0 1 f11 d11 ["value", "keys"] (spTable K) := ok_table F11 L.mi L.md L.ml L.ma
  have G22 : FnOk P w K mg base CX0 2 f22 d22 ["value"] (spStand K) := ok_stand F22 L.mi L.mL L.mT L.ml L.ma G8 F8 g8 G10 F10 g10
  have G24 : FnOk P w K mg base CX0 2 f24 d24 ["value", "standings"] (spTab K leadB) := ok_lead F24 L.ma G11 F11 g11 G9 F9 g9
  have G23 : FnOk P w K mg base CX0 3 f23 d23 ["value", "standings"] (spDeeds K) := ok_deeds F23 L.mi L.md L.ml L.ma G8 F8 g8 G24 F24 g24
  have G25 : FnOk P w K mg base CX0 2 f25 d25 ["value", "standings"] (spTab K sightB) := ok_areS F25 L.ma G11 F11 g11 G8 F8 g8
  have GI : FnOk P w K mg base CX0 4 fI dI ["self", "standings", "deeds", "sights"] (spInit K C) := ok_init FI L.mT T.cl T.n1 T.n2 T.n3 G22 F22 g22 G23 F23 g23 G25 F25 g25
  have bIn : Binds K dI ["self", "standings", "deeds", "sights"] [] := FI.bindsN fun _ _ _ _ _ _ us hl => match us, hl with
    | [_, _, _, _], _ => rfl
  have G37 : FnOk P w K mg base CX0 1 f37 d37 ["_law_script", "_law_start"] (spSrc K) := ok_src F37 L.mn L.ml
  have G38 : FnOk P w K mg base CX0 1 f38 d38 ["_law_source_here", "_law_span"] spD := ok_d F38 L.mn
  have G39 : FnOk P w K mg base CX0 2 f39 d39 nPick (spPick K) := ok_pick F39 L.ml L.mn F38 g38
  have G40 : FnOk P w K mg base CX0 2 f40 d40 ["_law_source_here", "_law_things"] (spMixed K) := ok_mixed F40 L.ml L.mn L.mL F38 g38
  have G42 : FnOk P w K mg base CX0 4 f42 d42 ["_law_source_here", "_law_many_here"] spNames := ok_names F42 L.ml L.mn L.mR L.mL F38 g38 F39 g39 F40 g40 F41 g41
  have G43 : FnOk P w K mg base CX0 2 f43 d43 ["_law_source_here", "_law_many_here"] spTwins := ok_twins F43 L.mn L.mR F38 g38
  have G44 : FnOk P w K mg base CX0 3 f44 d44 ["_law_source_here", "_law_twins_here"] spLeads := ok_leads F44 L.ml L.mn L.mR L.mL L.mx F38 g38 F39 g39 F40 g40
  have G45 : FnOk P w K mg base CX0 5 f45 d45 ["_law_source_here", "_law_many_here"] spSights := ok_sights F45 L.ml L.mn L.mR G38 F38 g38 G39 F39 g39 G42 F42 g42
  have G46 : FnOk P w K mg base CX0 6 f46 d46 ["_law_source_here", "_law_most"] spDesk := ok_desk F46 L.mR L.md G38 F38 g38 G42 F42 g42 G43 F43 g43 G44 F44 g44 G45 F45 g45
  have G47 : FnOk P w K mg base CX0 1 f47 d47 ["_law_some"] spTurned := ok_turned F47 L.mL L.md
  have G48 : FnOk P w K mg base CX0 6 f48 d48 ["_law_desk_here"] (spMade K C) := ok_made F48 L.mL T.g Mk1 GI bIn G47 F47 g47
  have G49 : FnOk P w K mg base CX0 1 f49 d49 ["_law_desk_here", "_law_standing", "_law_row"] (spLeadL K) := ok_leadL F49
  have G50 : FnOk P w K mg base CX0 1 f50 d50 ["_law_desk_here"] spNexts := ok_nexts F50
  have G51 : FnOk P w K mg base CX0 1 f51 d51 ["_law_names_here", "_law_visible", "_law_nexts_here"] (spApart K) := ok_apart F51 L.ml L.mR
  have G52 : FnOk P w K mg base CX0 1 f52 d52 ["_law_names_here"] (spStranger K) := ok_stranger F52
  have GG : FnOk P w K mg base CX0 1 gS dG nSelf (spStd C) := ok_std FG T.cl T.n1
  have bG : Binds K dG nSelf [] := bStd FG
  have GDd : FnOk P w K mg base CX0 1 gD dD nSelf (spDds K C) := ok_dds FD_ T.cl T.n2 L.mT
  have bDd : Binds K dD nSelf [] := bDds FD_
  have GS0 : FnOk P w K mg base CX0 2 fS dS nSight (spSight0 K C) := ok_sight0 FS T.cl T.n1 T.n3 G9 F9 g9
  have G26 : FnOk P w K mg base CX0 1 f26 d26 ["desk"] (spDl K C) := ok_dl F26 T.cl T.n2 L.md
  have G27 : FnOk P w K mg base CX0 3 f27 d27 ["desk"] (spMv K C) := ok_mv F27 T.cl PS_ GG bG G26 F26 g26
  have G28 : FnOk P w K mg base CX0 3 f28 d28 ["desk"] (spSi K C) := ok_si F28 T.cl PS_ GG bG MS GS0 FS
  have GN1 : FnOk P w K mg base CX0 1 f16 d16 ["nodes", "signs"] (spNum1 K) := ok_num1 F16 L.ml
  have GN2 : FnOk P w K mg base CX0 1 f16 d16 ["nodes", "signs"] (spNum2 K) := ok_num2 F16 L.ml
  have G18 : FnOk P w K mg base CX0 1 f18 d18 nCl spCl := ok_cl F18 L.ml L.mS L.mL
  have G17 : FnOk P w K mg base CX0 2 f17 d17 ["nodes", "signs", "moves"] (spLn K) := ok_ln F17 L.ml L.mL L.mT GN1 GN2 F16 g16 G18 F18 g18
  have G30 : FnOk P w K mg base CX0 4 f30 d30 nDo (spLots K C) := ok_lots F30 T.cl PS_ GG bG G17 F17 g17 G28 F28 g28 G27 F27 g27
  have G19 : FnOk P w K mg base CX0 1 f19 d19 ["lots", "moves"] spLm := ok_lm F19
  have G35 : FnOk P w K mg base CX0 1 f35 d35 ["lots", "moves", "deed"] spLa := ok_la F35 L.mT L.mso
  have G33 : FnOk P w K mg base CX0 3 f33 d33 ["desk", "value"] (spSome K C) := ok_some F33 L.mi L.mL L.ml L.ma T.cl PS_ GG bG G9 F9 g9 G10 F10 g10
  have G32 : FnOk P w K mg base (L2.CX P w) 4 f32 d32 nCk (spCk K C CB) := ok_ck F32 B G33 F33 g33
  have G34 : FnOk P w K mg base (L2.CX P w) 6 f34 _ ["desk", "standings"] (spSr K C CB Pt) := ok_sr lk34 cd34 TB L.ml L.mT L.mso T.cl PD GDd bDd F15 g15 F14 g14 G30 F30 g30 G27 F27 g27 G19 F19 g19 G32 F32 g32 G35 F35 g35
  have G53 : FnOk P w K mg base CX0 1 f53 d53 ["_law_desk_here", "_law_far", "_law_some"] (spMa K) := ok_ma F53 L.mT L.mso L.mS
  have G54 : FnOk P w K mg base CX0 2 f54 d54 ["_law_desk_here", "_law_far", "_law_some", "_law_due", "_law_row"] (spRt K) := ok_rt F54 L.mi L.ms L.mL L.ml G49 F49 g49
  have G55 : FnOk P w K mg base CX0 7 f55 d55 ["_law_desk_here", "_law_value"] (spTo K C Pt) := ok_to F55 B L.te G34 F34 g34
  have G56 : FnOkG P w K mg base CX0 8 f56 d56 pRf (spRf K C Pt) := ok_rf F56 L.sys L.mL L.mT L.md L.ml L.mr L.mi G40 F40 g40 G38 F38 g38 G52 F52 g52 G55 F55 g55
  have GE : FnOk P w K mg base CX0 1 fE dE nEq (spEqK K C) := ok_eqK FE L.mi L.mT T
  have bE : Binds K dE nEq [] := FE.bindsN fun _ _ _ _ _ _ us hl => match us, hl with
    | [_, _], _ => rfl
  refine okG (CX := CX0) F scW (fun vs H Q E h => ?_) (fun cdv A outer s H vs Q E hgd hr h => ?_)
  · obtain ⟨a, ns, rfl, _⟩ := h
    rfl
  have hr1 := hr.mono (show 1 ≤ 8 by decide)
  have hr2 := hr.mono (show 2 ≤ 8 by decide)
  have hr6 := hr.mono (show 6 ≤ 8 by decide)
  have rep : CallR (cxOf CX0 P w K mg base nW "law" (defScope (top 57)) f cdv A outer s H E).nox (.builtin "repr") rShA := call_rA L.sys hgd hr.units
  have neY : OpR (cxOf CX0 P w K mg base nW "law" (defScope (top 57)) f cdv A outer s H E).nox (compareOp .NotEq) (rNeY C (spEqK K C) E0) := op_neY GE T.hm L.hne eE iE bE hr2 pass0 L.N
  refine ⟨_, PSs.nox (pss_cons (ps_for PassesOwn.never rfl (pi_range1 rfl L.mR (pa_cons (pe_callB (call_max2 rfl) rfl L.mx PyProof.Rows.boot_max (pa_cons pe_int (pa_cons (pe_callB (call_min2 rfl) rfl L.mm PyProof.Rows.boot_min (pa_cons pe_int (pa_cons (pe_callB call_len rfl L.ml boot_len (pa_cons (pv 0) pa_nil)) pa_nil))) pa_nil))) pa_nil)) (pg_name (i := 1) scW.nd rfl (.inl rfl)) (pss_cons (ps_set (i := 2) scW.nd rfl (.inl rfl) (by exact (pe_call G37 hr1 rfl g37 F37.kp (bSrc F37) .nil pass0 (pa_cons (pv 0) (pa_cons (pv 1) pa_nil)))))
      (pss_one (ps_for PassesOwn.never rfl (pi_range1 rfl L.mR (pa_cons pe_int pa_nil)) (pg_name (i := 3) scW.nd rfl (.inl rfl)) (pss_cons (ps_set (i := 4) scW.nd rfl (.inl rfl) (by exact (pe_call G46 hr6 rfl g46 F46.kp (bDk F46) .nil pass0 (pa_cons (pv 2) (pa_cons (by exact (pe_ifExp (pt_cmpR op_eq (by exact (pe_op op_add (pv 1) (pv 3))) pe_int (nomark _)) pe_int pe_int)) pa_nil)))))
      (pss_cons (ps_par (i := 5) (j := 6) rfl scW.nd rfl rfl (by decide) rfl rfl (pa_cons (by exact (pe_call G48 hr6 rfl g48 F48.kp (bMd F48) .nil pass0 (pa_cons (pv 4) pa_nil))) (pa_cons (by exact (pe_call G51 hr1 rfl g51 F51.kp (bAp F51) .nil pass0 (pa_cons (by exact (pe_ix ix_tup (pv 4) pe_int (fun _ _ => rfl))) (pa_cons (by exact (pe_ix ix_tup (pv 4) pe_int (fun _ _ => rfl))) (pa_cons (by exact (pe_call G50 hr1 rfl g50 F50.kp (bNx F50) .nil pass0 (pa_cons (pv 4) pa_nil))) pa_nil))))) pa_nil)) (by rfl))
      (pss_cons (ps_for PassesOwn.never rfl (pi_range1 rfl L.mR (pa_cons pe_int pa_nil)) (pg_name (i := 7) scW.nd rfl (.inl rfl)) (pss_cons (ps_set (i := 8) scW.nd rfl (.inl rfl) (by exact (pe_call G40 hr2 rfl g40 F40.kp (bM F40) .nil pass0 (pa_cons (pv 2) (pa_cons (by exact (pe_ix ix_tup (pv 4) pe_int (fun _ _ => rfl))) pa_nil)))))
      (pss_cons (ps_set (i := 8) scW.nd rfl (.inl rfl) (by exact (pe_ifExp (pt_cmpR op_eq (pv 7) pe_int (nomark _)) (pv 8) (by exact (pe_slice sl_list (pv 8) po_none (po_some (by exact (pe_op op_add pe_int (by exact (pe_call G38 hr1 rfl g38 F38.kp (bD F38) .nil pass0 (pa_cons (pv 2) (pa_cons (by exact (pe_callB call_len rfl L.ml boot_len (pa_cons (pv 8) pa_nil))) pa_nil))))))))))))
      (pss_cons (ps_par (i := 9) (j := 10) rfl scW.nd rfl rfl (by decide) rfl rfl (pa_cons (by exact (pe_call G53 hr1 rfl g53 F53.kp (bMa F53) .nil pass0 (pa_cons (pv 4) (pa_cons (pv 6) (pa_cons (pv 8) pa_nil))))) (pa_cons (by exact (pe_callB rep rfl L.mr boot_repr (pa_cons (pv 8) pa_nil))) pa_nil)) (by rfl))
      (pss_one (ps_for PassesOwn.never rfl (pi_range1 rfl L.mR (pa_cons pe_int pa_nil)) (pg_name (i := 11) scW.nd rfl (.inl rfl)) (pss_cons (ps_set (i := 12) scW.nd rfl (.inl rfl) (by exact (pe_call G34 hr6 rfl g34 F34.kp (bSr F34) .nil passE0 (pa_cons (pv 5) (pa_cons (pv 8) pa_nil)))))
      (pss_cons (ps_if (PW.pt (pw_or (pt_not (pt_val (by exact (pe_call G54 hr2 rfl g54 F54.kp (bRt F54) .nil pass0 (pa_cons (pv 4) (pa_cons (pv 6) (pa_cons (pv 8) (pa_cons (pv 9) (pa_cons (pv 12) pa_nil))))))))) (pw_or1 (pt_cmpR op_ne (by exact (pe_callB rep rfl L.mr boot_repr (pa_cons (pv 8) pa_nil))) (pv 10) (nomark _))))) (pss_one (ps_ret pe_bl)) pss_nil)
      (pss_one (ps_if (pt_cmpR op_notN (pv 12) pe_non (nomark _)) (pss_one (ps_expr (pe_bm PySem.F.plainAttrs_list PySem.F.slot_list_append PySem.F.type_list_append mt_append (pv 12) (pa_cons pe_str pa_nil)))) pss_nil))))))))))
      (pss_one (ps_if (PW.pt (pw_or (pt_not (pt_val (by exact (pe_callGG G56 hgd hr rfl g56 F56.kp (bRf F56) pass0 (pa_cons (pv 2) (pa_cons (pv 5) (pa_cons (by exact (pe_ix ix_tup (pv 4) pe_int (fun _ _ => rfl))) pa_nil))))))) (pw_or1 (pt_cmpR neY (pv 5) (by exact (pe_call G48 hr6 rfl g48 F48.kp (bMd F48) .nil pass0 (pa_cons (pv 4) pa_nil))) (nomark _))))) (pss_one (ps_ret pe_bl)) pss_nil)))))))))
      (pss_one (ps_ret pe_bl))), ?_⟩
  obtain ⟨a, ns, rfl, hS, hl, hb, hT, q⟩ := h
  have sz : ∀ n : Nat, n ≤ 1000 → n ≤ sizeLine := fun n z => by
    rw [sizeLine_eq]
    omega
  refine ⟨_, rfl, _, _, rfl, .inl ⟨_, hS, rfl⟩, _, _, rfl, _, _, rfl, _, rfl, ?_, ?_, for_range (lo := 0) (fun i σ H' => ∃ v1 v2 v3 v4 v5 v6 v7 v8 v9 v10 v11 v12 : Option V, σ = [some (.ref a), v1, v2, v3, v4, v5, v6, v7, v8, v9, v10, v11, v12] ∧ SqL K H' a (ns.map V.int) ∧ TabsN (sureT Pt) H') ⟨none, none, none, none, none, none, none, none, none, none, none, none, rfl, hS, hT⟩ ?_ ?_⟩
  · split <;> (try split) <;> omega
  · split <;> (try split) <;> omega
  · rintro i σ H' hi ⟨v1, v2, v3, v4, v5, v6, v7, v8, v9, v10, v11, v12, rfl, hS1, hT1⟩
    have i3 : i ≤ 3 := by
      revert hi
      split <;> (try split) <;> intro hi <;> omega
    clear hi
    refine ⟨_, rfl, _, rfl, a, ns, i, by simp, hS1, hl, i3, hb, fun p own mix np w0 w1 w2 => ?_⟩
    have s0 := Sm.new (o := .lst [.int own, .int mix]) np
    have src0 : Src (upd H' p (.lst [.int own, .int mix])) p := ⟨own, mix, upd_same, w0, w1, w2⟩
    have k0 : Kp (cl p (upd H' p (.lst [.int own, .int mix]))) (upd H' p (.lst [.int own, .int mix])) Pt p := ⟨cl_le, hT1.ext s0, src0, if_pos rfl, fun b ps e => by
      have z := cl_le b _ e
      unfold cl at e
      by_cases c : b = p
      · rw [if_pos c] at e
        cases e
      · rw [if_neg c, z] at e
        cases e⟩
    have aS : SqL K (cl p (upd H' p (.lst [.int own, .int mix]))) a (ns.map V.int) := by
      rcases hS1 with (e | ⟨o, e⟩) | e
      · exact .inl (.inl (cl_at (s0 _ _ e) (fun c => by rw [c, np] at e; cases e) fun _ z => nomatch z))
      · exact .inl (.inr ⟨o, cl_at (s0 _ _ e) (fun c => by rw [c, np] at e; cases e) fun _ z => nomatch z⟩)
      · exact .inr e
    generalize cl p (upd H' p (.lst [.int own, .int mix])) = B0 at k0 aS
    generalize upd H' p (.lst [.int own, .int mix]) = G0 at k0 ⊢
    clear s0 src0 np w0 w1 w2 hS1 hT1
    refine ⟨3, rfl, by decide, by decide, for_range (lo := 0) (n := 3) (fun j σ G => ∃ v3 v4 v5 v6 v7 v8 v9 v10 v11 v12 : Option V, σ = [some (.ref a), some (.int (0 + ((i : Nat) : Int))), some (.ref p), v3, v4, v5, v6, v7, v8, v9, v10, v11, v12] ∧ Kp B0 G Pt p) ⟨v3, v4, v5, v6, v7, v8, v9, v10, v11, v12, rfl, k0⟩ ?_ ?_⟩
    · rintro j σ G hj ⟨v3, v4, v5, v6, v7, v8, v9, v10, v11, v12, rfl, k0⟩
      clear hj
      -- the desk
      refine ⟨_, rfl, _, rfl, _, rfl, _, _, rfl, rfl, rfl, _, rfl, tif_two fun m m1 m9 => ⟨p, m, rfl, k0.src, m1, m9, fun u nm dd sg ws ds as tb ls G1 sx1 src1 nu _ _ _ _ hk is0 => ?_⟩⟩
      have is := is0.more m9
      have k1 := k0.drawn sx1 src1
      have hk1 := hk.cl src1
      have b1 := k1.le
      have k1 := k1.cl
      generalize cl p G1 = B1 at k1 hk1 b1
      clear sx1 src1 nu hk k0 is0
      have w1 := is.some
      have w9 := is.most
      refine ⟨_, rfl, u, nm, dd, sg, ws, ds, as, tb, ls, 9, rfl, hk1.sm k1.sm, is, by decide, fun x G2 sm2 nx ob => ?_⟩
      have k2 := k1.grow sm2
      have ob2 := ob.cl k2.src
      have b2 := k2.le
      have k2 := k2.cl
      generalize cl p G2 = B2 at k2 ob2 b2
      clear sm2 nx ob k1
      have hk2 := hk1.sm b2
      obtain ⟨hu, hnm, hdd, hsg, pr⟩ := id hk2
      -- what parts them
      refine ⟨_, rfl, u, _, 0, .ref nm, rfl, rfl, .inl (.inl (k2.sm _ _ hu)), atI_nat (j := 0) rfl, _, rfl, u, _, 2, .ref sg, rfl, rfl, .inl (.inl (k2.sm _ _ hu)), atI_nat (j := 2) rfl, _, rfl, u, nm, dd, sg, ws, ds, as, tb, ls, 9, rfl, hk2.sm k2.sm, is, by decide, fun nn bs G4 sm4 nnn enn prn => ?_⟩
      have k4 := k2.grow sm4
      refine ⟨nm, sg, nn, ws, ds, ls, bs, nxt ws ds tb, rfl, .inl (.inl (k4.sm _ _ hnm)), w1, w9, is.dmost, is.nd, is.word, k4.sm _ _ hsg, is.looks, ⟨enn, prn⟩, fun z hz d hd => ?_, fun fo far G5 sm5 nfo efo FA => ⟨_, _, rfl, ?_⟩⟩
      · obtain ⟨_, _, _, h⟩ := dk_step hk2 is hd hz
        exact h
      have k5 := k4.grow sm5
      have bfo : cl p G5 fo = some (.dT far) := cl_src k5.src efo (fun _ _ z => nomatch z) fun _ z => nomatch z
      have b5 := k5.le
      have k5 := k5.cl
      generalize cl p G5 = B5 at k5 bfo b5
      have hk5 := hk2.sm b5
      have ob5 := ob2.sm b5
      clear k4 k2 sm4 nnn enn prn sm5 nfo efo hu hnm hdd hsg pr hk1 hk2 ob2
      obtain ⟨hu, hnm, hdd, hsg, pr⟩ := id hk5
      have b05 : Sm B0 B5 := Sm.trans b1 (Sm.trans b2 b5)
      clear b1 b2 b5
      obtain ⟨dx, st0, ld0, si0, as0, hx, _⟩ := id ob5
      have ok_word : ∀ {y : Str}, IsWord y → PyData.strOk y = true := fun {y} hy => by
        have := (lay_strs (ws := [y]) fun x hx => by rw [List.mem_singleton.mp hx]; exact hy).1
        simpa [PyData.canLayAll0, PyData.canLay0] using this
      have wok : ∀ z ∈ ws, z.length ≤ 8 ∧ PyData.strOk z = true := fun z hz => ⟨(is.word z hz).2.1, ok_word (is.word z hz)⟩
      refine ⟨3, rfl, by decide, by decide, for_range (lo := 0) (n := 3) (fun k σ G => ∃ v7 v8 v9 v10 v11 v12 : Option V, σ = [some (.ref a), some (.int (0 + ((i : Nat) : Int))), some (.ref p), some (.int (0 + ((j : Nat) : Int))), some (.ref u), some (.ref x), some (.ref fo), v7, v8, v9, v10, v11, v12] ∧ Kp B5 G Pt p) ⟨v7, v8, v9, v10, v11, v12, rfl, k5⟩ ?_ ?_⟩
      · rintro k σ G6 hkk ⟨v7, v8, v9, v10, v11, v12, rfl, k6⟩
        clear hkk
        have nmp := src_ne_strs0 (k6.src) (k6.sm _ _ hnm)
        -- some standings
        refine ⟨_, rfl, _, rfl, u, _, 0, .ref nm, rfl, rfl, .inl (.inl (k6.sm _ _ hu)), atI_nat (j := 0) rfl, p, nm, ws.map V.str, rfl, k6.src, .inl (.inl (k6.sm _ _ hnm)), by rw [List.length_map]; omega, fun y hy => ?_, fun so ys G7 sx7 src7 nso e7 pm => ?_⟩
        · obtain ⟨z, hz, rfl⟩ := List.mem_map.mp hy
          exact ⟨_, .str z (wok z hz).2⟩
        obtain ⟨zs, rfl⟩ := strs_of (ys := ys) fun y hy => by
          obtain ⟨z, _, e⟩ := List.mem_map.mp (pm.subset hy)
          exact ⟨z, e.symm⟩
        have pm := map_perm pm
        have zl : zs.length = ws.length := pm.length_eq
        have znd : zs.Nodup := pm.symm.nodup is.nd
        have zsub : ∀ z ∈ zs, z ∈ ws := fun z hz => pm.subset hz
        have k7 := k6.drawn sx7 src7
        have Bso := none_of_sm k6.sm nso
        have sop : so ≠ p := k6.src.ne nso
        clear sx7 src7 nso pm k6
        refine ⟨_, rfl, rfl, _, rfl, tif_use (fun v G => ∃ (sl : Addr) (zt : List Str), v = .ref sl ∧ Kp B5 G Pt p ∧ G sl = some (.lst (zt.map V.str)) ∧ B5 sl = none ∧ 1 ≤ zt.length ∧ zt.length ≤ ws.length ∧ zt.Nodup ∧ ∀ z ∈ zt, z ∈ ws) ?rest (fun use => ⟨_, rfl, use _ _ ⟨so, zs, rfl, k7, e7, Bso, by omega, by omega, znd, zsub⟩⟩) (fun use => ?cut)⟩
        case cut =>
          refine ⟨_, rfl, _, rfl, _, rfl, .ref so, zs.length, rfl, .inl ⟨_, .inl (.inl e7), by rw [List.length_map]⟩, p, zs.length, rfl, k7.src, by omega, by omega, fun d G8 hd sx8 src8 fr8 => ?_⟩
          have k8 := k7.drawn sx8 src8
          have e8 := sx8 _ _ sop e7
          have ed : (V.int (1 + ((d : Nat) : Int))) = V.int (((1 + d : Nat) : Nat) : Int) := congrArg V.int (by omega)
          refine ⟨_, _, rfl, rfl, _, ed, so, _, rfl, .inl (.inl e8), fun sl nsl => ?_⟩
          rw [cut_to _ _ (by rw [List.length_map]; omega), ← List.map_take]
          refine use _ _ ⟨sl, zs.take (1 + d), rfl, k8.grow (Sm.new nsl), upd_same, none_of_sm k8.sm nsl, by rw [List.length_take]; omega, by rw [List.length_take]; omega, znd.sublist (List.take_sublist _ _), fun z hz => zsub z (List.mem_of_mem_take hz)⟩
        case rest =>
        rintro v G8 ⟨sl, zt, rfl, k8, e8, Bsl, z1, z9, znd2, zsub2⟩
        clear k7 e7 Bso sop zl znd zsub
        have zok : ∀ z ∈ zt, z.length ≤ 8 ∧ PyData.strOk z = true := fun z hz => wok z (zsub2 z hz)
        refine ⟨_, rfl, _, rfl, _, rfl, u, nm, dd, sg, fo, sl, ws, ds, as, tb, ls, 9, far, zt, rfl, hk5.sm k8.sm, is, Nat.le_refl _, k8.sm _ _ bfo, FA, .inl (.inl e8), z1, by omega, znd2, zsub2, fun vd G9 m9 due => ?_⟩
        have k9 := k8.grow m9
        have e9 := m9 _ _ e8
        refine ⟨_, rfl, sl, _, rfl, .lst e9 (Rrs.strs zt), list_fit9 (by omega) zok, ⟨_, _, rfl, ?_⟩⟩
        clear k8 e8 m9
        have slp : sl ≠ p := fun z => by
          obtain ⟨own, mix, h, _⟩ := k9.src
          rw [z, h] at e9
          cases zt with
          | nil => exact absurd z1 (by decide)
          | cons z zt => exact absurd (HO.lst.inj (Option.some.inj e9)) (fun z => nomatch z)
        refine ⟨2, rfl, by decide, by decide, for_range (lo := 0) (n := 2) (fun l σ G => ∃ v11 v12 : Option V, σ = [some (.ref a), some (.int (0 + ((i : Nat) : Int))), some (.ref p), some (.int (0 + ((j : Nat) : Int))), some (.ref u), some (.ref x), some (.ref fo), some (.int (0 + ((k : Nat) : Int))), some (.ref sl), some vd, some (.str (PyData.shown (.list (zt.map PyData.str)))), v11, v12] ∧ Kp B5 G Pt p ∧ G sl = some (.lst (zt.map V.str))) ⟨v11, v12, rfl, k9, e9⟩ ?_ ?_⟩
        · rintro l σ G hll ⟨v11, v12, rfl, kk, es⟩
          clear hll
          refine ⟨_, rfl, _, rfl, x, .ref sl, ws, ds, tb, ls, 9, rfl, ob5.sm kk.sm, is, Nat.le_refl _, kk.tabs, .inl ⟨sl, zt, rfl, .inl (.inl es), z1, z9, znd2, zsub2, fun vr G2 ext tabs out => ?_⟩⟩
          have k2 := kk.come ext tabs
          have es2 := ext _ _ es fun _ z => nomatch z
          have row : RowS (nxt ws ds tb) (look ws ls) ds zt G2 vr := by
            rcases out with o | ⟨rr, row, e1, e2, e3, e4⟩
            · exact .inl o
            · exact .inr ⟨rr, row, e1, e3, e4⟩
          refine ⟨_, rfl, _, rfl, _, rfl, _, rfl, _, rfl, u, nm, dd, sg, fo, sl, zt, vd, vr, ws, ds, as, tb, ls, 9, far, rfl, hk5.sm k2.sm, is, k2.sm _ _ bfo, FA, .inl (.inl es2), z1, by omega, zsub2, due, row, fun G3 m3 => ⟨_, rfl, iteF ?_⟩⟩
          have k3 := k2.grow m3
          have es3 := m3 _ _ es2
          refine ⟨_, rfl, sl, _, rfl, .lst es3 (Rrs.strs zt), list_fit9 (by omega) zok, _, rfl, rfl, _, rfl, ?_⟩
          rw [decide_eq_true rfl]
          refine iteF ⟨_, rfl, rfl, _, rfl, ?_⟩
          rcases out with ⟨rfl, _⟩ | ⟨rr, row, rfl, new, er, rl, _⟩
          · rw [decide_eq_true rfl]
            exact iteF ⟨_, _, rfl, k3, es3⟩
          · have er3 := m3 _ _ er
            have Brr : B5 rr = none := by
              cases e : B5 rr with
              | none => rfl
              | some o =>
                obtain ⟨ps, eo⟩ := new o (kk.sm _ _ e)
                exact absurd (eo ▸ e) (kk.nt _ _)
            have rrp : rr ≠ p := fun z => by
              obtain ⟨own, mix, h, _⟩ := kk.src
              obtain ⟨ps, eo⟩ := new _ (z ▸ h)
              cases eo
            have rrs : rr ≠ sl := fun z => by
              obtain ⟨ps, eo⟩ := new _ (z ▸ es)
              cases eo
            rw [show decide (V.ref rr = V.non) = false from rfl]
            refine iteT ⟨_, rfl, .inl ⟨rfl, _, .inl (.inl er3)⟩, rr, _, .str "late", rfl, rfl, er3, by rw [List.length_map, sizeLine_eq]; omega, ?_⟩
            refine ⟨_, _, rfl, k3.set er3 Brr rrp, ?_⟩
            rw [upd_ne (Ne.symm rrs)]
            exact es3
        · rintro σ G ⟨v11, v12, rfl, kk, es⟩
          exact ⟨_, _, _, _, _, _, rfl, kk⟩
      · rintro σ G6 ⟨v7, v8, v9, v10, v11, v12, rfl, k6⟩
        -- what is refused, and the desk as it was
        refine ⟨_, rfl, _, rfl, _, rfl, u, _, 0, .ref nm, rfl, rfl, .inl (.inl (k6.sm _ _ hu)), atI_nat (j := 0) rfl, p, x, nm, ws, ds, tb, ls, rfl, k6.src, k6.sm _ _ hnm, is, ob5.sm k6.sm, k6.tabs, fun G8 sx8 src8 _ => ⟨_, rfl, iteF ?_⟩⟩
        have k8 := k6.drawn sx8 src8
        clear sx8 src8 k6
        refine ⟨_, rfl, _, rfl, u, nm, dd, sg, ws, ds, as, tb, ls, 9, rfl, hk5.sm k8.sm, is, by decide, fun x3 G10 sm10 nx3 ob3 => ?_⟩
        obtain ⟨dx3, _, _, _, _, hx3, _⟩ := id ob3
        have k10 := k8.grow sm10
        refine ⟨x, dx, _, rfl, k10.sm _ _ hx, .own hx3, x, .ref x3, ws, ds, tb, ls, 9, rfl, ob5.sm k10.sm, is, .inl ⟨x3, ws, ds, tb, ls, 9, rfl, ob3, is, fun G11 sm11 => ⟨_, rfl, _, rfl, ?_⟩⟩⟩
        rw [decide_eq_true ⟨rfl, rfl, rfl, rfl⟩]
        have k11 := k10.grow sm11
        exact iteF ⟨_, _, _, _, _, _, _, _, _, _, rfl, ⟨Sm.trans b05 k11.sm, k11.tabs, k11.src, k0.bp, k0.nt⟩⟩
    · rintro σ G ⟨v3, v4, v5, v6, v7, v8, v9, v10, v11, v12, rfl, k0⟩
      exact ⟨_, _, _, _, _, _, _, _, _, _, _, _, rfl, SqL.sm aS k0.sm, k0.tabs⟩
  · rintro σ G ⟨v1, v2, v3, v4, v5, v6, v7, v8, v9, v10, v11, v12, rfl, _⟩
    exact q G
end
end Dk
set_option Elab.async false
set_option linter.all false
set_option maxRecDepth 100000
set_option maxHeartbeats 8000000
namespace Dk
open PySem PySem.Spec PyProof.Rows L2 Er LamX NdefX
/-! ### the law, called by the claim: the script may be kept, the table of come's code object is written -/
section
variable {P : Program} {w : World} {K : PySem.W.Frag} {mg mb : Str → Option Value} {f cC Pt a : Addr} {fd : FuncData} {s₁ : Shared} {vs : List Value} {ns : List Int}
theorem top_callT (F : ∀ base : Heap, K.In base → base.Ns mainGlobals mg → TabB base mg cC Pt → FnOkG P w K mg base CX0 9 f fd ["_law_script"] (spLaw K Pt)) (bind : ∀ (s : Shared) (u : Value), BindsTo s fd ⟨[u], []⟩ [("_law_script", u)])
    (inK : K.In s₁.heap) (glob : s₁.heap.Ns mainGlobals mg) (blt : s₁.heap.Ns builtinsNs mb) (blt2 : ∀ x : Str, x ≠ "__name__" → mb x = bootBuiltins x) (lim : s₁.heap.NoLimit) (gens : s₁.gens = #[])
    (mod : ∃ (bm : Addr) (om : Obj), mg "__builtins__" = some (.ref bm) ∧ bm ≠ builtinsNs ∧ s₁.heap.get? bm = some om ∧ om.cls = .type "module" ∧ om.dict = some builtinsNs ∧ om.data = .plain)
    (tab : s₁.heap.get? Pt = some (PySem.W.tabObj #[])) (tabK : K.lookup Pt = none) (chd : PySem.W.CodeHd s₁.heap cC Pt)
    (at_ : s₁.heap.get? a = some { cls := .type "list", data := .seq vs.toArray }) (ar : IntsAre vs ns) (few : ns.length ≤ 63) (bits : ∀ z ∈ ns, Builtin.Int.intBits z ≤ 1048576) :
    codeAny (model P w) callerA (.call (.ref f) ⟨[.ref a], []⟩) (fun r s' => r = .ok (.ret (.bool true)) ∧ OldK s₁.heap s'.heap ∧ s'.os = s₁.os ∧ AllBare s'.gens) s₁ := by
  have rel := vals_ints ar
  have lenV := ar.length
  have small : ns.length ≤ sizeLine := by
    rw [sizeLine_eq]
    omega
  have aPt : a ≠ Pt := fun z => by
    rw [z, tab] at at_
    cases at_
  have main : ∀ H : Hp, H Pt = some (.tbl #[]) → (∀ b, b ≠ Pt → H b = none ∨ (b = a ∧ ∃ ob xs, H b = some (.frz ob (.lst xs)))) → SqL K H a (ns.map V.int) → HOk P w H s₁.heap → (H a ≠ none → K.lookup a = none) →
      codeAny (model P w) callerA (.call (.ref f) ⟨[.ref a], []⟩) (fun r s' => r = .ok (.ret (.bool true)) ∧ OldK s₁.heap s'.heap ∧ s'.os = s₁.os ∧ AllBare s'.gens) s₁ := by
    intro H hT only sq hok notK
    -- what is neither the script nor the table stands below, too
    have away : ∀ {b : Addr}, b ≠ a → b ≠ Pt → H b = none := fun {b} n1 n2 => by
      rcases only b n2 with z | ⟨z, _⟩
      · exact z
      · exact absurd z n1
    have apart : ∀ {b : Addr} {o : Obj}, s₁.heap.get? b = some o → (∀ us n, o.data ≠ .seq us n) → (∀ us, o.data ≠ .fields us) → H b = none := fun {b o} e n1 n2 => away
      (fun z => by
        rw [z, at_] at e
        cases e
        exact n1 _ _ rfl)
      (fun z => by
        rw [z, tab] at e
        cases e
        exact n2 _ rfl)
    have nsOf : ∀ {b : Addr} {m : Str → Option Value}, s₁.heap.Ns b m → (hidT s₁.heap H).Ns b m := fun {b m} z => by
      obtain ⟨o, es, ep, e, d, r⟩ := z
      exact ⟨o, es, ep, hidT_get e (apart e (fun us n y => by rw [d] at y; cases y) (fun us y => by rw [d] at y; cases y)), d, r⟩
    have inB : K.In (hidT s₁.heap H) := fun b o e => by
      refine hidT_get (inK b o e) ?_
      by_cases c : b = Pt
      · rw [c, tabK] at e
        cases e
      · rcases only b c with z | ⟨z, ob, xs, y⟩
        · exact z
        · rw [z] at e y
          rw [notK (by rw [y]; simp)] at e
          cases e
    have modOk : Mod K mg (hidT s₁.heap H) := ⟨inB, nsOf glob, ⟨mb, nsOf blt, blt2⟩, by
      obtain ⟨mc, z1, z2⟩ := lim
      exact ⟨mc, nsOf z1, z2⟩⟩
    have tabB : TabB (hidT s₁.heap H) mg cC Pt := by
      refine ⟨?_, ?_, fun z => ?_⟩
      · obtain ⟨o, us, q1, q2, q3, q4, q5, q6, q7, e1, e2, e3, rest⟩ := chd
        have cPt : cC ≠ Pt := rest.2.2.2.2.2.2
        refine ⟨o, us, q1, q2, q3, q4, q5, q6, q7, hidT_get e1 (away (fun z => ?_) cPt), e2, e3, rest⟩
        rw [z, at_] at e1
        cases e1
        cases e3
      · obtain ⟨bm, om, m1, m2, m3, m4, m5, m6⟩ := mod
        have free : H bm = none := apart m3 (fun us n y => by rw [m6] at y; cases y) (fun us y => by rw [m6] at y; cases y)
        refine ⟨bm, om, m1, m2, fun z => ?_, fun z => ?_, hidT_get m3 free, m4, m5, m6⟩
        · obtain ⟨o, es, ep, e, d, _⟩ := glob
          rw [z, e] at m3
          cases m3
          rw [d] at m6
          cases m6
        · rw [z, tab] at m3
          cases m3
          cases m6
      · obtain ⟨o, es, ep, e, d, _⟩ := glob
        rw [z, tab] at e
        cases e
        cases d
    have e0 : Env0 P w K mg (hidT s₁.heap H) callerA [] s₁ H :=
      ⟨rfl, modOk, fun b o e => of_hidT e, Nat.le_of_eq (hidT_size _ _), trivial, fun b z => absurd (show b ∈ ([] : List Addr) from z) (by simp), hok, .of_eq gens⟩
    have tabs : TabsN (sureT Pt) H := fun p hp => by
      rw [List.mem_singleton.mp hp]
      exact TabN.nil hT
    refine codeAny_mono ((F _ inB (nsOf glob) tabB).run callerA [] s₁ H ⟨[.ref a], []⟩ [.ref a] [.ref a] (fun v _ => v = .bl true) (fun _ _ _ => False) rfl ⟨rfl, by decide, by decide⟩ e0 (bind s₁ (.ref a)) (.cons rfl .nil) ⟨a, ns, rfl, sq, few, bits, tabs, fun _ => rfl⟩) fun r s' z => ?_
    cases r with
    | error e => exact z.elim
    | ok fl =>
      cases fl with
      | next => exact z.elim
      | brk => exact z.elim
      | cont => exact z.elim
      | ret u =>
        obtain ⟨v, H', eos, bare, un, hok', rv, ev⟩ := z
        have ev2 : v = .bl true := ev
        subst ev2
        obtain rfl : u = Value.bool true := rv
        obtain ⟨more, hm⟩ := un.tbls Pt #[] hT
        have now : s'.heap.get? Pt = some (PySem.W.tabObj (#[] ++ more)) := hok' Pt _ hm
        have stay : ∀ b o, b ≠ Pt → s₁.heap.get? b = some o → s'.heap.get? b = some o := fun b o n e => by
          rcases only b n with c | ⟨_, ob, xs, c⟩
          · exact un.keep b o e c (fun z2 => absurd (show b ∈ ([] : List Addr) from z2) (by simp)) (by simp)
          · obtain ⟨x1, _⟩ := hok b _ c
            obtain ⟨x2, _⟩ := hok' b _ (un.frzs b ob _ c)
            rw [e] at x1
            cases x1
            exact x2
        refine ⟨rfl, ⟨fun b o e => ?_, fun b o e => ?_⟩, eos, bare⟩
        · by_cases c : b = Pt
          · subst c
            rw [tab] at e
            cases e
            exact .inr (.inl ⟨(chd.tab tab).isCodeTable, rfl, #[], more, rfl, now⟩)
          · exact .inl (stay b o c e)
        · by_cases c : b = Pt
          · subst c
            exact ⟨_, now⟩
          · exact ⟨o, stay b o c e⟩
  cases known : K.lookup a with
  | some o =>
    have e := inK a o known
    rw [at_] at e
    cases e
    refine main (fun b => if b = Pt then some (.tbl #[]) else none) (if_pos rfl) (fun b n => .inl (if_neg n)) (.inr ⟨_, vs.toArray, _, known, rfl, rfl, rfl, ?_, by simpa using rel⟩) (fun b u z => ?_) fun z => absurd (if_neg aPt) z
    · rw [List.size_toArray, lenV]
      exact small
    · by_cases c : b = Pt
      · have z2 := (if_pos c).symm.trans z
        cases z2
        subst c
        exact tab
      · have z2 := (if_neg c).symm.trans z
        cases z2
  | none =>
    refine main (fun b => if b = Pt then some (.tbl #[]) else if b = a then some (.frz { cls := .type "list", data := .seq vs.toArray } (.lst (ns.map V.int))) else none) (if_pos rfl) (fun b n => ?_)
      (.inl (.inr ⟨{ cls := .type "list", data := .seq vs.toArray }, (if_neg aPt).trans (if_pos rfl)⟩)) (fun b u z => ?_) fun _ => known
    · by_cases c : b = a
      · exact .inr ⟨c, _, _, (if_neg n).trans (if_pos c)⟩
      · exact .inl ((if_neg n).trans (if_neg c))
    · by_cases c : b = Pt
      · have z2 := (if_pos c).symm.trans z
        cases z2
        subst c
        exact tab
      · have z1 := (if_neg c).symm.trans z
        by_cases c2 : b = a
        · have z2 := (if_pos c2).symm.trans z1
          cases z2
          subst c2
          exact ⟨at_, by rw [List.length_map]; exact small, vs, _, rel, at_⟩
        · have z2 := (if_neg c2).symm.trans z1
          cases z2
end
end Dk
set_option Elab.async false
set_option linter.all false
set_option maxRecDepth 100000
set_option maxHeartbeats 0
namespace Hn
open PySem PySem.Spec PyProof.Rows L2 Er Dk
open PySem.ErK (EC tA tB tS)
/-! ### what is looked at behind the top of k07 -/
def oxB (K : PySem.W.Frag) (C : Addr) : Bool := match K.lookup C with
  | some ⟨.type "type", _, .cls cd, sl⟩ => (match cd.mro, sl.toList with
    | .ref C' :: bm, [_, _, _, _, some (.builtin n), _] => C' == C && n == "ValueError.__new__" && !cd.hasDel && cd.hasDict && PySem.HandSPX.refsVE bm
    | _, _ => false)
  | _ => false
def eqB (a b : Option (Option Value)) : Bool := decide (a = b)
def xcB (K : PySem.W.Frag) (C : Addr) : Bool :=
  eqB (PySem.W.findIn K (.ref C) "__class__") (some (some (.builtin "object.__class__"))) && decide (PySem.W.mroIn K C (.type "object") = some true)
def ecB (K : PySem.W.Frag) (x f : Str) : Bool :=
  oxB K (He.ga K x) && (eqB (PySem.W.findIn K (.ref (He.ga K x)) "__setattr__") (some (some (.builtin "object.__setattr__"))) && (decide (PySem.W.typeIn K (.ref (He.ga K x)) = some (.type "type")) && (PySem.W.keepIn K (.ref (He.ga K x)) &&
    (eqB (PySem.W.findIn K (.ref (He.ga K x)) f) (some none) && (eqB (PySem.W.findIn K (.ref (He.ga K x)) "__init__") (some (some (.ref (He.ma K (He.ga K x) "__init__")))) &&
      (decide (PySem.W.typeIn K (.ref (He.ma K (He.ga K x) "__init__")) = some (.type "function")) && (xfB K (He.ga K x) && xcB K (He.ga K x))))))))
/-- a property's getter -/
def gAt (K : PySem.W.Frag) (x : Str) : Addr := match PySem.W.recIn K (He.ma K (He.ga K "Desk") x) "property" with
  | some (.ref g :: _) => g
  | _ => 0
def fnA (K : PySem.W.Frag) (a : Addr) : He.FnW := match K.lookup a with
  | some ⟨_, _, .func fd, _⟩ => some (fd.name, fd.qualname, fd.params, fd.body, fd.scope, fd.globals, fd.closure, fd.builtins)
  | _ => none
def okA (K : PySem.W.Frag) (a : Addr) (qual : Str) : Bool := PySem.W.keepIn K (.ref a) && (match K.lookup a with
  | some ⟨_, _, .func fd, _⟩ => PySem.W.codeIn K fd.code qual && He.dflB K fd.defaults []
  | _ => false)
def prB (K : PySem.W.Frag) (x : Str) : Bool :=
  eqB (PySem.W.findIn K (.ref (He.ga K "Desk")) x) (some (some (.ref (He.ma K (He.ga K "Desk") x)))) && (eqB (PySem.W.specialIn K (.ref (He.ma K (He.ga K "Desk") x)) "__get__") (some (some (.builtin "property.__get__"))) &&
    (decide (PySem.W.takesIn K (.ref (He.ma K (He.ga K "Desk") x)) = some true) && ((match PySem.W.recIn K (He.ma K (He.ga K "Desk") x) "property" with
      | some (.ref _ :: _) => true
      | _ => false) && okA K (gAt K x) ("Desk." ++ x))))
def dkB (K : PySem.W.Frag) : Bool :=
  eqB (PySem.W.findIn K (.ref (He.ga K "Desk")) "__class__") (some (some (.builtin "object.__class__"))) && (decide (PySem.W.mroIn K (He.ga K "Desk") (.type "object") = some true) &&
    (decide (PySem.W.kitOne K (.ref (He.ga K "Desk")) (.ref (He.ga K "Desk")) = some true) && (["NoneType", "int", "str", "list", "tuple", "dict", "bool"].all (fun t => decide (PySem.W.kitOne K (.type t) (.ref (He.ga K "Desk")) = some false) && PySem.W.notFirst K (He.ga K "Desk") (.type t)) &&
      (eqB (PySem.W.findIn K (.ref (He.ga K "Desk")) "__eq__") (some (some (.ref (He.ma K (He.ga K "Desk") "__eq__")))) && (PySem.W.isFn K (.ref (He.ma K (He.ga K "Desk") "__eq__")) && eqB (PySem.W.findIn K (.ref (He.ga K "Desk")) "__ne__") (some (some (.builtin "object.__ne__"))))))))
def isD : Option Obj → Bool
  | some ⟨_, _, .dict _ _, _⟩ => true
  | _ => false
def myB (K : PySem.W.Frag) : Bool := ecB K "BadStandings" "value" && (dkB K && ((prB K "standings" && prB K "deeds") && isD (K.lookup sysModules)))
abbrev Fn2 : Type := He.FnW × He.FnW
def getS (K : PySem.W.Frag) : Fn2 := (fnA K (gAt K "standings"), fnA K (gAt K "deeds"))
def getSV : Fn2 := (some ("standings", "Desk.standings", defArgs (meth 1), .stmts (defBody (meth 1)), defScope (meth 1), mainGlobals, [], builtinsNs), some ("deeds", "Desk.deeds", defArgs (meth 2), .stmts (defBody (meth 2)), defScope (meth 2), mainGlobals, [], builtinsNs))
/-- sure_row's code object, the table of it -/
def cO (K : PySem.W.Frag) : Addr := He.codeOf K ("sure_row", none)
def tO (K : PySem.W.Frag) : Addr := He.tabOf K (cO K)
def tabH (g : Addr → Option Obj) (K : PySem.W.Frag) : Bool := PySem.W.codeHdIn K (cO K) (tO K) && (match g (tO K) with
  | some o => He.emptyTab o
  | none => false)
/-- the part of the heap that is looked at: no empty table stands in it -/
def frS (n : Nat) (g : Addr → Option Obj) : PySem.W.Frag := He.frT g (sysModules :: He.asD g n)
abbrev AlN : Type := He.AlD × (Bool × Fn2)
def dfn (x : Str) (st : Stmt) : He.DefD := ⟨(x, none), x, x, defArgs st, defBody st, defScope st, [], []⟩
def fn : List He.DefD := [
  dfn "is_name" (top 8), dfn "is_one_of" (top 9), dfn "are_different" (top 10), dfn "is_table" (top 11), dfn "spread" (top 14), dfn "shortest_row" (top 15), dfn "numbered" (top 16), dfn "lot_numbers" (top 17), dfn "count_lots" (top 18), dfn "lot_moves" (top 19), dfn "are_standings" (top 22), dfn "are_deeds" (top 23), dfn "is_lead" (top 24), dfn "are_sights" (top 25), dfn "desk_leads" (top 26), dfn "desk_moves" (top 27), dfn "desk_sights" (top 28), dfn "desk_lots" (top 30), dfn "check_standings" (top 32), dfn "are_some" (top 33), dfn "led_all" (top 35), dfn "_law_source" (top 37), dfn "_law_draw" (top 38), dfn "_law_pick" (top 39), dfn "_law_mixed" (top 40), dfn "_law_word" (top 41), dfn "_law_names" (top 42), dfn "_law_twins" (top 43), dfn "_law_leads" (top 44), dfn "_law_sights" (top 45), dfn "_law_desk" (top 46), dfn "_law_turned" (top 47), dfn "_law_made" (top 48), dfn "_law_lead" (top 49), dfn "_law_nexts" (top 50), dfn "_law_apart" (top 51), dfn "_law_stranger" (top 52), dfn "_law_many" (top 53), dfn "_law_right" (top 54), dfn "_law_told" (top 55), dfn "_law_all_refused" (top 56), dfn "law" (top 57), dfn "sure_row" (top 34),
  ⟨("BadStandings", some "__init__"), "__init__", "BadStandings.__init__", defArgs (ini (top 2)), defBody (ini (top 2)), defScope (ini (top 2)), [], []⟩,
  ⟨("Desk", some "__init__"), "__init__", "Desk.__init__", defArgs (meth 0), defBody (meth 0), defScope (meth 0), [], []⟩,
  ⟨("Desk", some "sight"), "sight", "Desk.sight", defArgs (meth 5), defBody (meth 5), defScope (meth 5), [], []⟩,
  ⟨("Desk", some "__eq__"), "__eq__", "Desk.__eq__", defArgs (meth 7), defBody (meth 7), defScope (meth 7), [], []⟩]
def fa : List He.Fa := [
  .glo "is_name", .glo "is_one_of", .glo "are_different", .glo "is_table", .glo "spread", .glo "shortest_row", .glo "numbered", .glo "lot_numbers", .glo "count_lots", .glo "lot_moves", .glo "are_standings", .glo "are_deeds", .glo "is_lead", .glo "are_sights", .glo "desk_leads", .glo "desk_moves", .glo "desk_sights", .glo "desk_lots", .glo "check_standings", .glo "are_some", .glo "led_all", .glo "_law_source", .glo "_law_draw", .glo "_law_pick", .glo "_law_mixed", .glo "_law_word", .glo "_law_names", .glo "_law_twins", .glo "_law_leads", .glo "_law_sights", .glo "_law_desk", .glo "_law_turned", .glo "_law_made", .glo "_law_lead", .glo "_law_nexts", .glo "_law_apart", .glo "_law_stranger", .glo "_law_many", .glo "_law_right", .glo "_law_told", .glo "_law_all_refused", .glo "law", .glo "sure_row", .glo "DeskError", .glo "BadStandings", .glo "Desk",
  .free "isinstance", .free "int", .free "str", .free "list", .free "tuple", .free "dict", .free "set", .free "sorted", .free "len", .free "all", .free "range", .free "repr", .free "max", .free "min",
  .cls "Desk", .noat "Desk" "_standings", .noat "Desk" "_leads", .noat "Desk" "_sights", .mkr "Desk", .meth "Desk" "sight",
  .exm "BadStandings" "BadStandings" true]
def names : List PySem.Str := (["DeskError", "BadStandings", "BadDeeds", "BadSights", "BadStanding", "BadRow", "is_name", "is_one_of", "are_different", "is_table", "add_new", "reached"] : List PySem.Str) ++ (["spread", "shortest_row", "numbered", "lot_numbers", "count_lots", "lot_moves", "Desk", "are_standings", "are_deeds", "is_lead", "are_sights", "desk_leads"] : List PySem.Str) ++ (["desk_moves", "desk_sights", "desk_lots", "check_standings", "are_some", "sure_row", "led_all", "_law_source", "_law_draw", "_law_pick", "_law_mixed", "_law_word"] : List PySem.Str) ++ (["_law_names", "_law_twins", "_law_leads", "_law_sights", "_law_desk", "_law_turned", "_law_made", "_law_lead", "_law_nexts", "_law_apart", "_law_stranger", "_law_many"] : List PySem.Str) ++ (["_law_right", "_law_told", "_law_all_refused"] : List PySem.Str)
def obN (n : Nat) (g : Addr → Option Obj) : AlN := (He.obsD fa fn (frS n g), myB (frS n g) && tabH g (frS n g), getS (frS n g))
abbrev R : PySem.W.OpenRow := PySem.W.OpenLaw.row PySem.Challenge.rw_lateeditions_k07_sure_rows
structure Told (h : Heap) (K : PySem.W.Frag) : Prop where
  d : He.SaysD fa fn K
  b : myB K = true
  g : getS K = getSV
  hd : PySem.W.codeHdIn K (cO K) (tO K) = true
  out : K.lookup (tO K) = none
  tab : h.get? (tO K) = some (PySem.W.tabObj #[])
theorem told_of {n : Nat} {h : Heap} (e : obN n h.get? = (He.valD fn, true, getSV)) : Told h (frS n h.get?) := by
  have e1 := congrArg (fun z : AlN => z.1) e
  have e2 := congrArg (fun z : AlN => z.2.1) e
  have e3 := congrArg (fun z : AlN => z.2.2) e
  obtain ⟨b1, b2⟩ := Bool.and_eq_true_iff.mp (show (myB (frS n h.get?) && tabH h.get? (frS n h.get?)) = true from e2)
  unfold tabH at b2
  obtain ⟨b3, b4⟩ := Bool.and_eq_true_iff.mp b2
  cases q : h.get? (tO (frS n h.get?)) with
  | none =>
    rw [q] at b4
    cases b4
  | some o =>
    rw [q] at b4
    exact ⟨e1, b1, e3, b3, He.frT_none q b4, by rw [q, He.emptyTab_eq b4]⟩
def hk : PySem.W.Hook where
  α := AlN
  obs := fun s => obN 5 s.heap.get?
  val := fun _ => (He.valD fn, true, getSV)
  says := fun _ h => ∃ K : PySem.W.Frag, K.In h ∧ Told h K
  of := fun _ _ e => ⟨_, He.frT_in, told_of e⟩
  keeps := fun _ _ _ ⟨K, hK, c⟩ k => ⟨K, PySem.W.Frag.In.keeps hK k, ⟨c.d, c.b, c.g, c.hd, c.out, k _ _ c.tab⟩⟩
def ob (s : PySem.W.SharedT) : AlN := obN 5 (HandSHeadRun.getT s)
theorem ob_eq (s : PySem.W.SharedT) : ob s = hk.obs s.abs := by
  have e : HandSHeadRun.getT s = s.abs.heap.get? := funext (HandSHeadRun.getT_eq s)
  show obN 5 (HandSHeadRun.getT s) = obN 5 s.abs.heap.get?
  rw [e]
end Hn
set_option Elab.async false
set_option linter.all false
set_option maxRecDepth 100000
set_option maxHeartbeats 8000000
namespace Hn
open PySem PySem.Spec PyProof.Rows L2 Er Dk LamX NdefX
open PySem.ErK (EC tA tB tS)
/-! ### from what was looked at to what is asked -/
theorem cls_hn (K : PySem.W.Frag) : PySem.W.specialIn K (.builtin "object.__class__") "__get__" = some (some (.builtin "getset_descriptor.__get__")) := by
  kernel_rfl
theorem cls_ht (K : PySem.W.Frag) : PySem.W.takesIn K (.builtin "object.__class__") = some true := by
  kernel_rfl
def FnAt (K : PySem.W.Frag) (x f : Str) : Prop := ∃ (oc : Value) (od : Option Addr) (kV doc pm : Value) (an : Option Addr) (cdv ct : Value) (osl : Array (Option Value)) (ql : Str) (p1 p2 q1 q2 q3 q4 : Pos),
  K.lookup (He.ma K (He.ga K x) "__init__") = some ⟨oc, od, .func (PySem.W.fnOf "__init__" ql (tA f p1 p2) (tB f q1 q2 q3 q4) (tS f) .none kV doc pm an cdv ct), osl⟩ ∧ PySem.W.codeIn K cdv ql = true
theorem fnAt_of {K : PySem.W.Frag} {st : Stmt} {x f ql : Str} (F : ∃ fd, FunD K "__init__" ql (defArgs st) (defBody st) (defScope st) [] [] (He.ma K (He.ga K x) "__init__") fd)
    (ha : ∃ p1 p2, defArgs st = tA f p1 p2) (hb : ∃ q1 q2 q3 q4, defBody st = tB f q1 q2 q3 q4) (hs : defScope st = tS f) : FnAt K x f := by
  obtain ⟨fd, F⟩ := F
  obtain ⟨oc, od, dV, kV, doc, pm, an, cdv, ct, osl, rfl, lk, hcd, hD, _⟩ := F.ex
  obtain ⟨p1, p2, ea⟩ := ha
  obtain ⟨q1, q2, q3, q4, eb⟩ := hb
  rcases hD with ⟨_, rfl⟩ | ⟨e, _⟩
  · rw [ea, eb, hs] at lk
    exact ⟨oc, od, kV, doc, pm, an, cdv, ct, osl, ql, p1, p2, q1, q2, q3, q4, lk, hcd⟩
  · exact absurd rfl e
theorem ox_of {K : PySem.W.Frag} {C : Addr} (h : oxB K C = true) : ∃ nm q N bs bm sn sub ab col dd k0 k1 k2 k3 k5, K.lookup C = some (excClassObj nm q C N bs bm true sn sub ab col dd k0 k1 k2 k3 k5 "ValueError.__new__") ∧ PySem.HandSPX.refsVE bm = true := by
  unfold oxB at h
  split at h
  · rename_i dd cd sl ho
    split at h
    · rename_i C' bm k0 k1 k2 k3 n k5 hm hs
      simp only [Bool.and_eq_true, beq_iff_eq, Bool.not_eq_true'] at h
      obtain ⟨⟨⟨⟨rfl, rfl⟩, hdel⟩, hdct⟩, hr⟩ := h
      obtain ⟨nm, bs, mro, ns, qn, hd, sn, sub, ab, col, del⟩ := cd
      dsimp only at hm hdel hdct
      subst hm hdel hdct
      have esl : sl = #[k0, k1, k2, k3, some (.builtin "ValueError.__new__"), k5] := by
        obtain ⟨l⟩ := sl
        simp only at hs
        rw [hs]
      subst esl
      exact ⟨nm, qn, ns, bs, bm, sn, sub, ab, col, dd, k0, k1, k2, k3, k5, ho, hr⟩
    · cases h
  · cases h
theorem ec_of {K : PySem.W.Frag} {x f : Str} (b : ecB K x f = true) (fa : FnAt K x f) (fl : f ∈ PySem.ErK.fields) : EC K x f (He.ga K x) (He.ma K (He.ga K x) "__init__") := by
  unfold ecB eqB at b
  simp only [Bool.and_eq_true, decide_eq_true_eq] at b
  obtain ⟨b1, b2, b3, b4, b5, b6, b7, b8, b9⟩ := b
  have xf := xfB_ok b8
  unfold xcB eqB at b9
  simp only [Bool.and_eq_true, decide_eq_true_eq] at b9
  exact ⟨⟨ox_of b1, b2, xf.exC, b3, b4⟩, b5, b6, b7, xf, ⟨xf.ga, xf.gg, xf.exC, xf.hdC, b9.1, cls_hn K, cls_ht K, b9.2⟩, fl, fa⟩
theorem fun_of {K : PySem.W.Frag} {a : Addr} {x qual : Str} {params : Arguments} {body : List Stmt} {scope : Scope} (e : fnA K a = some (x, qual, params, .stmts body, scope, mainGlobals, [], builtinsNs)) (c : okA K a qual = true) : ∃ fd, FunD K x qual params body scope [] [] a fd := by
  obtain ⟨kp, c2⟩ := Bool.and_eq_true_iff.mp c
  unfold fnA at e
  cases q : K.lookup a with
  | none =>
    rw [q] at c2
    cases c2
  | some o =>
    obtain ⟨oc, od, dt, osl⟩ := o
    rw [q] at c2 e
    cases dt with
    | func fd =>
      obtain ⟨n1, n2, n3, n4, n5, n6, n7, n8, n9, n10, n11, n12, n13, n14, n15⟩ := fd
      have e2 := Option.some.inj e
      simp only [Prod.mk.injEq] at e2
      obtain ⟨h1, h2, h3, h4, h5, h6, h7, h8⟩ := e2
      subst h1 h2 h3 h4 h5 h6 h7 h8
      obtain ⟨k1, k2⟩ := Bool.and_eq_true_iff.mp (show (PySem.W.codeIn K n13 n2 && He.dflB K n8 []) = true from c2)
      exact ⟨_, ⟨oc, od, n8, n9, n10, n11, n12, n13, n14, osl, rfl, q, k1, He.dflB_ok k2, .inl rfl⟩, kp⟩
    | _ => cases c2
theorem prop_of {K : PySem.W.Frag} {x : Str} (h : prB K x = true) : PropOf K (He.ga K "Desk") x (He.ma K (He.ga K "Desk") x) (gAt K x) ∧ okA K (gAt K x) ("Desk." ++ x) = true := by
  unfold prB eqB at h
  obtain ⟨h1, h⟩ := Bool.and_eq_true_iff.mp h
  obtain ⟨h2, h⟩ := Bool.and_eq_true_iff.mp h
  obtain ⟨h3, h⟩ := Bool.and_eq_true_iff.mp h
  obtain ⟨h4, h5⟩ := Bool.and_eq_true_iff.mp h
  refine ⟨⟨of_decide_eq_true h1, of_decide_eq_true h2, of_decide_eq_true h3, ?_⟩, h5⟩
  cases q : PySem.W.recIn K (He.ma K (He.ga K "Desk") x) "property" with
  | none =>
    rw [q] at h4
    cases h4
  | some l =>
    rw [q] at h4
    cases l with
    | nil => cases h4
    | cons v r =>
      cases v with
      | ref g =>
        refine ⟨r, ?_⟩
        unfold gAt
        rw [q]
      | _ => cases h4
theorem sys_of {K : PySem.W.Frag} (h : isD (K.lookup sysModules) = true) : IsSys K := by
  cases e : K.lookup sysModules with
  | none =>
    rw [e] at h
    cases h
  | some o =>
    rw [e] at h
    obtain ⟨oc, od, dt, sl⟩ := o
    unfold isD at h
    split at h
    · rename_i heq
      cases heq
      exact ⟨_, _, _, e, rfl⟩
    · cases h
theorem lk_of {K : PySem.W.Frag} {h : Heap} {mg : Str → Option Value} (inK : K.In h) (G : h.Ns mainGlobals mg) (Y : Told h K) : ∀ base : Heap, TabB base mg (cO K) (tO K) → Lk K mg base (He.ga K "Desk") (He.ga K "BadStandings") (tO K) := by
  intro base tb
  have c := Y.d
  have has : ∀ (i : Nat) (x : Str) (st : Stmt), fn[i]? = some (dfn x st) → fa[i]? = some (.glo x) → Has K mg x st := fun i x st e1 e2 => by
    obtain ⟨d, F⟩ := c.def_ i (d := dfn x st) e1
    exact ⟨_, d, F, He.glo_ok inK G (c.fact i e2)⟩
  have g : ∀ (i : Nat) (x : Str), fa[i]? = some (.glo x) → mg x = some (.ref (He.ga K x)) := fun i x e => He.glo_ok inK G (c.fact i e)
  have n : ∀ (i : Nat) (x : Str), fa[i]? = some (.free x) → mg x = none := fun i x e => He.free_ok inK G (c.fact i e)
  obtain ⟨dB, FB⟩ := c.def_ 43 (d := ⟨("BadStandings", some "__init__"), "__init__", "BadStandings.__init__", defArgs (ini (top 2)), defBody (ini (top 2)), defScope (ini (top 2)), [], []⟩) rfl
  obtain ⟨dI, FI⟩ := c.def_ 44 (d := ⟨("Desk", some "__init__"), "__init__", "Desk.__init__", defArgs (meth 0), defBody (meth 0), defScope (meth 0), [], []⟩) rfl
  obtain ⟨dS, FS⟩ := c.def_ 45 (d := ⟨("Desk", some "sight"), "sight", "Desk.sight", defArgs (meth 5), defBody (meth 5), defScope (meth 5), [], []⟩) rfl
  obtain ⟨dE, FE⟩ := c.def_ 46 (d := ⟨("Desk", some "__eq__"), "__eq__", "Desk.__eq__", defArgs (meth 7), defBody (meth 7), defScope (meth 7), [], []⟩) rfl
  obtain ⟨dP, FP⟩ := c.def_ 42 (d := dfn "sure_row" (top 34)) rfl
  have b := Y.b
  unfold myB at b
  obtain ⟨b1, b⟩ := Bool.and_eq_true_iff.mp b
  obtain ⟨b3, b⟩ := Bool.and_eq_true_iff.mp b
  obtain ⟨b4, b5⟩ := Bool.and_eq_true_iff.mp b
  unfold dkB eqB at b3
  obtain ⟨p1, b3⟩ := Bool.and_eq_true_iff.mp b3
  obtain ⟨p2, b3⟩ := Bool.and_eq_true_iff.mp b3
  obtain ⟨p3, b3⟩ := Bool.and_eq_true_iff.mp b3
  obtain ⟨p4, b3⟩ := Bool.and_eq_true_iff.mp b3
  obtain ⟨p5, b3⟩ := Bool.and_eq_true_iff.mp b3
  obtain ⟨p6, p7⟩ := Bool.and_eq_true_iff.mp b3
  have ty : ∀ t ∈ eqTypes, PySem.W.kitOne K (.type t) (.ref (He.ga K "Desk")) = some false ∧ PySem.W.notFirst K (He.ga K "Desk") (.type t) = true := fun t ht => by
    obtain ⟨z1, z2⟩ := Bool.and_eq_true_iff.mp (List.all_eq_true.mp p4 t ((by decide : ∀ t ∈ eqTypes, t ∈ ["NoneType", "int", "str", "list", "tuple", "dict", "bool"]) t ht))
    exact ⟨of_decide_eq_true z1, z2⟩
  obtain ⟨b4, b6⟩ := Bool.and_eq_true_iff.mp b4
  obtain ⟨PS, o1⟩ := prop_of b4
  obtain ⟨PD, o2⟩ := prop_of b6
  have gg := Y.g
  have gg1 := congrArg (fun z : Fn2 => z.1) gg
  have gg2 := congrArg (fun z : Fn2 => z.2) gg
  obtain ⟨dG, FG⟩ := fun_of gg1 o1
  obtain ⟨dD, FD⟩ := fun_of gg2 o2
  have fB : FnAt K "BadStandings" "value" := fnAt_of (st := ini (top 2)) ⟨dB, FB⟩ ⟨_, _, rfl⟩ ⟨_, _, _, _, rfl⟩ rfl
  have eB : EC K "BadStandings" "value" (He.ga K "BadStandings") (He.ma K (He.ga K "BadStandings") "__init__") := ec_of b1 fB (by decide)
  have part : ∃ (f c : Addr) (dV kV doc pm ct oc : Value) (an od : Option Addr) (osl : Array (Option Value)), K.lookup f = some ⟨oc, od, .func (PySem.W.fnOf "sure_row" "sure_row" (defArgs (top 34)) (defBody (top 34)) (defScope (top 34)) dV kV doc pm an (.ref c) ct), osl⟩ ∧ PySem.W.codeIn K (.ref c) "sure_row" = true ∧ TabB base mg c (tO K) ∧
      FnP K "sure_row" (top 34) f (PySem.W.fnOf "sure_row" "sure_row" (defArgs (top 34)) (defBody (top 34)) (defScope (top 34)) dV kV doc pm an (.ref c) ct) ∧ mg "sure_row" = some (.ref f) := by
    obtain ⟨oc, od, dV, kV, doc, pm, an, cdv, ct, osl, e, lk, hcd, _, _⟩ := FP.ex
    obtain ⟨cc, ec⟩ := He.codeIn_ref hcd
    subst ec
    subst e
    have z : cO K = cc := He.codeOf_eq (p := ("sure_row", none)) lk rfl
    rw [z] at tb
    exact ⟨_, cc, dV, kV, doc, pm, ct, oc, an, od, osl, lk, hcd, tb, FP, g 42 _ rfl⟩
  exact {
    h8 := has 0 _ _ rfl rfl, h9 := has 1 _ _ rfl rfl, h10 := has 2 _ _ rfl rfl, h11 := has 3 _ _ rfl rfl, h14 := has 4 _ _ rfl rfl, h15 := has 5 _ _ rfl rfl, h16 := has 6 _ _ rfl rfl, h17 := has 7 _ _ rfl rfl, h18 := has 8 _ _ rfl rfl, h19 := has 9 _ _ rfl rfl, h22 := has 10 _ _ rfl rfl, h23 := has 11 _ _ rfl rfl, h24 := has 12 _ _ rfl rfl, h25 := has 13 _ _ rfl rfl, h26 := has 14 _ _ rfl rfl, h27 := has 15 _ _ rfl rfl, h28 := has 16 _ _ rfl rfl, h30 := has 17 _ _ rfl rfl, h32 := has 18 _ _ rfl rfl, h33 := has 19 _ _ rfl rfl, h35 := has 20 _ _ rfl rfl, h37 := has 21 _ _ rfl rfl, h38 := has 22 _ _ rfl rfl, h39 := has 23 _ _ rfl rfl, h40 := has 24 _ _ rfl rfl, h41 := has 25 _ _ rfl rfl, h42 := has 26 _ _ rfl rfl, h43 := has 27 _ _ rfl rfl, h44 := has 28 _ _ rfl rfl, h45 := has 29 _ _ rfl rfl, h46 := has 30 _ _ rfl rfl, h47 := has 31 _ _ rfl rfl, h48 := has 32 _ _ rfl rfl, h49 := has 33 _ _ rfl rfl, h50 := has 34 _ _ rfl rfl, h51 := has 35 _ _ rfl rfl, h52 := has 36 _ _ rfl rfl, h53 := has 37 _ _ rfl rfl, h54 := has 38 _ _ rfl rfl, h55 := has 39 _ _ rfl rfl, h56 := has 40 _ _ rfl rfl
    mi := n 46 _ rfl, mn := n 47 _ rfl, ms := n 48 _ rfl, mL := n 49 _ rfl, mT := n 50 _ rfl, md := n 51 _ rfl, mS := n 52 _ rfl, mso := n 53 _ rfl, ml := n 54 _ rfl, ma := n 55 _ rfl, mR := n 56 _ rfl, mr := n 57 _ rfl, mx := n 58 _ rfl, mm := n 59 _ rfl
    T := ⟨He.cls_ok (c.fact 60 (f := .cls "Desk") rfl), of_decide_eq_true p1, cls_hn K, cls_ht K, of_decide_eq_true p2, of_decide_eq_true p3, He.noat_ok (c.fact 61 (f := .noat "Desk" "_standings") rfl), He.noat_ok (c.fact 62 (f := .noat "Desk" "_leads") rfl), He.noat_ok (c.fact 63 (f := .noat "Desk" "_sights") rfl), g 45 _ rfl⟩
    N := fun t ht => (ty t ht).2, hne := of_decide_eq_true p7
    eq := ⟨_, dE, FE, of_decide_eq_true p5, p6⟩
    ini_ := ⟨_, dI, FI, He.mkr_ok (c.fact 64 (f := .mkr "Desk") rfl)⟩
    sight_ := ⟨_, dS, FS, He.meth_ok (c.fact 65 (f := .meth "Desk" "sight") rfl)⟩
    sure_ := part
    std := ⟨_, _, dG, FG, PS⟩
    dds := ⟨_, _, dD, FD, PD⟩
    B := ⟨_, dB, eB, FB, g 44 _ rfl⟩
    te := He.exm_ok (c.fact 66 (f := .exm "BadStandings" "BadStandings" true) rfl)
    sys := sys_of b5 }
end Hn
set_option Elab.async false
set_option linter.all false
set_option maxRecDepth 100000
set_option maxHeartbeats 0
namespace Hn
open PySem PySem.W PySem.Calls PyProof.Rows HandSHeadRun
noncomputable section
abbrev GG (s : SharedT) : Addr → Option Obj := HandSHeadRun.getT s
abbrev KK (s : SharedT) : Frag := frS 5 (GG s)
theorem tH1 (w : World) (os : OsState) : (endF (stepQ (denQ tabQ) R.prog w) 60000 R.prog w os).map (fun s => (looksF R.prog (boot_heap w.params) s.abs, seenQ (PySem.W.view R.prog [57]) names (importedModules R.prog.main.body) (fun s => xlAt (PySem.W.view R.prog [57]) [] s && recOk R.toRowW.records s) s.abs)) = some (true, PySem.W.openGood (PySem.W.view R.prog [57]) names) := by
  kernel_rfl
theorem tH2 (w : World) (os : OsState) : (endF (stepQ (denQ tabQ) R.prog w) 60000 R.prog w os).map (fun s => ((fa.all fun f => f.ok (KK s)) && fn.all fun d => d.ok (KK s))) = some true := by
  kernel_rfl
theorem tH3 (w : World) (os : OsState) : (endF (stepQ (denQ tabQ) R.prog w) 60000 R.prog w os).map (fun s => (fn.map fun d => He.fnW (KK s) d.at_)) = some (fn.map He.DefD.val) := by
  kernel_rfl
theorem tH4 (w : World) (os : OsState) : (endF (stepQ (denQ tabQ) R.prog w) 60000 R.prog w os).map (fun s => (myB (KK s) && tabH (GG s) (KK s))) = some true := by
  kernel_rfl
theorem tH5 (w : World) (os : OsState) : (endF (stepQ (denQ tabQ) R.prog w) 60000 R.prog w os).map (fun s => getS (KK s)) = some getSV := by
  kernel_rfl
end
end Hn
set_option Elab.async false
set_option linter.all false
set_option maxRecDepth 100000
set_option maxHeartbeats 0
namespace Hn
open PySem PySem.W PySem.Calls PyProof.Rows HandSHeadRun
theorem run (w : World) : RunEq R (PySem.W.view R.prog [57]) hk ob 60000 names w := by
  intro os
  have t1 := tH1 w os
  have t2 := tH2 w os
  have t3 := tH3 w os
  have t4 := tH4 w os
  have t5 := tH5 w os
  cases e : endF (stepQ (denQ tabQ) R.prog w) 60000 R.prog w os with
  | none =>
    rw [e] at t1
    cases t1
  | some s =>
    rw [e] at t1 t2 t3 t4 t5
    have u1 := Option.some.inj t1
    have u2 := Option.some.inj t2
    have u3 := Option.some.inj t3
    have u4 := Option.some.inj t4
    have u5 := Option.some.inj t5
    have v1 := congrArg (fun z => z.1) u1
    have v2 := congrArg (fun z => z.2) u1
    have o : ob s = ((true, fn.map He.DefD.val), true, getSV) := Prod.ext (Prod.ext u2 u3) (Prod.ext u4 u5)
    exact congrArg some (Prod.ext v1 (Prod.ext v2 o))
end Hn
open PySem PySem.W PySem.Calls PyProof.Rows
theorem PySem.Challenge.cw_lateeditions_k07_sure_rows_holds : PySem.Challenge.rw_lateeditions_k07_sure_rows.Holds := by
  w_on; o_law
  refine HandSHeadRun.head_any (r := OpenLaw.row PySem.Challenge.rw_lateeditions_k07_sure_rows) (q := view (OpenLaw.row PySem.Challenge.rw_lateeditions_k07_sure_rows).prog [57]) (H := Hn.hk) (ob := Hn.ob) (M := 60000) (loose := Hn.names) (d := HandSHeadRun.topDef (OpenLaw.row PySem.Challenge.rw_lateeditions_k07_sure_rows).prog 57) (kwd := []) Hn.ob_eq
    (by kernel_rfl) (fun s => by kernel_rfl) Hn.run (by kernel_rfl) (by kernel_rfl) (by kernel_rfl) (by rfl) (by first | assumption | decide +kernel) (by decide +kernel) ⟨rfl, rfl, rfl, rfl, rfl, by decide +kernel⟩ ?hw ?hc
  case hw => w_witness2
  case hc =>
    refine Att.attach_callB (l := PySem.Challenge.rw_lateeditions_k07_sure_rows) (n := 63) rfl (by kernel_rfl) fun w s₀ s₁ mg mb fa o pm cd doc a vs ns G Y ho hd hcd hmg hobj hints hlen hbits hg => ?_
    obtain ⟨K, inK, Y⟩ := Y
    have L := Hn.lk_of inK G.T.g Y
    obtain ⟨fd, F⟩ := Y.d.def_ 41 (d := Hn.dfn "law" (Dk.top 57)) rfl
    have hmg2 : mg ("law" : PySem.Str) = some (.ref fa) := by
      have e : (HandSHeadRun.topDef (OpenLaw.row PySem.Challenge.rw_lateeditions_k07_sure_rows).prog 57).name = ("law" : PySem.Str) := by kernel_rfl
      rw [← e]
      exact hmg
    have at_ := hmg2.symm.trans (He.glo_ok inK G.T.g (Y.d.fact 41 (f := .glo "law") rfl))
    cases at_
    have bind := L2.FunD.bindsA (ps := ["_law_script"]) F fun _ _ _ _ _ _ us hl => match us, hl with
      | [_], _ => rfl
    exact Dk.top_callT (fun base _ _ tb => Dk.ok_law F (L base tb)) (fun s u => bind s [u] rfl) inK G.T.g G.T.b G.T.builtins G.T.nolimit hg G.T.bmain Y.tab Y.out (PySem.W.codeHd_of_K inK Y.hd) hobj hints hlen hbits
