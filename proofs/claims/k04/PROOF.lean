import PyProof.Rows.All
import Wide.All
import OpenK.AllK
import Wide.FinOn
import PyProof.EqAt
import PyProof.EqKinds
import PyProof.TupleCall
import HandS.Base
import HandS.Call
import HandS.List
import HandS.Ends
import HandS.Exc
import HandS.ExcInit
import HandS.Defaults
import HandS.ExcField
import HandS.ExcIs
import HandS.IsInst
import HandS.Words
import HandS.Wide
import HandS.Dict
import KE.KDictLaw
import PyProof.ReprRoads
import PyProof.ReprLen
import HandS.WordsList
import HandS.More
import HandS.Comp
import HandS.Iter
import HandS.Text
import HandS.Flow
import HandS.ForMost
import HandS.Conv
import HandS.Style
import HandS.ListItems
import HandS.Strs
import HandS.Walk
import HandS.WordsDict
import HandS.DictComp
import HandS.ExcOwn
import HandS.CallSlots
import HandS.DictEq
import KE.KDictList
import HandS.Lambda
import HandS.Nested
import KE.KOwnCellsLaws
import HandS.Sort
import HandS.SetKeys
import HandS.TupLen
import HandS.Zip
import PyProof.DictMoreH
import HandS.Property
import HandS.OwnEq
import HandS.SlotsOwn
import HandS.Deep
import PyProof.NeKinds
import HandS.TupLe
import HandS.EndBits
import KE.KStateDown
import HandS.Head0
import HandS.Head1
import HandS.Head2
import HandS.HeadEnd
import HandS.HeadHook1
import HandS.HeadHook2
import HandS.HeadHook3
import HandS.HeadHook4
import PySem.Challenge.RW_lateeditions_k04_lots_and_likenesses
set_option Elab.async false
set_option linter.all false
set_option maxRecDepth 100000
set_option maxHeartbeats 4000000
namespace PySem
namespace ErK
open PySem.W PySem.Calls PyProof.Rows PySem.HandSPX
section
variable {prog : Program} {w : World} {M : Model} {A : Around} {E : Value → Shared → Prop} {R : Result → Shared → Prop} {h : Heap} {g : Array GenState} {d : Drawn} {t : Nat} {os : OsState}
variable {nm q : Str} {C N : Addr} {bs bm bmB : List Value} {hdct : Bool} {sn : List Str} {sub : List Value} {ab : Bool} {col : Option Bool} {dd : Option Addr} {k0 k1 k2 k3 k5 : Option Value} {B nw ini : String}
/-- the check ahead of the class's __new__, with keywords -/
theorem new_seen (F : ExcBaseFacts B nw ini bmB) (hT : ∀ X : String, bm.contains (.type X) = bmB.contains (.type X)) {us : List Value} {kws : List (Str × Value)} {Q : Unit → Shared → Prop}
    (cls : h.get? C = some (excClassObj nm q C N bs bm hdct sn sub ab col dd k0 k1 k2 k3 k5 nw)) (fin : Q () ⟨h, g, d, t, os⟩) :
    wpAny M A (checkBuiltinCall nw ⟨.ref C :: us, kws⟩) Q E ⟨h, g, d, t, os⟩ := by
  have has : (Value.ref C :: bm).contains (.type B) = true := by
    rw [List.contains_cons, hT, F.hasB, Bool.or_true]
  have star := F.noStar
  simp only [checkBuiltinCall, F.newKind, F.newSplit, F.newRow]
  repeat (first
    | refine wpAny_loadPart_at cls ?_
    | (refine wpAny_isSubtype_exc cls ?_
       rw [has])
    | refine wpAny_staticBase_exc cls ?_
    | refine wpAny_madeBy_exc cls ?_
    | simp only [bne_self_eq_false, Bool.false_eq_true, if_false]
    | wp_step)
  exact fin
/-- BaseException.__new__ of such a class, with keywords: they are not looked at -/
theorem new_runs (F : ExcBaseFacts B nw ini bmB) (hT : ∀ X : String, bm.contains (.type X) = bmB.contains (.type X)) {us : List Value} {kws : List (Str × Value)}
    (cls : h.get? C = some (excClassObj nm q C N bs bm hdct sn sub ab col dd k0 k1 k2 k3 k5 nw)) (short : us.length ≤ sizeLine)
    (fin : R (.ok (.ret (.ref (h.objs.size + 1)))) ⟨(h.push (W.kdv_tup us)).push (excO C h.objs.size), g, d, t, os⟩) :
    codeAny (model prog w) A (.builtin nw ⟨.ref C :: us, kws⟩) R ⟨h, g, d, t, os⟩ := by
  have ends := F.ends
  have isB : (Value.ref C :: bm).contains (.type B) = true := by
    rw [List.contains_cons, hT, F.hasB, Bool.or_true]
  have notA : (Value.ref C :: bm).contains (.type "AttributeError") = false := by
    rw [List.contains_cons, hT, F.noAttr]
    rfl
  have notN : (Value.ref C :: bm).contains (.type "NameError") = false := by
    rw [List.contains_cons, hT, F.noName]
    rfl
  refine codeAny_builtinAt F.entry ?_
  unfold Builtin.«BaseException.__new__»
  refine wpAt_bind ?_
  show wpAt _ _ _ (stack >>= _) _ _ _
  refine wpAt_bind (wpAt_stack fun p below => wpAt_of_wpAny ?_)
  wp_walk
  refine wpAt_of_wpAny ?_
  rw [F.owner]
  repeat (first
    | with_reducible refine wpAny_madeHere_exc F.canon cls ?_
    | with_reducible refine wpAny_loadPart_at cls ?_
    | (with_reducible refine wpAny_isSubtype_exc cls ?_
       first
         | rw [isB]
         | rw [notA]
         | rw [notN])
    | wp_step)
  show R _ _
  rw [Heap.size_push]
  exact fin
/-- type.__call__ of such a class, with keywords -/
theorem type_runs (F : ExcBaseFacts B nw ini bmB) (hT : ∀ X : String, bm.contains (.type X) = bmB.contains (.type X)) {us : List Value} {kws : List (Str × Value)} {fI : Addr} {Q : Fin → Shared → Prop}
    (cls : h.get? C = some (excClassObj nm q C N bs bm hdct sn sub ab col dd k0 k1 k2 k3 k5 nw)) (short : us.length ≤ sizeLine)
    (look : W.Looks (model prog w) h (typeLookup (.ref C) "__init__") (some (.ref fI))) (bind : ∀ self, W.Looks (model prog w) h (bindSpecial (.ref fI) self) (.ref fI, [self]))
    (run : codeAny (model prog w) A (.call (.ref fI) ⟨.ref (h.objs.size + 1) :: us, kws⟩)
      (fun r s' => match r with
        | .ok (.ret v) => v = .none ∧ Q (.done (.ret (.ref (h.objs.size + 1)))) s'
        | .ok _ => False
        | .error e => E e s')
      ⟨(h.push (W.kdv_tup us)).push (excO C h.objs.size), g, d, t, os⟩) :
    wpAny (model prog w) A (Builtin.«type.__call__» ⟨.ref C :: us, kws⟩) Q E ⟨h, g, d, t, os⟩ := by
  repeat (first
    | with_reducible refine wpAny_loadPart_at cls ?_
    | with_reducible refine wpAny_madeBy_exc cls ?_
    | wp_step)
  refine codeAny_call_builtin_code (Code.quiet_builtin _ F.quiet) (new_seen F hT cls ?_)
  refine new_runs F hT cls short ?_
  show wpAny _ _ _ _ _ _
  have old : ∀ b o, h.get? b = some o → ((h.push (W.kdv_tup us)).push (excO C h.objs.size)).get? b = some o :=
    fun b o e => Heap.get?_push_of_some _ (Heap.get?_push_of_some _ e)
  have cls1 := old _ _ cls
  have made : ((h.push (W.kdv_tup us)).push (excO C h.objs.size)).get? (h.objs.size + 1) = some (excO C h.objs.size) := by
    heap_get
  have self : (Value.ref C :: bm).contains (.ref C) = true := by simp
  have l1 := look.keeps old
  have l2 := (bind (.ref (h.objs.size + 1))).keeps old
  unfold isInstance
  repeat (first
    | with_reducible refine wpAny_loadPart_at made ?_
    | (with_reducible refine wpAny_isSubtype_exc cls1 ?_
       rw [self])
    | wp_step)
  show wpAny _ _ (typeLookup (.ref C) _) _ _ _
  refine l1.at ?_
  refine wpAny_holding (wpAny_bind (l2.at ?_))
  refine wpAny_bind (wpAny_call (codeAny_mono run fun r s' z => ?_))
  rcases r with e | (v | _ | _ | _) <;> first | exact z | exact z.elim | skip
  obtain ⟨rfl, z⟩ := z
  first
    | exact wpAny_pure (wpAny_pure z)
    | (wp_walk
       exact z)
/-- C(.., k = v): an exception of an own class over ValueError with its own __init__ -/
theorem call_kws (F : ExcBaseFacts B nw ini bmB) (hT : ∀ X : String, bm.contains (.type X) = bmB.contains (.type X)) {us : List Value} {kws : List (Str × Value)} {fI : Addr}
    (cls : h.get? C = some (excClassObj nm q C N bs bm hdct sn sub ab col dd k0 k1 k2 k3 k5 nw)) (short : us.length ≤ sizeLine)
    (look : W.Looks (model prog w) h (typeLookup (.ref C) "__init__") (some (.ref fI))) (bind : ∀ self, W.Looks (model prog w) h (bindSpecial (.ref fI) self) (.ref fI, [self]))
    (run : codeAny (model prog w) (A.under (.builtin "type.__call__" ⟨.ref C :: us, kws⟩)) (.call (.ref fI) ⟨.ref (h.objs.size + 1) :: us, kws⟩) (W.InitBack (h.objs.size + 1) R)
      ⟨(h.push (W.kdv_tup us)).push (excO C h.objs.size), g, d, t, os⟩) :
    codeAny (model prog w) A (.call (.ref C) ⟨us, kws⟩) R ⟨h, g, d, t, os⟩ := by
  have f1 := tc_lookup
  have f2 := tc_bind (.ref C)
  have ty : (⟨h, g, d, t, os⟩ : Shared).TypeIs (.ref C) "type" := ⟨_, cls, rfl⟩
  refine codeAny_of_tree ?_
  show wpAny _ _ (callAny (.ref C) _) _ _ _
  repeat (any_goals (first
    | assumption
    | with_reducible refine wpAny_loadPart_at cls ?_
    | wp_step))
  refine ⟨rfl, ?_⟩
  refine codeAny_call_builtin_at (Code.quiet_builtin _ (by decide +kernel)) entry_typeCall ?_
  refine wpAny_check_type_call_sub cls (type_runs F hT cls short look bind ?_)
  refine codeAny_mono run fun r s' z => ?_
  rcases r with e | (v | _ | _ | _) <;> exact z
end
end ErK
end PySem
set_option Elab.async false
set_option linter.all false
set_option maxRecDepth 100000
set_option maxHeartbeats 4000000
namespace PySem
namespace ErK
open PySem.W PySem.Calls PyProof.Rows PySem.HandSPX
/-! ### the text of an error's __init__: self.f = f -/
def tA (f : Str) (p1 p2 : Pos) : Arguments :=
  { posonlyargs := [], args := [{ arg := "self", annotation := none, pos := p1 }, { arg := f, annotation := none, pos := p2 }], vararg := none, kwonlyargs := [], kw_defaults := [], kwarg := none, defaults := [] }
def tB (f : Str) (q1 q2 q3 q4 : Pos) : List Stmt := [.Assign [.Attribute (.Name "self" q1) f q2] (.Name f q3) q4]
def tS (f : Str) : Scope :=
  { kind := .function, names := [(PySem.Str.ofString "self", .local), (f, .local)], isGenerator := false, isCoroutine := false, more := [] }
/-- the fields' names -/
def fields : List Str := ["value", "position", "spot", "limit", "deed", "count", "words"]
/-- what the written part says of an error's class, at C, and of its __init__, at fI -/
structure EC (K : Frag) (x f : Str) (C fI : Addr) : Prop where
  ox : L2.OexC K C
  noN : findIn K (.ref C) f = some none
  iC : findIn K (.ref C) "__init__" = some (some (.ref fI))
  tI : typeIn K (.ref fI) = some (.type "function")
  xf : L2.XfC K C
  xc : L2.ExcC K C
  fl : f ∈ fields
  fn : ∃ (oc : Value) (od : Option Addr) (kV doc pm : Value) (an : Option Addr) (cdv ct : Value) (osl : Array (Option Value)) (ql : Str) (p1 p2 q1 q2 q3 q4 : Pos),
    K.lookup fI = some ⟨oc, od, .func (fnOf "__init__" ql (tA f p1 p2) (tB f q1 q2 q3 q4) (tS f) .none kV doc pm an cdv ct), osl⟩ ∧ codeIn K cdv ql = true
/-- what __init__ leaves of a new exception at x -/
structure Left (h h' : Heap) (x C dx t1 : Addr) (f : Str) (v : Value) : Prop where
  keep : ∀ b o, b ≠ x → h.get? b = some o → h'.get? b = some o
  obj : h'.get? x = some { cls := .ref C, dict := some dx, data := .fields #[.ref t1, .none, .none, .none, .bool false, .none] }
  big : h.objs.size ≤ dx
  ne : dx ≠ x
  ns : h'.Ns1 dx (fun y => if y = f then some v else none)
theorem ld {M : Model} {s : Shared} {name : Str} {scope : Scope} {L a : Addr} {cd : Value} {m : Str → Option Value} {x : Str} {pos : Pos} {v : Value} {Q : Value → Shared → Prop} {A : Around} {E : Value → Shared → Prop}
    (ns : s.heap.Ns L m) (at_ : m x = some v) (fin : Q v s) (kd : scope.kind = .function := by rfl) (lo : (envOfC name scope L a cd).kindOf x = some .local := by rfl) (db : (x == ("__debug__" : Str)) = false := by decide) :
    wpAny M A (eval (.Name x pos) (envOfC name scope L a cd)) Q E s :=
  wpAny_Name (wpAny_loadName_local kd lo ns at_ fin) db
section
variable {prog : Program} {w : World} {A : Around} {R : Result → Shared → Prop} {s : Shared} {K : Frag} {x f : Str} {C fI : Addr}
theorem init_any (T : EC K x f C fI) {e t0 : Addr} {v : Value} {args : Args} (ha : args = ⟨[.ref e, v], []⟩ ∨ args = ⟨[.ref e], [(f, v)]⟩) (X : K.In s.heap) (lim : s.heap.NoLimit) (he : s.heap.get? e = some (excO C t0)) (room : A.depth < recursionLimit)
    (fin : ∀ h' tk dx, Left s.heap h' e C dx t0 f v → R (.ok (.ret .none)) { s with heap := h', toks := tk }) :
    codeAny (model prog w) A (.call (.ref fI) args) R s := by
  obtain ⟨oc, od, kV, doc, pm, an, cdv, ct, osl, ql, p1, p2, q1, q2, q3, q4, ho, hcd⟩ := T.fn
  obtain ⟨nm, q, N, bs, bm, sn, sub, ab, col, dd, k0, k1, k2, k3, k5, hC, hbm⟩ := T.ox.cls
  have hcl : clsIn K C = some { name := nm, bases := bs, mro := .ref C :: bm, ns := N, qualname := q, hasDict := true, slotNames := sn, subclasses := sub, abstract := ab, collection := col, hasDel := false } := by
    unfold clsIn
    rw [hC] <;> rfl
  have noN := T.noN
  have fl := T.fl
  have sa := T.ox.sa
  have step : ∀ {s₁ : Shared} {m : Str → Option Value} {sc : Scope} {cdv : Value} {A' : Around} {E' : Value → Shared → Prop} {Q' : Flow → Shared → Prop} {L : Addr} {ql : Str}, (∀ b o, s.heap.get? b = some o → s₁.heap.get? b = some o) → s₁.heap.Ns L m → s.heap.objs.size ≤ L → sc.kind = .function →
      (envOfC ql sc L fI cdv).kindOf "self" = some .local → (envOfC ql sc L fI cdv).kindOf f = some .local → (f == ("__debug__" : Str)) = false → m "self" = some (.ref e) → m f = some v → (swapsWith (.Name f q3) (some (.Attribute (.Name "self" q1) f q2)) q4.line (envOfC ql sc L fI cdv) = pure false) →
      (∀ (h₂ : Heap) (tk : Nat × Addr), Left s.heap h₂ e C tk.2 t0 f v → Q' .next { s₁ with heap := h₂, toks := tk.1 }) → wpAny (model prog w) A' (execs (tB f q1 q2 q3 q4) (envOfC ql sc L fI cdv)) Q' E' s₁ := by
    intro s₁ m sc cdv A' E' Q' L ql k hn hL kd l1 l2 db m1 m2 sw fin'
    have X₁ : K.In s₁.heap := X.keeps k
    have he₁ := k _ _ he
    refine wpAny_execs_cons (plainObj_wpAny_Assign_Attribute ?_ sw)
    refine ld (v := v) hn m2 (ld (v := .ref e) hn m1 ?_ kd l1) kd l2 db
    refine set_plain X₁ (ox := excO C t0) (od := none) ⟨he₁, rfl, rfl, trivial⟩ sa ?_
    obtain ⟨h₁, g₁, d₁, t₁, o₁⟩ := s₁
    refine exc_osa X₁ he₁ hcl (show refsVE (.ref C :: bm) = true from hbm) rfl noN (fun h₃ tk₃ dx k₃ dn dne hx₃ hn₃ => ?_)
    show wpAny _ _ (execs _ _) _ _ _
    have z : L < h₁.objs.size := hn.lt
    exact wpAny_execs_nil (fin' h₃ (tk₃, dx) ⟨fun b o hb q => k₃ b o hb (k b o q), hx₃, Nat.le_of_lt (Nat.lt_of_le_of_lt hL (Nat.lt_of_lt_of_le z dn)), dne, hn₃⟩)
  simp only [fields, List.mem_cons, List.not_mem_nil, or_false] at fl
  rcases ha with rfl | rfl <;> rcases fl with rfl | rfl | rfl | rfl | rfl | rfl | rfl
  all_goals
    refine Att.call_fn (binds := [("self", .ref e), (_, v)]) X lim ho hcd room (BindsTo.of_eq (by first | rfl | with_unfolding_all rfl)) (by first | rfl | decide | with_unfolding_all rfl) (fun s₁ IC => ?_) rfl rfl rfl
    obtain ⟨h₁, tk₁, rfl⟩ := IC.toInCall.same
    refine step (m := _) IC.toInCall.keep IC.toInCall.ns (Nat.le_refl _) rfl rfl rfl (by decide) (by first | rfl | with_unfolding_all rfl | kernel_rfl) (by first | rfl | with_unfolding_all rfl | kernel_rfl) (by rfl) fun h₂ tk z => fin h₂ tk.1 tk.2 z
end
end ErK
end PySem
set_option Elab.async false
set_option linter.all false
set_option maxRecDepth 100000
set_option maxHeartbeats 4000000
namespace Er
open PySem PySem.Spec PyProof.Rows L2
open PySem.ErK (EC)
/-- what stood stands -/
def Sm (H H' : Hp) : Prop := ∀ b o, H b = some o → H' b = some o
theorem Sm.refl (H : Hp) : Sm H H := fun _ _ e => e
theorem Sm.trans {H H1 H2 : Hp} (a : Sm H H1) (b : Sm H1 H2) : Sm H H2 := fun c o e => b c o (a c o e)
theorem Sm.new {H : Hp} {a : Addr} {o : HO} (n : H a = none) : Sm H (upd H a o) := fun b u e => by
  rw [upd_ne (ne_of_none e n)]
  exact e
section
variable {X : Cx} {pins : List (Addr × Obj)} {σ : L2.St} {H : Hp} {s : Shared}
/-- two new objects at once -/
theorem laid2 {h' : Heap} {a d : Addr} {o u : HO} {t' : Nat} (I : Inv X pins σ H s) (k : ∀ b v, s.heap.get? b = some v → h'.get? b = some v) (la : s.heap.objs.size ≤ a) (ld : s.heap.objs.size ≤ d) (ne : d ≠ a)
    (oa : ObjOk X.prog X.w (upd (upd H d u) a o) h' a o) (od : ObjOk X.prog X.w (upd (upd H d u) a o) h' d u) :
    Inv X pins σ (upd (upd H d u) a o) { s with heap := h', toks := t' } := by
  have na := I.hok.fresh la
  have nd := I.hok.fresh ld
  have lt : ∀ {b : Addr} {v : Obj} {c : Addr}, s.heap.get? b = some v → s.heap.objs.size ≤ c → b ≠ c := fun q z => Nat.ne_of_lt (Nat.lt_of_lt_of_le (Heap.lt_size q) z)
  have st : ∀ {b : Addr} {v : HO}, H b = some v → upd (upd H d u) a o b = some v := fun {b v} q => by
    rw [upd_ne (ne_of_none q na), upd_ne (ne_of_none q nd)]
    exact q
  have U : Un X.fs [] H (upd (upd H d u) a o) s.heap h' := {
    keep := fun b v q _ _ _ => k b v q
    slot := fun b v q _ _ _ => ⟨v.slots, k b v q⟩
    free := fun b v q n _ => by
      rw [upd_ne (lt q la), upd_ne (lt q ld)]
      exact n
    there := fun b v q _ => ⟨v, k b v q⟩
    tups := fun b xs q => st q
    frzs := fun b v xs q => st q
    tbls := fun b ps q => ⟨#[], by
      rw [st q]
      simp⟩ }
  refine I.un (t' := t') U fun b v q => ?_
  by_cases hb : b = a
  · subst hb
    rw [upd_same] at q
    cases q
    exact oa
  · rw [upd_ne hb] at q
    by_cases hd : b = d
    · subst hd
      rw [upd_same] at q
      cases q
      exact od
    · rw [upd_ne hd] at q
      exact (I.hok b v q).stay (fun c z _ y => k c z y) (fun c y => st y) fun c xs y => st y
end
/-! ### errors as values -/
/-- v is an error of the class at C, whose only field f holds y -/
def IsE (H : Hp) (v : V) (C : Addr) (f : Str) (y : V) : Prop :=
  ∃ a d : Addr, v = .ref a ∧ H a = some (exo a C (some d)) ∧ H d = some (exd d [(f, y)])
theorem IsE.mono {H H' : Hp} {v : V} {C : Addr} {f : Str} {y : V} (e : IsE H v C f y) (k : Sm H H') : IsE H' v C f y := by
  obtain ⟨a, d, e1, e2, e3⟩ := e
  exact ⟨a, d, e1, k _ _ e2, k _ _ e3⟩
/-- the reading of X(e), X(f = e) -/
def tNew (C : Addr) (f : Str) (te : TE) : TE := fun σ H Q => te σ H fun y H1 => ∀ v H2, Sm H1 H2 → IsE H2 v C f y → Q v H2
theorem rel_one {y : V} {u : Value} (f : Str) (r : RelV y u) (g : Str) : RelO (List.lookup g [(f, y)]) (if g = f then some u else none) := by
  by_cases hw : g = f
  · subst hw
    rw [if_pos rfl]
    have q : List.lookup g [(g, y)] = some y := by simp [List.lookup]
    rw [q]
    exact r
  · rw [if_neg hw]
    have qw : (g == f) = false := by simpa using hw
    have q2 : List.lookup g [(f, y)] = none := by simp [List.lookup, qw]
    rw [q2]
    trivial
section
variable {X : Cx} {x f : Str} {C fI : Addr}
/-- the call itself, whichever way the value is handed in -/
theorem run_new {pins : List (Addr × Obj)} {σ : L2.St} {H : Hp} {s : Shared} {Q : VK} {y : V} {u : Value} {us : List Value} {kw : List (Str × Value)} (T : EC X.K x f C fI) (hr : Room 1 X.A) (I : Inv X pins σ H s) (r : RelV y u)
    (ha : (us = [u] ∧ kw = []) ∨ (us = [] ∧ kw = [(f, u)])) (h : ∀ v H2, Sm H H2 → IsE H2 v C f y → Q v H2) :
    wpAny (model X.prog X.w) X.A (call (.ref C) us kw) (EP X pins σ Q) X.xe s := by
  obtain ⟨nm, q, N, bs, bm, sn, sub, ab, col, dd, k0, k1, k2, k3, k5, hC, hbm⟩ := T.ox.cls
  have hlim := I.nolimit
  have kIn := I.kIn
  obtain ⟨hp, g, dr, tk, os⟩ := s
  have short : us.length ≤ sizeLine := by
    rw [sizeLine_eq]
    rcases ha with ⟨rfl, _⟩ | ⟨rfl, _⟩
    · exact (by decide : 1 ≤ 16777216)
    · exact (by decide : 0 ≤ 16777216)
  have k : ∀ b o, hp.get? b = some o → ((hp.push (PySem.W.kdv_tup us)).push (PySem.HandSPX.excO C hp.objs.size)).get? b = some o :=
    fun b o e => Heap.get?_push_of_some _ (Heap.get?_push_of_some _ e)
  have new : ((hp.push (PySem.W.kdv_tup us)).push (PySem.HandSPX.excO C hp.objs.size)).get? (hp.objs.size + 1) = some (PySem.HandSPX.excO C hp.objs.size) := by
    heap_get
  refine wpAny_call (PySem.ErK.call_kws F.excBase_ValueError (fun Y => PySem.HandSPX.refsVE_contains Y bm hbm) (kIn _ _ hC) short (PySem.W.looks_findIn kIn T.iC) (fun self => PySem.W.bind_fn kIn self T.tI) ?_)
  refine PySem.ErK.init_any (s := ⟨(hp.push (PySem.W.kdv_tup us)).push (PySem.HandSPX.excO C hp.objs.size), g, dr, tk, os⟩) (e := hp.objs.size + 1) (v := u) T ?_ (PySem.W.Frag.In.keeps kIn k) (hlim.keeps k) new ?_ fun h' tk' dx ⟨k', hx, dn, dne, hns⟩ => ?_
  · rcases ha with ⟨rfl, rfl⟩ | ⟨rfl, rfl⟩
    · exact .inl rfl
    · exact .inr rfl
  · have z := hr.dp
    show (X.A.under _).depth < recursionLimit
    rw [make_depth]
    omega
  · have old : ∀ b o, hp.get? b = some o → h'.get? b = some o :=
      fun b o e => k' b o (Nat.ne_of_lt (Nat.lt_succ_of_lt (Heap.lt_size e))) (k b o e)
    have big : hp.objs.size ≤ dx := by
      have z : hp.objs.size + 1 + 1 ≤ dx := by
        first
          | exact dn
          | (have q := dn
             rw [Heap.size_push, Heap.size_push] at q
             exact q)
          | (simpa only [Heap.size_push] using dn)
      exact Nat.le_trans (Nat.le_trans (Nat.le_succ _) (Nat.le_succ _)) z
    have J : Inv X pins σ (upd (upd H dx (exd dx [(f, y)])) (hp.objs.size + 1) (exo (hp.objs.size + 1) C (some dx))) ⟨h', g, dr, tk', os⟩ :=
      laid2 (t' := tk') I old (Nat.le_succ _) big dne (exo_ok hx) (exd_ok hns (rel_one f r))
    have n1 : H (hp.objs.size + 1) = none := I.hok.fresh (Nat.le_succ _)
    have n2 : H dx = none := I.hok.fresh big
    refine ⟨rfl, .ref (hp.objs.size + 1), _, J, rfl, h _ _ (fun b o e => ?_) ⟨_, dx, rfl, upd_same, ?_⟩⟩
    · rw [upd_ne (ne_of_none e n1), upd_ne (ne_of_none e n2)]
      exact e
    · rw [upd_ne dne]
      exact upd_same
/-- X(e) -/
theorem pe_new {e : Expr} {te : TE} {p pos : Pos} (T : EC X.K x f C fI) (hr : Room 1 X.A) (gl : Gl X x) (gC : X.mg x = some (.ref C)) (he : PE X e te) (db : (x == ("__debug__" : Str)) = false := by decide)
    (hs : starEach [e] X.env = (false, eval e X.env) :: starEach [] X.env := by rfl) (hp : (backTo pos (starEach [] X.env)).any (·.1) = false := by rfl) :
    PE X (.Call (.Name x p) [e] [] pos) (tNew C f te) := by
  refine ⟨fun pins s σ H Q I h => ?_⟩
  refine wpAny_Call_Name_kw (ld_glob I gl gC ?_ db)
  refine PySem.W.callWith_K (h₀ := X.base) I.ok.mod.kin T.ox.kC ?_ hs hp
  rw [hs]
  show wpAny _ _ (spliced ((false, eval e X.env) :: backTo pos (starEach [] X.env))) _ _ s
  refine Calls.spliced_cons (thn (he.run pins s σ H _ I h) fun u s1 ⟨y, H1, I1, r1, q1⟩ => ?_)
  refine Calls.spliced_nil ⟨I1.kIn, ?_⟩
  exact run_new T hr I1 r1 (.inl ⟨rfl, rfl⟩) q1
/-- X(f = e) -/
theorem pe_newK {e : Expr} {te : TE} {p pos kp : Pos} (T : EC X.K x f C fI) (hr : Room 1 X.A) (gl : Gl X x) (gC : X.mg x = some (.ref C)) (he : PE X e te) (db : (x == ("__debug__" : Str)) = false := by decide) :
    PE X (.Call (.Name x p) [] [⟨some f, e, kp⟩] pos) (tNew C f te) := by
  refine ⟨fun pins s σ H Q I h => ?_⟩
  refine wpAny_Call_Name_kw (ld_glob I gl gC ?_ db)
  refine PySem.W.callWith_KW0 (h₀ := X.base) I.ok.mod.kin T.ox.kC (by rfl) ?_
  show wpAny _ _ (evalAll [(do
    let v ← eval e X.env
    standAt pos
    pure v)]) _ _ s
  refine wpAny_evalAll_cons (wpAny_bind (thn (he.run pins s σ H _ I h) fun u s1 ⟨y, H1, I1, r1, q1⟩ => wpAny_bind (wpAny_standAt (wpAny_pure ?_))))
  refine wpAny_evalAll_nil ⟨I1.kIn, ?_⟩
  exact run_new T hr I1 r1 (.inr ⟨rfl, rfl⟩) q1
/-- e.f, e an error -/
def tGet (K : PySem.W.Frag) (f : Str) (te : TE) : TE := fun σ H Q => te σ H fun v H1 => ∃ (x : Str) (C fI : Addr) (y : V), EC K x f C fI ∧ IsE H1 v C f y ∧ Q y H1
theorem pe_get {e : Expr} {te : TE} {pos : Pos} (he : PE X e te) (hb : attributeBase e f X.env (eval e X.env) = eval e X.env := by rfl) : PE X (.Attribute e f pos) (tGet X.K f te) := by
  refine ⟨fun pins s σ H Q I h => ?_⟩
  refine attr_of hb (thn (he.run pins s σ H _ I h) fun u s1 hh => ?_)
  obtain ⟨v, H1, I1, rv, x, C, fI, y, T, ⟨a, d, rfl, ea, ed⟩, q⟩ := hh
  obtain rfl : u = Value.ref a := rv
  obtain ⟨t1, ho⟩ := exo_at I1.hok ea
  obtain ⟨mA, hns, hrel⟩ := exd_at I1.hok ed
  obtain ⟨od, hd, hl⟩ := lookIn_ns hns
  have l : List.lookup f [(f, y)] = some y := by simp [List.lookup]
  obtain ⟨u', hu, ru⟩ := RelO.some_of (v := y) (o := mA f) (by
    rw [← l]
    exact hrel f)
  have J : PySem.W.InstAt s1.heap a { cls := .ref C, dict := some d, data := .fields #[.ref t1, .none, .none, .none, .bool false, .none] } C (some od) := ⟨ho, rfl, rfl, hd⟩
  exact HandSPX.exc_get I1.kIn J T.xf.ga T.xf.gg T.xf.exC (PySem.W.findObj_own T.xf.hdC T.noN rfl (by rw [hl, hu])) (handed_of ru) ⟨y, H1, I1.tok _, ru, q⟩
end
end Er
set_option Elab.async false
set_option linter.all false
set_option maxRecDepth 100000
set_option maxHeartbeats 4000000
namespace PySem
namespace ErK
open PySem.W PySem.Calls PyProof.Rows PySem.HandSPX PySem.Spec
section
variable {prog : Program} {w : World} {A : Around} {E : Value → Shared → Prop} {s : Shared} {K : Frag} {x D : Addr} {ox : Obj} {od : Option Obj}
theorem found_data {C : Addr} {name : Str} {b g : Value} (c : (clsIn K C).isSome = true) (f : findIn K (.ref C) name = some (some b)) (g1 : specialIn K b "__get__" = some (some g)) (t1 : takesIn K b = some true) :
    findObj K C od name = some (.bind g b) := by
  obtain ⟨cd, c⟩ := Option.isSome_iff_exists.mp c
  unfold findObj
  rw [c, Option.bind_some, f, Option.bind_some]
  simp [g1, t1]
/-- x.__class__, x an error with its dict -/
theorem cls_asked {Q : Option Value → Shared → Prop} (T : L2.ExcC K D) (X : K.In s.heap) (I : InstAt s.heap x ox D od) (fin : Q (some (.ref D)) { s with toks := s.toks + 1 }) :
    wpAny (model prog w) A (getAttr? (.ref x) "__class__") Q E s := by
  have hf : findObj K D od "__class__" = some (.bind (.builtin "getset_descriptor.__get__") (.builtin "object.__class__")) := found_data (by
    obtain ⟨cd, hc, _⟩ := any_some T.hd
    rw [hc]
    rfl) T.ha T.hn T.ht
  obtain ⟨hp, g, d, t, os⟩ := s
  have l0 := I.type (M := model prog w)
  have l1 := looks_findIn (M := model prog w) X T.hg
  have l2 := looks_findIn (M := model prog w) X T.hk
  have l3 := looks_find (M := model prog w) X I hf
  have isB : Looks (model prog w) hp (isInstance (.ref x) (.type "BaseException")) true := l0.andThen (looks_subIn X T.hs)
  have z0 : (false && onTheHeap (Value.builtin "BaseException.__getattribute__")) = false := rfl
  have z2 : (Value.builtin "BaseException.__getattribute__" == Value.builtin "object.__getattribute__") = false := by
    decide +kernel
  have z1 : (onTheHeap (Value.ref D) && Value.builtin "BaseException.__getattribute__" == Value.builtin "object.__getattribute__") = false := by
    rw [z2]
    rfl
  unfold getAttr? getAttrBy? getAttrBy
  refine wpAny_bind (wpAny_mkText (wpAny_bind (wpAny_attempt (wpAny_holding (wpAny_bind (l0.at (wpAny_bind (l1.at ?_))))))))
  show wpAny _ _ (if (onTheHeap (Value.ref D) && Value.builtin "BaseException.__getattribute__" == Value.builtin "object.__getattribute__") = true then _ else _) _ _ _
  rw [z1, if_neg Bool.false_ne_true]
  unfold getAttrByItsOwn hookBefore
  refine wpAny_bind ?_
  rw [if_pos (show onTheHeap (Value.ref D) = true from rfl)]
  refine l2.at ?_
  refine wpAny_bind (wpAny_attempt (wpAny_holding ?_))
  unfold callGetattribute
  rw [z0, if_neg Bool.false_ne_true]
  unfold boundAndCalled
  rw [PySem.F.excAttr_ValueError.ga.bind (.ref x)]
  refine wpAny_bind (wpAny_pure ?_)
  show wpAny _ _ (call (.builtin "BaseException.__getattribute__") [.ref x, .str "__class__" t]) _ _ _
  refine wpAny_call (codeAny_call_builtin PySem.F.excAttr_ValueError.ga.plain PySem.F.entry_bexc_ga ?_)
  refine @check_slot (model prog w) _ _ ⟨hp, g, d, t + 1, os⟩ "BaseException.__getattribute__" "BaseException" "__getattribute__" (.ref x) [.str "__class__" t] [] _ (by decide +kernel) (by decide +kernel) isB (PySem.F.args_bexc_ga (.ref x) (.str "__class__" t)) ?_
  unfold Builtin.«object.__getattribute__»
  refine wpAny_bind (wpAny_of_eq (a := ((Value.ref x : Value), [Value.str "__class__" t])) (by
    first
      | rfl
      | (simp only [slotArgs]
         rfl)) ?_)
  refine wpAny_bind (wpAny_pure (wpAny_bind (l0.at (wpAny_bind (l3.at ?_)))))
  show wpAny _ _ (holding [Value.builtin "object.__class__"] (call (.builtin "getset_descriptor.__get__") [.builtin "object.__class__", .ref x, .ref D]) >>= ret) _ _ _
  refine wpAny_bind (wpAny_holding (wpAny_call (class_get (s := ⟨hp, g, d, t + 1, os⟩) (ox := ox) (od := od) X I T.hm ?_)))
  refine wpAny_pure ?_
  show wpAny _ _ (handedOut (.ref D)) _ _ _
  rw [handedOut_of (v := .ref D) rfl]
  first
    | exact wpAny_pure (wpAny_bind (wpAny_pure (wpAny_pure fin)))
    | exact wpAny_pure (wpAny_pure fin)
    | exact wpAny_pure fin
/-- what isinstance's rules ask of such an error -/
theorem kit_err (T : L2.ExcC K D) : KitX K (.ref x) (.ref D) (fun h => InstAt h x ox D od) where
  ty := fun _ _ _ I => I.type
  it := fun _ _ X _ => by
    obtain ⟨cdD, hcD, _⟩ := any_some T.hd
    unfold clsIn at hcD
    split at hcD
    · rename_i c' d' cd' sl' ho
      intro A' Q' E' s' k q
      unfold isType loadHead
      exact wpAny_bind (wpAny_loadPart (k _ _ (X _ _ ho)) (wpAny_pure q))
    · cases hcD
  ne := fun h tp dd its n sl X at_ => by
    obtain ⟨cdD, hcD, _⟩ := any_some T.hd
    refine Bool.eq_false_iff.mpr fun q => ?_
    have e : D = tp := Value.ref.inj (beq_iff_eq.mp q)
    subst e
    unfold clsIn at hcD
    split at hcD
    · rename_i c' d' cd' sl' ho
      have z := (X _ _ ho).symm.trans at_
      cases z
    · cases hcD
  ca := fun X I fin => cls_asked T X I fin
end
end ErK
end PySem
namespace Er
open PySem PySem.Spec PyProof.Rows L2
open PySem.ErK (EC)
section
variable {X : Cx}
/-- isinstance(e, c), e an error -/
def rIsA (K : PySem.W.Frag) : List V → Hp → VK → Prop := fun xs H Q => ∃ (v c : V) (cu : Value) (x f : Str) (C fI : Addr) (y : V) (b : Bool), xs = [v, c] ∧ ClsV c cu ∧ EC K x f C fI ∧ IsE H v C f y ∧ PySem.W.kitOne K (.ref C) cu = some b ∧ Q (.bl b) H
theorem call_isA : CallR X (.builtin "isinstance") (rIsA X.K) := by
  intro pins s σ H xs us Q I r h
  obtain ⟨v, c, cu, x, f, C, fI, y, b, rfl, k, T, ⟨a, d, rfl, ea, ed⟩, e, q⟩ := h
  obtain ⟨u1, u2, rfl, r1, r2⟩ := vals2 r
  have e2 := k.eq r2
  subst e2
  obtain rfl : u1 = Value.ref a := r1
  obtain ⟨t1, ho⟩ := exo_at I.hok ea
  obtain ⟨mA, hns, hrel⟩ := exd_at I.hok ed
  obtain ⟨od, hd, hl⟩ := lookIn_ns hns
  have J : PySem.W.InstAt s.heap a { cls := .ref C, dict := some d, data := .fields #[.ref t1, .none, .none, .none, .bool false, .none] } C (some od) := ⟨ho, rfl, rfl, hd⟩
  exact PySem.W.kia_one (PySem.ErK.kit_err T.xc) I.kIn J e (fun z => nomatch z) fun tk => ⟨.bl b, H, I.tok tk, rfl, q⟩
end
end Er
set_option Elab.async false
set_option linter.all false
set_option maxRecDepth 100000
set_option maxHeartbeats 4000000
namespace Er
open PySem PySem.Spec PyProof.Rows L2
/-! ### ** of a great number -/
def CPw (i j : Int) : Prop := 0 ≤ j ∧ (Builtin.Int.intBits i : Int) * j ≤ 2 ^ 27
theorem op_powB {X : Cx} : OpR X (binaryOp .Pow) (rI CPw fun i j => .int (i ^ j.toNat)) := opI fun _ _ _ _ _ _ _ hc q => pow_int hc.1 hc.2 q
/-! ### repr of a list that holds one thing again and again -/
/-- None, a bool, a number, a text -/
inductive Flat : V → PyData → Prop where
  | non : Flat .non .none
  | bl (b : Bool) : Flat (.bl b) (.bool b)
  | int (i : Int) (h : i.natAbs.log2 < 1920) : Flat (.int i) (.int i)
  | str (x : Str) : Flat (.str x) (.str x)
inductive Flats : List V → List PyData → Prop where
  | nil : Flats [] []
  | cons {v : V} {d : PyData} {vs : List V} {ds : List PyData} (h : Flat v d) (r : Flats vs ds) : Flats (v :: vs) (d :: ds)
/-- a thing: flat, or a list, a tuple, a dict with text keys of flat ones -/
inductive Thing (H : Hp) : V → PyData → Prop where
  | flat {v : V} {d : PyData} (h : Flat v d) : Thing H v d
  | lst {a : Addr} {xs : List V} {ds : List PyData} (e : H a = some (.lst xs)) (h : Flats xs ds) : Thing H (.ref a) (.list ds)
  | tup {a : Addr} {xs : List V} {ds : List PyData} (e : H a = some (.tup xs)) (h : Flats xs ds) : Thing H (.ref a) (.tuple ds)
  | dct {a : Addr} {ks : List Str} {xs : List V} {ds : List PyData} (e : H a = some (.dK ((ks.map Sum.inr).zip xs))) (l : ks.length = xs.length) (h : Flats xs ds) : Thing H (.ref a) (.dict ((ks.map PyData.str).zip ds))
theorem Flats.len {vs : List V} {ds : List PyData} (h : Flats vs ds) : vs.length = ds.length := by
  induction h with
  | nil => rfl
  | cons _ _ ih => simp [ih]
theorem Flat.reads {h : Heap} {v : V} {u : Value} {d : PyData} (f : Flat v d) (r : RelV v u) : Reads h u d [] := by
  cases f with
  | non =>
    cases (show u = Value.none from r)
    exact .none
  | bl b =>
    cases (show u = Value.bool b from r)
    exact .bool b
  | int i _ =>
    obtain ⟨t, q⟩ := (show ∃ t, u = Value.int i t from r)
    cases q
    exact .int i t
  | str x =>
    obtain ⟨t, q⟩ := (show ∃ t, u = Value.str x t from r)
    cases q
    exact .str x t
theorem Flats.reads {h : Heap} {vs : List V} {ds : List PyData} (f : Flats vs ds) : ∀ {us : List Value}, Vals vs us → ReadsAll h us ds [] := by
  induction f with
  | nil =>
    intro us r
    cases r
    exact .nil
  | cons f1 _ ih =>
    intro us r
    cases r with
    | cons r1 r2 => exact ReadsAll.cons (as := []) (bs := []) (f1.reads r1) (ih r2)
theorem Flat.show {v : V} {d : PyData} (f : Flat v d) : d.showable = true ∧ d.depth ≤ 1 := by
  cases f with
  | non => exact ⟨rfl, by decide⟩
  | bl b => exact ⟨rfl, by simp [PyData.depth]⟩
  | int i h => exact ⟨by simpa [PyData.showable] using h, by simp [PyData.depth]⟩
  | str x => exact ⟨rfl, by simp [PyData.depth]⟩
theorem Flats.show {vs : List V} {ds : List PyData} (f : Flats vs ds) : PyData.showableAll ds = true ∧ PyData.depthAll ds ≤ 1 := by
  induction f with
  | nil => exact ⟨by simp [PyData.showableAll], by simp [PyData.depthAll]⟩
  | cons f1 _ ih =>
    have h1 := f1.show
    exact ⟨by simp [PyData.showableAll, h1.1, ih.1], by
      have h2 := h1.2
      have h3 := ih.2
      simp only [PyData.depthAll]
      omega⟩
theorem rep_reads {h : Heap} {u : V} {d : PyData} {as : List Addr} (f : ∀ w, RelV u w → Reads h w d as) : ∀ (n : Nat) {us : List Value}, Vals (List.replicate n u) us → ∃ bs, ReadsAll h us (List.replicate n d) bs ∧ ∀ b ∈ bs, b ∈ as
  | 0, us, r => by
    cases r
    exact ⟨[], .nil, fun b z => nomatch z⟩
  | n + 1, us, r => by
    rw [List.replicate_succ] at r
    cases r with
    | cons r1 r2 =>
      obtain ⟨bs, h1, h2⟩ := rep_reads f n r2
      rw [List.replicate_succ]
      refine ⟨as ++ bs, .cons (f _ r1) h1, fun b z => ?_⟩
      rcases List.mem_append.mp z with z | z
      · exact z
      · exact h2 b z
theorem rep_show {d : PyData} (h : d.showable = true) : ∀ n : Nat, PyData.showableAll (List.replicate n d) = true ∧ PyData.depthAll (List.replicate n d) ≤ d.depth
  | 0 => ⟨by simp [PyData.showableAll], by simp [PyData.depthAll]⟩
  | n + 1 => by
    have ih := rep_show h n
    rw [List.replicate_succ]
    exact ⟨by simp [PyData.showableAll, h, ih.1], by
      have h3 := ih.2
      simp only [PyData.depthAll]
      omega⟩
theorem rep_len (d : PyData) : ∀ n : Nat, ((PyData.shownAll (List.replicate n d)).map (·.length)).sum = n * d.shown.length ∧ (PyData.shownAll (List.replicate n d)).length = n
  | 0 => by simp [PyData.shownAll]
  | n + 1 => by
    have ih := rep_len d n
    rw [List.replicate_succ]
    simp only [PyData.shownAll, List.map_cons, List.sum_cons, List.length_cons]
    rw [ih.1, ih.2, Nat.succ_mul]
    exact ⟨Nat.add_comm _ _, rfl⟩
theorem kvs_show : ∀ {ks : List Str} {ds : List PyData}, PyData.showableAll ds = true → PyData.depthAll ds ≤ 1 → PyData.showableKv ((ks.map PyData.str).zip ds) = true ∧ PyData.depthKv ((ks.map PyData.str).zip ds) ≤ 1
  | [], ds, _, _ => by simp [PyData.showableKv, PyData.depthKv]
  | k :: ks, [], _, _ => by simp [PyData.showableKv, PyData.depthKv]
  | k :: ks, d :: ds, h1, h2 => by
    simp only [PyData.showableAll, Bool.and_eq_true] at h1
    simp only [PyData.depthAll] at h2
    have ih := kvs_show (ks := ks) h1.2 (by omega)
    simp only [List.map_cons, List.zip_cons_cons]
    refine ⟨by simp [PyData.showableKv, PyData.showable, h1.1, ih.1], ?_⟩
    have h3 := ih.2
    simp only [PyData.depthKv, PyData.depth]
    omega
theorem Thing.show {H : Hp} {v : V} {d : PyData} (t : Thing H v d) : d.showable = true ∧ d.depth ≤ 4 := by
  cases t with
  | flat h => exact ⟨h.show.1, Nat.le_trans h.show.2 (by decide)⟩
  | lst e h =>
    have z := h.show
    exact ⟨by simpa [PyData.showable] using z.1, by
      have z2 := z.2
      simp only [PyData.depth]
      omega⟩
  | tup e h =>
    have z := h.show
    exact ⟨by simpa [PyData.showable] using z.1, by
      have z2 := z.2
      simp only [PyData.depth]
      omega⟩
  | @dct a ks xs ds e l h =>
    have z := kvs_show (ks := ks) h.show.1 h.show.2
    exact ⟨by simpa [PyData.showable] using z.1, by
      have z2 := z.2
      simp only [PyData.depth]
      omega⟩
/-- the dict of all modules is the text's own -/
def IsSys (K : PySem.W.Frag) : Prop := ∃ (o : Obj) (es : Array DictEntry) (n : Nat), K.lookup sysModules = some o ∧ o.data = .dict es n
section
variable {X : Cx} {pins : List (Addr × Obj)} {σ : L2.St} {H : Hp} {s : Shared}
theorem not_sys (S : IsSys X.K) (I : Inv X pins σ H s) {a : Addr} {o : Obj} {its : Array Value} {n : Nat} (e : s.heap.get? a = some o) (d : o.data = .seq its n) : a ≠ sysModules := fun z => by
  obtain ⟨o2, es, n2, hk, hd⟩ := S
  have e2 := I.kIn _ _ hk
  rw [z, e2] at e
  cases e
  rw [hd] at d
  cases d
theorem pairs_reads {h : Heap} : ∀ {ks : List Str} {xs : List V} {ds : List PyData} {vs : List (Key × Value)} {es : List DictEntry}, KV ((ks.map Sum.inr).zip xs) vs → Pairs (mixKind X.prog X.w) es vs → ks.length = xs.length → Flats xs ds →
    ReadsAll h (es.map (·.key)) (((ks.map PyData.str).zip ds).map (·.1)) [] ∧ ReadsAll h (es.map (·.val)) (((ks.map PyData.str).zip ds).map (·.2)) []
  | [], [], _, vs, es, r, p, _, f => by
    cases f
    cases r
    cases p
    exact ⟨.nil, .nil⟩
  | k :: ks, x :: xs, _, vs, es, r, p, l, f => by
    cases f with
    | cons f1 f2 =>
      cases r with
      | cons r1 r2 =>
        cases p with
        | @cons e kv es' kvs' p1 p2 p3 =>
          obtain ⟨q1, q2⟩ := r1
          have ih := pairs_reads (h := h) r2 p3 (by simpa using l) f2
          have hk : keyIs (Sum.inr k) e.key = true := by
            have z : (mixKind X.prog X.w).is _ e.key = true := p1
            rw [← q1] at z
            exact z
          rcases keyIs_shape hk with ⟨i, t, z, _⟩ | ⟨y, t, z, w⟩
          · cases z
          · cases z
            refine ⟨ReadsAll.cons (as := []) (bs := []) ?_ ih.1, ReadsAll.cons (as := []) (bs := []) ?_ ih.2⟩
            · show Reads h e.key (PyData.str k) []
              rw [w]
              exact .str _ _
            · show Reads h e.val _ []
              rw [p2]
              exact f1.reads q2
theorem Thing.reads (S : IsSys X.K) (I : Inv X pins σ H s) {v : V} {d : PyData} (t : Thing H v d) : ∃ as : List Addr, (∀ u, RelV v u → Reads s.heap u d as) ∧ sysModules ∉ as := by
  cases t with
  | flat h => exact ⟨[], fun u r => h.reads r, fun z => nomatch z⟩
  | @lst a xs ds e h =>
    obtain ⟨_, its, n, rv, ho⟩ := (show ObjOk X.prog X.w H s.heap a (.lst xs) from I.hok a _ e)
    have ne := not_sys S I ho rfl
    refine ⟨[a], fun u r => ?_, fun z => ne (List.mem_singleton.mp z).symm⟩
    cases (show u = Value.ref a from r)
    exact Reads.list ho rfl rfl (by simpa using h.reads rv)
  | @tup a xs ds e h =>
    obtain ⟨_, its, rv, o, ho, hc, n, hd⟩ := (show ObjOk X.prog X.w H s.heap a (.tup xs) from I.hok a _ e)
    refine ⟨[], fun u r => ?_, fun z => nomatch z⟩
    cases (show u = Value.ref a from r)
    exact Reads.tuple ho hc hd (by simpa using h.reads rv)
  | @dct a ks xs ds e l h =>
    obtain ⟨_, ns, vs, kv, o, es, ep, ho, hx, hd, _, hp, _⟩ := (show ObjOk X.prog X.w H s.heap a (.dK _) from I.hok a _ e)
    have ne : a ≠ sysModules := beq_eq_false_iff_ne.mp ns
    have z := pairs_reads (h := s.heap) kv hp l h
    refine ⟨[a], fun u r => ?_, fun z => ne (List.mem_singleton.mp z).symm⟩
    cases (show u = Value.ref a from r)
    exact Reads.dict (as := []) (bs := []) ho hx.1 hd z.1 z.2
/-- repr of n times one thing -/
def rShw : List V → Hp → VK → Prop := fun xs H Q => ∃ (p : Addr) (n : Nat) (v : V) (d : PyData), xs = [.ref p] ∧ H p = some (.lst (List.replicate n v)) ∧ Thing H v d ∧ n ≤ 1000 ∧ d.shown.length ≤ 1000 ∧ Q (.str (PyData.shown (.list (List.replicate n d)))) H
theorem call_rep (S : IsSys X.K) (hg : X.A.guards = some []) (hu : X.A.units + 64 < cLine) : CallR X (.builtin "repr") rShw := by
  intro pins s σ H xs us Q I r h
  obtain ⟨p, n, v, d, rfl, e, t, hn, hd, q⟩ := h
  cases r with
  | cons rp rr =>
    cases rr
    rename_i u
    obtain rfl : u = Value.ref p := rp
    obtain ⟨_, its, m, rv, ho⟩ := (show ObjOk X.prog X.w H s.heap p (.lst _) from I.hok p _ e)
    have ne := not_sys S I ho rfl
    obtain ⟨as, f, nas⟩ := t.reads S I
    obtain ⟨bs, hr, sub⟩ := rep_reads f n rv
    have hsh := rep_show t.show.1 n
    have rd : Reads s.heap (.ref p) (.list (List.replicate n d)) (p :: bs) := Reads.list ho rfl rfl (by simpa using hr)
    have dp := t.show.2
    have hl := rep_len d n
    have size : (PyData.shown (.list (List.replicate n d))).length ≤ sizeLine := by
      have z := listText_len_le (PyData.shownAll (List.replicate n d))
      rw [hl.1, hl.2] at z
      have m1 : n * d.shown.length ≤ 1000 * 1000 := Nat.mul_le_mul hn hd
      simp only [PyData.shown]
      rw [sizeLine_eq]
      omega
    refine repr_of_reads' rd (by simpa [PyData.showable] using hsh.1) (fun _ z => ?_) hg ?_ (fun _ _ z => z) (fun h' u tk k => ⟨.str _, H, ?_, ⟨u, rfl⟩, q⟩) size
    · rcases List.mem_cons.mp z with z | z
      · exact ne z.symm
      · exact nas (sub _ z)
    · have z := hsh.2
      simp only [PyData.depth]
      omega
    · exact I.kept (t' := tk) k
end
end Er
set_option Elab.async false
set_option linter.all false
set_option maxRecDepth 100000
set_option maxHeartbeats 4000000
namespace Dk
open PySem PySem.Spec PyProof.Rows L2 Er
def top (i : Nat) : Stmt := PySem.Challenge.pw_lateeditions_k04_lots_and_likenesses.main.body.getD i (.Pass ⟨0, 0, 0, 0⟩)
abbrev FnP (K : PySem.W.Frag) (x : Str) (st : Stmt) (f : Addr) (fd : FuncData) : Prop := FunD K x x (defArgs st) (defBody st) (defScope st) [] [] f fd
/-! ### numbers -/
theorem bits_lt {z : Int} {n : Nat} (h : Builtin.Int.intBits z ≤ n) : z.natAbs < 2 ^ n := by
  unfold Builtin.Int.intBits at h
  split at h
  · rename_i e
    have e2 : z = 0 := by simpa using e
    rw [e2]
    exact Nat.pow_pos (by decide)
  · exact Nat.lt_of_lt_of_le (Nat.lt_log2_self) (Nat.pow_le_pow_right (by decide) h)
theorem bits_le {z : Int} {n : Nat} (h : z.natAbs < 2 ^ n) : Builtin.Int.intBits z ≤ n := by
  unfold Builtin.Int.intBits
  split
  · exact Nat.zero_le _
  · rename_i e
    have e2 : z.natAbs ≠ 0 := by
      intro q
      have q2 : z = 0 := by omega
      rw [q2] at e
      exact e rfl
    exact (Nat.log2_lt e2).mpr h
theorem bits_sum {m e : Int} {n : Nat} (hm : m.natAbs < 2 ^ 49) (hn : 49 ≤ n) (he : Builtin.Int.intBits e ≤ n) : Builtin.Int.intBits (m + e) ≤ n + 1 := by
  have h1 := bits_lt he
  have h2 : 2 ^ 49 ≤ 2 ^ n := Nat.pow_le_pow_right (by decide) hn
  refine bits_le ?_
  rw [Nat.pow_succ]
  generalize 2 ^ n = P at *
  omega
theorem pow_ok {m e : Int} (hm : 0 ≤ m) (hm2 : m < 2 ^ 32) (he : Builtin.Int.intBits e ≤ 1048576) : CPw (m * 70001 + e) 3 := by
  have h := bits_sum (m := m * 70001) (e := e) (n := 1048576) (by omega) (by omega) he
  refine ⟨by decide, ?_⟩
  have h2 : (2 : Int) ^ 27 = 134217728 := by decide
  rw [h2]
  omega
section
variable {P : Program} {w : World} {K : PySem.W.Frag} {mg : Str → Option Value} {base : Heap} {f : Addr} {fd : FuncData}
theorem pe_i {X : Cx} {e : Expr} {te : TE} {p pos : Pos} (he : PE X e te) (hm : X.mg "int" = none) (hg : Gl X "int" := by rfl) (hs : starEach [e] X.env = (false, eval e X.env) :: starEach [] X.env := by rfl) : PE X (.Call (.Name "int" p) [e] [] pos) (tCB (fun xs H Q => (∃ i, xs = [.int i] ∧ Q (.int i) H) ∨ ∃ k, xs = [.bl k] ∧ Q (.int (if k then 1 else 0)) H) (tCons te tNil)) :=
  pe_callTy call_int1 hg hm PyProof.Rows.boot_int (pa_cons he pa_nil hs) (he := hs)
/-! ### _law_source -/
def spSrc (K : PySem.W.Frag) : Sp := fun vs H Q _ => ∃ (a : Addr) (ns : List Int) (st : Nat), vs = [.ref a, .int st] ∧ SqL K H a (ns.map V.int) ∧ ns.length ≤ 63 ∧ st ≤ 3 ∧ (∀ z ∈ ns, Builtin.Int.intBits z ≤ 1048576) ∧
  ∀ (p : Addr) (own mix : Int), H p = none → 0 ≤ own → 0 ≤ mix → mix < 2 ^ 32 → Q (.ref p) (upd H p (.lst [.int own, .int mix]))
abbrev nSrc : List Str := ["_law_script", "_law_start", "_law_mixed_here", "_law_cell", "_law_own"]
theorem scSrc : FnScope nSrc ["_law_script", "_law_start"] (defScope (top 35)) := ⟨rfl, rfl, rfl, by decide +kernel, rfl, by decide +kernel, by decide +kernel⟩
theorem ok_src (F : FnP K "_law_source" (top 35) f fd) (mi : mg "int" = none) (ml : mg "len" = none) : FnOk P w K mg base CX0 1 f fd ["_law_script", "_law_start"] (spSrc K) := by
  refine F.ok (CX := CX0) scSrc (fun vs H Q E h => ?_) (fun cdv A outer s H vs Q E hr h => ?_)
  · obtain ⟨a, ns, st, rfl, _⟩ := h
    rfl
  · refine ⟨_, PSs.nox (pss_cons (ps_set (i := 2) scSrc.nd rfl (.inl rfl) (pe_op op_add pe_int (pv 1)))
      (pss_cons (ps_for PassesOwn.never rfl (pi_list (pv 0)) (pg_name (i := 3) scSrc.nd rfl (.inl rfl))
        (pss_one (ps_set (i := 2) scSrc.nd rfl (.inl rfl) (pe_op op_add (pe_op op_mod (pe_i (pe_op op_powB (pe_i (pe_op op_add (pe_op op_mul (pv 2) pe_int) (pe_i (pv 3) mi)) mi) pe_int) mi) pe_int) pe_int))))
      (pss_cons (ps_set (i := 4) scSrc.nd rfl (.inl rfl) pe_int)
      (pss_cons (ps_if (PW.pt (pw_and (pt_cmpR op_lt (pv 1) (pe_callB call_len rfl ml boot_len (pa_cons (pv 0) pa_nil)) (nomark _))
          (pw_and1 (pt_cmpR op_ge (pe_ix ix_list (pv 0) (pv 1) (fun _ _ => rfl)) (pe_op op_pow pe_int pe_int) (nomark _)))))
        (pss_one (ps_set (i := 4) scSrc.nd rfl (.inl rfl) (pe_op op_sub (pe_ix ix_list (pv 0) (pv 1) (fun _ _ => rfl)) (pe_op op_pow pe_int pe_int)))) pss_nil)
      (pss_one (ps_ret (pe_lst (pa_cons (pv 4) (pa_cons (pv 2) pa_nil))))))))), ?_⟩
    obtain ⟨a, ns, st, rfl, hS, hl, hst, hb, q⟩ := h
    refine ⟨_, rfl, _, _, rfl, rfl, _, rfl, a, rfl, ⟨_, hS⟩, for_list (K := K) (a := a) (xs := ns.map V.int) (fun i σ H' => ∃ (m : Int) (v : Option V), σ = [some (.ref a), some (.int st), some (.int m), v, none] ∧ 0 ≤ m ∧ m < 2 ^ 32 ∧ H' = H) ?_ ?_ ?_ ?_⟩
    · exact ⟨91 + st, none, rfl, by omega, by omega, rfl⟩
    · rintro i σ H' _ ⟨m, v, rfl, h0, h1, rfl⟩
      exact hS
    · rintro i y σ H' hi ⟨m, v, rfl, h0, h1, rfl⟩
      obtain ⟨z, hz, rfl⟩ : ∃ z, z ∈ ns ∧ y = V.int z := by
        rw [List.getElem?_map] at hi
        cases e : ns[i]? with
        | none =>
          rw [e] at hi
          cases hi
        | some z =>
          rw [e] at hi
          exact ⟨z, List.mem_of_getElem? e, (Option.some.inj hi).symm⟩
      refine ⟨_, rfl, _, _, rfl, rfl, .inl ⟨by omega, by omega⟩, _, rfl, .inl ⟨_, rfl, _, _, rfl, rfl, .inl ⟨_, rfl, _, _, rfl, rfl, pow_ok h0 h1 (hb z hz), .inl ⟨_, rfl, _, _, rfl, rfl, by show (0 : Int) < 2147483563; decide, _, _, rfl, rfl, ?_⟩⟩⟩⟩
      refine ⟨_, some (.int z), rfl, ?_, ?_, rfl⟩
      · have := Int.emod_nonneg ((m * 70001 + z) ^ (3 : Int).toNat) (show (2147483563 : Int) ≠ 0 by decide)
        omega
      · have := Int.emod_lt_of_pos ((m * 70001 + z) ^ (3 : Int).toNat) (show (0 : Int) < 2147483563 by decide)
        omega
    · rintro σ H' ⟨m, v, rfl, h0, h1, rfl⟩
      refine ⟨_, rfl, _, rfl, _, _, rfl, .inl ⟨_, hS, rfl⟩, _, _, rfl, rfl, _, rfl, ?_⟩
      have fin : ∀ own : Int, 0 ≤ own → ∀ p : Addr, H' p = none → Q (.ref p) (upd H' p (.lst [.int own, .int m])) := fun own ho p hp => q p own m hp ho h0 h1
      have last : ∀ own : Int, 0 ≤ own → (tRet (tLst (tCons (tVar 4) (tCons (tVar 2) tNil)))) { nx := fun _ H' => Q .non H', rt := Q } [some (.ref a), some (.int st), some (.int m), v, some (.int own)] H' := fun own ho =>
        ⟨_, rfl, _, rfl, (by show 2 ≤ sizeLine; decide), fin own ho⟩
      by_cases c : (st : Int) < ((ns.map V.int).length : Nat)
      · rw [decide_eq_true c]
        refine iteT ?_
        have cl : st < ns.length := by
          rw [List.length_map] at c
          omega
        have at_ : atI (ns.map V.int) (st : Int) = some (.int ns[st]) := atI_nat (by
          rw [List.getElem?_map, List.getElem?_eq_getElem cl]
          rfl)
        refine ⟨_, rfl, _, rfl, _, _, _, _, rfl, rfl, hS, at_, _, _, rfl, rfl, ⟨by decide, by decide, by decide⟩, _, _, rfl, rfl, _, rfl, ?_⟩
        by_cases g : (10 : Int) ^ (18 : Int).toNat ≤ ns[st]
        · rw [decide_eq_true g]
          refine iteT ?_
          refine ⟨_, rfl, _, rfl, _, _, _, _, rfl, rfl, hS, at_, _, _, rfl, rfl, ⟨by decide, by decide, by decide⟩, _, _, rfl, rfl, ?_⟩
          exact last _ (by omega)
        · rw [decide_eq_false g]
          refine iteF ?_
          exact last 0 (by decide)
      · rw [decide_eq_false c]
        refine iteF ?_
        refine iteF ?_
        exact last 0 (by decide)
/-! ### _law_draw -/
def spDraw (K : PySem.W.Frag) : Sp := fun vs H Q _ => ∃ (p : Addr) (own mix : Int) (n : Nat), vs = [.ref p, .int n] ∧ H p = some (.lst [.int own, .int mix]) ∧ 0 < n ∧ n ≤ 1000 ∧ 0 ≤ own ∧ 0 ≤ mix ∧ mix < 2 ^ 32 ∧
  ∀ (k : Nat) (own' mix' : Int), k < n → 0 ≤ own' → 0 ≤ mix' → mix' < 2 ^ 32 → Q (.int k) (upd H p (.lst [.int own', .int mix']))
abbrev nDraw : List Str := ["_law_source_here", "_law_span", "_law_found"]
theorem scDraw : FnScope nDraw ["_law_source_here", "_law_span"] (defScope (top 36)) := ⟨rfl, rfl, rfl, by decide +kernel, rfl, by decide +kernel, by decide +kernel⟩
theorem modN {x : Int} {n : Nat} (h : 0 < n) : ∃ k : Nat, k < n ∧ x % (n : Int) = (k : Int) := by
  have h1 := Int.emod_nonneg x (show (n : Int) ≠ 0 by omega)
  have h2 := Int.emod_lt_of_pos x (show (0 : Int) < n by omega)
  exact ⟨(x % (n : Int)).toNat, by omega, by omega⟩
theorem ok_draw (F : FnP K "_law_draw" (top 36) f fd) (mi : mg "int" = none) : FnOk P w K mg base CX0 1 f fd ["_law_source_here", "_law_span"] (spDraw K) := by
  refine F.ok (CX := CX0) scDraw (fun vs H Q E h => ?_) (fun cdv A outer s H vs Q E hr h => ?_)
  · obtain ⟨p, own, mix, n, rfl, _⟩ := h
    rfl
  · refine ⟨_, PSs.nox (pss_cons (ps_if (pt_cmpR op_ge (pe_ix ix_list (pv 0) pe_int (fun _ _ => rfl)) (pv 1) (nomark _))
        (pss_cons (ps_set (i := 2) scDraw.nd rfl (.inl rfl) (pe_op op_mod (pe_i (pe_ix ix_list (pv 0) pe_int (fun _ _ => rfl)) mi) (pv 1)))
        (pss_cons (ps_asg (pe_op op_fdivN (pe_ix ix_list (pv 0) pe_int (fun _ _ => rfl)) (pv 1)) (pg_sub (pv 0) pe_int set_list))
        (pss_one (ps_ret (pv 2))))) pss_nil)
      (pss_cons (ps_asg (pe_op op_mod (pe_i (pe_op op_add (pe_op op_mul (pe_ix ix_list (pv 0) pe_int (fun _ _ => rfl)) pe_int) pe_int) mi) pe_int) (pg_sub (pv 0) pe_int set_list))
      (pss_one (ps_ret (pe_op op_mod (pe_i (pe_op op_fdivN (pe_op op_mod (pe_i (pe_op op_pow (pe_i (pe_ix ix_list (pv 0) pe_int (fun _ _ => rfl)) mi) pe_int) mi) pe_int) pe_int) mi) (pv 1)))))), ?_⟩
    obtain ⟨p, own, mix, n, rfl, hH, hn, hn2, ho, h0, h1, q⟩ := h
    have S : SqL K H p [.int own, .int mix] := .inl (.inl hH)
    have a0 : atI [V.int own, V.int mix] 0 = some (.int own) := atI_nat (j := 0) rfl
    have a1 : atI [V.int own, V.int mix] 1 = some (.int mix) := atI_nat (j := 1) rfl
    refine ⟨_, rfl, _, _, _, _, rfl, rfl, S, a0, _, rfl, _, _, rfl, rfl, _, rfl, ?_⟩
    by_cases c : (n : Int) ≤ own
    · rw [decide_eq_true c]
      refine iteT ?_
      obtain ⟨k, hk, ek⟩ := modN (x := own) hn
      refine ⟨_, rfl, _, _, _, _, rfl, rfl, S, a0, .inl ⟨_, rfl, _, rfl, _, _, rfl, rfl, by show (0 : Int) < n; omega, ?_⟩⟩
      refine ⟨_, rfl, _, _, _, _, rfl, rfl, S, a0, _, rfl, _, _, rfl, rfl, ⟨by omega, by omega⟩, _, rfl, _, _, _, 0, rfl, rfl, hH, rfl, ?_⟩
      refine ⟨_, rfl, ?_⟩
      show Q (.int (own % (n : Int))) (upd H p (.lst [.int (own.fdiv (n : Int)), .int mix]))
      rw [ek]
      refine q k _ mix hk ?_ h0 h1
      rw [Int.fdiv_eq_ediv_of_nonneg _ (by omega)]
      exact Int.ediv_nonneg ho (by omega)
    · rw [decide_eq_false c]
      refine iteF ?_
      have m0 := Int.emod_nonneg (mix * 48271 + 6113) (show (2147483647 : Int) ≠ 0 by decide)
      have m1 := Int.emod_lt_of_pos (mix * 48271 + 6113) (show (0 : Int) < 2147483647 by decide)
      refine ⟨_, rfl, _, _, _, _, rfl, rfl, S, a1, _, _, rfl, rfl, .inl ⟨by omega, by omega⟩, _, _, rfl, rfl, .inl ⟨_, rfl, _, _, rfl, rfl, by show (0 : Int) < 2147483647; decide, _, rfl, _, _, _, 1, rfl, rfl, hH, rfl, ?_⟩⟩
      have S2 : SqL K (upd H p (.lst [.int own, .int ((mix * 48271 + 6113) % 2147483647)])) p [.int own, .int ((mix * 48271 + 6113) % 2147483647)] := .inl (.inl upd_same)
      have b1 : atI [V.int own, V.int ((mix * 48271 + 6113) % 2147483647)] 1 = some (.int ((mix * 48271 + 6113) % 2147483647)) := atI_nat (j := 1) rfl
      refine ⟨_, rfl, _, _, _, _, rfl, rfl, S2, b1, .inl ⟨_, rfl, _, _, rfl, rfl, ⟨by decide, by decide, by omega⟩, .inl ⟨_, rfl, _, _, rfl, rfl, by show (0 : Int) < 1000000007; decide, _, _, rfl, rfl, ⟨by decide, by decide⟩, .inl ⟨_, rfl, _, rfl, _, _, rfl, rfl, by show (0 : Int) < n; omega, ?_⟩⟩⟩⟩
      obtain ⟨k, hk, ek⟩ := modN (x := (((mix * 48271 + 6113) % 2147483647) ^ (5 : Int).toNat % 1000000007).fdiv 29) hn
      show Q (.int ((((mix * 48271 + 6113) % 2147483647) ^ (5 : Int).toNat % 1000000007).fdiv 29 % (n : Int))) (upd H p (.lst [.int own, .int ((mix * 48271 + 6113) % 2147483647)]))
      rw [ek]
      exact q k own _ hk ho m0 (by omega)
end
end Dk
set_option Elab.async false
set_option linter.all false
set_option maxRecDepth 100000
set_option maxHeartbeats 4000000
namespace Dk
open PySem PySem.Spec PyProof.Rows L2 Er
/-! ### the source of draws -/
/-- at p: the numbers from which is drawn -/
def Src (H : Hp) (p : Addr) : Prop := ∃ own mix : Int, H p = some (.lst [.int own, .int mix]) ∧ 0 ≤ own ∧ 0 ≤ mix ∧ mix < 2 ^ 32
/-- all but p stands -/
def Sx (p : Addr) (H H' : Hp) : Prop := ∀ b o, b ≠ p → H b = some o → H' b = some o
theorem Sx.refl (p : Addr) (H : Hp) : Sx p H H := fun _ _ _ e => e
theorem Sx.trans {p : Addr} {H H1 H2 : Hp} (a : Sx p H H1) (b : Sx p H1 H2) : Sx p H H2 := fun c o n e => b c o n (a c o n e)
theorem Sx.of {p : Addr} {H H' : Hp} (m : Sm H H') : Sx p H H' := fun b o _ e => m b o e
theorem Sx.upd {p : Addr} {H : Hp} {o : HO} : Sx p H (upd H p o) := fun b u n e => by
  rw [upd_ne n]
  exact e
theorem Src.new {H : Hp} {p a : Addr} {o : HO} (h : Src H p) (n : H a = none) : Src (upd H a o) p := by
  obtain ⟨own, mix, e, r⟩ := h
  exact ⟨own, mix, Sm.new n _ _ e, r⟩
theorem Src.sm {H H' : Hp} {p : Addr} (h : Src H p) (m : Sm H H') : Src H' p := by
  obtain ⟨own, mix, e, r⟩ := h
  exact ⟨own, mix, m _ _ e, r⟩
theorem Src.ne {H : Hp} {p a : Addr} (h : Src H p) (n : H a = none) : a ≠ p := by
  obtain ⟨own, mix, e, r⟩ := h
  exact fun z => by
    rw [z, e] at n
    cases n
/-- the draw, told by its source -/
def spD : Sp := fun vs H Q _ => ∃ (p : Addr) (n : Nat), vs = [.ref p, .int n] ∧ Src H p ∧ 0 < n ∧ n ≤ 1000 ∧ ∀ (k : Nat) H', k < n → Sx p H H' → Src H' p → (∀ b, H b = none → H' b = none) → Q (.int k) H'
section
variable {P : Program} {w : World} {K : PySem.W.Frag} {mg : Str → Option Value} {base : Heap} {f fD fP fM fW fN : Addr} {fd dD dP dM dW dN : FuncData}
theorem ok_d (F : FnP K "_law_draw" (top 36) f fd) (mi : mg "int" = none) : FnOk P w K mg base CX0 1 f fd ["_law_source_here", "_law_span"] spD :=
  (ok_draw F mi).imp fun vs H Q E ⟨p, n, e, ⟨own, mix, h, h0, h1, h2⟩, n0, n1, q⟩ => ⟨p, own, mix, n, e, h, n0, n1, h0, h1, h2, fun k own' mix' hk w0 w1 w2 => q k _ hk Sx.upd ⟨own', mix', upd_same, w0, w1, w2⟩ fun b hb => by
    rw [upd_ne (fun z => by rw [z, h] at hb; cases hb)]
    exact hb⟩
theorem bD (F : FnP K "_law_draw" (top 36) fD dD) : Binds K dD ["_law_source_here", "_law_span"] [] := F.bindsN fun _ _ _ _ _ _ us hl => match us, hl with
  | [_, _], _ => rfl
/-! ### _law_pick -/
/-- of a list, or of a text -/
def spPick (K : PySem.W.Frag) : Sp := fun vs H Q _ => ∃ (p : Addr) (x : V), vs = [.ref p, x] ∧ Src H p ∧
  ((∃ (l : Addr) (xs : List V), x = .ref l ∧ l ≠ p ∧ SqL K H l xs ∧ 0 < xs.length ∧ xs.length ≤ 1000 ∧ ∀ (k : Nat) v H', xs[k]? = some v → Sx p H H' → Src H' p → (∀ b, H b = none → H' b = none) → Q v H') ∨
    (∃ z : Str, x = .str z ∧ 0 < z.length ∧ z.length ≤ 1000 ∧ ∀ (k : Nat) c H', z.cps.toList[k]? = some c → Sx p H H' → Src H' p → (∀ b, H b = none → H' b = none) → Q (.str ⟨#[c]⟩) H'))
abbrev nPick : List Str := ["_law_source_here", "_law_things"]
theorem scPick : FnScope nPick nPick (defScope (top 37)) := ⟨rfl, rfl, rfl, by decide +kernel, rfl, by decide +kernel, by decide +kernel⟩
theorem sq_sx {p l : Addr} {xs : List V} {H H' : Hp} (h : SqL K H l xs) (m : Sx p H H') (n : l ≠ p) : SqL K H' l xs := by
  rcases h with (e | ⟨o, e⟩) | k
  · exact .inl (.inl (m _ _ n e))
  · exact .inl (.inr ⟨o, m _ _ n e⟩)
  · exact .inr k
theorem ok_pick (F : FnP K "_law_pick" (top 37) f fd) (ml : mg "len" = none) (mi : mg "int" = none) (FD : FnP K "_law_draw" (top 36) fD dD) (gD : mg "_law_draw" = some (.ref fD)) : FnOk P w K mg base CX0 2 f fd nPick (spPick K) := by
  have GD : FnOk P w K mg base CX0 1 fD dD ["_law_source_here", "_law_span"] spD := ok_d FD mi
  refine F.ok (CX := CX0) scPick (fun vs H Q E h => ?_) (fun cdv A outer s H vs Q E hr h => ?_)
  · obtain ⟨p, x, rfl, _⟩ := h
    rfl
  · refine ⟨_, PSs.nox (pss_one (ps_ret (pe_ix ix_seq (pv 1) (by exact (pe_call GD hr rfl gD FD.kp (bD FD) .nil pass0 (pa_cons (pv 0) (pa_cons (pe_callB call_len rfl ml boot_len (pa_cons (pv 1) pa_nil)) pa_nil)))) (fun _ _ => rfl)))), ?_⟩
    obtain ⟨p, x, rfl, hs, h⟩ := h
    rcases h with ⟨l, xs, rfl, ne, sq, l0, l1, q⟩ | ⟨z, rfl, l0, l1, q⟩
    · refine ⟨_, rfl, _, rfl, _, rfl, _, _, rfl, .inl ⟨_, sq, rfl⟩, p, xs.length, rfl, hs, l0, l1, fun k H' hk m s2 fr => .inl ⟨l, xs, k, xs[k], rfl, rfl, sq_sx sq m ne, atI_nat (List.getElem?_eq_getElem hk), ?_⟩⟩
      exact q k _ H' (List.getElem?_eq_getElem hk) m s2 fr
    · have hz : z.length ≤ sizeLine := by
        rw [sizeLine_eq]
        omega
      refine ⟨_, rfl, _, rfl, _, rfl, _, _, rfl, ⟨hz, rfl⟩, p, z.length, rfl, hs, l0, l1, fun k H' hk m s2 fr => .inr (.inr ?_)⟩
      have hk2 : k < z.cps.toList.length := by
        have e : z.length = z.cps.size := rfl
        rw [e] at hk
        simpa using hk
      exact ⟨z, k, z.cps.toList[k], rfl, rfl, hz, atI_nat (List.getElem?_eq_getElem hk2), q k _ H' (List.getElem?_eq_getElem hk2) m s2 fr⟩
theorem bP (F : FnP K "_law_pick" (top 37) fP dP) : Binds K dP nPick [] := F.bindsN fun _ _ _ _ _ _ us hl => match us, hl with
  | [_, _], _ => rfl
end
end Dk
set_option Elab.async false
set_option linter.all false
set_option maxRecDepth 100000
set_option maxHeartbeats 4000000
namespace Dk
open PySem PySem.Spec PyProof.Rows L2 Er
/-! ### _law_mixed -/
/-- a number or a text -/
inductive Fl : V → PyData → Prop where
  | int (i : Int) : Fl (.int i) (.int i)
  | str (x : Str) (h : PyData.strOk x = true) : Fl (.str x) (.str x)
theorem fl_dp {K : PySem.W.Frag} {H : Hp} : ∀ {xs : List V}, (∀ x ∈ xs, ∃ d, Fl x d) → ∃ ds, DpAll K H xs ds ∧ PyData.canLayAll0 ds = true ∧ PyData.depthAll ds ≤ 1 ∧ ds.length = xs.length
  | [], _ => ⟨[], .nil, by simp [PyData.canLayAll0], by simp [PyData.depthAll], rfl⟩
  | x :: xs, h => by
    obtain ⟨d, hd⟩ := h x List.mem_cons_self
    obtain ⟨ds, h1, h2, h3, h4⟩ := fl_dp (K := K) (H := H) (xs := xs) fun y hy => h y (List.mem_cons_of_mem _ hy)
    cases hd with
    | int i => exact ⟨_, .cons (.int i) h1, by simp [PyData.canLayAll0, PyData.canLay0, h2], by simp only [PyData.depthAll, PyData.depth]; omega, by simp [h4]⟩
    | str z hz => exact ⟨_, .cons (.str z) h1, by simp [PyData.canLayAll0, PyData.canLay0, h2, hz], by simp only [PyData.depthAll, PyData.depth]; omega, by simp [h4]⟩
theorem shaped_of {ds : List PyData} (h1 : PyData.canLayAll0 ds = true) (h2 : PyData.depthAll ds ≤ 1) : SeqAt.shaped (.list ds) = true := by
  unfold SeqAt.shaped
  have c : (PyData.list ds).canLay0 = true := by simpa [PyData.canLay0] using h1
  rw [c, Bool.true_and]
  refine decide_eq_true ?_
  simp only [PyData.depth]
  omega
theorem eqv_nil (ds : List PyData) : PyData.eqv (.list ds) (.list []) = ds.isEmpty := by
  cases ds with
  | nil => simp [PyData.eqv, PyData.eqvAll]
  | cons d ds => simp [PyData.eqv, PyData.eqvAll]
def spMixed (K : PySem.W.Frag) : Sp := fun vs H Q _ => ∃ (p l : Addr) (xs : List V), vs = [.ref p, .ref l] ∧ Src H p ∧ SqL K H l xs ∧ xs.length ≤ 1000 ∧ (∀ x ∈ xs, ∃ d, Fl x d) ∧
  ∀ (q : Addr) (ys : List V) H', Sx p H H' → Src H' p → H q = none → H' q = some (.lst ys) → ys.Perm xs → Q (.ref q) H'
abbrev nMixed : List Str := ["_law_source_here", "_law_things", "_law_lot", "_law_found"]
theorem scMixed : FnScope nMixed ["_law_source_here", "_law_things"] (defScope (top 38)) := ⟨rfl, rfl, rfl, by decide +kernel, rfl, by decide +kernel, by decide +kernel⟩
theorem cons_erase {α : Type} : ∀ (l : List α) (i : Nat) (h : i < l.length), (l[i] :: l.eraseIdx i).Perm l
  | x :: l, 0, _ => .refl _
  | x :: l, i + 1, h => (List.Perm.swap x (l[i]'(by simpa using h)) (l.eraseIdx i)).trans ((cons_erase l i (by simpa using h)).cons x)
theorem pop_perm {acc rem : List V} {k : Nat} (h : k < rem.length) : (acc ++ [rem[k]] ++ rem.eraseIdx k).Perm (acc ++ rem) := by
  rw [List.append_assoc]
  exact List.Perm.append_left acc (cons_erase rem k h)
section
variable {P : Program} {w : World} {K : PySem.W.Frag} {mg : Str → Option Value} {base : Heap} {f fD : Addr} {fd dD : FuncData}
theorem ok_mixed (F : FnP K "_law_mixed" (top 38) f fd) (ml : mg "len" = none) (mi : mg "int" = none) (mt : mg "list" = none) (FD : FnP K "_law_draw" (top 36) fD dD) (gD : mg "_law_draw" = some (.ref fD)) :
    FnOk P w K mg base CX0 2 f fd ["_law_source_here", "_law_things"] (spMixed K) := by
  have GD : FnOk P w K mg base CX0 1 fD dD ["_law_source_here", "_law_span"] spD := ok_d FD mi
  refine F.ok (CX := CX0) scMixed (fun vs H Q E h => ?_) (fun cdv A outer s H vs Q E hr h => ?_)
  · obtain ⟨p, l, xs, rfl, _⟩ := h
    rfl
  · refine ⟨_, PSs.nox (pss_cons (ps_par (i := 2) (j := 3) rfl scMixed.nd rfl rfl (by decide) rfl rfl (pa_cons (pe_callTy call_list_of rfl mt PyProof.Rows.boot_list (pa_cons (pv 1) pa_nil)) (pa_cons (pe_lst pa_nil) pa_nil)) (by rfl))
      (pss_cons (ps_while PassesOwn.never (pt_cmpR (op_neD hr.units) (pv 2) (pe_lst pa_nil) (nomark _))
        (pss_one (ps_expr (pe_bm PySem.F.plainAttrs_list PySem.F.slot_list_append PySem.F.type_list_append mt_append (pv 3) (pa_cons (pe_bm PySem.F.plainAttrs_list PySem.F.slot_list_pop PySem.F.type_list_pop mt_popAt (pv 2)
          (pa_cons (by exact (pe_call GD hr rfl gD FD.kp (bD FD) .nil pass0 (pa_cons (pv 0) (pa_cons (pe_callB call_len rfl ml boot_len (pa_cons (pv 2) pa_nil)) pa_nil)))) pa_nil)) pa_nil)))))
      (pss_one (ps_ret (pv 3))))), ?_⟩
    obtain ⟨p, l, xs, rfl, hs, sq, hx, fl, q⟩ := h
    have sz : ∀ n : Nat, n ≤ 1000 → n ≤ sizeLine := fun n z => by
      rw [sizeLine_eq]
      omega
    refine ⟨_, rfl, l, xs, rfl, .inl sq, fun a1 n1 => ⟨sz _ (by decide), fun a2 n2 => ⟨_, _, rfl, ?_⟩⟩⟩
    have m1 : Sm H (upd H a1 (.lst xs)) := Sm.new n1
    have g1 : upd H a1 (.lst xs) a1 = some (.lst xs) := upd_same
    have m2 : Sm H (upd (upd H a1 (.lst xs)) a2 (.lst [])) := m1.trans (Sm.new n2)
    have e1 : upd (upd H a1 (.lst xs)) a2 (.lst []) a1 = some (.lst xs) := Sm.new n2 _ _ g1
    have e2 : upd (upd H a1 (.lst xs)) a2 (.lst []) a2 = some (.lst []) := upd_same
    have d12 : a1 ≠ a2 := ne_of_none g1 n2
    have p1 : a1 ≠ p := hs.ne n1
    have p2 : a2 ≠ p := (hs.new n1).ne n2
    have h2 : H a2 = none := by
      have z := n2
      rw [upd_ne (Ne.symm d12)] at z
      exact z
    have s2 := hs.sm m2
    generalize (upd (upd H a1 (.lst xs)) a2 (.lst [])) = G at m2 e1 e2 s2 ⊢
    refine while_by (fun σ H' => ∃ rem acc : List V, σ = [some (.ref p), some (.ref l), some (.ref a1), some (.ref a2)] ∧ Sx p H H' ∧ Src H' p ∧ H' a1 = some (.lst rem) ∧ H' a2 = some (.lst acc) ∧ (acc ++ rem).Perm xs)
      (fun _ H' => match H' a1 with
        | some (.lst rem) => rem.length
        | _ => 0) ⟨xs, [], rfl, Sx.of m2, s2, e1, e2, .refl _⟩ ?_ ?_
    · rintro σ H' ⟨rem, acc, rfl, m, src, f1, f2, pm⟩
      have flr : ∀ x ∈ rem, ∃ d, Fl x d := fun x hx => fl x (pm.subset (List.mem_append_right _ hx))
      have lr : acc.length + rem.length = xs.length := by
        rw [← List.length_append]
        exact pm.length_eq
      refine ⟨_, rfl, sz _ (by decide), fun e ne => ?_⟩
      have f1' := Sm.new (o := .lst []) ne _ _ f1
      have f2' := Sm.new (o := .lst []) ne _ _ f2
      have m' : Sx p H (upd H' e (.lst [])) := m.trans (Sx.of (Sm.new ne))
      have src' := src.new (o := .lst []) ne
      have e3 : upd H' e (.lst []) e = some (.lst []) := upd_same
      obtain ⟨ds, k1, k2, k3, k4⟩ := fl_dp (K := K) (H := upd H' e (.lst [])) flr
      have mu : (match (upd H' e (.lst [])) a1 with
        | some (.lst rem) => rem.length
        | _ => 0) = rem.length := by rw [f1']
      have mu0 : (match H' a1 with
        | some (.lst rem) => rem.length
        | _ => 0) = rem.length := by rw [f1]
      refine ⟨_, _, .lst (.inl (.inl f1')) k1, .lst (.inl (.inl e3)) .nil, shaped_of k2 k3, shaped_of (ds := []) (by simp [PyData.canLayAll0]) (by simp [PyData.depthAll]), _, rfl, ?_⟩
      rw [eqv_nil]
      cases rem with
      | nil =>
        have z : ds = [] := List.length_eq_zero_iff.mp k4
        rw [z]
        refine iteF ?_
        refine ⟨_, rfl, q a2 acc _ m' src' h2 f2' ?_⟩
        simpa using pm
      | cons x rem =>
        have z : ds.isEmpty = false := by
          cases ds with
          | nil => simp at k4
          | cons _ _ => rfl
        rw [z]
        refine iteT ?_
        generalize (upd H' e (.lst [])) = G2 at f1' f2' m' src' mu ⊢
        refine ⟨_, rfl, .inl ⟨rfl, _, .inl (.inl f2')⟩, _, rfl, .inl ⟨rfl, _, .inl (.inl f1')⟩, _, rfl, _, rfl, _, _, rfl, .inl ⟨_, .inl (.inl f1'), rfl⟩, p, _, rfl, src', ?_, ?_, fun k G3 hk x3 s3 fr => ?_⟩
        · simp
        · simp only [List.length_cons] at lr ⊢
          omega
        have g1 := x3 _ _ p1 f1'
        have g2 := x3 _ _ p2 f2'
        refine ⟨a1, _, k, k, (x :: rem)[k], rfl, rfl, g1, by omega, by omega, ?_, List.getElem?_eq_getElem hk, ?_⟩
        · exact seqIndex_of (by omega) (by omega)
        have x4 : Sx p H (upd G3 a1 (.lst ((x :: rem).eraseIdx k))) := fun b o nb e => by
          have z := m'.trans x3 b o nb e
          rw [upd_ne (fun w => by rw [w, n1] at e; cases e)]
          exact z
        have g3 : upd G3 a1 (.lst ((x :: rem).eraseIdx k)) a2 = some (.lst acc) := by
          rw [upd_ne (Ne.symm d12)]
          exact g2
        have s4 : Src (upd G3 a1 (.lst ((x :: rem).eraseIdx k))) p := by
          obtain ⟨own, mix, e, r⟩ := s3
          refine ⟨own, mix, ?_, r⟩
          rw [upd_ne (Ne.symm p1)]
          exact e
        refine ⟨a2, acc, _, rfl, rfl, g3, ?_, ?_⟩
        · rw [sizeLine_eq]
          omega
        refine ⟨⟨(x :: rem).eraseIdx k, acc ++ [(x :: rem)[k]], rfl, ?_, ?_, ?_, upd_same, (pop_perm hk).trans pm⟩, ?_⟩
        · intro b o nb e
          rw [upd_ne (fun w => by rw [w, h2] at e; cases e)]
          exact x4 b o nb e
        · obtain ⟨own, mix, e, r⟩ := s4
          refine ⟨own, mix, ?_, r⟩
          rw [upd_ne (Ne.symm p2)]
          exact e
        · rw [upd_ne d12, upd_same]
        · rw [upd_ne d12, upd_same, mu0]
          dsimp only
          rw [List.length_eraseIdx_of_lt hk]
          simp
    · rintro σ H' Q1 Q2 hq ⟨v, e, z, w⟩
      refine ⟨v, e, z, fun p hp => ?_⟩
      obtain ⟨d1, d2, k1, k2, k3, k4, k, ek, r⟩ := w p hp
      exact ⟨d1, d2, k1, k2, k3, k4, k, ek, hq _ _ r⟩
end
end Dk
set_option Elab.async false
set_option linter.all false
set_option maxRecDepth 100000
set_option maxHeartbeats 4000000
namespace Dk
open PySem PySem.Spec PyProof.Rows L2 Er
/-! ### _law_word, _law_names -/
/-- a name: one to eight letters a to z -/
def IsWord (z : Str) : Prop := 1 ≤ z.length ∧ z.length ≤ 8 ∧ ∀ c ∈ z.cps.toList, 97 ≤ c ∧ c ≤ 122
def wordB (z : Str) : Bool := decide (1 ≤ z.length) && (decide (z.length ≤ 8) && z.cps.toList.all fun c => decide (97 ≤ c) && decide (c ≤ 122))
theorem word_of {z : Str} (h : wordB z = true) : IsWord z := by
  unfold wordB at h
  simp only [Bool.and_eq_true, decide_eq_true_eq, List.all_eq_true] at h
  exact ⟨h.1, h.2.1, fun c hc => h.2.2 c hc⟩
theorem IsWord.ok {z : Str} (h : IsWord z) : PyData.strOk z = true := by
  unfold PyData.strOk
  rw [← Array.all_toList]
  refine List.all_eq_true.mpr fun c hc => decide_eq_true ?_
  have := (h.2.2 c hc).2
  omega
def spWord : Sp := fun vs H Q _ => ∃ p : Addr, vs = [.ref p] ∧ Src H p ∧ ∀ (z : Str) H', IsWord z → Sx p H H' → Src H' p → (∀ b, H b = none → H' b = none) → Q (.str z) H'
abbrev nWord : List Str := ["_law_source_here", "_law_word_here", "_law_turn"]
theorem scWord : FnScope nWord ["_law_source_here"] (defScope (top 39)) := ⟨rfl, rfl, rfl, by decide +kernel, rfl, by decide +kernel, by decide +kernel⟩
def abc : Str := "abcdefghijklmnopqrstuvwxyz"
theorem abc_ok : (abc.cps.toList.all fun c => decide (97 ≤ c) && decide (c ≤ 122)) = true := by decide +kernel
section
variable {P : Program} {w : World} {K : PySem.W.Frag} {mg : Str → Option Value} {base : Heap} {f fD fP fM fW : Addr} {fd dD dP dM dW : FuncData}
theorem ok_word (F : FnP K "_law_word" (top 39) f fd) (ml : mg "len" = none) (mi : mg "int" = none) (mr : mg "range" = none) (FD : FnP K "_law_draw" (top 36) fD dD) (gD : mg "_law_draw" = some (.ref fD))
    (FP : FnP K "_law_pick" (top 37) fP dP) (gP : mg "_law_pick" = some (.ref fP)) : FnOk P w K mg base CX0 3 f fd ["_law_source_here"] spWord := by
  have GD : FnOk P w K mg base CX0 1 fD dD ["_law_source_here", "_law_span"] spD := ok_d FD mi
  have GP : FnOk P w K mg base CX0 2 fP dP nPick (spPick K) := ok_pick FP ml mi FD gD
  refine F.ok (CX := CX0) scWord (fun vs H Q E h => ?_) (fun cdv A outer s H vs Q E hr h => ?_)
  · obtain ⟨p, rfl, _⟩ := h
    rfl
  · have hr1 := hr.mono (show 1 ≤ 2 by decide)
    refine ⟨_, PSs.nox (pss_cons (ps_set (i := 1) scWord.nd rfl (.inl rfl) pe_str)
      (pss_cons (ps_for PassesOwn.never rfl (pi_range1 rfl mr (pa_cons (pe_op op_add pe_int (by exact (pe_call GD hr1 rfl gD FD.kp (bD FD) .nil pass0 (pa_cons (pv 0) (pa_cons pe_int pa_nil))))) pa_nil)) (pg_name (i := 2) scWord.nd rfl (.inl rfl))
        (pss_one (ps_set (i := 1) scWord.nd rfl (.inl rfl) (pe_op op_add_str (pv 1) (by exact (pe_call GP hr rfl gP FP.kp (bP FP) .nil pass0 (pa_cons (pv 0) (pa_cons pe_str pa_nil))))))))
      (pss_one (ps_ret (pv 1))))), ?_⟩
    obtain ⟨p, rfl, hs, q⟩ := h
    refine ⟨_, rfl, p, 8, rfl, hs, by decide, by decide, fun k H1 hk m1 s1 fr1 => ⟨_, _, rfl, rfl, _, rfl, by omega, by omega, ?_⟩⟩
    have en : ((1 : Int) + ((k : Nat) : Int)).toNat = k + 1 := by omega
    rw [en]
    refine for_range (lo := 0) (n := k + 1) (fun i σ H' => ∃ (z : Str) (v : Option V), σ = [some (.ref p), some (.str z), v] ∧ z.length = i ∧ (∀ c ∈ z.cps.toList, 97 ≤ c ∧ c ≤ 122) ∧ Sx p H H' ∧ Src H' p ∧ ∀ b, H b = none → H' b = none) ?_ ?_ ?_
    · exact ⟨_, none, rfl, by decide +kernel, fun c hc => absurd hc (by decide +kernel +revert), m1, s1, fr1⟩
    · rintro i σ H' hi ⟨z, v, rfl, zl, zc, m, src, fr⟩
      refine ⟨_, rfl, _, rfl, p, .str abc, rfl, src, .inr ⟨abc, rfl, by decide +kernel, by decide +kernel, fun j c H2 hj m2 s2 fr2 => ⟨z, _, rfl, rfl, ?_, ?_⟩⟩⟩
      · rw [sizeLine_eq, zl]
        show i + 1 ≤ 16777216
        omega
      · refine ⟨_, _, rfl, ?_, ?_, m.trans m2, s2, fun b hb => fr2 b (fr b hb)⟩
        · rw [Str.length_append, zl]
          rfl
        · intro d hd
          rw [Str.cps_append, Array.toList_append] at hd
          rcases List.mem_append.mp hd with e | e
          · exact zc d e
          · have e2 : d = c := by simpa using e
            rw [e2]
            have y := List.all_eq_true.mp abc_ok c (List.mem_of_getElem? hj)
            simpa using y
    · rintro σ H' ⟨z, v, rfl, zl, zc, m, src, fr⟩
      exact ⟨_, rfl, q z H' ⟨by omega, by omega, zc⟩ m src fr⟩
theorem bW (F : FnP K "_law_word" (top 39) fW dW) : Binds K dW ["_law_source_here"] [] := F.bindsN fun _ _ _ _ _ _ us hl => match us, hl with
  | [_], _ => rfl
theorem bM (F : FnP K "_law_mixed" (top 38) fM dM) : Binds K dM ["_law_source_here", "_law_things"] [] := F.bindsN fun _ _ _ _ _ _ us hl => match us, hl with
  | [_, _], _ => rfl
end
theorem none_back {p : Addr} {H G : Hp} (m : Sx p H G) (s : Src G p) {r : Addr} (n : G r = none) : H r = none := by
  cases e : H r with
  | none => rfl
  | some o =>
    have z := m r o (s.ne n) e
    rw [n] at z
    cases z
theorem cut_to (xs : List V) (n : Nat) (h : n ≤ xs.length) : cutV xs none (some (n : Int)) = xs.take n := by
  unfold cutV
  rw [HT.sIx_none, HT.sIx_nat, show min n xs.length = n by omega]
  simp
theorem ix_n {n k : Nat} (h : k < n) : ixN n (k : Int) = some k := by
  unfold ixN
  rw [if_pos (by omega), if_pos (by omega)]
  simp
def spNames : Sp := fun vs H Q _ => ∃ (p : Addr) (n : Nat), vs = [.ref p, .int n] ∧ Src H p ∧ 1 ≤ n ∧ n ≤ 10 ∧
  ∀ (q : Addr) (ws : List Str) H', Sx p H H' → Src H' p → H q = none → H' q = some (.lst (ws.map V.str)) → ws.length = n → ws.Nodup → (∀ z ∈ ws, IsWord z) → Q (.ref q) H'
abbrev nNames : List Str := ["_law_source_here", "_law_many", "_law_some", "_law_word_here"]
theorem scNames : FnScope nNames ["_law_source_here", "_law_many"] (defScope (top 40)) := ⟨rfl, rfl, rfl, by decide +kernel, rfl, by decide +kernel, by decide +kernel⟩
def ten : List Str := ["a", "b", "ab", "carry", "on", "off", "press", "abcdefgh", "abcdefgi", "z"]
theorem ten_nd : ten.Nodup := by decide +kernel
theorem ten_ok : (ten.all wordB) = true := by decide +kernel
theorem strs_of : ∀ {ys : List V}, (∀ y ∈ ys, ∃ z, y = .str z) → ∃ ws : List Str, ys = ws.map V.str
  | [], _ => ⟨[], rfl⟩
  | y :: ys, h => by
    obtain ⟨z, e⟩ := h y List.mem_cons_self
    obtain ⟨ws, e2⟩ := strs_of (ys := ys) fun x hx => h x (List.mem_cons_of_mem _ hx)
    exact ⟨z :: ws, by rw [e, e2]; rfl⟩
theorem map_perm : ∀ {ws vs : List Str}, (ws.map V.str).Perm (vs.map V.str) → ws.Perm vs := fun {ws vs} h => by
  have z := h.map (fun v : V => match v with
    | .str x => x
    | _ => Str.empty)
  rw [List.map_map, List.map_map] at z
  have e : ((fun v : V => match v with
    | .str x => x
    | _ => Str.empty) ∘ V.str) = id := rfl
  rw [e, List.map_id, List.map_id] at z
  exact z
theorem nodup_set {α : Type} : ∀ {l : List α} {k : Nat} {x : α}, l.Nodup → x ∉ l → (l.set k x).Nodup
  | [], _, _, _, _ => by simp
  | a :: l, 0, x, h, hx => by
    have h2 := List.nodup_cons.mp h
    exact List.nodup_cons.mpr ⟨fun z => hx (List.mem_cons_of_mem _ z), h2.2⟩
  | a :: l, k + 1, x, h, hx => by
    have h2 := List.nodup_cons.mp h
    refine List.nodup_cons.mpr ⟨fun z => ?_, nodup_set h2.2 fun z => hx (List.mem_cons_of_mem _ z)⟩
    rcases List.mem_or_eq_of_mem_set z with e | e
    · exact h2.1 e
    · exact hx (by rw [e]; exact List.mem_cons_self)
theorem inV_str {x : Str} : ∀ {ws : List Str}, inV (.str x) (ws.map V.str) = false → x ∉ ws := fun {ws} h hx => by
  unfold inV at h
  have z := List.any_eq_false.mp h (.str x) (List.mem_map_of_mem hx)
  exact z (by simp [eqV])
theorem all_flat (ws : List Str) : (ws.map V.str).all flatV = true := by
  refine List.all_eq_true.mpr fun x hx => ?_
  obtain ⟨z, _, rfl⟩ := List.mem_map.mp hx
  rfl
section
variable {P : Program} {w : World} {K : PySem.W.Frag} {mg : Str → Option Value} {base : Heap} {f fD fP fM fW : Addr} {fd dD dP dM dW : FuncData}
theorem ok_names (F : FnP K "_law_names" (top 40) f fd) (ml : mg "len" = none) (mi : mg "int" = none) (mr : mg "range" = none) (mt : mg "list" = none) (FD : FnP K "_law_draw" (top 36) fD dD) (gD : mg "_law_draw" = some (.ref fD))
    (FP : FnP K "_law_pick" (top 37) fP dP) (gP : mg "_law_pick" = some (.ref fP)) (FM : FnP K "_law_mixed" (top 38) fM dM) (gM : mg "_law_mixed" = some (.ref fM)) (FW : FnP K "_law_word" (top 39) fW dW) (gW : mg "_law_word" = some (.ref fW)) :
    FnOk P w K mg base CX0 4 f fd ["_law_source_here", "_law_many"] spNames := by
  have GD : FnOk P w K mg base CX0 1 fD dD ["_law_source_here", "_law_span"] spD := ok_d FD mi
  have GM : FnOk P w K mg base CX0 2 fM dM ["_law_source_here", "_law_things"] (spMixed K) := ok_mixed FM ml mi mt FD gD
  have GW : FnOk P w K mg base CX0 3 fW dW ["_law_source_here"] spWord := ok_word FW ml mi mr FD gD FP gP
  refine F.ok (CX := CX0) scNames (fun vs H Q E h => ?_) (fun cdv A outer s H vs Q E hr h => ?_)
  · obtain ⟨p, n, rfl, _⟩ := h
    rfl
  · have hr1 := hr.mono (show 1 ≤ 3 by decide)
    have hr2 := hr.mono (show 2 ≤ 3 by decide)
    refine ⟨_, PSs.nox (pss_cons (ps_set (i := 2) scNames.nd rfl (.inl rfl) (by exact (pe_call GM hr2 rfl gM FM.kp (bM FM) .nil pass0 (pa_cons (pv 0) (pa_cons (pe_lst (pa_cons pe_str (pa_cons pe_str (pa_cons pe_str (pa_cons pe_str (pa_cons pe_str (pa_cons pe_str (pa_cons pe_str (pa_cons pe_str (pa_cons pe_str (pa_cons pe_str pa_nil))))))))))) pa_nil)))))
      (pss_cons (ps_set (i := 3) scNames.nd rfl (.inl rfl) (by exact (pe_call GW hr rfl gW FW.kp (bW FW) .nil pass0 (pa_cons (pv 0) pa_nil))))
      (pss_cons (ps_if (pt_cmpR op_notIn_seq (pv 3) (pv 2) rfl) (pss_one (ps_asg (pv 3) (pg_sub (pv 2) (by exact (pe_call GD hr1 rfl gD FD.kp (bD FD) .nil pass0 (pa_cons (pv 0) (pa_cons (pv 1) pa_nil)))) set_list))) pss_nil)
      (pss_one (ps_ret (pe_slice sl_list (pv 2) po_none (po_some (pv 1)))))))), ?_⟩
    obtain ⟨p, n, rfl, hs, n0, n1, q⟩ := h
    have sz : ∀ n : Nat, n ≤ 1000 → n ≤ sizeLine := fun n z => by
      rw [sizeLine_eq]
      omega
    refine ⟨_, rfl, sz _ (by decide), fun l nl => ⟨p, l, ten.map V.str, rfl, hs.new nl, .inl (.inl upd_same), by decide, fun x hx => ?_, fun q1 ys H1 m1 s1 nq1 e1 pm => ?_⟩⟩
    · obtain ⟨z, hz, rfl⟩ := List.mem_map.mp hx
      exact ⟨_, .str z (word_of (List.all_eq_true.mp ten_ok z hz)).ok⟩
    obtain ⟨ws, rfl⟩ := strs_of (ys := ys) fun y hy => by
      obtain ⟨z, _, e⟩ := List.mem_map.mp (pm.subset hy)
      exact ⟨z, e.symm⟩
    have pm := map_perm pm
    have wl : ws.length = 10 := pm.length_eq
    have wn : ws.Nodup := pm.symm.nodup ten_nd
    have ww : ∀ z ∈ ws, IsWord z := fun z hz => word_of (List.all_eq_true.mp ten_ok z (pm.subset hz))
    have m1 : Sx p H H1 := (Sx.of (Sm.new nl)).trans m1
    refine ⟨_, rfl, p, rfl, s1, fun z H2 hz m2 s2 fr2 => ?_⟩
    have qp : q1 ≠ p := (hs.new nl).ne nq1
    have hq1 : H q1 = none := none_back (Sx.of (Sm.new nl)) (hs.new nl) nq1
    have e2 := m2 _ _ qp e1
    have m2 := m1.trans m2
    have last : ∀ (vs : List Str) (G : Hp) (v3 : Option V), Sx p H G → Src G p → G q1 = some (.lst (vs.map V.str)) → vs.length = 10 → vs.Nodup → (∀ z ∈ vs, IsWord z) →
        (tRet (tSl (rSlL K) (tVar 2) tNoPart (tPart (tVar 1)))) { nx := fun _ H' => Q .non H', rt := Q } [some (.ref p), some (.int n), some (.ref q1), v3] G := fun vs G v3 m sG e l nd wd => by
      refine ⟨_, rfl, _, rfl, n, rfl, q1, vs.map V.str, rfl, .inl (.inl e), fun r nr => ?_⟩
      rw [cut_to _ _ (by rw [List.length_map, l]; exact n1), ← List.map_take]
      refine q r (vs.take n) _ (m.trans (Sx.of (Sm.new nr))) (sG.new nr) (none_back m sG nr) upd_same ?_ (nd.sublist (List.take_sublist _ _)) fun y hy => wd y (List.mem_of_mem_take hy)
      rw [List.length_take, l]
      omega
    refine ⟨_, rfl, _, rfl, q1, ws.map V.str, rfl, .inl (.inl (.inl e2)), rfl, all_flat ws, _, rfl, ?_⟩
    show if (!inV (.str z) (ws.map V.str)) = true then _ else _
    cases hi : inV (.str z) (ws.map V.str) with
    | true =>
      refine iteF ?_
      exact last ws H2 _ m2 s2 e2 wl wn ww
    | false =>
      refine iteT ?_
      refine ⟨_, rfl, _, rfl, _, rfl, _, rfl, p, n, rfl, s2, n0, by omega, fun k H3 hk m3 s3 fr3 => ?_⟩
      have e3 := m3 _ _ qp e2
      refine ⟨q1, ws.map V.str, k, k, rfl, rfl, e3, ix_n (by rw [List.length_map, wl]; omega), ?_⟩
      have x4 : Sx p H (upd H3 q1 (.lst ((ws.map V.str).set k (.str z)))) := fun b o nb e => by
        have y := m2.trans m3 b o nb e
        rw [upd_ne (fun w => by rw [w, hq1] at e; cases e)]
        exact y
      have s4 : Src (upd H3 q1 (.lst ((ws.map V.str).set k (.str z)))) p := by
        obtain ⟨own, mix, e, r⟩ := s3
        refine ⟨own, mix, ?_, r⟩
        rw [upd_ne (Ne.symm qp)]
        exact e
      refine last (ws.set k z) _ _ x4 s4 ?_ (by rw [List.length_set, wl]) (nodup_set wn (inV_str hi)) fun y hy => ?_
      · rw [upd_same, List.map_set]
      · rcases List.mem_or_eq_of_mem_set hy with e | e
        · exact ww y e
        · rw [e]
          exact hz
end
end Dk
set_option Elab.async false
set_option linter.all false
set_option maxRecDepth 100000
set_option maxHeartbeats 4000000
namespace Dk
open PySem PySem.Spec PyProof.Rows L2 Er
/-! ### _law_twins -/
/-- natural numbers as the program has them -/
def nats (ts : List Nat) : List V := ts.map fun t => V.int ((t : Nat) : Int)
theorem nats_len (ts : List Nat) : (nats ts).length = ts.length := List.length_map _
theorem nats_at {ts : List Nat} {j t : Nat} (h : ts[j]? = some t) : (nats ts)[j]? = some (.int (t : Nat)) := by
  unfold nats
  rw [List.getElem?_map, h]
  rfl
theorem nats_more (ts : List Nat) (t : Nat) : nats (ts ++ [t]) = nats ts ++ [.int (t : Nat)] := by
  unfold nats
  rw [List.map_append]
  rfl
def spTwins : Sp := fun vs H Q _ => ∃ (p : Addr) (n : Nat), vs = [.ref p, .int n] ∧ Src H p ∧ 1 ≤ n ∧ n ≤ 10 ∧
  ∀ (q : Addr) (ts : List Nat) H', Sx p H H' → Src H' p → H q = none → H' q = some (.lst (nats ts)) → ts.length = n → (∀ j t : Nat, ts[j]? = some t → t ≤ j) → Q (.ref q) H'
abbrev nTwins : List Str := ["_law_source_here", "_law_many", "_law_found", "_law_some", "_law_at"]
theorem scTwins : FnScope nTwins ["_law_source_here", "_law_many"] (defScope (top 41)) := ⟨rfl, rfl, rfl, by decide +kernel, rfl, by decide +kernel, by decide +kernel⟩
theorem up_ts {ts : List Nat} {t : Nat} (h : ∀ j u : Nat, ts[j]? = some u → u ≤ j) (ht : t ≤ ts.length) : ∀ j u : Nat, (ts ++ [t])[j]? = some u → u ≤ j := fun j u e => by
  by_cases c : j < ts.length
  · rw [List.getElem?_append_left c] at e
    exact h j u e
  · rw [List.getElem?_append_right (by omega)] at e
    have z : j - ts.length = 0 := by
      by_cases z : j - ts.length = 0
      · exact z
      · rw [List.getElem?_eq_none (by simp; omega)] at e
        cases e
    rw [z] at e
    have e2 : t = u := by simpa using e
    omega
section
variable {P : Program} {w : World} {K : PySem.W.Frag} {mg : Str → Option Value} {base : Heap} {f fD : Addr} {fd dD : FuncData}
theorem ok_twins (F : FnP K "_law_twins" (top 41) f fd) (mi : mg "int" = none) (mr : mg "range" = none) (FD : FnP K "_law_draw" (top 36) fD dD) (gD : mg "_law_draw" = some (.ref fD)) :
    FnOk P w K mg base CX0 2 f fd ["_law_source_here", "_law_many"] spTwins := by
  have GD : FnOk P w K mg base CX0 1 fD dD ["_law_source_here", "_law_span"] spD := ok_d FD mi
  refine F.ok (CX := CX0) scTwins (fun vs H Q E h => ?_) (fun cdv A outer s H vs Q E hr h => ?_)
  · obtain ⟨p, n, rfl, _⟩ := h
    rfl
  · refine ⟨_, PSs.nox (pss_cons (ps_par (i := 2) (j := 3) rfl scTwins.nd rfl rfl (by decide) rfl rfl (pa_cons (pe_lst pa_nil) (pa_cons (by exact (pe_call GD hr rfl gD FD.kp (bD FD) .nil pass0 (pa_cons (pv 0) (pa_cons pe_int pa_nil)))) pa_nil)) (by rfl))
      (pss_cons (ps_for PassesOwn.never rfl (pi_range1 rfl mr (pa_cons (pv 1) pa_nil)) (pg_name (i := 4) scTwins.nd rfl (.inl rfl))
        (pss_one (ps_if (PW.pt (pw_and (pt_cmpR op_gt (pv 4) pe_int (nomark _)) (pw_and (pt_cmpR op_eq (pv 3) pe_int (nomark _)) (pw_and1 (pt_cmpR op_gt (by exact (pe_call GD hr rfl gD FD.kp (bD FD) .nil pass0 (pa_cons (pv 0) (pa_cons pe_int pa_nil)))) pe_int (nomark _))))))
          (pss_one (ps_expr (pe_bm PySem.F.plainAttrs_list PySem.F.slot_list_append PySem.F.type_list_append mt_append (pv 2) (pa_cons (pe_ix ix_list (pv 2) (by exact (pe_call GD hr rfl gD FD.kp (bD FD) .nil pass0 (pa_cons (pv 0) (pa_cons (pv 4) pa_nil)))) (fun _ _ => rfl)) pa_nil))))
          (pss_one (ps_expr (pe_bm PySem.F.plainAttrs_list PySem.F.slot_list_append PySem.F.type_list_append mt_append (pv 2) (pa_cons (pv 4) pa_nil)))))))
      (pss_one (ps_ret (pv 2))))), ?_⟩
    obtain ⟨p, n, rfl, hs, n0, n1, q⟩ := h
    have sz : ∀ n : Nat, n ≤ 1000 → n ≤ sizeLine := fun n z => by
      rw [sizeLine_eq]
      omega
    refine ⟨sz _ (by decide), fun a na => ⟨_, rfl, p, 2, rfl, hs.new na, by decide, by decide, fun k0 H1 hk0 m1 s1 fr1 => ⟨_, _, rfl, ?_⟩⟩⟩
    have ap : a ≠ p := hs.ne na
    have e1 : H1 a = some (.lst (nats [])) := m1 _ _ ap upd_same
    have m1 : Sx p H H1 := (Sx.of (Sm.new na)).trans m1
    refine ⟨_, rfl, n, rfl, by omega, by omega, ?_⟩
    have en : (((n : Nat) : Int)).toNat = n := by omega
    rw [en]
    refine for_range (lo := 0) (n := n) (fun i σ H' => ∃ (ts : List Nat) (v : Option V), σ = [some (.ref p), some (.int n), some (.ref a), some (.int k0), v] ∧ ts.length = i ∧ (∀ j t : Nat, ts[j]? = some t → t ≤ j) ∧ H' a = some (.lst (nats ts)) ∧ Sx p H H' ∧ Src H' p) ?_ ?_ ?_
    · exact ⟨[], none, rfl, rfl, fun j t e => by simp at e, e1, m1, s1⟩
    · rintro i σ H' hi ⟨ts, v, rfl, tl, tu, e, m, src⟩
      have ez : (0 : Int) + ((i : Nat) : Int) = i := Int.zero_add _
      rw [ez]
      -- what is put behind the list
      have add : ∀ (D : Ends) (G : Hp) (t : Nat), Sx p H G → Src G p → G a = some (.lst (nats ts)) → t ≤ i → (∀ σ G', (∃ (ts : List Nat) (v : Option V), σ = [some (.ref p), some (.int n), some (.ref a), some (.int k0), v] ∧ ts.length = i + 1 ∧ (∀ j t : Nat, ts[j]? = some t → t ≤ j) ∧ G' a = some (.lst (nats ts)) ∧ Sx p H G' ∧ Src G' p) → D.nx σ G') →
          rAppend (.ref a) [.int (t : Nat)] G fun _ H1 => D.nx [some (.ref p), some (.int n), some (.ref a), some (.int k0), some (.int (i : Nat))] H1 := fun D G t mG sG eG ht fin => by
        refine ⟨a, nats ts, .int (t : Nat), rfl, rfl, eG, by rw [nats_len, sizeLine_eq]; omega, fin _ _ ⟨ts ++ [t], some (.int (i : Nat)), rfl, by rw [List.length_append, tl]; rfl, up_ts tu (by omega), ?_, ?_, ?_⟩⟩
        · rw [upd_same, nats_more]
        · intro b o nb eb
          rw [upd_ne (fun w => by rw [w, na] at eb; cases eb)]
          exact mG b o nb eb
        · obtain ⟨own, mix, ee, r⟩ := sG
          exact ⟨own, mix, by rw [upd_ne (Ne.symm ap)]; exact ee, r⟩
      have els : ∀ (D : Ends) (G : Hp), Sx p H G → Src G p → G a = some (.lst (nats ts)) → (∀ σ G', (∃ (ts : List Nat) (v : Option V), σ = [some (.ref p), some (.int n), some (.ref a), some (.int k0), v] ∧ ts.length = i + 1 ∧ (∀ j t : Nat, ts[j]? = some t → t ≤ j) ∧ G' a = some (.lst (nats ts)) ∧ Sx p H G' ∧ Src G' p) → D.nx σ G') →
          tDrop (tBM K "list" rAppend (tVar 2) (tCons (tVar 4) tNil)) D [some (.ref p), some (.int n), some (.ref a), some (.int k0), some (.int (i : Nat))] G := fun D G mG sG eG fin =>
        ⟨_, rfl, .inl ⟨rfl, _, .inl (.inl eG)⟩, _, rfl, add D G i mG sG eG (Nat.le_refl _) fin⟩
      refine ⟨_, rfl, _, _, rfl, rfl, _, rfl, ?_⟩
      by_cases c1 : (0 : Int) < (i : Nat)
      · rw [decide_eq_true c1]
        refine iteT ?_
        refine ⟨_, rfl, rfl, _, rfl, ?_⟩
        by_cases c2 : V.int ((k0 : Nat) : Int) = V.int 1
        · rw [decide_eq_true c2]
          refine iteT ?_
          refine ⟨_, rfl, p, 3, rfl, src, by decide, by decide, fun k H2 hk m2 s2 fr2 => ⟨_, _, rfl, rfl, _, rfl, ?_⟩⟩
          have e2 := m2 _ _ ap e
          have m2 := m.trans m2
          by_cases c3 : (0 : Int) < (k : Nat)
          · rw [decide_eq_true c3]
            refine iteT ?_
            refine ⟨_, rfl, .inl ⟨rfl, _, .inl (.inl e2)⟩, _, rfl, _, rfl, _, rfl, p, i, rfl, s2, by omega, by omega, fun j H3 hj m3 s3 fr3 => ?_⟩
            have e3 := m3 _ _ ap e2
            have hj2 : ts[j]? = some (ts[j]'(by omega)) := List.getElem?_eq_getElem _
            have hle := tu j _ hj2
            refine ⟨a, nats ts, j, .int ((ts[j]'(by omega) : Nat) : Int), rfl, rfl, .inl (.inl e3), atI_nat (nats_at hj2), ?_⟩
            exact add _ H3 _ (m2.trans m3) s3 e3 (by omega) fun _ _ z => z
          · rw [decide_eq_false c3]
            refine iteF ?_
            exact els _ H2 m2 s2 e2 fun _ _ z => z
        · rw [decide_eq_false c2]
          refine iteF ?_
          refine iteF ?_
          exact els _ H' m src e fun _ _ z => z
      · rw [decide_eq_false c1]
        refine iteF ?_
        refine iteF ?_
        exact els _ H' m src e fun _ _ z => z
    · rintro σ H' ⟨ts, v, rfl, tl, tu, e, m, src⟩
      exact ⟨_, rfl, q a ts H' m src na e tl tu⟩
end
end Dk
set_option Elab.async false
set_option linter.all false
set_option maxRecDepth 100000
set_option maxHeartbeats 4000000
namespace Dk
open PySem PySem.Spec PyProof.Rows L2 Er
/-! ### _law_leads -/
def spLeads : Sp := fun vs H Q _ => ∃ (p t : Addr) (ts : List Nat), vs = [.ref p, .ref t] ∧ Src H p ∧ t ≠ p ∧ H t = some (.lst (nats ts)) ∧ 1 ≤ ts.length ∧ ts.length ≤ 10 ∧ (∀ x ∈ ts, x < ts.length) ∧
  ∀ (q : Addr) (ls : List Nat) H', Sx p H H' → Src H' p → H q = none → H' q = some (.lst (nats ls)) → ls.length = ts.length → (∀ x ∈ ls, x < ts.length) → Q (.ref q) H'
abbrev nLeads : List Str := ["_law_source_here", "_law_twins_here", "_law_many", "_law_kind", "_law_to", "_law_found", "_law_some", "_law_at", "_law_first", "_law_aims", "_law_like", "_law_one"]
theorem scLeads : FnScope nLeads ["_law_source_here", "_law_twins_here"] (defScope (top 42)) := ⟨rfl, rfl, rfl, by decide +kernel, rfl, by decide +kernel, by decide +kernel⟩
theorem nats_of : ∀ {ys : List V} {n : Nat}, (∀ y ∈ ys, ∃ t : Nat, t < n ∧ y = .int (t : Nat)) → ∃ ms : List Nat, ys = nats ms ∧ ∀ x ∈ ms, x < n
  | [], _, _ => ⟨[], rfl, fun x hx => nomatch hx⟩
  | y :: ys, n, h => by
    obtain ⟨t, ht, e⟩ := h y List.mem_cons_self
    obtain ⟨ms, e2, h2⟩ := nats_of (ys := ys) (n := n) fun x hx => h x (List.mem_cons_of_mem _ hx)
    refine ⟨t :: ms, by rw [e, e2]; rfl, fun x hx => ?_⟩
    rcases List.mem_cons.mp hx with z | z
    · rw [z]
      exact ht
    · exact h2 x z
section
variable {P : Program} {w : World} {K : PySem.W.Frag} {mg : Str → Option Value} {base : Heap} {f fD fP fM : Addr} {fd dD dP dM : FuncData}
theorem ok_leads (F : FnP K "_law_leads" (top 42) f fd) (ml : mg "len" = none) (mi : mg "int" = none) (mr : mg "range" = none) (mt : mg "list" = none) (mx : mg "max" = none) (FD : FnP K "_law_draw" (top 36) fD dD) (gD : mg "_law_draw" = some (.ref fD))
    (FP : FnP K "_law_pick" (top 37) fP dP) (gP : mg "_law_pick" = some (.ref fP)) (FM : FnP K "_law_mixed" (top 38) fM dM) (gM : mg "_law_mixed" = some (.ref fM)) : FnOk P w K mg base CX0 3 f fd ["_law_source_here", "_law_twins_here"] spLeads := by
  have GD : FnOk P w K mg base CX0 1 fD dD ["_law_source_here", "_law_span"] spD := ok_d FD mi
  have GP : FnOk P w K mg base CX0 2 fP dP nPick (spPick K) := ok_pick FP ml mi FD gD
  have GM : FnOk P w K mg base CX0 2 fM dM ["_law_source_here", "_law_things"] (spMixed K) := ok_mixed FM ml mi mt FD gD
  refine F.ok (CX := CX0) scLeads (fun vs H Q E h => ?_) (fun cdv A outer s H vs Q E hr h => ?_)
  · obtain ⟨p, t, ts, rfl, _⟩ := h
    rfl
  · have hr1 := hr.mono (show 1 ≤ 2 by decide)
    refine ⟨_, PSs.nox (pss_cons (ps_asg (pe_tup (pa_cons (pe_callB call_len rfl ml boot_len (pa_cons (pv 1) pa_nil)) (pa_cons (by exact (pe_call GD hr1 rfl gD FD.kp (bD FD) .nil pass0 (pa_cons (pv 0) (pa_cons pe_int pa_nil)))) pa_nil))) (pg_tup rfl (pgs_cons (pg_name (i := 2) scLeads.nd rfl (.inl rfl)) (pgs_cons (pg_name (i := 3) scLeads.nd rfl (.inr rfl)) pgs_nil))))
      (pss_cons (ps_par (i := 4) (j := 5) rfl scLeads.nd rfl rfl (by decide) rfl rfl (pa_cons (by exact (pe_call GD hr1 rfl gD FD.kp (bD FD) .nil pass0 (pa_cons (pv 0) (pa_cons (pv 2) pa_nil)))) (pa_cons (pe_lst pa_nil) pa_nil)) (by rfl))
      (pss_cons (ps_set (i := 6) scLeads.nd rfl (.inl rfl) (by exact (pe_call GM hr rfl gM FM.kp (bM FM) .nil pass0 (pa_cons (pv 0) (pa_cons (pe_listRg rfl rfl mt (prg_1 rfl mr (pv 2))) pa_nil)))))
      (pss_cons (ps_for PassesOwn.never rfl (pi_range1 rfl mr (pa_cons (pv 2) pa_nil)) (pg_name (i := 7) scLeads.nd rfl (.inl rfl))
        (pss_cons (ps_set (i := 8) scLeads.nd rfl (.inl rfl) (pe_ix ix_list (pv 1) (pv 7) (fun _ _ => rfl)))
        (pss_cons (ps_set (i := 9) scLeads.nd rfl (.inr rfl) (pe_lst (pa_cons (pv 4) (pa_cons (pe_ix ix_list (pv 6) (pv 8) (fun _ _ => rfl)) (pa_cons (pe_callB (call_max2 rfl) rfl mx PyProof.Rows.boot_max (pa_cons (pv 8) (pa_cons (pv 4) pa_nil)))
          (pa_cons (pe_op op_mod (pe_op op_add (pv 8) pe_int) (pv 2)) (pa_cons (pe_ix ix_list (pv 6) (pe_op op_mod (pe_i (pe_op op_add (pe_op op_mul (pe_ix ix_list (pv 6) (pv 8) (fun _ _ => rfl)) pe_int) (pv 4)) mi) (pv 2)) (fun _ _ => rfl)) (pa_cons (pv 8) pa_nil))))))))
        (pss_cons (by exact (ps_setLc (i := 10) (own := [("_law_one", 11)]) (g := gName 11) (tt := tTest (tOp rEq (tOp (rIxL K) (tVar 1) (tVar 11)) (tOp (rIxL K) (tVar 1) (tOp (rIxL K) (tVar 9) (tVar 3))))) (te := tVar 11) (by rfl) scLeads.nd rfl rfl (sw_true rfl rfl rfl (by decide +kernel)) (pi_range1 rfl mr (pa_cons (pv 2) pa_nil))
          (blkOk_by (N := nLeads) (sc := defScope (top 42)) (by decide +kernel)) (fun _ _ _ _ _ => pg_name (i := 11) scLeads.nd rfl (Or.inl rfl)) (fun _ _ _ _ _ => pts_one (by exact (pt_cmpR op_eq (by exact (pe_ix ix_list (pv 1) (pv 11) (fun _ _ => rfl))) (by exact (pe_ix ix_list (pv 1) (by exact (pe_ix ix_list (pv 9) (pv 3) (fun _ _ => rfl))) (fun _ _ => rfl))) (nomark _)))) (fun _ _ _ _ _ => by exact (pv 11))))
        (pss_one (ps_expr (pe_bm PySem.F.plainAttrs_list PySem.F.slot_list_append PySem.F.type_list_append mt_append (pv 5) (pa_cons (by exact (pe_call GP hr rfl gP FP.kp (bP FP) .nil pass0 (pa_cons (pv 0) (pa_cons (pv 10) pa_nil)))) pa_nil))))))))
      (pss_one (ps_ret (pv 5))))))), ?_⟩
    obtain ⟨p, t, ts, rfl, hs, tp, ht, n0, n1, tl, q⟩ := h
    have sz : ∀ n : Nat, n ≤ 1000 → n ≤ sizeLine := fun n z => by
      rw [sizeLine_eq]
      omega
    refine ⟨_, rfl, _, _, rfl, .inl ⟨_, .inl (.inl ht), rfl⟩, _, rfl, p, 6, rfl, hs, by decide, by decide, fun kd H1 hkd m1 s1 fr1 => ⟨sz _ (by show (2 : Nat) ≤ 1000; decide), fun u nu => ⟨u, _, rfl, .inl (.inl upd_same), rfl, _, _, rfl, _, _, rfl, rfl, ?_⟩⟩⟩
    rw [nats_len]
    have m1 : Sx p H (upd H1 u (.tup [.int ((ts.length : Nat) : Int), .int ((kd : Nat) : Int)])) := m1.trans (Sx.of (Sm.new nu))
    have s1 := s1.new (o := .tup [.int ((ts.length : Nat) : Int), .int ((kd : Nat) : Int)]) nu
    generalize (upd H1 u (.tup [.int ((ts.length : Nat) : Int), .int ((kd : Nat) : Int)])) = G1 at m1 s1 ⊢
    clear fr1 nu
    refine ⟨_, rfl, _, rfl, p, ts.length, rfl, s1, n0, by omega, fun to H2 hto m2 s2 fr2 => ⟨sz _ (by decide), fun fo nfo => ⟨_, _, rfl, ?_⟩⟩⟩
    have m2 := m1.trans m2
    have fp : fo ≠ p := s2.ne nfo
    have fH : H fo = none := none_back m2 s2 nfo
    have m3 : Sx p H (upd H2 fo (.lst [])) := m2.trans (Sx.of (Sm.new nfo))
    have s3 := s2.new (o := .lst []) nfo
    have e3 : upd H2 fo (.lst []) fo = some (.lst (nats [])) := upd_same
    generalize (upd H2 fo (.lst [])) = G3 at m3 s3 e3 ⊢
    refine ⟨_, rfl, _, rfl, (ts.length : Nat), rfl, RgOk.of_le (by omega) (by omega) (by omega) (by omega), fun r nr => ⟨p, r, rgV 0 ((ts.length : Nat) : Int), rfl, s3.new nr, .inl (.inl upd_same), ?_, ?_, fun sm ys H4 m4 s4 nsm e4 pm => ?_⟩⟩
    · rw [rgV_length]
      omega
    · intro x hx
      obtain ⟨j, _, rfl⟩ := List.mem_map.mp hx
      exact ⟨_, .int _⟩
    have ylen : ys.length = ts.length := by
      rw [pm.length_eq, rgV_length]
      omega
    obtain ⟨ms, rfl, hms⟩ := nats_of (ys := ys) (n := ts.length) fun y hy => by
      obtain ⟨j, hj, e⟩ := List.mem_map.mp (pm.subset hy)
      have hj2 := List.mem_range.mp hj
      exact ⟨j, by omega, by rw [← e, Int.zero_add]⟩
    rw [nats_len] at ylen
    have m5 : Sx p (upd G3 r (.lst (rgV 0 ((ts.length : Nat) : Int)))) H4 := m4
    have m4 : Sx p H H4 := m3.trans ((Sx.of (Sm.new nr)).trans m4)
    have e5 : H4 fo = some (.lst (nats [])) := m5 _ _ fp (Sm.new nr _ _ e3)
    have smp : sm ≠ p := (s3.new nr).ne nsm
    have smf : sm ≠ fo := fun z => by
      have y := Sm.new (o := .lst (rgV 0 ((ts.length : Nat) : Int))) nr _ _ e3
      rw [← z, nsm] at y
      cases y
    clear m5 nsm
    refine ⟨_, rfl, _, rfl, by omega, by omega, ?_⟩
    have en : (((ts.length : Nat) : Int)).toNat = ts.length := by omega
    rw [en]
    refine for_range (lo := 0) (n := ts.length) (fun i σ H' => ∃ (ls : List Nat) (v7 v8 v9 v10 : Option V), σ = [some (.ref p), some (.ref t), some (.int (ts.length : Nat)), some (.int kd), some (.int to), some (.ref fo), some (.ref sm), v7, v8, v9, v10, none] ∧ ls.length = i ∧ (∀ x ∈ ls, x < ts.length) ∧
      H' fo = some (.lst (nats ls)) ∧ H' sm = some (.lst (nats ms)) ∧ Sx p H H' ∧ Src H' p) ?_ ?_ ?_
    · exact ⟨[], none, none, none, none, rfl, rfl, (fun x hx => nomatch hx), e5, e4, m4, s4⟩
    · rintro i σ H' hi ⟨ls, v7, v8, v9, v10, rfl, ll, lb, e, es, m, src⟩
      have ez : (0 : Int) + ((i : Nat) : Int) = i := Int.zero_add _
      rw [ez]
      have eT := m _ _ tp ht
      have ST : SqL K H' t (nats ts) := .inl (.inl eT)
      have SS : SqL K H' sm (nats ms) := .inl (.inl es)
      have ti : ts[i]? = some (ts[i]'(by omega)) := List.getElem?_eq_getElem _
      have fl : ts[i]'(by omega) < ts.length := tl _ (List.getElem_mem _)
      refine ⟨_, rfl, _, rfl, t, nats ts, i, .int ((ts[i]'(by omega) : Nat) : Int), rfl, rfl, ST, atI_nat (nats_at ti), ?_⟩
      generalize (ts[i]'(by omega)) = fi at fl
      have mf : ms[fi]? = some (ms[fi]'(by omega)) := List.getElem?_eq_getElem _
      have mb : ms[fi]'(by omega) < ts.length := hms _ (List.getElem_mem _)
      refine ⟨_, rfl, _, rfl, _, rfl, sm, nats ms, fi, .int ((ms[fi]'(by omega) : Nat) : Int), rfl, rfl, SS, atI_nat (nats_at mf), _, rfl, _, rfl, _, _, rfl, _, rfl, _, _, rfl, rfl, _, rfl, _, _, rfl, rfl, by show (0 : Int) < (ts.length : Nat); omega, ?_⟩
      refine ⟨_, rfl, _, rfl, _, rfl, sm, nats ms, fi, .int ((ms[fi]'(by omega) : Nat) : Int), rfl, rfl, SS, atI_nat (nats_at mf), _, _, rfl, rfl, .inl ⟨by omega, by omega⟩, _, rfl, _, _, rfl, rfl, .inl ⟨_, rfl, _, rfl, _, _, rfl, rfl, by show (0 : Int) < (ts.length : Nat); omega, ?_⟩⟩
      generalize (ms[fi]'(by omega)) = g at mb
      obtain ⟨k1, hk1, ek1⟩ := modN (x := ((g : Nat) : Int) * 3 + ((to : Nat) : Int)) (n := ts.length) (by omega)
      obtain ⟨k2, hk2, ek2⟩ := modN (x := ((fi : Nat) : Int) + 1) (n := ts.length) (by omega)
      have mk : ms[k1]? = some (ms[k1]'(by omega)) := List.getElem?_eq_getElem _
      have kb : ms[k1]'(by omega) < ts.length := hms _ (List.getElem_mem _)
      refine ⟨sm, nats ms, _, .int ((ms[k1]'(by omega) : Nat) : Int), rfl, rfl, SS, ?_, _, rfl, sz _ (by show (6 : Nat) ≤ 1000; decide), fun pa npa => ?_⟩
      · show atI (nats ms) ((((g : Nat) : Int) * 3 + ((to : Nat) : Int)) % ((ts.length : Nat) : Int)) = _
        rw [ek1]
        exact atI_nat (nats_at mk)
      generalize (ms[k1]'(by omega)) = h5 at kb
      have six : ([.int ((to : Nat) : Int), .int ((g : Nat) : Int), .int (if ((to : Nat) : Int) > ((fi : Nat) : Int) then ((to : Nat) : Int) else ((fi : Nat) : Int)), .int ((((fi : Nat) : Int) + 1) % ((ts.length : Nat) : Int)), .int ((h5 : Nat) : Int), .int ((fi : Nat) : Int)] : List V) =
          nats [to, g, if to > fi then to else fi, k2, h5, fi] := by
        rw [ek2]
        have z : (if ((to : Nat) : Int) > ((fi : Nat) : Int) then ((to : Nat) : Int) else ((fi : Nat) : Int)) = (((if to > fi then to else fi) : Nat) : Int) := by
          by_cases c : to > fi
          · rw [if_pos c, if_pos (by omega)]
          · rw [if_neg c, if_neg (by omega)]
        rw [z]
        rfl
      have sixb : ∀ x ∈ [to, g, if to > fi then to else fi, k2, h5, fi], x < ts.length := by
        intro x hx
        simp only [List.mem_cons, List.not_mem_nil, or_false] at hx
        rcases hx with rfl | rfl | rfl | rfl | rfl | rfl <;> first | assumption | (split <;> assumption)
      have six6 : [to, g, if to > fi then to else fi, k2, h5, fi].length = 6 := rfl
      have npa' := npa
      have ea : upd H' pa (.lst [.int ((to : Nat) : Int), .int ((g : Nat) : Int), .int (if ((to : Nat) : Int) > ((fi : Nat) : Int) then ((to : Nat) : Int) else ((fi : Nat) : Int)), .int ((((fi : Nat) : Int) + 1) % ((ts.length : Nat) : Int)), .int ((h5 : Nat) : Int), .int ((fi : Nat) : Int)]) pa = some (.lst (nats [to, g, if to > fi then to else fi, k2, h5, fi])) := by
        rw [upd_same, six]
      have sa := Sm.new (o := .lst [.int ((to : Nat) : Int), .int ((g : Nat) : Int), .int (if ((to : Nat) : Int) > ((fi : Nat) : Int) then ((to : Nat) : Int) else ((fi : Nat) : Int)), .int ((((fi : Nat) : Int) + 1) % ((ts.length : Nat) : Int)), .int ((h5 : Nat) : Int), .int ((fi : Nat) : Int)]) npa
      generalize (upd H' pa (.lst [.int ((to : Nat) : Int), .int ((g : Nat) : Int), .int (if ((to : Nat) : Int) > ((fi : Nat) : Int) then ((to : Nat) : Int) else ((fi : Nat) : Int)), .int ((((fi : Nat) : Int) + 1) % ((ts.length : Nat) : Int)), .int ((h5 : Nat) : Int), .int ((fi : Nat) : Int)])) = G at ea sa ⊢
      generalize [to, g, if to > fi then to else fi, k2, h5, fi] = aims at sixb six6 ea
      have eT := sa _ _ eT
      have ST : SqL K G t (nats ts) := .inl (.inl eT)
      have SA : SqL K G pa (nats aims) := .inl (.inl ea)
      have ck : aims[kd]? = some (aims[kd]'(by omega)) := List.getElem?_eq_getElem _
      have cb : aims[kd]'(by omega) < ts.length := sixb _ (List.getElem_mem _)
      generalize (aims[kd]'(by omega)) = c at ck cb
      have tc : ts[c]? = some (ts[c]'(by omega)) := List.getElem?_eq_getElem _
      have e := sa _ _ e
      have es := sa _ _ es
      have m := m.trans (Sx.of sa)
      have src := src.sm sa
      refine ⟨_, rfl, _, rfl, by omega, by omega, fun D nD => ?_⟩
      rw [en]
      refine lc_range (lo := 0) (n := ts.length) (fun j H2 => ∃ acc : List Nat, H2 D = some (.lst (nats acc)) ∧ (∀ x ∈ acc, x < ts.length) ∧ acc.length ≤ j ∧ (c < j → acc ≠ []) ∧ Sm G H2) ⟨[], upd_same, (fun x hx => nomatch hx), by simp, (fun z => by omega), Sm.new nD⟩ ?_ ?_
      · rintro j H2 hj ⟨acc, ed, ab, al, an, sg⟩
        have ez : (0 : Int) + ((j : Nat) : Int) = j := Int.zero_add _
        rw [ez]
        have tj : ts[j]? = some (ts[j]'(by omega)) := List.getElem?_eq_getElem _
        have ST2 : SqL K H2 t (nats ts) := .inl (.inl (sg _ _ eT))
        have SA2 : SqL K H2 pa (nats aims) := .inl (.inl (sg _ _ ea))
        refine ⟨rfl, _, rfl, _, rfl, t, nats ts, j, .int ((ts[j]'(by omega) : Nat) : Int), rfl, rfl, ST2, atI_nat (nats_at tj), _, rfl, _, rfl, _, rfl, pa, nats aims, kd, .int ((c : Nat) : Int), rfl, rfl, SA2, atI_nat (nats_at ck), t, nats ts, c, .int ((ts[c]'(by omega) : Nat) : Int), rfl, rfl, ST2, atI_nat (nats_at tc), rfl, _, rfl, ?_⟩
        by_cases eq : V.int ((ts[j]'(by omega) : Nat) : Int) = V.int ((ts[c]'(by omega) : Nat) : Int)
        · rw [decide_eq_true eq]
          refine iteT ?_
          refine ⟨_, rfl, _, ed, by rw [nats_len, sizeLine_eq]; omega, acc ++ [j], ?_, ?_, ?_, ?_, ?_⟩
          · rw [upd_same, nats_more]
          · intro x hx
            rcases List.mem_append.mp hx with z | z
            · exact ab x z
            · have z2 : x = j := by simpa using z
              omega
          · rw [List.length_append]
            show acc.length + 1 ≤ j + 1
            omega
          · intro _
            simp
          · intro b o eb
            rw [upd_ne (ne_of_none eb nD)]
            exact sg _ _ eb
        · rw [decide_eq_false eq]
          refine iteF ?_
          refine ⟨acc, ed, ab, by omega, fun z => an ?_, sg⟩
          by_cases cj : c = j
          · subst cj
            exact absurd rfl eq
          · omega
      · rintro H2 ⟨acc, ed, ab, al, an, sg⟩
        have ne : acc ≠ [] := an cb
        have dp : D ≠ p := src.ne nD
        have e := sg _ _ e
        have es := sg _ _ es
        have m := m.trans (Sx.of sg)
        have src := src.sm sg
        refine ⟨_, rfl, .inl ⟨rfl, _, .inl (.inl e)⟩, _, rfl, _, rfl, p, .ref D, rfl, src, .inl ⟨D, nats acc, rfl, dp, .inl (.inl ed), by rw [nats_len]; exact List.length_pos_iff.mpr ne, by rw [nats_len]; omega, fun k v H3 hv m3 s3 fr3 => ?_⟩⟩
        have e3 := m3 _ _ fp e
        have es3 := m3 _ _ smp es
        have m3 := m.trans m3
        obtain ⟨x, hx, rfl⟩ : ∃ x : Nat, x < ts.length ∧ v = .int (x : Nat) := by
          have z := List.mem_of_getElem? hv
          obtain ⟨x, hx, ex⟩ := List.mem_map.mp z
          exact ⟨x, ab x hx, ex.symm⟩
        refine ⟨fo, nats ls, .int (x : Nat), rfl, rfl, e3, by rw [nats_len, sizeLine_eq]; omega, ls ++ [x], _, _, _, _, rfl, ?_, ?_, ?_, ?_, ?_, ?_⟩
        · rw [List.length_append, ll]
          rfl
        · intro z hz
          rcases List.mem_append.mp hz with y | y
          · exact lb z y
          · have y2 : z = x := by simpa using y
            omega
        · rw [upd_same, nats_more]
        · rw [upd_ne smf]
          exact es3
        · intro b o nb eb
          rw [upd_ne (fun w => by rw [w, fH] at eb; cases eb)]
          exact m3 b o nb eb
        · obtain ⟨own, mix, ee, r⟩ := s3
          exact ⟨own, mix, by rw [upd_ne (Ne.symm fp)]; exact ee, r⟩
    · rintro σ H' ⟨ls, v7, v8, v9, v10, rfl, ll, lb, e, es, m, src⟩
      exact ⟨_, rfl, q fo ls H' m src fH e ll lb⟩
end
end Dk
set_option Elab.async false
set_option linter.all false
set_option maxRecDepth 100000
set_option maxHeartbeats 4000000
namespace Dk
open PySem PySem.Spec PyProof.Rows L2 Er
/-! ### dicts of texts -/
/-- the pairs of a dict with the keys ws -/
def dkv (ws : List Str) (vs : List V) : List (Key × V) := (ws.map (Sum.inr : Str → Key)).zip vs
theorem put_new {acc : List (Key × V)} {k : Key} {v : V} (h : k ∉ acc.map (·.1)) : putK acc k v = acc ++ [(k, v)] := by
  unfold putK
  rw [if_neg]
  intro z
  obtain ⟨q, hq, e⟩ := List.any_eq_true.mp z
  exact h (List.mem_map.mpr ⟨q, hq, of_decide_eq_true e⟩)
theorem merge_new : ∀ (more acc : List (Key × V)), ((acc ++ more).map (·.1)).Nodup → mergeK acc more = acc ++ more
  | [], acc, _ => by
    rw [List.append_nil]
    rfl
  | q :: more, acc, h => by
    have h2 : q.1 ∉ acc.map (·.1) := by
      rw [List.map_append, List.map_cons] at h
      intro z
      exact (List.nodup_append.mp h).2.2 q.1 z q.1 List.mem_cons_self rfl
    show mergeK (putK acc q.1 q.2) more = acc ++ q :: more
    rw [put_new h2, merge_new more (acc ++ [(q.1, q.2)]) (by rw [List.append_assoc]; exact h), List.append_assoc]
    rfl
theorem dkv_keys : ∀ {ws : List Str} {vs : List V}, ws.length = vs.length → (dkv ws vs).map (·.1) = ws.map Sum.inr
  | [], _, _ => rfl
  | w :: ws, [], h => by simp at h
  | w :: ws, v :: vs, h => by
    have ih := dkv_keys (ws := ws) (vs := vs) (by simpa using h)
    show Sum.inr w :: (dkv ws vs).map (·.1) = _
    rw [ih]
    rfl
theorem dkv_merge {ws : List Str} {vs : List V} (h : ws.length = vs.length) (nd : ws.Nodup) : mergeK [] (dkv ws vs) = dkv ws vs := by
  refine merge_new _ [] ?_
  rw [List.nil_append, dkv_keys h]
  exact List.Pairwise.map _ (fun a b n z => n (Sum.inr.inj z)) nd
theorem paired_of {α β : Type} {F : α → β → Prop} : ∀ {ps : List α} {qs : List β}, ps.length = qs.length → (∀ (j : Nat) (p : α) (q : β), ps[j]? = some p → qs[j]? = some q → F p q) → Paired F ps qs
  | [], [], _, _ => .nil
  | [], _ :: _, h, _ => by simp at h
  | _ :: _, [], h, _ => by simp at h
  | p :: ps, q :: qs, h, f => .cons (f 0 p q rfl rfl) (paired_of (by simpa using h) fun j a b e1 e2 => f (j + 1) a b (by simpa using e1) (by simpa using e2))
/-- [(e1, e2) for at in range(n)] -/
theorem lc_pairs {n : Nat} {fk fv : Nat → V} {t1 t2 : TE} {σ : L2.St} {i : Nat} {H1 : Hp} {Q : Addr → Hp → Prop} (hn : n ≤ 1000) (w1 : ∀ v, wipe ((wipe σ [i]).set i (some v)) [i] = wipe σ [i])
    (ev : ∀ (j : Nat) (G : Hp) (Q : List V → Hp → Prop), j < n → Sm H1 G → Q [fk j, fv j] G → (tCons t1 (tCons t2 tNil)) ((wipe σ [i]).set i (some (.int ((j : Nat) : Int)))) G Q)
    (q : ∀ (D : Addr) (ps : List Addr) (H' : Hp), Sm H1 H' → H1 D = none → H' D = some (.lst (ps.map V.ref)) → ps.length = n → (∀ (k : Nat) (p : Addr), ps[k]? = some p → H' p = some (.tup [fk k, fv k])) → Q D H') :
    ∀ D, H1 D = none → ∃ W : Nat → Nat → Hp → Prop, (∃ m, W 0 m (upd H1 D (.lst []))) ∧ ∀ i₁ m H, W i₁ m H →
      ((Itr 0 n).stop i₁ H ∧ Q D H) ∨ ((Itr 0 n).go i₁ H ∧ ∃ Nx : Hp → Prop, (∀ H', Nx H' → ∃ m', m' < m ∧ W (i₁ + 1) m' H') ∧ ∀ x H', (Itr 0 n).yld i₁ H x H' → gName i x (wipe σ [i]) H' fun σ2 H2 => wipe σ2 [i] = wipe σ [i] ∧ tYes σ2 H2 fun b H3 =>
        if b = true then (tTup (tCons t1 (tCons t2 tNil))) σ2 H3 fun y H4 => ∃ acc, H4 D = some (.lst acc) ∧ acc.length < sizeLine ∧ Nx (upd H4 D (.lst (acc ++ [y]))) else Nx H3) := by
  intro D hD
  refine lc_range (lo := 0) (n := n) (g := gName i) (tt := tYes) (te := tTup (tCons t1 (tCons t2 tNil))) (vs := [i]) (Qd := fun H => Q D H)
    (fun j H2 => ∃ ps : List Addr, H2 D = some (.lst (ps.map V.ref)) ∧ ps.length = j ∧ (∀ (k : Nat) (p : Addr), ps[k]? = some p → H2 p = some (.tup [fk k, fv k])) ∧ Sm H1 H2) ⟨[], upd_same, rfl, fun k p e => by simp at e, Sm.new hD⟩ ?_ ?_
  · rintro j G hj ⟨ps, ed, pl, pt, sg⟩
    have ez : (0 : Int) + ((j : Nat) : Int) = j := Int.zero_add _
    rw [ez]
    refine ⟨w1 _, ?_⟩
    unfold tYes
    dsimp only
    rw [if_pos rfl]
    refine ev j G _ hj sg ⟨by show 2 ≤ sizeLine; rw [sizeLine_eq]; decide, fun p np => ?_⟩
    have dp : D ≠ p := ne_of_none ed np
    refine ⟨ps.map V.ref, by rw [upd_ne dp]; exact ed, by rw [List.length_map, sizeLine_eq]; omega, ps ++ [p], ?_, by rw [List.length_append, pl]; rfl, ?_, ?_⟩
    · rw [upd_same, List.map_append]
      rfl
    · intro k r er
      by_cases c : k < ps.length
      · rw [List.getElem?_append_left c] at er
        have z := pt k r er
        have rD : r ≠ D := fun w => by
          rw [w, ed] at z
          cases z
        rw [upd_ne rD, upd_ne (ne_of_none z np)]
        exact z
      · rw [List.getElem?_append_right (by omega)] at er
        have z : k - ps.length = 0 := by
          by_cases z : k - ps.length = 0
          · exact z
          · rw [List.getElem?_eq_none (by simp; omega)] at er
            cases er
        rw [z] at er
        have e2 : p = r := by simpa using er
        have ek : k = j := by omega
        subst e2 ek
        rw [upd_ne (Ne.symm dp), upd_same]
    · intro b o eb
      rw [upd_ne (ne_of_none eb hD)]
      exact Sm.new np _ _ (sg _ _ eb)
  · rintro G ⟨ps, ed, pl, pt, sg⟩
    exact q D ps G sg hD ed pl pt
/-! ### _law_sights -/
def spSights : Sp := fun vs H Q _ => ∃ (p : Addr) (n : Nat), vs = [.ref p, .int n] ∧ Src H p ∧ 1 ≤ n ∧ n ≤ 10 ∧
  ∀ (q : Addr) (ws : List Str) H', Sx p H H' → Src H' p → H q = none → H' q = some (.lst (ws.map V.str)) → ws.length = n → (∀ z ∈ ws, IsWord z) → Q (.ref q) H'
abbrev nSights : List Str := ["_law_source_here", "_law_many", "_law_kind", "_law_some", "_law_at", "_law_one"]
theorem scSights : FnScope nSights ["_law_source_here", "_law_many"] (defScope (top 43)) := ⟨rfl, rfl, rfl, by decide +kernel, rfl, by decide +kernel, by decide +kernel⟩
/-- int(x) of a number, a bool -/
def rInt1 : List V → Hp → VK → Prop := fun xs H Q => (∃ i, xs = [.int i] ∧ Q (.int i) H) ∨ ∃ k, xs = [.bl k] ∧ Q (.int (if k then 1 else 0)) H
section
variable {P : Program} {w : World} {K : PySem.W.Frag} {mg : Str → Option Value} {base : Heap} {f fD fP fM fW fN : Addr} {fd dD dP dM dW dN : FuncData}
theorem bN (F : FnP K "_law_names" (top 40) fN dN) : Binds K dN ["_law_source_here", "_law_many"] [] := F.bindsN fun _ _ _ _ _ _ us hl => match us, hl with
  | [_, _], _ => rfl
theorem ok_sights (F : FnP K "_law_sights" (top 43) f fd) (ml : mg "len" = none) (mi : mg "int" = none) (mr : mg "range" = none) (GD : FnOk P w K mg base CX0 1 fD dD ["_law_source_here", "_law_span"] spD) (FD : FnP K "_law_draw" (top 36) fD dD) (gD : mg "_law_draw" = some (.ref fD))
    (GP : FnOk P w K mg base CX0 2 fP dP nPick (spPick K)) (FP : FnP K "_law_pick" (top 37) fP dP) (gP : mg "_law_pick" = some (.ref fP)) (GN : FnOk P w K mg base CX0 4 fN dN ["_law_source_here", "_law_many"] spNames) (FN : FnP K "_law_names" (top 40) fN dN) (gN : mg "_law_names" = some (.ref fN)) :
    FnOk P w K mg base CX0 5 f fd ["_law_source_here", "_law_many"] spSights := by
  refine F.ok (CX := CX0) scSights (fun vs H Q E h => ?_) (fun cdv A outer s H vs Q E hr h => ?_)
  · obtain ⟨p, n, rfl, _⟩ := h
    rfl
  · have hr1 := hr.mono (show 1 ≤ 4 by decide)
    have hr2 := hr.mono (show 2 ≤ 4 by decide)
    refine ⟨_, PSs.nox (pss_cons (ps_asg (pe_tup (pa_cons (by exact (pe_call GD hr1 rfl gD FD.kp (bD FD) .nil pass0 (pa_cons (pv 0) (pa_cons pe_int pa_nil)))) (pa_cons (by exact (pe_call GN hr rfl gN FN.kp (bN FN) .nil pass0 (pa_cons (pv 0) (pa_cons pe_int pa_nil))))
        (pa_cons (by exact (pe_call GD hr1 rfl gD FD.kp (bD FD) .nil pass0 (pa_cons (pv 0) (pa_cons (pv 1) pa_nil)))) pa_nil)))) (pg_tup rfl (pgs_cons (pg_name (i := 2) scSights.nd rfl (.inr rfl)) (pgs_cons (pg_name (i := 3) scSights.nd rfl (.inr rfl)) (pgs_cons (pg_name (i := 4) scSights.nd rfl (.inr rfl)) pgs_nil)))))
      (pss_cons (ps_if (pt_cmpR op_eq (pv 2) pe_int (nomark _)) (pss_one (ps_ret (by exact (pe_call GN hr rfl gN FN.kp (bN FN) .nil pass0 (pa_cons (pv 0) (pa_cons (pv 1) pa_nil)))))) pss_nil)
      (pss_cons (ps_if (pt_cmpR op_lt (pv 2) pe_int (nomark _)) (pss_one (ps_ret (by exact (pe_lc (own := [("_law_one", 5)]) (g := gName 5) (tt := tYes) (te := tOp (rIxL K) (tVar 3) (tCB rInt1 (tCons (tOp rEq (tVar 5) (tVar 4)) tNil))) rfl scSights.nd (pi_range1 rfl mr (pa_cons (pv 1) pa_nil))
          (blkOk_by (N := nSights) (sc := defScope (top 43)) (by decide +kernel)) (fun _ _ _ _ _ => pg_name (i := 5) scSights.nd rfl (Or.inl rfl)) (fun _ _ _ _ _ => pts_nil) (fun _ _ _ _ _ => by exact (pe_ix ix_list (by exact (pv 3)) (by exact (pe_callTy call_int1 rfl mi PyProof.Rows.boot_int (pa_cons (by exact (pe_cmpR op_eq (pv 5) (pv 4) (nomark _))) pa_nil))) (fun _ _ => rfl))))))) pss_nil)
      (pss_one (ps_ret (by exact (pe_lc (own := [("_law_one", 5)]) (g := gName 5) (tt := tYes) (te := tCall (spPick K) [] E0 (tCons (tVar 0) (tCons (tSl (rSlL K) (tVar 3) tNoPart (tPart (tOp (rI0 fun i j => .int (i - j)) (tVar 2) (tC (.int 2))))) tNil))) rfl scSights.nd (pi_range1 rfl mr (pa_cons (pv 1) pa_nil))
          (blkOk_by (N := nSights) (sc := defScope (top 43)) (by decide +kernel)) (fun _ _ _ _ _ => pg_name (i := 5) scSights.nd rfl (Or.inl rfl)) (fun _ _ _ _ _ => pts_nil) (fun _ _ _ _ _ => by exact (pe_call GP hr2 rfl gP FP.kp (bP FP) .nil pass0 (pa_cons (pv 0) (pa_cons (by exact (pe_slice sl_list (pv 3) po_none (po_some (pe_op op_sub (pv 2) pe_int)))) pa_nil))))))))))), ?_⟩
    obtain ⟨p, n, rfl, hs, n0, n1, q⟩ := h
    have sz : ∀ n : Nat, n ≤ 1000 → n ≤ sizeLine := fun n z => by
      rw [sizeLine_eq]
      omega
    refine ⟨_, rfl, p, 6, rfl, hs, by decide, by decide, fun kd H1 hkd m1 s1 fr1 => ⟨_, rfl, p, 4, rfl, s1, by decide, by decide, fun so ws H2 m2 s2 nso e2 wl wn ww => ⟨_, rfl, _, rfl, p, n, rfl, s2, n0, by omega, fun at_ H3 hat m3 s3 fr3 =>
      ⟨sz _ (by show (3 : Nat) ≤ 1000; decide), fun u nu => ⟨u, _, rfl, .inl (.inl upd_same), rfl, _, _, rfl, _, _, rfl, _, _, rfl, rfl, ?_⟩⟩⟩⟩⟩
    have sp : so ≠ p := s1.ne nso
    have m : Sx p H (upd H3 u (.tup [.int ((kd : Nat) : Int), .ref so, .int ((at_ : Nat) : Int)])) := m1.trans (m2.trans (m3.trans (Sx.of (Sm.new nu))))
    have src := s3.new (o := .tup [.int ((kd : Nat) : Int), .ref so, .int ((at_ : Nat) : Int)]) nu
    have e := Sm.new (o := .tup [.int ((kd : Nat) : Int), .ref so, .int ((at_ : Nat) : Int)]) nu _ _ (m3 _ _ sp e2)
    generalize (upd H3 u (.tup [.int ((kd : Nat) : Int), .ref so, .int ((at_ : Nat) : Int)])) = G at m src e ⊢
    refine ⟨_, rfl, rfl, _, rfl, ?_⟩
    by_cases c : V.int ((kd : Nat) : Int) = V.int 0
    · rw [decide_eq_true c]
      refine iteT ?_
      exact ⟨_, rfl, _, rfl, p, n, rfl, src, n0, n1, fun a ws H4 m4 s4 na e4 wl wn ww => q a ws H4 (m.trans m4) s4 (none_back m src na) e4 wl ww⟩
    · rw [decide_eq_false c]
      refine iteF ?_
      have c0 : kd ≠ 0 := fun z => c (by rw [z]; rfl)
      have en : (((n : Nat) : Int)).toNat = n := by omega
      refine ⟨_, rfl, _, _, rfl, rfl, _, rfl, ?_⟩
      by_cases c2 : ((kd : Nat) : Int) < 3
      · rw [decide_eq_true c2]
        refine iteT ?_
        refine ⟨_, rfl, _, rfl, by omega, by omega, fun D nD => ?_⟩
        rw [en]
        refine lc_range (lo := 0) (n := n) (fun j G2 => ∃ acc : List Str, G2 D = some (.lst (acc.map V.str)) ∧ acc.length = j ∧ (∀ z ∈ acc, IsWord z) ∧ Sm G G2) ⟨[], upd_same, rfl, (fun z hz => nomatch hz), Sm.new nD⟩ ?_ ?_
        · rintro j G2 hj ⟨acc, ed, al, aw, sg⟩
          refine ⟨rfl, ?_⟩
          unfold tYes
          dsimp only
          rw [if_pos rfl]
          refine ⟨_, rfl, _, rfl, _, rfl, rfl, .inr ⟨_, rfl, ?_⟩⟩
          have fin : ∀ (k : Nat), k < 4 → rIxL K (.ref so) (.int ((k : Nat) : Int)) G2 fun y H4 => ∃ acc, H4 D = some (.lst acc) ∧ acc.length < sizeLine ∧ ∃ acc2 : List Str, upd H4 D (.lst (acc ++ [y])) D = some (.lst (acc2.map V.str)) ∧ acc2.length = j + 1 ∧ (∀ z ∈ acc2, IsWord z) ∧ Sm G (upd H4 D (.lst (acc ++ [y]))) := fun k hk => by
            have hw : ws[k]? = some (ws[k]'(by omega)) := List.getElem?_eq_getElem _
            refine ⟨so, ws.map V.str, k, .str (ws[k]'(by omega)), rfl, rfl, .inl (.inl (sg _ _ e)), atI_nat (by rw [List.getElem?_map, hw]; rfl), _, ed, by rw [List.length_map, sizeLine_eq]; omega, acc ++ [ws[k]'(by omega)], ?_, by rw [List.length_append, al]; rfl, ?_, ?_⟩
            · rw [upd_same, List.map_append]
              rfl
            · intro z hz
              rcases List.mem_append.mp hz with y | y
              · exact aw z y
              · have y2 : z = ws[k]'(by omega) := by simpa using y
                rw [y2]
                exact ww _ (List.getElem_mem _)
            · intro b o eb
              rw [upd_ne (ne_of_none eb nD)]
              exact sg _ _ eb
          by_cases dd : V.int (0 + ((j : Nat) : Int)) = V.int ((at_ : Nat) : Int)
          · rw [decide_eq_true dd]
            exact fin 1 (by decide)
          · rw [decide_eq_false dd]
            exact fin 0 (by decide)
        · rintro G2 ⟨acc, ed, al, aw, sg⟩
          exact q D acc G2 (m.trans (Sx.of sg)) (src.sm sg) (none_back m src nD) ed al aw
      · rw [decide_eq_false c2]
        refine iteF ?_
        have dp : ∀ {D : Addr}, G D = none → D ≠ p := fun z => src.ne z
        refine ⟨_, rfl, _, rfl, by omega, by omega, fun D nD => ?_⟩
        rw [en]
        refine lc_range (lo := 0) (n := n) (fun j G2 => ∃ acc : List Str, G2 D = some (.lst (acc.map V.str)) ∧ acc.length = j ∧ (∀ z ∈ acc, IsWord z) ∧ Sx p G G2 ∧ Src G2 p) ⟨[], upd_same, rfl, (fun z hz => nomatch hz), Sx.of (Sm.new nD), src.new nD⟩ ?_ ?_
        · rintro j G2 hj ⟨acc, ed, al, aw, sg, sr⟩
          refine ⟨rfl, ?_⟩
          unfold tYes
          dsimp only
          rw [if_pos rfl]
          have e4 := sg _ _ sp e
          refine ⟨_, rfl, _, rfl, _, rfl, _, _, rfl, rfl, _, rfl, so, ws.map V.str, rfl, .inl (.inl e4), fun r nr => ?_⟩
          have ek : ((kd : Nat) : Int) - 2 = ((kd - 2 : Nat) : Int) := by omega
          rw [ek, cut_to _ _ (by rw [List.length_map, wl]; omega), ← List.map_take]
          have ed2 := Sm.new (o := .lst ((ws.take (kd - 2)).map V.str)) nr _ _ ed
          refine ⟨p, .ref r, rfl, sr.new nr, .inl ⟨r, (ws.take (kd - 2)).map V.str, rfl, sr.ne nr, .inl (.inl upd_same), by rw [List.length_map, List.length_take, wl]; omega, by rw [List.length_map, List.length_take, wl]; omega, fun k v H4 hv m4 s4 fr4 => ?_⟩⟩
          obtain ⟨z, hz, rfl⟩ := List.mem_map.mp (List.mem_of_getElem? hv)
          have zw := ww z (List.mem_of_mem_take hz)
          have dpp := dp nD
          refine ⟨_, m4 _ _ dpp ed2, by rw [List.length_map, sizeLine_eq]; omega, acc ++ [z], ?_, by rw [List.length_append, al]; rfl, ?_, ?_, ?_⟩
          · rw [upd_same, List.map_append]
            rfl
          · intro x hx
            rcases List.mem_append.mp hx with y | y
            · exact aw x y
            · have y2 : x = z := by simpa using y
              rw [y2]
              exact zw
          · intro b o nb eb
            rw [upd_ne (ne_of_none eb nD)]
            exact m4 _ _ nb (Sm.new nr _ _ (sg _ _ nb eb))
          · obtain ⟨own, mix, ee, rr⟩ := s4
            exact ⟨own, mix, by rw [upd_ne (Ne.symm dpp)]; exact ee, rr⟩
        · rintro G2 ⟨acc, ed, al, aw, sg, sr⟩
          exact q D acc G2 (m.trans sg) sr (none_back m src nD) ed al aw
end
end Dk
set_option Elab.async false
set_option linter.all false
set_option maxRecDepth 100000
set_option maxHeartbeats 4000000
namespace Dk
open PySem PySem.Spec PyProof.Rows L2 Er
/-! ### a drawn desk -/
theorem pair_dkv {K : PySem.W.Frag} {H : Hp} {ps : List Addr} {ws : List Str} {vs : List V} (e1 : ps.length = ws.length) (e2 : ws.length = vs.length) (h : ∀ (k : Nat) (p : Addr), ps[k]? = some p → H p = some (.tup [.str (ws.getD k ⟨#[]⟩), vs.getD k .non])) :
    Paired (fun p (kv : Key × V) => SqT K H p [kV kv.1, kv.2]) ps (dkv ws vs) :=
  paired_of (by unfold dkv; rw [List.length_zip, List.length_map]; omega) fun j p q ep eq => by
    obtain ⟨a, b⟩ := List.getElem?_zip_eq_some.mp eq
    rw [List.getElem?_map] at a
    cases ew : ws[j]? with
    | none =>
      rw [ew] at a
      cases a
    | some wd =>
      rw [ew] at a
      have a2 : Sum.inr wd = q.1 := Option.some.inj a
      have z := h j p ep
      rw [List.getD_eq_getElem?_getD, List.getD_eq_getElem?_getD, ew, b] at z
      exact .inl (.inl (by rw [z, ← a2]; rfl))
/-- the desk at u: standings, for each deed a dict, sights -/
def DkAt (H : Hp) (u nm dd sg : Addr) (ws ds : List Str) (as : List Addr) (tb : List (List Str)) (ls : List Str) : Prop :=
  H u = some (.tup [.ref nm, .ref dd, .ref sg]) ∧ H nm = some (.lst (ws.map V.str)) ∧ H dd = some (.dK (dkv ds (as.map V.ref))) ∧ H sg = some (.dK (dkv ws (ls.map V.str))) ∧ Paired (fun a vs => H a = some (.dK (dkv ws (vs.map V.str)))) as tb
/-- what such a desk holds -/
structure DkIs (m : Nat) (ws ds : List Str) (tb : List (List Str)) (ls : List Str) : Prop where
  some : 1 ≤ ws.length
  most : ws.length ≤ m
  nd : ws.Nodup
  word : ∀ z ∈ ws, IsWord z
  dsome : 1 ≤ ds.length
  dmost : ds.length ≤ 4
  dnd : ds.Nodup
  dword : ∀ z ∈ ds, IsWord z
  rows : tb.length = ds.length
  row : ∀ vs ∈ tb, vs.length = ws.length ∧ ∀ z ∈ vs, z ∈ ws
  looks : ls.length = ws.length
  look : ∀ z ∈ ls, IsWord z
def spDesk : Sp := fun vs H Q _ => ∃ (p : Addr) (m : Nat), vs = [.ref p, .int m] ∧ Src H p ∧ 1 ≤ m ∧ m ≤ 9 ∧
  ∀ (u nm dd sg : Addr) (ws ds : List Str) (as : List Addr) (tb : List (List Str)) (ls : List Str) H', Sx p H H' → Src H' p → H u = none → nm ≠ p → dd ≠ p → sg ≠ p → (∀ a ∈ as, a ≠ p) → DkAt H' u nm dd sg ws ds as tb ls → DkIs m ws ds tb ls → Q (.ref u) H'
abbrev nDesk : List Str := ["_law_source_here", "_law_most", "_law_many", "_law_deeds", "_law_names_here", "_law_twins_here", "_law_deed", "_law_aims", "_law_looks", "_law_at"]
theorem scDesk : FnScope nDesk ["_law_source_here", "_law_most"] (defScope (top 44)) := ⟨rfl, rfl, rfl, by decide +kernel, rfl, by decide +kernel, by decide +kernel⟩
theorem put_dkv {ds : List Str} {as : List Addr} {d : Str} {a : Addr} (e : as.length = ds.length) (nd : (ds ++ [d]).Nodup) : putK (dkv ds (as.map V.ref)) (.inr d) (.ref a) = dkv (ds ++ [d]) ((as ++ [a]).map V.ref) := by
  rw [put_new]
  · unfold dkv
    rw [List.map_append, List.map_append, List.zip_append (by rw [List.length_map, List.length_map, e])]
    rfl
  · rw [dkv_keys (by rw [List.length_map, e])]
    intro z
    obtain ⟨x, hx, ex⟩ := List.mem_map.mp z
    have ex2 : x = d := Sum.inr.inj ex
    exact (List.nodup_append.mp nd).2.2 x hx d List.mem_cons_self ex2
theorem dkv_len {ds : List Str} {vs : List V} (e : vs.length = ds.length) : (dkv ds vs).length = ds.length := by
  unfold dkv
  rw [List.length_zip, List.length_map]
  omega
theorem pair_more {α β : Type} {F : α → β → Prop} {ps : List α} {qs : List β} {p : α} {q : β} (h : Paired F ps qs) (f : F p q) : Paired F (ps ++ [p]) (qs ++ [q]) := by
  induction h with
  | nil => exact .cons f .nil
  | cons a _ ih => exact .cons a ih
theorem pair_mono {α β : Type} {F G : α → β → Prop} {ps : List α} {qs : List β} (h : Paired F ps qs) (f : ∀ p ∈ ps, ∀ q, F p q → G p q) : Paired G ps qs := by
  induction h with
  | nil => exact .nil
  | cons a _ ih => exact .cons (f _ List.mem_cons_self _ a) (ih fun p hp => f p (List.mem_cons_of_mem _ hp))
/-- the things at some places -/
def tgt (ws : List Str) (ls : List Nat) : List Str := ls.map fun l => ws.getD l ⟨#[]⟩
theorem tgt_len {ws : List Str} {ls : List Nat} : (tgt ws ls).length = ls.length := List.length_map _
theorem tgt_in {ws : List Str} {ls : List Nat} (h : ∀ x ∈ ls, x < ws.length) : ∀ z ∈ tgt ws ls, z ∈ ws := fun z hz => by
  obtain ⟨l, hl, rfl⟩ := List.mem_map.mp hz
  have hl := h l hl
  rw [List.getD_eq_getElem?_getD, List.getElem?_eq_getElem hl]
  exact List.getElem_mem _
theorem gd {xs : List Str} {j : Nat} (h : j < xs.length) : (xs.map V.str)[j]? = some (.str (xs.getD j ⟨#[]⟩)) := by
  rw [List.getElem?_map, List.getD_eq_getElem?_getD, List.getElem?_eq_getElem h]
  rfl
theorem tgt_at {ws : List Str} {ls : List Nat} {j : Nat} (h : j < ls.length) : ((tgt ws ls).map V.str).getD j .non = .str (ws.getD (ls[j]'h) ⟨#[]⟩) := by
  unfold tgt
  rw [List.getD_eq_getElem?_getD, List.getElem?_map, List.getElem?_map, List.getElem?_eq_getElem h]
  rfl
/-- [(xs[at], ys[zs[at]]) for at ..], one entry of it -/
theorem ev_pair {K : PySem.W.Frag} {a b c i : Nat} {xa ya za : Addr} {xs ys : List Str} {zs : List Nat} {σ : L2.St} {G : Hp} {j : Nat} {Q : List V → Hp → Prop}
    (s1 : σ[a]? = some (some (.ref xa))) (s2 : σ[b]? = some (some (.ref ya))) (s3 : σ[c]? = some (some (.ref za))) (s4 : σ[i]? = some (some (.int (j : Nat))))
    (e1 : G xa = some (.lst (xs.map V.str))) (e2 : G ya = some (.lst (ys.map V.str))) (e3 : G za = some (.lst (nats zs))) (h1 : j < xs.length) (h2 : j < zs.length) (h3 : ∀ x ∈ zs, x < ys.length)
    (q : Q [.str (xs.getD j ⟨#[]⟩), ((tgt ys zs).map V.str).getD j .non] G) :
    (tCons (tOp (rIxL K) (tVar a) (tVar i)) (tCons (tOp (rIxL K) (tVar b) (tOp (rIxL K) (tVar c) (tVar i))) tNil)) σ G Q := by
  rw [tgt_at h2] at q
  exact ⟨_, s1, _, s4, xa, xs.map V.str, j, _, rfl, rfl, .inl (.inl e1), atI_nat (gd h1), _, s2, _, s3, _, s4, za, nats zs, j, _, rfl, rfl, .inl (.inl e3), atI_nat (nats_at (List.getElem?_eq_getElem h2)),
    ya, ys.map V.str, _, _, rfl, rfl, .inl (.inl e2), atI_nat (gd (h3 _ (List.getElem_mem _))), q⟩
section
variable {P : Program} {w : World} {K : PySem.W.Frag} {mg : Str → Option Value} {base : Heap} {f fD fN fT fL fS : Addr} {fd dD dN dT dL dS : FuncData}
theorem bT (F : FnP K "_law_twins" (top 41) fT dT) : Binds K dT ["_law_source_here", "_law_many"] [] := F.bindsN fun _ _ _ _ _ _ us hl => match us, hl with
  | [_, _], _ => rfl
theorem bL (F : FnP K "_law_leads" (top 42) fL dL) : Binds K dL ["_law_source_here", "_law_twins_here"] [] := F.bindsN fun _ _ _ _ _ _ us hl => match us, hl with
  | [_, _], _ => rfl
theorem bS (F : FnP K "_law_sights" (top 43) fS dS) : Binds K dS ["_law_source_here", "_law_many"] [] := F.bindsN fun _ _ _ _ _ _ us hl => match us, hl with
  | [_, _], _ => rfl
theorem ok_desk (F : FnP K "_law_desk" (top 44) f fd) (mr : mg "range" = none) (md : mg "dict" = none) (GD : FnOk P w K mg base CX0 1 fD dD ["_law_source_here", "_law_span"] spD) (FD : FnP K "_law_draw" (top 36) fD dD) (gD : mg "_law_draw" = some (.ref fD))
    (GN : FnOk P w K mg base CX0 4 fN dN ["_law_source_here", "_law_many"] spNames) (FN : FnP K "_law_names" (top 40) fN dN) (gN : mg "_law_names" = some (.ref fN))
    (GT : FnOk P w K mg base CX0 2 fT dT ["_law_source_here", "_law_many"] spTwins) (FT : FnP K "_law_twins" (top 41) fT dT) (gT : mg "_law_twins" = some (.ref fT))
    (GL : FnOk P w K mg base CX0 3 fL dL ["_law_source_here", "_law_twins_here"] spLeads) (FL : FnP K "_law_leads" (top 42) fL dL) (gL : mg "_law_leads" = some (.ref fL))
    (GS : FnOk P w K mg base CX0 5 fS dS ["_law_source_here", "_law_many"] spSights) (FS : FnP K "_law_sights" (top 43) fS dS) (gS : mg "_law_sights" = some (.ref fS)) :
    FnOk P w K mg base CX0 6 f fd ["_law_source_here", "_law_most"] spDesk := by
  refine F.ok (CX := CX0) scDesk (fun vs H Q E h => ?_) (fun cdv A outer s H vs Q E hr h => ?_)
  · obtain ⟨p, n, rfl, _⟩ := h
    rfl
  · have hr1 := hr.mono (show 1 ≤ 5 by decide)
    have hr2 := hr.mono (show 2 ≤ 5 by decide)
    have hr3 := hr.mono (show 3 ≤ 5 by decide)
    have hr4 := hr.mono (show 4 ≤ 5 by decide)
    refine ⟨_, PSs.nox (pss_cons (ps_par (i := 2) (j := 3) rfl scDesk.nd rfl rfl (by decide) rfl rfl (pa_cons (by exact (pe_op op_add pe_int (by exact (pe_call GD hr1 rfl gD FD.kp (bD FD) .nil pass0 (pa_cons (pv 0) (pa_cons (pv 1) pa_nil)))))) (pa_cons pe_dnewK pa_nil)) (by rfl))
      (pss_cons (ps_asg (pe_tup (pa_cons (by exact (pe_call GN hr4 rfl gN FN.kp (bN FN) .nil pass0 (pa_cons (pv 0) (pa_cons (pv 2) pa_nil)))) (pa_cons (by exact (pe_call GT hr2 rfl gT FT.kp (bT FT) .nil pass0 (pa_cons (pv 0) (pa_cons (pv 2) pa_nil)))) pa_nil)))
        (pg_tup rfl (pgs_cons (pg_name (i := 4) scDesk.nd rfl (.inr rfl)) (pgs_cons (pg_name (i := 5) scDesk.nd rfl (.inr rfl)) pgs_nil))))
      (pss_cons (ps_for PassesOwn.never rfl (pi_list (by exact (pe_call GN hr4 rfl gN FN.kp (bN FN) .nil pass0 (pa_cons (pv 0) (pa_cons (pe_op op_add pe_int (by exact (pe_call GD hr1 rfl gD FD.kp (bD FD) .nil pass0 (pa_cons (pv 0) (pa_cons pe_int pa_nil))))) pa_nil))))) (pg_name (i := 6) scDesk.nd rfl (.inl rfl))
        (pss_cons (ps_set (i := 7) scDesk.nd rfl (.inr rfl) (by exact (pe_call GL hr3 rfl gL FL.kp (bL FL) .nil pass0 (pa_cons (pv 0) (pa_cons (pv 5) pa_nil)))))
        (pss_one (ps_dput (hu_of hr) (pv 3) (pv 6) (by exact (pe_callTy (call_dictP rfl) rfl md PyProof.Rows.boot_dict (pa_cons (by exact (pe_lc (own := [("_law_at", 9)]) (g := gName 9) (tt := tYes) (te := tTup (tCons (tOp (rIxL K) (tVar 4) (tVar 9)) (tCons (tOp (rIxL K) (tVar 4) (tOp (rIxL K) (tVar 7) (tVar 9))) tNil))) rfl scDesk.nd (pi_range1 rfl mr (pa_cons (pv 2) pa_nil))
          (blkOk_by (N := nDesk) (sc := defScope (top 44)) (by decide +kernel)) (fun _ _ _ _ _ => pg_name (i := 9) scDesk.nd rfl (Or.inl rfl)) (fun _ _ _ _ _ => pts_nil) (fun _ _ _ _ _ => by exact (pe_tup (pa_cons (by exact (pe_ix ix_list (by exact (pv 4)) (by exact (pv 9)) (fun _ _ => rfl))) (pa_cons (by exact (pe_ix ix_list (by exact (pv 4)) (by exact (pe_ix ix_list (by exact (pv 7)) (by exact (pv 9)) (fun _ _ => rfl))) (fun _ _ => rfl))) pa_nil)))))) pa_nil))) (by rfl)))))
      (pss_cons (ps_set (i := 8) scDesk.nd rfl (.inr rfl) (by exact (pe_call GS hr rfl gS FS.kp (bS FS) .nil pass0 (pa_cons (pv 0) (pa_cons (pv 2) pa_nil)))))
      (pss_one (ps_ret (pe_tup (pa_cons (pv 4) (pa_cons (pv 3) (pa_cons (by exact (pe_callTy (call_dictP rfl) rfl md PyProof.Rows.boot_dict (pa_cons (by exact (pe_lc (own := [("_law_at", 9)]) (g := gName 9) (tt := tYes) (te := tTup (tCons (tOp (rIxL K) (tVar 4) (tVar 9)) (tCons (tOp (rIxL K) (tVar 8) (tOp (rIxL K) (tVar 5) (tVar 9))) tNil))) rfl scDesk.nd (pi_range1 rfl mr (pa_cons (pv 2) pa_nil))
          (blkOk_by (N := nDesk) (sc := defScope (top 44)) (by decide +kernel)) (fun _ _ _ _ _ => pg_name (i := 9) scDesk.nd rfl (Or.inl rfl)) (fun _ _ _ _ _ => pts_nil) (fun _ _ _ _ _ => by exact (pe_tup (pa_cons (by exact (pe_ix ix_list (by exact (pv 4)) (by exact (pv 9)) (fun _ _ => rfl))) (pa_cons (by exact (pe_ix ix_list (by exact (pv 8)) (by exact (pe_ix ix_list (by exact (pv 5)) (by exact (pv 9)) (fun _ _ => rfl))) (fun _ _ => rfl))) pa_nil)))))) pa_nil))) pa_nil)))))))))), ?_⟩
    obtain ⟨p, mo, rfl, hs, n0, n1, q⟩ := h
    have sz : ∀ n : Nat, n ≤ 1000 → n ≤ sizeLine := fun n z => by
      rw [sizeLine_eq]
      omega
    refine ⟨_, rfl, _, rfl, p, mo, rfl, hs, by omega, by omega, fun k H1 hk m1 s1 fr1 => ⟨_, _, rfl, rfl, fun dd ndd => ⟨_, _, rfl, ?_⟩⟩⟩
    have ddp : dd ≠ p := s1.ne ndd
    have ddH : H dd = none := none_back m1 s1 ndd
    have m1 : Sx p H (upd H1 dd (.dK [])) := m1.trans (Sx.of (Sm.new ndd))
    have s1 := s1.new (o := .dK []) ndd
    have e1 : upd H1 dd (.dK []) dd = some (.dK []) := upd_same
    generalize (upd H1 dd (.dK [])) = G1 at m1 s1 e1 ⊢
    clear fr1 ndd
    refine ⟨_, rfl, _, rfl, p, 1 + k, rfl, s1, by omega, by omega, fun nm ws H2 m2 s2 nnm e2 wl wnd ww => ⟨_, rfl, _, rfl, p, 1 + k, rfl, s2, by omega, by omega, fun tw ts H3 m3 s3 ntw e3 tl tlt => ⟨sz _ (by show (2 : Nat) ≤ 1000; decide), fun u nu => ⟨u, _, rfl, .inl (.inl upd_same), rfl, _, _, rfl, _, _, rfl, rfl, ?_⟩⟩⟩⟩
    have nmp : nm ≠ p := s1.ne nnm
    have nmd : nm ≠ dd := fun z => by
      rw [z, e1] at nnm
      cases nnm
    have twp : tw ≠ p := s2.ne ntw
    have ed2 := m2 _ _ ddp e1
    have twd : tw ≠ dd := fun z => by
      rw [z, ed2] at ntw
      cases ntw
    have ed3 := Sm.new (o := .tup [.ref nm, .ref tw]) nu _ _ (m3 _ _ ddp ed2)
    have en3 := Sm.new (o := .tup [.ref nm, .ref tw]) nu _ _ (m3 _ _ nmp e2)
    have et3 := Sm.new (o := .tup [.ref nm, .ref tw]) nu _ _ e3
    have m3 : Sx p H (upd H3 u (.tup [.ref nm, .ref tw])) := m1.trans (m2.trans (m3.trans (Sx.of (Sm.new nu))))
    have s3 := s3.new (o := .tup [.ref nm, .ref tw]) nu
    generalize (upd H3 u (.tup [.ref nm, .ref tw])) = G3 at m3 s3 ed3 en3 et3 ⊢
    clear nu ed2 m2 m1 e1 nnm e2 ntw e3
    have tsb : ∀ x ∈ ts, x < ts.length := fun x hx => by
      obtain ⟨j, hj, rfl⟩ := List.mem_iff_getElem.mp hx
      have := tlt j _ (List.getElem?_eq_getElem hj)
      omega
    refine ⟨_, rfl, _, rfl, p, 4, rfl, s3, by decide, by decide, fun dk H4 hdk m4 s4 fr4 => ⟨_, _, rfl, rfl, p, 1 + dk, rfl, s4, by omega, by omega, fun dl ds H5 m5 s5 ndl e5 dlen dnd dw => ⟨dl, rfl, ⟨_, .inl (.inl e5)⟩, ?_⟩⟩⟩
    have dlp : dl ≠ p := s4.ne ndl
    have dld : dl ≠ dd := fun z => by
      rw [z, m4 _ _ ddp ed3] at ndl
      cases ndl
    have ed5 := m5 _ _ ddp (m4 _ _ ddp ed3)
    have en5 := m5 _ _ nmp (m4 _ _ nmp en3)
    have et5 := m5 _ _ twp (m4 _ _ twp et3)
    have m5 := m3.trans (m4.trans m5)
    clear m4 fr4 ndl
    have en : (1 + ((k : Nat) : Int)).toNat = 1 + k := by omega
    refine for_list (K := K) (a := dl) (xs := ds.map V.str) (fun i σ H' => ∃ (as : List Addr) (tb : List (List Str)) (v6 v7 : Option V), σ = [some (.ref p), some (.int mo), some (.int (1 + ((k : Nat) : Int))), some (.ref dd), some (.ref nm), some (.ref tw), v6, v7, none, none] ∧
      as.length = i ∧ tb.length = i ∧ H' dd = some (.dK (dkv (ds.take i) (as.map V.ref))) ∧ Paired (fun a vs => H' a = some (.dK (dkv ws (vs.map V.str)))) as tb ∧ (∀ a ∈ as, a ≠ p ∧ a ≠ dd) ∧ (∀ vs ∈ tb, vs.length = ws.length ∧ ∀ z ∈ vs, z ∈ ws) ∧
      H' nm = some (.lst (ws.map V.str)) ∧ H' tw = some (.lst (nats ts)) ∧ H' dl = some (.lst (ds.map V.str)) ∧ Sx p H H' ∧ Src H' p) ?_ ?_ ?_ ?_
    · exact ⟨[], [], none, none, rfl, rfl, rfl, ed5, .nil, (fun a ha => nomatch ha), (fun a ha => nomatch ha), en5, et5, e5, m5, s5⟩
    · rintro i σ H' _ ⟨as, tb, v6, v7, rfl, al, bl, ed, pr, ap, tp, enm, etw, edl, m, src⟩
      exact .inl (.inl edl)
    · rintro i y σ H' hi ⟨as, tb, v6, v7, rfl, al, bl, ed, pr, ap, tp, enm, etw, edl, m, src⟩
      have il : i < ds.length := by
        have := (List.getElem?_eq_some_iff.mp hi).1
        rwa [List.length_map] at this
      have ey : y = .str (ds[i]'il) := by
        rw [List.getElem?_map, List.getElem?_eq_getElem il] at hi
        exact (Option.some.inj hi).symm
      subst ey
      refine ⟨_, rfl, _, rfl, p, tw, ts, rfl, src, twp, etw, by omega, by omega, tsb, fun am ls H6 m6 s6 nam e6 ll lb => ?_⟩
      have amp : am ≠ p := src.ne nam
      have amd : am ≠ dd := fun z => by
        rw [z, ed] at nam
        cases nam
      have ed6 := m6 _ _ ddp ed
      have en6 := m6 _ _ nmp enm
      have et6 := m6 _ _ twp etw
      have el6 := m6 _ _ dlp edl
      have pr6 : Paired (fun a vs => H6 a = some (.dK (dkv ws (vs.map V.str)))) as tb := pair_mono pr fun a ha vs e => m6 _ _ (ap a ha).1 e
      have m6 := m.trans m6
      clear pr ed enm etw edl m src
      refine ⟨_, rfl, _, rfl, by omega, by omega, ?_⟩
      rw [en]
      refine lc_pairs (n := 1 + k) (fk := fun j => .str (ws.getD j ⟨#[]⟩)) (fv := fun j => ((tgt ws ls).map V.str).getD j .non) (by omega) (fun _ => rfl) (fun j G Q hj sg hQ => ev_pair rfl rfl rfl rfl (sg _ _ en6) (sg _ _ en6) (sg _ _ e6) (by omega) (by omega) (fun x hx => by have := lb x hx; omega) hQ) fun D ps H7 sg nD e7 pl pt => ?_
      refine ⟨D, ps, dkv ws ((tgt ws ls).map V.str), rfl, .inl (.inl e7), pair_dkv (by omega) (by rw [List.length_map, tgt_len]; omega) pt, fun a na => ?_⟩
      rw [dkv_merge (by rw [List.length_map, tgt_len]; omega) wnd]
      have ap7 : a ≠ p := (s6.sm sg).ne na
      have ad7 : a ≠ dd := Ne.symm (ne_of_none (sg _ _ ed6) na)
      have s7 := (Sm.new (o := .dK (dkv ws ((tgt ws ls).map V.str))) na)
      have keep : ∀ b o, H6 b = some o → b ≠ dd → (upd (upd H7 a (.dK (dkv ws ((tgt ws ls).map V.str)))) dd (.dK (dkv (ds.take (i + 1)) ((as ++ [a]).map V.ref)))) b = some o := fun b o e nb => by
        rw [upd_ne nb]
        exact s7 _ _ (sg _ _ e)
      have tk : ds.take (i + 1) = ds.take i ++ [ds[i]'il] := by
        rw [List.take_add_one, List.getElem?_eq_getElem il]
        rfl
      have il2 : (ds.take i).length = i := by
        rw [List.length_take]
        omega
      have pk : putK (dkv (ds.take i) (as.map V.ref)) (.inr (ds[i]'il)) (.ref a) = dkv (ds.take (i + 1)) ((as ++ [a]).map V.ref) := by
        rw [tk]
        exact put_dkv (by omega) (by rw [← tk]; exact dnd.sublist (List.take_sublist _ _))
      refine ⟨_, rfl, _, rfl, dd, _, rfl, DPut.k (k := .inr (ds[i]'il)) (s7 _ _ (sg _ _ ed6)) (by rw [dkv_len (by rw [List.length_map]; omega), sizeLine_eq]; omega), as ++ [a], tb ++ [tgt ws ls], _, _, rfl, by rw [List.length_append, al]; rfl, by rw [List.length_append, bl]; rfl, ?_, ?_, ?_, ?_, ?_, ?_, ?_, ?_, ?_⟩
      · rw [upd_same, pk]
      · rw [pk]
        refine pair_more (pair_mono pr6 fun b hb vs e => keep b _ e (ap b hb).2) ?_
        rw [upd_ne ad7, upd_same]
      · intro b hb
        rcases List.mem_append.mp hb with z | z
        · exact ap b z
        · have z2 : b = a := by simpa using z
          rw [z2]
          exact ⟨ap7, ad7⟩
      · intro vs hv
        rcases List.mem_append.mp hv with z | z
        · exact tp vs z
        · have z2 : vs = tgt ws ls := by simpa using z
          rw [z2]
          exact ⟨by rw [tgt_len]; omega, tgt_in fun x hx => by have := lb x hx; omega⟩
      · rw [pk]
        exact keep _ _ en6 nmd
      · rw [pk]
        exact keep _ _ et6 twd
      · rw [pk]
        exact keep _ _ el6 dld
      · rw [pk]
        intro b o nb eb
        exact keep _ _ (m6 _ _ nb eb) fun z => by
          rw [z, ddH] at eb
          cases eb
      · rw [pk]
        obtain ⟨own, mix, e, r⟩ := s6
        exact ⟨own, mix, keep _ _ e (Ne.symm ddp), r⟩
    · rintro σ H' ⟨as, tb, v6, v7, rfl, al, bl, ed, pr, ap, tp, enm, etw, edl, m, src⟩
      rw [List.length_map] at al bl ed
      rw [List.take_length] at ed
      refine ⟨_, rfl, _, rfl, p, 1 + k, rfl, src, by omega, by omega, fun lk ls H8 m8 s8 nlk e8 ll lw => ?_⟩
      have lkp : lk ≠ p := src.ne nlk
      have ed8 := m8 _ _ ddp ed
      have en8 := m8 _ _ nmp enm
      have et8 := m8 _ _ twp etw
      have pr8 : Paired (fun a vs => H8 a = some (.dK (dkv ws (vs.map V.str)))) as tb := pair_mono pr fun a ha vs e => m8 _ _ (ap a ha).1 e
      have m8 := m.trans m8
      refine ⟨_, rfl, _, rfl, _, rfl, _, rfl, by omega, by omega, ?_⟩
      rw [en]
      refine lc_pairs (n := 1 + k) (fk := fun j => .str (ws.getD j ⟨#[]⟩)) (fv := fun j => ((tgt ls ts).map V.str).getD j .non) (by omega) (fun _ => rfl) (fun j G Q hj sg hQ => ev_pair rfl rfl rfl rfl (sg _ _ en8) (sg _ _ e8) (sg _ _ et8) (by omega) (by omega) (fun x hx => by have := tsb x hx; omega) hQ) fun D ps H9 sg nD e9 pl pt => ?_
      refine ⟨D, ps, dkv ws ((tgt ls ts).map V.str), rfl, .inl (.inl e9), pair_dkv (by omega) (by rw [List.length_map, tgt_len]; omega) pt, fun a na => ?_⟩
      rw [dkv_merge (by rw [List.length_map, tgt_len]; omega) wnd]
      refine ⟨sz _ (by show (3 : Nat) ≤ 1000; decide), fun r nr => ?_⟩
      have s9 := s8.sm sg
      have sm : Sm H8 (upd (upd H9 a (.dK (dkv ws ((tgt ls ts).map V.str)))) r (.tup [.ref nm, .ref dd, .ref a])) := fun b o e => Sm.new nr _ _ (Sm.new na _ _ (sg _ _ e))
      have ap9 : a ≠ p := s9.ne na
      refine q r nm dd a ws ds as tb (tgt ls ts) _ (m8.trans (Sx.of sm)) (s8.sm sm) (none_back (m8.trans (Sx.of (fun b o e => Sm.new na _ _ (sg _ _ e)))) (s9.new na) nr) nmp ddp ap9 (fun a ha => (ap a ha).1) ⟨upd_same, sm _ _ en8, sm _ _ ed8, Sm.new nr _ _ upd_same, pair_mono pr8 fun a _ vs e => sm _ _ e⟩ ?_
      exact ⟨by omega, by omega, wnd, ww, by omega, by omega, dnd, dw, by omega, tp, by rw [tgt_len]; omega, fun z hz => lw z (tgt_in (fun x hx => by have := tsb x hx; omega) z hz)⟩
end
end Dk
set_option Elab.async false
set_option linter.all false
set_option maxRecDepth 100000
set_option maxHeartbeats 4000000
namespace Dk
open PySem PySem.Spec PyProof.Rows L2 Er
/-! ### _law_turned -/
def spTurned : Sp := fun vs H Q _ => ∃ (d : Addr) (kvs : List (Key × V)), vs = [.ref d] ∧ H d = some (.dK kvs) ∧ (kvs.map (·.1)).Nodup ∧ ∀ q H', Sm H H' → H q = none → H' q = some (.dK kvs.reverse) → Q (.ref q) H'
abbrev nTurned : List Str := ["_law_some"]
theorem scTurned : FnScope nTurned ["_law_some"] (defScope (top 45)) := ⟨rfl, rfl, rfl, by decide +kernel, rfl, by decide +kernel, by decide +kernel⟩
theorem pair_rev {α β : Type} {F : α → β → Prop} {ps : List α} {qs : List β} (h : Paired F ps qs) : Paired F ps.reverse qs.reverse := by
  induction h with
  | nil => exact .nil
  | cons a _ ih =>
    rw [List.reverse_cons, List.reverse_cons]
    exact pair_more ih a
section
variable {P : Program} {w : World} {K : PySem.W.Frag} {mg : Str → Option Value} {base : Heap} {f : Addr} {fd : FuncData}
theorem ok_turned (F : FnP K "_law_turned" (top 45) f fd) (mt : mg "list" = none) (md : mg "dict" = none) :
    FnOk P w K mg base CX0 1 f fd ["_law_some"] spTurned := by
  refine F.ok (CX := CX0) scTurned (fun vs H Q E h => ?_) (fun cdv A outer s H vs Q E hr h => ?_)
  · obtain ⟨p, n, rfl, _⟩ := h
    rfl
  · refine ⟨_, PSs.nox (pss_one (ps_ret (by exact (pe_callTy (call_dictP rfl) rfl md PyProof.Rows.boot_dict (pa_cons (pe_revL (LiI.pe_listItems rfl (pv 0) rfl mt PyProof.Rows.boot_list)) pa_nil))))), ?_⟩
    obtain ⟨d, kvs, rfl, e, nd, q⟩ := h
    refine ⟨_, rfl, d, kvs, rfl, e, fun H1 p ts sm np nts pts e1 pr => ⟨p, ts.map V.ref, rfl, .inl (.inl e1), fun r nr => ⟨r, ts.reverse, kvs.reverse, rfl, .inl (.inl (by rw [upd_same, List.map_reverse])), ?_, fun u nu => ?_⟩⟩⟩
    · exact pair_mono (pair_rev pr) fun t _ kv et => .inl (.inl (Sm.new nr _ _ et))
    · have em : mergeK [] kvs.reverse = kvs.reverse := by
        refine merge_new _ [] ?_
        rw [List.nil_append, List.map_reverse]
        exact List.pairwise_reverse.mpr (List.Pairwise.imp (fun h => Ne.symm h) nd)
      rw [em]
      refine q u _ (fun b o eb => Sm.new nu _ _ (Sm.new nr _ _ (sm _ _ eb))) ?_ upd_same
      cases z : H u with
      | none => rfl
      | some o =>
        rw [Sm.new nr _ _ (sm _ _ z)] at nu
        cases nu
end
end Dk
set_option Elab.async false
set_option linter.all false
set_option maxRecDepth 100000
set_option maxHeartbeats 3200000
/-! len(set(xs)), xs a list or tuple of texts -/
namespace DkSet
open PySem PySem.Spec PyProof.Rows
theorem rev_ind {α : Type} {p : List α → Prop} (h0 : p []) (h1 : ∀ l x, p l → p (l ++ [x])) : ∀ l, p l := fun l => by
  have key : ∀ m : List α, p m.reverse := fun m => by
    induction m with
    | nil => exact h0
    | cons x m ih =>
      rw [List.reverse_cons]
      exact h1 _ _ ih
  rw [← List.reverse_reverse l]
  exact key _
/-- the different ones, as they come first -/
def metOf (xs : List Str) : List Str := xs.foldl (fun acc x => if x ∈ acc then acc else acc ++ [x]) []
theorem met_more (xs : List Str) (x : Str) : metOf (xs ++ [x]) = if x ∈ metOf xs then metOf xs else metOf xs ++ [x] := by
  unfold metOf
  rw [List.foldl_append]
  rfl
theorem met_nodup : ∀ xs : List Str, (metOf xs).Nodup := by
  refine rev_ind List.nodup_nil fun l x ih => ?_
  rw [met_more]
  split
  · exact ih
  · rename_i h
    refine List.nodup_append.mpr ⟨ih, by simp, fun a ha b hb e => h ?_⟩
    have e2 : b = x := by simpa using hb
    rw [← e2, ← e]
    exact ha
theorem met_le : ∀ xs : List Str, (metOf xs).length ≤ xs.length := by
  refine rev_ind (Nat.le_refl _) fun l x ih => ?_
  rw [met_more, List.length_append]
  split
  · exact Nat.le_succ_of_le ih
  · rw [List.length_append]
    exact Nat.succ_le_succ ih
theorem met_mem (xs : List Str) (y : Str) : y ∈ metOf xs ↔ y ∈ xs := by
  revert xs
  refine rev_ind (by unfold metOf; simp) fun l x ih => ?_
  rw [met_more, List.mem_append, ← ih]
  split
  · rename_i h
    constructor
    · exact .inl
    · rintro (z | z)
      · exact z
      · have e : y = x := by simpa using z
        rw [e]
        exact h
  · rw [List.mem_append]
/-- as many as there are: all different -/
theorem met_len : ∀ xs : List Str, (metOf xs).length = xs.length ↔ xs.Nodup := by
  refine rev_ind (by unfold metOf; simp) fun l x ih => ?_
  rw [met_more, List.length_append]
  have le := met_le l
  split
  · rename_i h
    constructor
    · intro z
      simp at z
      omega
    · intro z
      exact absurd rfl ((List.nodup_append.mp z).2.2 x ((met_mem l x).mp h) x List.mem_cons_self)
  · rename_i h
    rw [List.length_append]
    constructor
    · intro z
      have z2 : (metOf l).length = l.length := by simpa using z
      refine List.nodup_append.mpr ⟨ih.mp z2, by simp, fun a ha b hb e => h ?_⟩
      have e2 : b = x := by simpa using hb
      rw [← e2, ← e]
      exact (met_mem l a).mpr ha
    · intro z
      rw [ih.mpr (List.nodup_append.mp z).1]
section
variable {prog : Program} {w : World} {A : Around} {R : Result → Shared → Prop} {I : Addr} {fp wr : List Addr} {G : Array GenState → Array GenState → Prop} {n : Nat} {P : Nat → Value → Prop} {St : Nat → Shared → Prop}
abbrev Has (prog : Program) (w : World) (h : Heap) (S : Addr) (ys : List Str) : Prop := h.SetOf (PySem.strKind prog w) S (fun y => decide (y ∈ metOf ys)) (metOf ys).length
theorem Has.at {h h2 : Heap} {S : Addr} {ys : List Str} (x : Has prog w h S ys) (k : ∀ o, h.get? S = some o → h2.get? S = some o) : Has prog w h2 S ys := by
  obtain ⟨o, es, ep, t, ho, r⟩ := x
  exact ⟨o, es, ep, t, k o ho, r⟩
theorem putting (W : WalksS prog w A.in1 I fp wr G n P St) (S : Addr) (out : S ∉ fp) (xs : List Str) (len : xs.length = n) (few : n + 1 < scanBound) (val : ∀ i v, P i v → ∃ t, v = .str (xs.getD i Str.empty) t) :
    ∀ (left i : Nat) (s : Shared), i + left = n → St i s → Has prog w s.heap S (xs.take i) →
      (∀ s2, Moved (S :: wr) G s s2 → Has prog w s2.heap S xs → R (.ok (.ret .none)) s2) →
      codeAny (model prog w) A (.builtin "set.update.loop" ⟨[.ref S, .ref I], []⟩) R s := by
  have out2 : S ∉ wr := fun h => out (W.sub _ h)
  have more : ∀ b ∈ wr, b ∈ S :: wr := fun b => List.mem_cons_of_mem _
  intro left
  induction left with
  | zero =>
    intro i s e st hs fin
    have ei : i = n := e
    rw [ei, ← len, List.take_length] at hs
    rw [ei] at st
    refine codeAny_builtin PyProof.Rows.F.entry_set_update_loop ?_
    rw [Around.under_plainId PyProof.Rows.F.plain_set_update_loop _]
    show wpAny _ A.in1 (pyNext (.ref I) >>= _) _ _ s
    exact wpAny_bind (W.done s _ _ st fun s2 m => wpAny_pure (fin s2 (m.mono more) (hs.at fun o => m.heap S o out2)))
  | succ left ih =>
    intro i s e st hs fin
    have il : i < n := by omega
    refine codeAny_builtin PyProof.Rows.F.entry_set_update_loop ?_
    rw [Around.under_plainId PyProof.Rows.F.plain_set_update_loop _]
    show wpAny _ A.in1 (pyNext (.ref I) >>= _) _ _ s
    refine wpAny_bind (W.item i s _ _ il st fun v s2 hv st2 m => ?_)
    obtain ⟨t, rfl⟩ := val i v hv
    have hs2 : Has prog w s2.heap S (xs.take i) := hs.at fun o => m.heap S o out2
    show wpAny _ A.in1 (holding [Value.str (xs.getD i Str.empty) t] (setAdd S (.str (xs.getD i Str.empty) t)) >>= _) _ _ s2
    refine wpAny_bind (wpAny_holding ?_)
    unfold setAdd
    refine wpAny_holding (wpAny_bind ((PySem.strKind prog w).pyHash (k := xs.getD i Str.empty) (strKind_is _ _ _ _) ?_))
    have few2 : (metOf (xs.take i)).length + 1 < scanBound := by
      have a := met_le (xs.take i)
      rw [List.length_take] at a
      omega
    refine wpAny_setAddHashed_of (knd := PySem.strKind prog w) (s := { s2 with toks := s2.toks + 1 }) (strKind_is _ _ _ _) rfl hs2 few2 fun h2 same got => ?_
    have tk : xs.take (i + 1) = xs.take i ++ [xs.getD i Str.empty] := by
      rw [List.take_add_one, List.getD_eq_getElem?_getD, List.getElem?_eq_getElem (by omega)]
      rfl
    have got2 : Has prog w h2 S (xs.take (i + 1)) := by
      refine SetOf_congr got (fun y => ?_) ?_
      · rw [tk, met_more]
        by_cases c : xs.getD i Str.empty ∈ metOf (xs.take i)
        · rw [if_pos c]
          by_cases d : y = xs.getD i Str.empty
          · rw [d, decide_eq_true c]
            rfl
          · rw [decide_eq_false d, Bool.or_false]
        · rw [if_neg c, Bool.eq_iff_iff]
          simp
      · rw [tk, met_more]
        by_cases c : xs.getD i Str.empty ∈ metOf (xs.take i)
        · rw [if_pos c, if_pos (decide_eq_true c)]
        · rw [if_neg c, if_neg (by simpa using c), List.length_append]
          rfl
    refine wpAny_pure ⟨plainId_quiet PyProof.Rows.F.plain_set_update_loop _, ih (i + 1) _ (by omega) (W.frame _ s2 _ _ st2 (Nat.le_succ _) fun b hb o eb => ?_) got2 fun s3 m3 hs3 => ?_⟩
    · rw [same.2 b fun z => out (z ▸ hb)]
      exact eb
    · refine fin s3 (Moved.trans W.gtrans ((m.mono more).then_heap (Nat.le_succ _) fun b o hb eb => ?_) m3) hs3
      rw [same.2 b fun z => hb (z ▸ List.mem_cons_self)]
      exact eb
end
section
variable {prog : Program} {w : World} {A : Around} {E : Value → Shared → Prop} {s : Shared}
abbrev bare0 (led : Bool) : Obj := { cls := .type "set", dict := none, data := .set #[] 0 (.fresh 0 0 led) }
theorem txt_at : ∀ {us : List Value} {xs : List Str}, StrsAre us xs → ∀ (i : Nat) (v : Value), us[i]? = some v → ∃ t, v = .str (xs.getD i Str.empty) t
  | _, _, .nil, i, v, h => by cases h
  | _, _, .cons n t r, 0, v, h => ⟨t, (Option.some.inj h).symm⟩
  | _, _, .cons n t r, i + 1, v, h => txt_at r i v h
/-- a walk over what stands at l -/
abbrev Wl (T : String) (l : Addr) (items : Array Value) (h : Heap) : Prop := if T = "list" then h.IsList l items else h.IsTuple l items
theorem iter_of {T : String} {l : Addr} {items : Array Value} {Q : Value → Shared → Prop} (hh : A.handled = none) (hT : T = "list" ∨ T = "tuple") (hw : Wl T l items s.heap) (ll : l < s.heap.objs.size)
    (h : ∀ (J : Obj) (St : Nat → Shared → Prop), J.isFreed = false → WalksS prog w A.in1 s.heap.objs.size [s.heap.objs.size, l] [s.heap.objs.size] (fun a b => b = a) items.size (fun i v => items[i]? = some v) St →
      St 0 { s with heap := s.heap.push J } → Q (.ref s.heap.objs.size) { s with heap := s.heap.push J }) : wpAny (model prog w) A (pyIter (.ref l)) Q E s := by
  have ne : l ≠ s.heap.objs.size := Nat.ne_of_lt ll
  have h2 : A.in1.handled = none := by simp [hh]
  rcases hT with rfl | rfl
  · have hw : s.heap.IsList l items := hw
    exact wpAny_pyIter_list hw (h _ _ rfl (Walks.list h2 _ l ne items).toS ⟨⟨_, Heap.get?_push_size _ rfl, rfl, rfl⟩, hw.push _⟩)
  · have hw : s.heap.IsTuple l items := hw
    exact wpAny_pyIter_tuple hw (h _ _ rfl (Walks.tuple h2 _ l ne items).toS ⟨⟨_, Heap.get?_push_size _ rfl, rfl, rfl⟩, hw.push _⟩)
theorem call_txts {T : String} {l : Addr} {items : Array Value} {d : Option Addr} {nl : Nat} {sl : Array (Option Value)} {xs : List Str} {Q : Value → Shared → Prop} (hh : A.handled = none) (hT : T = "list" ∨ T = "tuple")
    (ho : s.heap.get? l = some { cls := .type T, dict := d, data := .seq items nl, slots := sl }) (hi : StrsAre items.toList xs) (few : xs.length + 1 < scanBound)
    (h : ∀ (h2 : Heap) (tk : Nat), Has prog w h2 s.heap.objs.size xs → (∀ b o, s.heap.get? b = some o → h2.get? b = some o) → Q (.ref s.heap.objs.size) { s with heap := h2, toks := tk }) :
    wpAny (model prog w) A (call (.type "set") [.ref l]) Q E s := by
  obtain ⟨c, tl, hmro⟩ := PySem.F.called_set.mro
  have hmade := PySem.F.called_set.made
  have hsub := PySem.F.called_set.sub
  refine wpAny_call (codeAny_of_tree ?_)
  show wpAny _ _ (callAny (.type "set") _) _ _ _
  refine wpAny_pure ⟨Code.quiet_builtin _ (by decide +kernel), codeAny_builtin PySem.F.entry_type_call ?_⟩
  rw [Around.under_plain (weight_type_call_type "set" [.ref l] []) rfl]
  have h1 := PySem.F.called_set.notType
  have h2 := PySem.F.called_set.canCreate
  have hct := PySem.F.typeCall_set_1 (.ref l)
  repeat (any_goals (first | assumption | wp_step))
  refine codeAny_mono (code_set_new_1 (.ref l) (E := E) (Q₁ := fun x s1 => ∃ led : Bool, x = .ref s.heap.objs.size ∧ s1 = { s with heap := s.heap.push (bare0 led) }) fun led => ⟨led, rfl, rfl⟩) fun r s1 hr => ?_
  cases r with
  | error e => exact hr
  | ok fl =>
    cases fl with
    | ret obj =>
      obtain ⟨led, rfl, rfl⟩ := hr
      have hS : (s.heap.push (bare0 led)).get? s.heap.objs.size = some (bare0 led) := Heap.get?_push_size _ rfl
      have hTy : Shared.TypeIs { s with heap := s.heap.push (bare0 led) } (.ref s.heap.objs.size) "set" := ⟨_, hS, rfl⟩
      have hli := PySem.F.called_set.init.lookup
      have hbi := PySem.F.called_set.init.bind (.ref s.heap.objs.size)
      repeat (any_goals (first | assumption | wp_step))
      refine codeAny_mono (codeAny_call_builtin (R := wants (fun r s2 => r = .none ∧ ∃ h2 tk, s2 = { s with heap := h2, toks := tk } ∧ Has prog w h2 s.heap.objs.size xs ∧ (∀ b o, s.heap.get? b = some o → h2.get? b = some o)) E) PySem.F.called_set.init.plain PySem.F.entry_set_init (check_set_init_1 hTy ?_)) fun r2 s2 hr2 => ?_
      · have ho2 : (s.heap.push (bare0 led)).get? l = some { cls := .type T, dict := d, data := .seq items nl, slots := sl } := Heap.get?_push_of_some _ ho
        have f1 : isSubtype (.type T) (.type "set") = pure false := by
          rcases hT with rfl | rfl
          · exact PySem.F.sub_list_set
          · exact PySem.F.sub_tuple_set
        have f2 : isSubtype (.type T) (.type "frozenset") = pure false := by
          rcases hT with rfl | rfl
          · exact PySem.F.sub_list_frozenset
          · exact PySem.F.sub_tuple_frozenset
        have f3 : (Value.type T == Value.type "dict") = false := by
          rcases hT with rfl | rfl <;> decide
        have hw : Wl T l items (s.heap.push (bare0 led)) := by
          rcases hT with rfl | rfl
          · exact ⟨_, ho2, rfl, nl, rfl⟩
          · exact ⟨_, ho2, rfl, nl, rfl⟩
        have ll : l < s.heap.objs.size := Heap.lt_size ho
        have ll2 : l < (s.heap.push (bare0 led)).objs.size := by
          rw [Heap.size_push]
          exact Nat.lt_succ_of_lt ll
        unfold Builtin.«set.__init__» noKeywords Builtin.Frozenset.updateFrom
        generalize hPI : pyIter = PI
        wp_walk
        subst hPI
        have hh3 : A.in1.in1.handled = none := by simp [hh]
        refine iter_of (T := T) (items := items) (by simp [hh]) hT hw ll2 fun J St fr W st0 => ?_
        refine wpAny_bind (wpAny_runValue ?_)
        have len : xs.length = items.size := by rw [← StrsAre.len_eq hi, Array.length_toList]
        refine putting W s.heap.objs.size ?_ xs len (by omega) (fun i v hv => txt_at hi i v (by rw [Array.getElem?_toList]; exact hv)) items.size 0 _ (Nat.zero_add _) st0 ?_ ?_
        · rw [Heap.size_push]
          simp only [List.mem_cons, List.not_mem_nil, or_false, not_or]
          exact ⟨Nat.ne_of_lt (Nat.lt_succ_self _), Nat.ne_of_gt ll⟩
        · exact SetOf_congr ((setObjOf_fresh (knd := PySem.strKind prog w) led).setOf (Heap.get?_push_of_some _ hS) (by unfold scanBound; omega)) (fun _ => rfl) rfl
        · rintro ⟨h3, g3, d3, tk3, os3⟩ m got
          have eg : g3 = s.gens := m.gens
          have ed : d3 = s.drawn := m.drawn
          have eo : os3 = s.os := m.os
          subst eg ed eo
          refine wpAny_pure ?_
          show wpAny _ _ (ret Value.none) _ _ _
          refine wpAny_pure ⟨rfl, h3, tk3, rfl, got, fun b o e => ?_⟩
          have b1 : b < s.heap.objs.size := Heap.lt_size e
          refine m.heap b o ?_ (Heap.get?_push_of_some _ (Heap.get?_push_of_some _ e))
          rw [Heap.size_push]
          simp only [List.mem_cons, List.not_mem_nil, or_false, not_or]
          exact ⟨Nat.ne_of_lt b1, Nat.ne_of_lt (Nat.lt_succ_of_lt b1)⟩
      · cases r2 with
        | error e => exact hr2
        | ok fl2 =>
          cases fl2 with
          | ret r =>
            obtain ⟨rfl, h3, tk, rfl, got, keep⟩ := hr2
            repeat (any_goals (first | assumption | wp_step))
            exact h _ _ got keep
          | _ => exact hr2.elim
    | _ => exact hr.elim
end
section
variable {X : Cx}
open L2
/-- len(set(xs)) of texts: as many as there are exactly if no two are the same -/
def tLenTxt (K : PySem.W.Frag) (ta : TE) : TE := fun σ H Q => ta σ H fun x H1 => ∃ (l : Addr) (xs : List Str), x = V.ref l ∧ (SqL K H1 l (xs.map V.str) ∨ SqT K H1 l (xs.map V.str)) ∧ xs.length ≤ 1000 ∧ ∀ n : Nat, (n = xs.length ↔ xs.Nodup) → n ≤ xs.length → Q (.int n) H1
theorem strs_of : ∀ {xs : List Str} {us : List Value}, Vals (xs.map V.str) us → StrsAre us xs
  | [], _, r => by
    cases r
    exact .nil
  | x :: xs, _, r => by
    cases r with
    | cons a t =>
      obtain ⟨tk, rfl⟩ := a
      exact .cons x tk (strs_of t)
theorem pe_lenTxt {a : Expr} {ta : TE} {p p2 q pos : Pos} (hc : X.calm = true) (hg : Gl X "len") (hm : X.mg "len" = none) (hg2 : Gl X "set") (hm2 : X.mg "set" = none) (ha : PE X a ta)
    (na : starEach [a] X.env = (false, eval a X.env) :: starEach [] X.env := by rfl) : PE X (.Call (.Name "len" p) [.Call (.Name "set" p2) [a] [] q] [] pos) (tLenTxt X.K ta) := by
  refine ⟨fun pins s σ H Q I h => Call_ (ld_blt I hg hm PySem.boot_len ?_)⟩
  refine PyProof.Rows.callWith_builtin1 (PyProof.Rows.args_cons ?_ rfl) rfl rfl
  refine Call_ (ld_blt I hg2 hm2 PyProof.Rows.boot_set ?_)
  refine PyProof.Rows.callWith_type1 (PyProof.Rows.args_cons (thn (ha.run pins s σ H _ I h) fun v s1 ⟨x, H1, I1, r1, l, xs, ex, hq, few, q1⟩ => PyProof.Rows.args_nil ?_) na) na rfl
  subst ex
  cases r1
  have there : ∃ (T : String) (its : List Value) (d : Option Addr) (nl : Nat) (sl : Array (Option Value)), (T = "list" ∨ T = "tuple") ∧ Vals (xs.map V.str) its ∧ s1.heap.get? l = some { cls := .type T, dict := d, data := .seq its.toArray nl, slots := sl } := by
    rcases hq with hq | hq
    · obtain ⟨its, r, pl, _⟩ := I1.list hq
      obtain ⟨⟨oc, od, ox, os⟩, ho, hc, nl, hd⟩ := pl.isList
      cases hc
      cases hd
      exact ⟨"list", its, od, nl, os, .inl rfl, r, ho⟩
    · obtain ⟨its, r, pl, _⟩ := I1.tuple hq
      obtain ⟨⟨oc, od, ox, os⟩, ho, hc, nl, hd⟩ := pl
      cases hc
      cases hd
      exact ⟨"tuple", its, od, nl, os, .inr rfl, r, ho⟩
  obtain ⟨T, its, d, nl, sl, hT, r, ho⟩ := there
  refine call_txts (xs := xs) (by simpa using I1.ok.hd hc) hT ho (strs_of r) (by unfold scanBound; omega) fun h2 tk got keep => ?_
  refine PyProof.Rows.args_nil ?_
  obtain ⟨o, es, ep, t, ho, hex, hd, _, _, _, hf, hn⟩ := got
  have I2 : L2.Inv X pins σ H1 { s1 with heap := h2, toks := tk } := I1.kept fun b o e => keep b o e
  have le := met_le xs
  refine call_len_set ho hex hd hf (by rw [hn] <;> omega) ⟨.int ((metOf xs).length : Nat), H1, I2.tok _, ⟨_, by rw [hn]⟩, q1 _ (met_len xs) le⟩
end
end DkSet
set_option Elab.async false
set_option linter.all false
set_option maxRecDepth 100000
set_option maxHeartbeats 4000000
namespace Dk
open PySem PySem.Spec PyProof.Rows L2 Er
/-! ### comprehensions of one name, walks over lists and tuples alike -/
theorem Sm.trans {H H1 H2 : Hp} (a : Sm H H1) (b : Sm H1 H2) : Sm H H2 := fun c o e => b c o (a c o e)
theorem Sm.refl (H : Hp) : Sm H H := fun _ _ e => e
/-- [e for x in ..]: one value for each turn -/
theorem lc_map {J : It} {n : Nat} {G : Hp → Prop} {Y : Nat → Hp → V → Hp → Prop} (w : Walk J n G Y) {te : TE} {fv : Nat → V} {σ : L2.St} {i : Nat} {H1 : Hp} {Q : Addr → Hp → Prop} (hn : n ≤ 1000) (g1 : ∀ H2, Sm H1 H2 → G H2)
    (w1 : ∀ v, wipe ((wipe σ [i]).set i (some v)) [i] = wipe σ [i]) (ys : ∀ j H2 x H3, j < n → Y j H2 x H3 → Sm H2 H3)
    (ev : ∀ (j : Nat) (x : V) (H2 H3 : Hp) (Q : VK), j < n → Sm H1 H2 → Y j H2 x H3 → Sm H1 H3 → (∀ H4, Sm H3 H4 → Q (fv j) H4) → te ((wipe σ [i]).set i (some x)) H3 Q)
    (q : ∀ (D : Addr) (H2 : Hp), Sm H1 H2 → H1 D = none → H2 D = some (.lst ((List.range n).map fv)) → Q D H2) :
    ∀ D, H1 D = none → ∃ W : Nat → Nat → Hp → Prop, (∃ m, W 0 m (upd H1 D (.lst []))) ∧ ∀ i₁ m H, W i₁ m H →
      (J.stop i₁ H ∧ Q D H) ∨ (J.go i₁ H ∧ ∃ Nx : Hp → Prop, (∀ H', Nx H' → ∃ m', m' < m ∧ W (i₁ + 1) m' H') ∧ ∀ x H', J.yld i₁ H x H' → gName i x (wipe σ [i]) H' fun σ2 H2 => wipe σ2 [i] = wipe σ [i] ∧ tYes σ2 H2 fun b H3 =>
        if b = true then te σ2 H3 fun y H4 => ∃ acc, H4 D = some (.lst acc) ∧ acc.length < sizeLine ∧ Nx (upd H4 D (.lst (acc ++ [y]))) else Nx H3) := by
  intro D hD
  refine lc_it w (g := gName i) (tt := tYes) (te := te) (vs := [i]) (Qd := fun H => Q D H) (fun j H2 => H2 D = some (.lst ((List.range j).map fv)) ∧ Sm H1 H2) ⟨upd_same, Sm.new hD⟩ (fun j H2 _ h => g1 H2 h.2) ?_ ?_
  · rintro j x H2 H3 hj ⟨ed, sm⟩ hy
    refine ⟨w1 x, ?_⟩
    unfold tYes
    dsimp only
    rw [if_pos rfl]
    have s23 := ys j H2 x H3 hj hy
    refine ev j x H2 H3 _ hj sm hy (Sm.trans sm s23) fun H4 s34 => ⟨_, s34 _ _ (s23 _ _ ed), ?_, ?_, ?_⟩
    · rw [List.length_map, List.length_range, sizeLine_eq]
      omega
    · rw [upd_same, List.range_succ, List.map_append]
      rfl
    · intro b o e
      rw [upd_ne (ne_of_none e hD)]
      exact s34 _ _ (s23 _ _ (sm _ _ e))
  · rintro H2 ⟨ed, sm⟩
    exact q D H2 sm hD ed
section
variable {X : Cx} {tg : Expr}
/-- a walk over a list or a tuple -/
def iSeq (K : PySem.W.Frag) (tl : TE) : TI := fun σ H R => tl σ H fun x H1 => ∃ (a : Addr) (xs : List V), x = .ref a ∧ ((SqL K H1 a xs ∧ R (Itl K a) H1) ∨ (SqT K H1 a xs ∧ R (Itt K a) H1))
theorem pi_seq {l : Expr} {tl : TE} (hl : PE X l tl) : PI X tg l (iSeq X.K tl) := by
  refine ⟨fun pins s σ H R I h => thn (hl.run pins s σ H _ I h) fun v s1 ⟨x, H1, I1, r1, a, xs, e, q1⟩ => ?_⟩
  subst e
  cases r1
  have fr : ∀ b ∈ [s1.heap.objs.size], b = s1.heap.objs.size := fun b hb => by simpa using hb
  rcases q1 with ⟨hq, q⟩ | ⟨hq, q⟩
  · obtain ⟨its, rv, p, hz⟩ := I1.list hq
    refine wpAny_pyIter_list p.isList ⟨s1.heap.objs.size, [s1.heap.objs.size], _, _, H1, rfl, I1.kept (t' := s1.toks) fun b o e => Heap.get?_push_of_some _ e, turn_list a _, ⟨_, Heap.get?_push_size _ rfl, rfl, rfl⟩, fun b hb => ?_, q⟩
    rw [fr b hb]
    exact I1.fpOk (Nat.le_refl _) (I1.hok.fresh (Nat.le_refl _))
  · obtain ⟨its, rv, p, hz⟩ := I1.tuple hq
    refine wpAny_pyIter_tuple (show s1.heap.IsTuple a its.toArray from p) ⟨s1.heap.objs.size, [s1.heap.objs.size], _, _, H1, rfl, I1.kept (t' := s1.toks) fun b o e => Heap.get?_push_of_some _ e, turn_tuple a _, ⟨_, Heap.get?_push_size _ rfl, rfl, rfl⟩, fun b hb => ?_, q⟩
    rw [fr b hb]
    exact I1.fpOk (Nat.le_refl _) (I1.hok.fresh (Nat.le_refl _))
end
/-! ### is_name -/
/-- a value that is no text, of a type that is known -/
def NoStr (K : PySem.W.Frag) (H : Hp) (x : V) : Prop := ∃ t, TyX K H x t ∧ PySem.W.kitOne K t (.type "str") = some false
theorem NoStr.non {K : PySem.W.Frag} {H : Hp} : NoStr K H .non := ⟨_, .base .non, kit_ty (by decide +kernel)⟩
theorem NoStr.int {K : PySem.W.Frag} {H : Hp} {i : Int} : NoStr K H (.int i) := ⟨_, .base (.int i), kit_ty (by decide +kernel)⟩
theorem NoStr.bl {K : PySem.W.Frag} {H : Hp} {b : Bool} : NoStr K H (.bl b) := ⟨_, .base (.bl b), kit_ty (by decide +kernel)⟩
theorem NoStr.lst {K : PySem.W.Frag} {H : Hp} {a : Addr} {xs : List V} (e : H a = some (.lst xs)) : NoStr K H (.ref a) := ⟨_, .base (.lst e), kit_ty (by decide +kernel)⟩
theorem NoStr.tup {K : PySem.W.Frag} {H : Hp} {a : Addr} {xs : List V} (e : H a = some (.tup xs)) : NoStr K H (.ref a) := ⟨_, .base (.tup e), kit_ty (by decide +kernel)⟩
theorem NoStr.dK {K : PySem.W.Frag} {H : Hp} {a : Addr} {xs : List (Key × V)} (e : H a = some (.dK xs)) : NoStr K H (.ref a) := ⟨_, .base (.dK e), kit_ty (by decide +kernel)⟩
instance (z : Str) : Decidable (IsWord z) := by
  unfold IsWord
  exact inferInstance
theorem le_a {c : Nat} : (!decide ((⟨#[c]⟩ : Str).cps.toList < (Str.ofString "a").cps.toList)) = decide (97 ≤ c) := by
  rw [Bool.eq_iff_iff]
  show (!decide ([c] < [97])) = true ↔ _
  rw [Bool.not_eq_true', decide_eq_false_iff_not, List.cons_lt_cons_iff]
  simp
theorem le_z {c : Nat} : (!decide ((Str.ofString "z").cps.toList < (⟨#[c]⟩ : Str).cps.toList)) = decide (c ≤ 122) := by
  rw [Bool.eq_iff_iff]
  show (!decide ([122] < [c])) = true ↔ _
  rw [Bool.not_eq_true', decide_eq_false_iff_not, List.cons_lt_cons_iff]
  simp
def spIsName (K : PySem.W.Frag) : Sp := fun vs H Q _ => ∃ x, vs = [x] ∧ ((∃ z : Str, x = .str z ∧ z.length ≤ 1000 ∧ ∀ H', Sm H H' → Q (.bl (decide (IsWord z))) H') ∨ (NoStr K H x ∧ Q (.bl false) H))
abbrev nIsName : List Str := ["value", "letter"]
theorem scIsName : FnScope nIsName ["value"] (defScope (top 9)) := ⟨rfl, rfl, rfl, by decide +kernel, rfl, by decide +kernel, by decide +kernel⟩
section
variable {P : Program} {w : World} {K : PySem.W.Frag} {mg : Str → Option Value} {base : Heap} {f : Addr} {fd : FuncData}
theorem ok_isname (F : FunD K "is_name" "is_name" (defArgs (top 9)) (defBody (top 9)) (defScope (top 9)) [] [] f fd) (mi : mg "isinstance" = none) (ms : mg "str" = none) (ml : mg "len" = none) (ma : mg "all" = none) :
    FnOk P w K mg base CX0 1 f fd ["value"] (spIsName K) := by
  refine F.ok (CX := CX0) scIsName (fun vs H Q E h => ?_) (fun cdv A outer s H vs Q E hr h => ?_)
  · obtain ⟨x, rfl, _⟩ := h
    rfl
  · refine ⟨_, PSs.nox (pss_cons (ps_if (PW.pt (pw_or (pt_not (pt_val (by exact (pe_callB call_isi rfl mi PyProof.Rows.boot_isinstance (pa_cons (pv 0) (pa_cons (pe_bltn (v := .ty "str") rfl ms (by decide +kernel) rfl) pa_nil)))))) (pw_or1 (pt_not (pt_chain op_le op_le pe_int (by exact (pe_callB call_len rfl ml boot_len (pa_cons (pv 0) pa_nil))) pe_int))))) (pss_one (ps_ret pe_bl)) pss_nil)
      (pss_one (ps_ret (by exact (pe_callB (cr_all rfl) rfl ma PyProof.Rows.boot_all (pa_cons (by exact (pe_lc (own := [("letter", 1)]) (g := gName 1) (tt := tYes) (te := tChain _ _ (tC (.str "a")) (tVar 1) (tC (.str "z"))) rfl scIsName.nd (pi_str (pv 0))
        (blkOk_by (N := nIsName) (sc := defScope (top 9)) (by decide +kernel)) (fun _ _ _ _ _ => pg_name (i := 1) scIsName.nd rfl (Or.inl rfl)) (fun _ _ _ _ _ => pts_nil) (fun _ _ _ _ _ => by exact (pe_chain op_le_str op_le_str pe_str (by exact (pv 1)) pe_str)))) pa_nil)))))), ?_⟩
    obtain ⟨x, rfl, h⟩ := h
    rcases h with ⟨z, rfl, z1, q⟩ | ⟨⟨t, ty, kk⟩, q⟩
    · refine ⟨_, rfl, .str z, .ty "str", _, _, true, rfl, .ty "str", .base (.str z), kit_ty (by decide +kernel), _, rfl, ?_⟩
      refine iteF ?_
      refine ⟨_, rfl, .str z, z.length, rfl, ⟨by rw [sizeLine_eq]; omega, rfl⟩, _, _, rfl, rfl, _, rfl, ?_⟩
      by_cases c1 : (1 : Int) ≤ (z.length : Nat)
      · rw [decide_eq_true c1]
        refine iteT ⟨_, _, rfl, rfl, _, rfl, ?_⟩
        by_cases c2 : ((z.length : Nat) : Int) ≤ 8
        · rw [decide_eq_true c2]
          refine iteF ⟨_, rfl, z, rfl, ?_⟩
          refine lc_map walk_str (fv := fun j => .bl (decide (97 ≤ z.cps.toList.getD j 0) && decide (z.cps.toList.getD j 0 ≤ 122))) (by show z.length ≤ 1000; exact z1) (fun _ _ => True.intro) (fun _ => rfl) (fun j H2 x H3 _ y => by rw [y.1]; exact Sm.refl _) (fun j x H2 H3 Q hj s2 y s3 q => ?_) fun D H2 sm nD ed => ?_
          · obtain ⟨rfl, c, ec, rfl⟩ := y
            have cd : z.cps.toList.getD j 0 = c := by
              rw [List.getD_eq_getElem?_getD, Array.getElem?_toList, ec]
              rfl
            have q := q H3 (Sm.refl _)
            rw [cd] at q
            refine ⟨_, rfl, _, _, rfl, rfl, _, rfl, ?_⟩
            by_cases l1 : 97 ≤ c
            · rw [le_a, decide_eq_true l1]
              refine iteT ⟨_, _, rfl, rfl, ?_⟩
              rw [le_z]
              rw [decide_eq_true l1] at q
              exact q
            · rw [le_a, decide_eq_false l1]
              refine iteF ?_
              rw [decide_eq_false l1] at q
              exact q
          · refine ⟨D, (List.range z.length).map fun j => (decide (97 ≤ z.cps.toList.getD j 0) && decide (z.cps.toList.getD j 0 ≤ 122)), rfl, .inl (.inl (by rw [ed, List.map_map]; rfl)), ?_⟩
            have e : ((List.range z.length).map fun j => (decide (97 ≤ z.cps.toList.getD j 0) && decide (z.cps.toList.getD j 0 ≤ 122))).all id = decide (IsWord z) := by
              rw [Bool.eq_iff_iff, List.all_eq_true, decide_eq_true_iff]
              have hl : z.cps.toList.length = z.length := Array.length_toList
              constructor
              · intro h
                refine ⟨by omega, by omega, fun c hc => ?_⟩
                obtain ⟨j, hj, rfl⟩ := List.mem_iff_getElem.mp hc
                have := h _ (List.mem_map.mpr ⟨j, List.mem_range.mpr (by omega), rfl⟩)
                rw [List.getD_eq_getElem?_getD, List.getElem?_eq_getElem hj] at this
                simpa using this
              · rintro ⟨_, _, h⟩ b hb
                obtain ⟨j, hj, rfl⟩ := List.mem_map.mp hb
                have hj := List.mem_range.mp hj
                have := h _ (List.getElem_mem (show j < z.cps.toList.length by omega))
                rw [List.getD_eq_getElem?_getD, List.getElem?_eq_getElem (by omega)]
                simpa using this
            rw [e]
            exact q H2 sm
        · rw [decide_eq_false c2]
          have e : IsWord z ↔ False := ⟨fun h => by have := h.2.1; omega, False.elim⟩
          have q := q H (Sm.refl H)
          rw [decide_eq_false (fun h => e.mp h)] at q
          exact iteT q
      · rw [decide_eq_false c1]
        have e : IsWord z ↔ False := ⟨fun h => by have := h.1; omega, False.elim⟩
        have q := q H (Sm.refl H)
        rw [decide_eq_false (fun h => e.mp h)] at q
        exact iteF ⟨_, rfl, iteT q⟩
    · refine ⟨_, rfl, x, .ty "str", _, _, false, rfl, .ty "str", ty, kk, _, rfl, ?_⟩
      exact iteT (iteT q)
end
end Dk
set_option Elab.async false
set_option linter.all false
set_option maxRecDepth 100000
set_option maxHeartbeats 4000000
namespace Dk
open PySem PySem.Spec PyProof.Rows L2 Er
/-! ### is_one_of, are_different, is_table -/
/-- some names: a list, a tuple, or the keys of a dict -/
def Nms (K : PySem.W.Frag) (H : Hp) (a : Addr) (ws : List Str) : Prop := SqL K H a (ws.map V.str) ∨ SqT K H a (ws.map V.str) ∨ ∃ vs : List V, Rd H a (.dK (dkv ws vs)) ∧ vs.length = ws.length
theorem dkv_none : ∀ {ws : List Str} {vs : List V} {z : Str}, z ∉ ws → valV (dkv ws vs) (.inr z) = none
  | [], _, _, _ => rfl
  | _ :: _, [], _, _ => rfl
  | w :: ws, v :: vs, z, h => by
    have ih := dkv_none (ws := ws) (vs := vs) (z := z) fun x => h (List.mem_cons_of_mem _ x)
    unfold valV at ih ⊢
    show ((((Sum.inr w, v) : Key × V) :: dkv ws vs).find? _).map _ = none
    rw [List.find?_cons_of_neg]
    · exact ih
    · intro x
      have e : (Sum.inr w : Key) = .inr z := of_decide_eq_true x
      exact h (Sum.inr.inj e ▸ List.mem_cons_self)
theorem dkv_some : ∀ {ws : List Str} {vs : List V} {z : Str}, vs.length = ws.length → z ∈ ws → ∃ (j : Nat) (v : V), ws[j]? = some z ∧ vs[j]? = some v ∧ valV (dkv ws vs) (.inr z) = some v
  | [], _, _, _, h => nomatch h
  | _ :: _, [], _, e, _ => by simp at e
  | w :: ws, v :: vs, z, e, h => by
    by_cases c : w = z
    · subst c
      refine ⟨0, v, rfl, rfl, ?_⟩
      unfold valV
      show ((((Sum.inr w, v) : Key × V) :: dkv ws vs).find? _).map _ = _
      rw [List.find?_cons_of_pos (by simp)]
      rfl
    · have h2 : z ∈ ws := by
        rcases List.mem_cons.mp h with x | x
        · exact absurd x.symm c
        · exact x
      obtain ⟨j, u, a, b, d⟩ := dkv_some (ws := ws) (vs := vs) (by simpa using e) h2
      refine ⟨j + 1, u, by simpa using a, by simpa using b, ?_⟩
      unfold valV at d ⊢
      show ((((Sum.inr w, v) : Key × V) :: dkv ws vs).find? _).map _ = _
      rw [List.find?_cons_of_neg]
      · exact d
      · intro x
        have e : (Sum.inr w : Key) = .inr z := of_decide_eq_true x
        exact c (Sum.inr.inj e)
theorem dkv_has {ws : List Str} {vs : List V} {z : Str} (e : vs.length = ws.length) : (valV (dkv ws vs) (.inr z)).isSome = decide (z ∈ ws) := by
  by_cases c : z ∈ ws
  · obtain ⟨j, v, _, _, d⟩ := dkv_some e c
    rw [d, decide_eq_true c]
    rfl
  · rw [dkv_none c, decide_eq_false c]
    rfl
theorem in_strs {ws : List Str} {z : Str} : inV (.str z) (ws.map V.str) = decide (z ∈ ws) := by
  unfold inV
  rw [List.any_map, Bool.eq_iff_iff, List.any_eq_true, decide_eq_true_iff]
  constructor
  · rintro ⟨y, hy, e⟩
    have e2 : y = z := by simpa [eqV] using e
    exact e2 ▸ hy
  · intro h
    exact ⟨z, h, by simp [eqV]⟩
def rInA (K : PySem.W.Frag) : V → V → Hp → VK → Prop := fun x y H Q => ∃ (z : Str) (a : Addr) (ws : List Str), x = .str z ∧ y = .ref a ∧ Nms K H a ws ∧ Q (.bl (decide (z ∈ ws))) H
theorem op_inA {X : Cx} (hu : X.A.units + 1 < cLine) : OpR X (compareOp .In) (rInA X.K) := by
  intro pins s σ H x y v u Q I rx ry h
  obtain ⟨z, a, ws, rfl, rfl, hn, q⟩ := h
  rcases hn with h | h | ⟨vs, h, e⟩
  · exact op_in_seq pins s σ H _ _ v u Q I rx ry ⟨a, _, rfl, .inl h, rfl, flat_strs ws, by rw [if_neg (by decide), in_strs]; exact q⟩
  · exact op_in_seq pins s σ H _ _ v u Q I rx ry ⟨a, _, rfl, .inr h, rfl, flat_strs ws, by rw [if_neg (by decide), in_strs]; exact q⟩
  · obtain rfl : u = Value.ref a := ry
    exact d_in hu I (.inl ⟨_, .inr z, h, rfl, rfl⟩) rx fun s2 I2 => ⟨.bl _, H, I2, rfl, by rw [dkv_has e]; exact q⟩
def spOneOf (K : PySem.W.Frag) : Sp := fun vs H Q _ => ∃ x a, vs = [x, .ref a] ∧ ((∃ (z : Str) (ws : List Str), x = .str z ∧ Nms K H a ws ∧ Q (.bl (decide (z ∈ ws))) H) ∨ (NoStr K H x ∧ Q (.bl false) H))
abbrev nOneOf : List Str := ["value", "names"]
theorem scOneOf : FnScope nOneOf nOneOf (defScope (top 10)) := ⟨rfl, rfl, rfl, by decide +kernel, rfl, by decide +kernel, by decide +kernel⟩
abbrev nDiff : List Str := ["names"]
theorem scDiff : FnScope nDiff nDiff (defScope (top 11)) := ⟨rfl, rfl, rfl, by decide +kernel, rfl, by decide +kernel, by decide +kernel⟩
def spDiff (K : PySem.W.Frag) : Sp := fun vs H Q _ => ∃ (a : Addr) (ws : List Str), vs = [.ref a] ∧ (SqL K H a (ws.map V.str) ∨ SqT K H a (ws.map V.str)) ∧ ws.length ≤ 1000 ∧ Q (.bl (decide ws.Nodup)) H
section
variable {P : Program} {w : World} {K : PySem.W.Frag} {mg : Str → Option Value} {base : Heap} {f : Addr} {fd : FuncData}
theorem ok_oneof (F : FnP K "is_one_of" (top 10) f fd) (mi : mg "isinstance" = none) (ms : mg "str" = none) : FnOk P w K mg base CX0 1 f fd nOneOf (spOneOf K) := by
  refine F.ok (CX := CX0) scOneOf (fun vs H Q E h => ?_) (fun cdv A outer s H vs Q E hr h => ?_)
  · obtain ⟨x, a, rfl, _⟩ := h
    rfl
  · refine ⟨_, PSs.nox (pss_one (ps_ret (by exact (pe_and (by exact (pe_callB call_isi rfl mi PyProof.Rows.boot_isinstance (pa_cons (pv 0) (pa_cons (pe_bltn (v := .ty "str") rfl ms (by decide +kernel) rfl) pa_nil)))) (pe_one (by exact (pe_cmpR (op_inA (hu_of hr)) (pv 0) (pv 1) rfl))))))), ?_⟩
    obtain ⟨x, a, rfl, h⟩ := h
    rcases h with ⟨z, ws, rfl, hn, q⟩ | ⟨⟨t, ty, kk⟩, q⟩
    · exact ⟨_, rfl, .str z, .ty "str", _, _, true, rfl, .ty "str", .base (.str z), kit_ty (by decide +kernel), _, rfl, iteT ⟨_, rfl, _, rfl, z, a, ws, rfl, rfl, hn, q⟩⟩
    · exact ⟨_, rfl, x, .ty "str", _, _, false, rfl, .ty "str", ty, kk, _, rfl, iteF q⟩
theorem ok_diff (F : FnP K "are_different" (top 11) f fd) (ms : mg "set" = none) (ml : mg "len" = none) : FnOk P w K mg base CX0 1 f fd nDiff (spDiff K) := by
  refine F.ok (CX := CX0) scDiff (fun vs H Q E h => ?_) (fun cdv A outer s H vs Q E hr h => ?_)
  · obtain ⟨a, ws, rfl, _⟩ := h
    rfl
  · refine ⟨_, PSs.nox (pss_one (ps_ret (by exact (pe_cmpR op_eq (by exact (DkSet.pe_lenTxt rfl rfl ml rfl ms (pv 0))) (by exact (pe_callB call_len rfl ml boot_len (pa_cons (pv 0) pa_nil))) (nomark _))))), ?_⟩
    obtain ⟨a, ws, rfl, hs, hl, q⟩ := h
    refine ⟨_, rfl, a, ws, rfl, hs, hl, fun n hn nl => ⟨_, rfl, _, ws.length, rfl, ?_, rfl, ?_⟩⟩
    · rcases hs with hs | hs
      · exact .inl ⟨_, hs, by rw [List.length_map]⟩
      · exact .inr ⟨_, hs, by rw [List.length_map]⟩
    · have e : decide (V.int ((n : Nat) : Int) = V.int ((ws.length : Nat) : Int)) = decide ws.Nodup := by
        rw [decide_eq_decide, ← hn]
        constructor
        · intro z
          have := V.int.inj z
          omega
        · intro z
          rw [z]
      rw [e]
      exact q
end
end Dk
set_option Elab.async false
set_option linter.all false
set_option maxRecDepth 100000
set_option maxHeartbeats 4000000
namespace Dk
open PySem PySem.Spec PyProof.Rows L2 Er
/-- what a comprehension of one name asks of its walk -/
abbrev LcR (te : TE) (σ : L2.St) (i : Nat) (H1 : Hp) (Q : Addr → Hp → Prop) (J : It) : Prop := ∀ D, H1 D = none → ∃ W : Nat → Nat → Hp → Prop, (∃ m, W 0 m (upd H1 D (.lst []))) ∧ ∀ i₁ m H, W i₁ m H →
      (J.stop i₁ H ∧ Q D H) ∨ (J.go i₁ H ∧ ∃ Nx : Hp → Prop, (∀ H', Nx H' → ∃ m', m' < m ∧ W (i₁ + 1) m' H') ∧ ∀ x H', J.yld i₁ H x H' → gName i x (wipe σ [i]) H' fun σ2 H2 => wipe σ2 [i] = wipe σ [i] ∧ tYes σ2 H2 fun b H3 =>
        if b = true then te σ2 H3 fun y H4 => ∃ acc, H4 D = some (.lst acc) ∧ acc.length < sizeLine ∧ Nx (upd H4 D (.lst (acc ++ [y]))) else Nx H3)
/-- a list or a tuple of texts -/
def Sq (K : PySem.W.Frag) (H : Hp) (a : Addr) (ws : List Str) : Prop := SqL K H a (ws.map V.str) ∨ SqT K H a (ws.map V.str)
theorem SqL.sm {K : PySem.W.Frag} {H H2 : Hp} {a : Addr} {xs : List V} (h : SqL K H a xs) (m : Sm H H2) : SqL K H2 a xs := by
  rcases h with (h | ⟨o, h⟩) | h
  · exact .inl (.inl (m _ _ h))
  · exact .inl (.inr ⟨o, m _ _ h⟩)
  · exact .inr h
theorem SqT.sm {K : PySem.W.Frag} {H H2 : Hp} {a : Addr} {xs : List V} (h : SqT K H a xs) (m : Sm H H2) : SqT K H2 a xs := by
  rcases h with (h | ⟨o, h⟩) | h
  · exact .inl (.inl (m _ _ h))
  · exact .inl (.inr ⟨o, m _ _ h⟩)
  · exact .inr h
theorem Sq.sm {K : PySem.W.Frag} {H H2 : Hp} {a : Addr} {ws : List Str} (h : Sq K H a ws) (m : Sm H H2) : Sq K H2 a ws := by
  rcases h with h | h
  · exact .inl (SqL.sm h m)
  · exact .inr (SqT.sm h m)
theorem Sq.len {K : PySem.W.Frag} {H : Hp} {a : Addr} {ws : List Str} (h : Sq K H a ws) : LenV K (.ref a) H ws.length := by
  rcases h with h | h
  · exact .inl ⟨_, h, by rw [List.length_map]⟩
  · exact .inr ⟨_, h, by rw [List.length_map]⟩
theorem lc_sq {K : PySem.W.Frag} {a : Addr} {ws : List Str} {te : TE} {fv : Nat → V} {σ : L2.St} {i : Nat} {H1 : Hp} {Q : Addr → Hp → Prop} (hk : Sq K H1 a ws) (hn : ws.length ≤ 1000) (w1 : ∀ v, wipe ((wipe σ [i]).set i (some v)) [i] = wipe σ [i])
    (ev : ∀ (j : Nat) (z : Str) (H2 : Hp) (Q : VK), ws[j]? = some z → Sm H1 H2 → (∀ H4, Sm H2 H4 → Q (fv j) H4) → te ((wipe σ [i]).set i (some (.str z))) H2 Q)
    (q : ∀ (D : Addr) (H2 : Hp), Sm H1 H2 → H1 D = none → H2 D = some (.lst ((List.range ws.length).map fv)) → Q D H2) :
    (SqL K H1 a (ws.map V.str) ∧ LcR te σ i H1 Q (Itl K a)) ∨ (SqT K H1 a (ws.map V.str) ∧ LcR te σ i H1 Q (Itt K a)) := by
  have hl : (ws.map V.str).length = ws.length := List.length_map _
  have yat : ∀ (j : Nat) (x : V), (ws.map V.str)[j]? = some x → ∃ z, ws[j]? = some z ∧ x = .str z := fun j x e => by
    rw [List.getElem?_map] at e
    cases ez : ws[j]? with
    | none =>
      rw [ez] at e
      cases e
    | some z =>
      rw [ez] at e
      exact ⟨z, rfl, (Option.some.inj e).symm⟩
  rcases hk with hk | hk
  · refine .inl ⟨hk, lc_map walk_list (by omega) (fun H2 m => SqL.sm hk m) w1 (fun j H2 x H3 _ y => by rw [y.1]; exact Sm.refl _) (fun j x H2 H3 Q hj s2 y s3 qq => ?_) fun D H2 m nD ed => q D H2 m nD (by rw [← hl]; exact ed)⟩
    obtain ⟨rfl, ex⟩ := y
    obtain ⟨z, ez, rfl⟩ := yat j x ex
    exact ev j z _ Q ez s2 qq
  · refine .inr ⟨hk, lc_map walk_tup (by omega) (fun H2 m => SqT.sm hk m) w1 (fun j H2 x H3 _ y => by rw [y.1]; exact Sm.refl _) (fun j x H2 H3 Q hj s2 y s3 qq => ?_) fun D H2 m nD ed => q D H2 m nD (by rw [← hl]; exact ed)⟩
    obtain ⟨rfl, ex⟩ := y
    obtain ⟨z, ez, rfl⟩ := yat j x ex
    exact ev j z _ Q ez s2 qq
theorem all_range {ws : List Str} {p : Str → Bool} : ((List.range ws.length).map fun j => p (ws.getD j ⟨#[]⟩)).all id = ws.all p := by
  rw [Bool.eq_iff_iff, List.all_eq_true, List.all_eq_true]
  constructor
  · intro h z hz
    obtain ⟨j, hj, rfl⟩ := List.mem_iff_getElem.mp hz
    have := h _ (List.mem_map.mpr ⟨j, List.mem_range.mpr hj, rfl⟩)
    rw [List.getD_eq_getElem?_getD, List.getElem?_eq_getElem hj] at this
    exact this
  · intro h b hb
    obtain ⟨j, hj, rfl⟩ := List.mem_map.mp hb
    have hj := List.mem_range.mp hj
    rw [List.getD_eq_getElem?_getD, List.getElem?_eq_getElem hj]
    exact h _ (List.getElem_mem hj)
/-! ### is_table -/
/-- a value that is no dict, of a type that is known -/
def NoDict (K : PySem.W.Frag) (H : Hp) (x : V) : Prop := ∃ t, TyX K H x t ∧ PySem.W.kitOne K t (.type "dict") = some false
/-- what is a table: just these keys -/
def tableB (kvs : List (Key × V)) (ws : List Str) : Bool := decide (kvs.length = ws.length) && ws.all fun z => (valV kvs (.inr z)).isSome
def spTable (K : PySem.W.Frag) : Sp := fun vs H Q _ => ∃ (x : V) (k : Addr) (ws : List Str), vs = [x, .ref k] ∧ Sq K H k ws ∧ ws.length ≤ 1000 ∧
  ((∃ (d : Addr) (kvs : List (Key × V)), x = .ref d ∧ H d = some (.dK kvs) ∧ ∀ H', Sm H H' → Q (.bl (tableB kvs ws)) H') ∨ (NoDict K H x ∧ Q (.bl false) H))
abbrev nTable : List Str := ["value", "keys", "key"]
theorem scTable : FnScope nTable ["value", "keys"] (defScope (top 12)) := ⟨rfl, rfl, rfl, by decide +kernel, rfl, by decide +kernel, by decide +kernel⟩
def rInD1 : V → V → Hp → VK → Prop := fun x y H Q => ∃ (z : Str) (a : Addr) (kvs : List (Key × V)), x = .str z ∧ y = .ref a ∧ Rd H a (.dK kvs) ∧ Q (.bl (valV kvs (.inr z)).isSome) H
theorem op_inD1 {X : Cx} (hu : X.A.units + 1 < cLine) : OpR X (compareOp .In) rInD1 := by
  intro pins s σ H x y v u Q I rx ry h
  obtain ⟨z, a, kvs, rfl, rfl, h, q⟩ := h
  obtain rfl : u = Value.ref a := ry
  exact d_in hu I (.inl ⟨_, .inr z, h, rfl, rfl⟩) rx fun s2 I2 => ⟨.bl _, H, I2, rfl, q⟩
section
variable {P : Program} {w : World} {K : PySem.W.Frag} {mg : Str → Option Value} {base : Heap} {f : Addr} {fd : FuncData}
theorem ok_table (F : FnP K "is_table" (top 12) f fd) (mi : mg "isinstance" = none) (md : mg "dict" = none) (ml : mg "len" = none) (ma : mg "all" = none) : FnOk P w K mg base CX0 1 f fd ["value", "keys"] (spTable K) := by
  refine F.ok (CX := CX0) scTable (fun vs H Q E h => ?_) (fun cdv A outer s H vs Q E hr h => ?_)
  · obtain ⟨x, a, ws, rfl, _⟩ := h
    rfl
  · refine ⟨_, PSs.nox (pss_cons (ps_if (PW.pt (pw_or (pt_not (pt_val (by exact (pe_callB call_isi rfl mi PyProof.Rows.boot_isinstance (pa_cons (pv 0) (pa_cons (pe_bltn (v := .ty "dict") rfl md (by decide +kernel) rfl) pa_nil))))))
        (pw_or1 (pt_cmpR op_ne (by exact (pe_callB call_lenD rfl ml boot_len (pa_cons (pv 0) pa_nil))) (by exact (pe_callB call_len rfl ml boot_len (pa_cons (pv 1) pa_nil))) (nomark _))))) (pss_one (ps_ret pe_bl)) pss_nil)
      (pss_one (ps_ret (by exact (pe_callB (cr_all rfl) rfl ma PyProof.Rows.boot_all (pa_cons (by exact (pe_lc (own := [("key", 2)]) (g := gName 2) (tt := tYes) (te := tOp rInD1 (tVar 2) (tVar 0)) rfl scTable.nd (pi_seq (pv 1))
        (blkOk_by (N := nTable) (sc := defScope (top 12)) (by decide +kernel)) (fun _ _ _ _ _ => pg_name (i := 2) scTable.nd rfl (Or.inl rfl)) (fun _ _ _ _ _ => pts_nil) (fun _ _ _ _ _ => by exact (pe_cmpR (op_inD1 (hu_of hr)) (by exact (pv 2)) (by exact (pv 0)) rfl)))) pa_nil)))))), ?_⟩
    obtain ⟨x, k, ws, rfl, hk, kl, h⟩ := h
    rcases h with ⟨d, kvs, rfl, hd, q⟩ | ⟨⟨t, ty, kk⟩, q⟩
    · refine ⟨_, rfl, .ref d, .ty "dict", _, _, true, rfl, .ty "dict", .base (.dK hd), kit_ty (by decide +kernel), _, rfl, ?_⟩
      refine iteF ⟨_, rfl, d, kvs, rfl, hd, _, rfl, .ref k, ws.length, rfl, ?_, rfl, _, rfl, ?_⟩
      · exact Sq.len hk
      · by_cases c : kvs.length = ws.length
        · have e : decide (V.int ((kvs.length : Nat) : Int) = V.int ((ws.length : Nat) : Int)) = true := decide_eq_true (by rw [c])
          rw [e]
          refine iteF ⟨_, rfl, k, ws.map V.str, rfl, ?_⟩
          refine lc_sq (fv := fun j => .bl (valV kvs (.inr (ws.getD j ⟨#[]⟩))).isSome) hk kl (fun _ => rfl) (fun j z H2 Q ez s2 qq => ?_) fun D H2 m nD ed => ?_
          · have z2 := qq H2 (Sm.refl _)
            rw [List.getD_eq_getElem?_getD, ez] at z2
            exact ⟨_, rfl, _, rfl, z, d, kvs, rfl, rfl, .inl (s2 _ _ hd), z2⟩
          · refine ⟨D, (List.range ws.length).map fun j => (valV kvs (.inr (ws.getD j ⟨#[]⟩))).isSome, rfl, .inl (.inl (by rw [ed, List.map_map]; rfl)), ?_⟩
            rw [all_range (p := fun z => (valV kvs (.inr z)).isSome)]
            have q := q H2 m
            unfold tableB at q
            rw [decide_eq_true c, Bool.true_and] at q
            exact q
        · have e : decide (V.int ((kvs.length : Nat) : Int) = V.int ((ws.length : Nat) : Int)) = false := decide_eq_false fun z => c (by have := V.int.inj z; omega)
          rw [e]
          have q := q H (Sm.refl _)
          unfold tableB at q
          rw [decide_eq_false c, Bool.false_and] at q
          exact iteT q
    · refine ⟨_, rfl, x, .ty "dict", _, _, false, rfl, .ty "dict", ty, kk, _, rfl, ?_⟩
      exact iteT (iteT q)
end
end Dk
set_option Elab.async false
set_option linter.all false
set_option maxRecDepth 100000
set_option maxHeartbeats 4000000
namespace Dk
open PySem PySem.Spec PyProof.Rows L2 Er
/-! ### are_standings, of any list or tuple -/
/-- a list or a tuple of anything -/
def Sv (K : PySem.W.Frag) (H : Hp) (a : Addr) (xs : List V) : Prop := SqL K H a xs ∨ SqT K H a xs
theorem Sv.sm {K : PySem.W.Frag} {H H2 : Hp} {a : Addr} {xs : List V} (h : Sv K H a xs) (m : Sm H H2) : Sv K H2 a xs := by
  rcases h with h | h
  · exact .inl (SqL.sm h m)
  · exact .inr (SqT.sm h m)
theorem Sv.len {K : PySem.W.Frag} {H : Hp} {a : Addr} {xs : List V} (h : Sv K H a xs) : LenV K (.ref a) H xs.length := by
  rcases h with h | h
  · exact .inl ⟨_, h, rfl⟩
  · exact .inr ⟨_, h, rfl⟩
theorem sv_is {K : PySem.W.Frag} {H : Hp} {a : Addr} {xs : List V} (h : Sv K H a xs) : ∃ t, TyX K H (.ref a) (.type t) ∧ (t = "list" ∨ t = "tuple") := by
  rcases h with ((h | ⟨o, h⟩) | ⟨o, its, n, h, c, _⟩) | ((h | ⟨o, h⟩) | ⟨o, its, n, h, c, _⟩)
  · exact ⟨_, .base (.lst h), .inl rfl⟩
  · exact ⟨_, .base (.frz h), .inl rfl⟩
  · exact ⟨_, .kList h c, .inl rfl⟩
  · exact ⟨_, .base (.tup h), .inr rfl⟩
  · exact ⟨_, .fTuple h, .inr rfl⟩
  · exact ⟨_, .kTuple h c, .inr rfl⟩
/-- a text, or something that is none -/
def Itm (K : PySem.W.Frag) (H : Hp) (v : V) : Prop := (∃ z : Str, v = .str z ∧ z.length ≤ 1000) ∨ NoStr K H v
def nameB : V → Bool
  | .str z => decide (IsWord z)
  | _ => false
theorem NoStr.name {K : PySem.W.Frag} {H : Hp} {v : V} (h : NoStr K H v) : nameB v = false := by
  cases v with
  | str z =>
    obtain ⟨t, ty, k⟩ := h
    cases ty with
    | base b =>
      cases b
      rw [show PySem.W.kitOne K (.type "str") (.type "str") = some true from kit_ty (by decide +kernel)] at k
      cases k
  | _ => rfl
def standB (xs : List V) : Bool := decide (1 ≤ xs.length ∧ xs.length ≤ 9) && (xs.all nameB && decide xs.Nodup)
theorem lc_sv {K : PySem.W.Frag} {a : Addr} {xs : List V} {te : TE} {fv : Nat → V} {σ : L2.St} {i : Nat} {H1 : Hp} {Q : Addr → Hp → Prop} (hk : Sv K H1 a xs) (hn : xs.length ≤ 1000) (w1 : ∀ v, wipe ((wipe σ [i]).set i (some v)) [i] = wipe σ [i])
    (ev : ∀ (j : Nat) (x : V) (H2 : Hp) (Q : VK), xs[j]? = some x → Sm H1 H2 → (∀ H4, Sm H2 H4 → Q (fv j) H4) → te ((wipe σ [i]).set i (some x)) H2 Q)
    (q : ∀ (D : Addr) (H2 : Hp), Sm H1 H2 → H1 D = none → H2 D = some (.lst ((List.range xs.length).map fv)) → Q D H2) :
    (SqL K H1 a xs ∧ LcR te σ i H1 Q (Itl K a)) ∨ (SqT K H1 a xs ∧ LcR te σ i H1 Q (Itt K a)) := by
  rcases hk with hk | hk
  · refine .inl ⟨hk, lc_map walk_list hn (fun H2 m => SqL.sm hk m) w1 (fun j H2 x H3 _ y => by rw [y.1]; exact Sm.refl _) (fun j x H2 H3 Q hj s2 y s3 qq => ?_) q⟩
    obtain ⟨rfl, ex⟩ := y
    exact ev j x _ Q ex s2 qq
  · refine .inr ⟨hk, lc_map walk_tup hn (fun H2 m => SqT.sm hk m) w1 (fun j H2 x H3 _ y => by rw [y.1]; exact Sm.refl _) (fun j x H2 H3 Q hj s2 y s3 qq => ?_) q⟩
    obtain ⟨rfl, ex⟩ := y
    exact ev j x _ Q ex s2 qq
theorem all_rangeV {xs : List V} {p : V → Bool} : ((List.range xs.length).map fun j => p (xs.getD j .non)).all id = xs.all p := by
  rw [Bool.eq_iff_iff, List.all_eq_true, List.all_eq_true]
  constructor
  · intro h z hz
    obtain ⟨j, hj, rfl⟩ := List.mem_iff_getElem.mp hz
    have := h _ (List.mem_map.mpr ⟨j, List.mem_range.mpr hj, rfl⟩)
    rw [List.getD_eq_getElem?_getD, List.getElem?_eq_getElem hj] at this
    exact this
  · intro h b hb
    obtain ⟨j, hj, rfl⟩ := List.mem_map.mp hb
    have hj := List.mem_range.mp hj
    rw [List.getD_eq_getElem?_getD, List.getElem?_eq_getElem hj]
    exact h _ (List.getElem_mem hj)
theorem names_all : ∀ {xs : List V}, xs.all nameB = true → ∃ ws : List Str, xs = ws.map V.str ∧ ∀ z ∈ ws, IsWord z
  | [], _ => ⟨[], rfl, fun z hz => nomatch hz⟩
  | x :: xs, h => by
    rw [List.all_cons, Bool.and_eq_true] at h
    obtain ⟨ws, e, hw⟩ := names_all h.2
    cases x with
    | str z =>
      refine ⟨z :: ws, by rw [e]; rfl, fun y hy => ?_⟩
      rcases List.mem_cons.mp hy with r | r
      · rw [r]
        exact of_decide_eq_true h.1
      · exact hw y r
    | _ => exact absurd (show false = true from h.1) (by decide)
theorem nodup_strs {ws : List Str} : (ws.map V.str).Nodup ↔ ws.Nodup := by
  constructor
  · intro h
    exact List.Pairwise.of_map V.str (fun a b n e => n (by rw [e])) h
  · intro h
    exact List.Pairwise.map _ (fun a b n e => n (V.str.inj e)) h
/-- neither a list nor a tuple -/
def NoSq (K : PySem.W.Frag) (H : Hp) (x : V) : Prop := ∃ t, TyX K H x t ∧ PySem.W.kitOne K t (.type "list") = some false ∧ PySem.W.kitOne K t (.type "tuple") = some false
theorem tyx_new {K : PySem.W.Frag} {H : Hp} {x : V} {t : Value} {T : Addr} {o : HO} (h : TyX K H x t) (n : H T = none) : TyX K (upd H T o) x t := by
  have m := Sm.new (o := o) n
  cases h with
  | base b =>
    refine .base ?_
    cases b with
    | non => exact .non
    | bl y => exact .bl y
    | int i => exact .int i
    | str y => exact .str y
    | flt y => exact .flt y
    | lst e => exact .lst (m _ _ e)
    | frz e => exact .frz (m _ _ e)
    | tup e => exact .tup (m _ _ e)
    | dK e => exact .dK (m _ _ e)
    | dT e => exact .dT (m _ _ e)
    | ins e a b c d f => exact .ins (m _ _ e) a b c d f
  | byt b => exact .byt b
  | set e => exact .set (m _ _ e)
  | kList e c => exact .kList e c
  | kTuple e c => exact .kTuple e c
  | kDict e c => exact .kDict e c
  | fTuple e => exact .fTuple (m _ _ e)
  | fDict e => exact .fDict (m _ _ e)
theorem tyx_sm {K : PySem.W.Frag} {H H2 : Hp} {x : V} {t : Value} (h : TyX K H x t) (m : Sm H H2) : TyX K H2 x t := by
  cases h with
  | base b =>
    refine .base ?_
    cases b with
    | non => exact .non
    | bl y => exact .bl y
    | int i => exact .int i
    | str y => exact .str y
    | flt y => exact .flt y
    | lst e => exact .lst (m _ _ e)
    | frz e => exact .frz (m _ _ e)
    | tup e => exact .tup (m _ _ e)
    | dK e => exact .dK (m _ _ e)
    | dT e => exact .dT (m _ _ e)
    | ins e a b c d f => exact .ins (m _ _ e) a b c d f
  | byt b => exact .byt b
  | set e => exact .set (m _ _ e)
  | kList e c => exact .kList e c
  | kTuple e c => exact .kTuple e c
  | kDict e c => exact .kDict e c
  | fTuple e => exact .fTuple (m _ _ e)
  | fDict e => exact .fDict (m _ _ e)
theorem NoStr.sm {K : PySem.W.Frag} {H H2 : Hp} {x : V} (h : NoStr K H x) (m : Sm H H2) : NoStr K H2 x := by
  obtain ⟨t, ty, k⟩ := h
  exact ⟨t, tyx_sm ty m, k⟩
def spStand (K : PySem.W.Frag) : Sp := fun vs H Q _ => ∃ x : V, vs = [x] ∧ ((∃ (a : Addr) (xs : List V), x = .ref a ∧ Sv K H a xs ∧ xs.length ≤ 1000 ∧ (∀ y ∈ xs, Itm K H y) ∧ ∀ H', Sm H H' → Q (.bl (standB xs)) H') ∨ (NoSq K H x ∧ ∀ H', Sm H H' → Q (.bl false) H'))
abbrev nStand : List Str := ["value", "name"]
theorem scStand : FnScope nStand ["value"] (defScope (top 21)) := ⟨rfl, rfl, rfl, by decide +kernel, rfl, by decide +kernel, by decide +kernel⟩
section
variable {P : Program} {w : World} {K : PySem.W.Frag} {mg : Str → Option Value} {base : Heap} {f fI fF : Addr} {fd dI dF : FuncData}
theorem bI (F : FnP K "is_name" (top 9) fI dI) : Binds K dI ["value"] [] := F.bindsN fun _ _ _ _ _ _ us hl => match us, hl with
  | [_], _ => rfl
theorem bF (F : FnP K "are_different" (top 11) fF dF) : Binds K dF ["names"] [] := F.bindsN fun _ _ _ _ _ _ us hl => match us, hl with
  | [_], _ => rfl
theorem ok_stand (F : FnP K "are_standings" (top 21) f fd) (mi : mg "isinstance" = none) (mL : mg "list" = none) (mT : mg "tuple" = none) (ml : mg "len" = none) (ma : mg "all" = none)
    (GI : FnOk P w K mg base CX0 1 fI dI ["value"] (spIsName K)) (FI : FnP K "is_name" (top 9) fI dI) (gI : mg "is_name" = some (.ref fI)) (GF : FnOk P w K mg base CX0 1 fF dF ["names"] (spDiff K)) (FF : FnP K "are_different" (top 11) fF dF) (gF : mg "are_different" = some (.ref fF)) :
    FnOk P w K mg base CX0 2 f fd ["value"] (spStand K) := by
  refine F.ok (CX := CX0) scStand (fun vs H Q E h => ?_) (fun cdv A outer s H vs Q E hr h => ?_)
  · obtain ⟨x, rfl, _⟩ := h
    rfl
  · refine ⟨_, PSs.nox (pss_cons (ps_if (PW.pt (pw_or (pt_not (pt_val (by exact (pe_callB call_isiT rfl mi PyProof.Rows.boot_isinstance (pa_cons (pv 0) (pa_cons (by exact (pe_tup (pa_cons (pe_bltn (v := .ty "list") rfl mL (by decide +kernel) rfl) (pa_cons (pe_bltn (v := .ty "tuple") rfl mT (by decide +kernel) rfl) pa_nil)))) pa_nil))))))
        (pw_or1 (pt_not (pt_chain op_le op_le pe_int (by exact (pe_callB call_len rfl ml boot_len (pa_cons (pv 0) pa_nil))) pe_int))))) (pss_one (ps_ret pe_bl)) pss_nil)
      (pss_one (ps_ret (by exact (pe_and (by exact (pe_callB (cr_all rfl) rfl ma PyProof.Rows.boot_all (pa_cons (by exact (pe_lc (own := [("name", 1)]) (g := gName 1) (tt := tYes) (te := tCall (spIsName K) [] E0 (tCons (tVar 1) tNil)) rfl scStand.nd (pi_seq (pv 0))
        (blkOk_by (N := nStand) (sc := defScope (top 21)) (by decide +kernel)) (fun _ _ _ _ _ => pg_name (i := 1) scStand.nd rfl (Or.inl rfl)) (fun _ _ _ _ _ => pts_nil) (fun _ _ _ _ _ => by exact (pe_call GI hr rfl gI FI.kp (bI FI) .nil pass0 (pa_cons (by exact (pv 1)) pa_nil))))) pa_nil)))
        (pe_one (by exact (pe_call GF hr rfl gF FF.kp (bF FF) .nil pass0 (pa_cons (pv 0) pa_nil))))))))), ?_⟩
    obtain ⟨x, rfl, h⟩ := h
    have c2 : 2 ≤ sizeLine := by
      rw [sizeLine_eq]
      omega
    have pr : Paired ClsV [V.ty "list", V.ty "tuple"] [Value.type "list", Value.type "tuple"] := .cons (.ty _) (.cons (.ty _) .nil)
    rcases h with ⟨a, xs, rfl, hs, hl, hi, q⟩ | ⟨⟨t, ty, k1, k2⟩, q⟩
    · obtain ⟨t, ty, et⟩ := sv_is hs
      have kk : PySem.W.kitAny K (.type t) [.type "list", .type "tuple"] = some true := by
        rcases et with rfl | rfl
        · exact kitAny_cons (b := true) (kit_ty (by decide +kernel)) (fun z => nomatch z) fun _ => rfl
        · exact kitAny_cons (b := false) (kit_ty (by decide +kernel)) (fun _ => kitAny_cons (b := true) (kit_ty (by decide +kernel)) (fun z => nomatch z) fun _ => rfl) fun z => nomatch z
      refine ⟨_, rfl, c2, fun T nT => ⟨.ref a, T, _, .type t, _, true, rfl, upd_same, pr, tyx_new ty nT, kk, _, rfl, ?_⟩⟩
      have m1 := Sm.new (o := .tup [.ty "list", .ty "tuple"]) nT
      generalize upd H T (.tup [.ty "list", .ty "tuple"]) = G at m1 ⊢
      have hs := Sv.sm hs m1
      refine iteF ⟨_, rfl, .ref a, xs.length, rfl, Sv.len hs, _, _, rfl, rfl, _, rfl, ?_⟩
      have bad : ¬(1 ≤ xs.length ∧ xs.length ≤ 9) → standB xs = false := fun z => by
        unfold standB
        rw [decide_eq_false z]
        rfl
      by_cases c1 : (1 : Int) ≤ (xs.length : Nat)
      · rw [decide_eq_true c1]
        refine iteT ⟨_, _, rfl, rfl, _, rfl, ?_⟩
        by_cases c9 : ((xs.length : Nat) : Int) ≤ 9
        · rw [decide_eq_true c9]
          have good : standB xs = (xs.all nameB && decide xs.Nodup) := by
            unfold standB
            rw [decide_eq_true (by omega), Bool.true_and]
          rw [good] at q
          refine iteF ⟨_, rfl, a, xs, rfl, ?_⟩
          refine lc_sv (fv := fun j => .bl (nameB (xs.getD j .non))) hs hl (fun _ => rfl) (fun j y H2 Q ey s2 qq => ?_) fun D H2 m nD ed => ?_
          · have z2 := qq
            rw [List.getD_eq_getElem?_getD, ey] at z2
            refine ⟨_, rfl, y, rfl, ?_⟩
            rcases hi y (List.mem_of_getElem? ey) with ⟨z, rfl, zl⟩ | ns
            · exact .inl ⟨z, rfl, zl, fun H4 m4 => z2 H4 m4⟩
            · have e0 := NoStr.name ns
              refine .inr ⟨NoStr.sm (NoStr.sm ns m1) s2, ?_⟩
              have z3 := z2 H2 (Sm.refl _)
              rw [show nameB ((some y).getD .non) = nameB y from rfl, e0] at z3
              exact z3
          · refine ⟨D, (List.range xs.length).map fun j => nameB (xs.getD j .non), rfl, .inl (.inl (by rw [ed, List.map_map]; rfl)), _, rfl, ?_⟩
            rw [all_rangeV (p := nameB)]
            by_cases ca : xs.all nameB = true
            · obtain ⟨ws, ew, _⟩ := names_all ca
              rw [ca, Bool.true_and] at q
              rw [ca]
              refine iteT ⟨_, rfl, a, ws, rfl, ew ▸ Sv.sm hs m, by rw [ew, List.length_map] at hl; exact hl, ?_⟩
              have q := q H2 (Sm.trans m1 m)
              rw [ew, decide_eq_decide.mpr nodup_strs] at q
              exact q
            · rw [Bool.not_eq_true] at ca
              rw [ca, Bool.false_and] at q
              rw [ca]
              exact iteF (q H2 (Sm.trans m1 m))
        · rw [decide_eq_false c9]
          rw [bad (by omega)] at q
          exact iteT (q _ m1)
      · rw [decide_eq_false c1]
        rw [bad (by omega)] at q
        exact iteF ⟨_, rfl, iteT (q _ m1)⟩
    · have kk : PySem.W.kitAny K t [.type "list", .type "tuple"] = some false := kitAny_cons (b := false) k1 (fun _ => kitAny_cons (b := false) k2 (fun _ => rfl) fun z => nomatch z) fun z => nomatch z
      refine ⟨_, rfl, c2, fun T nT => ⟨x, T, _, t, _, false, rfl, upd_same, pr, tyx_new ty nT, kk, _, rfl, ?_⟩⟩
      exact iteT (iteT (q _ (Sm.new nT)))
end
end Dk
set_option Elab.async false
set_option linter.all false
set_option maxRecDepth 100000
set_option maxHeartbeats 4000000
namespace Dk
open PySem PySem.Spec PyProof.Rows L2 Er
/-! ### walks over the values of a dict; is_lead, are_sights -/
theorem lc_vals {d : Addr} {o : Obj} {kvs : List (Key × V)} {te : TE} {fv : Nat → V} {σ : L2.St} {i : Nat} {H1 : Hp} {Q : Addr → Hp → Prop} (hd : H1 d = some (.frz o (.dK kvs))) (hn : kvs.length ≤ 1000) (w1 : ∀ v, wipe ((wipe σ [i]).set i (some v)) [i] = wipe σ [i])
    (ev : ∀ (j : Nat) (x : V) (H2 : Hp) (Q : VK), (kvs.map (·.2))[j]? = some x → Sm H1 H2 → (∀ H4, Sm H2 H4 → Q (fv j) H4) → te ((wipe σ [i]).set i (some x)) H2 Q)
    (q : ∀ (D : Addr) (H2 : Hp), Sm H1 H2 → H1 D = none → H2 D = some (.lst ((List.range kvs.length).map fv)) → Q D H2) : LcR te σ i H1 Q (Itd d o kvs) := by
  refine lc_map walk_values hn (fun H2 m => m _ _ hd) w1 (fun j H2 x H3 _ y => by rw [y.1]; exact Sm.refl _) (fun j x H2 H3 Q hj s2 y s3 qq => ?_) q
  obtain ⟨rfl, k, ex⟩ := y
  exact ev j x _ Q (by rw [List.getElem?_map, ex]; rfl) s2 qq
theorem tyx_lock {K : PySem.W.Frag} {H : Hp} {x : V} {t : Value} {d : Addr} {kvs : List (Key × V)} (o : Obj) (h : TyX K H x t) (hd : H d = some (.dK kvs)) : TyX K (upd H d (.frz o (.dK kvs))) x t := by
  have keep : ∀ {a : Addr} {u : HO}, H a = some u → u ≠ .dK kvs → upd H d (.frz o (.dK kvs)) a = some u := fun {a u} e n => by
    rw [upd_ne (fun z => n (by rw [z, hd] at e; exact (Option.some.inj e).symm))]
    exact e
  cases h with
  | base b =>
    cases b with
    | non => exact .base .non
    | bl y => exact .base (.bl y)
    | int i => exact .base (.int i)
    | str y => exact .base (.str y)
    | flt y => exact .base (.flt y)
    | lst e => exact .base (.lst (keep e (fun z => nomatch z)))
    | frz e => exact .base (.frz (keep e (fun z => nomatch z)))
    | tup e => exact .base (.tup (keep e (fun z => nomatch z)))
    | @dK a ks e =>
      by_cases c : a = d
      · subst c
        exact .fDict upd_same
      · exact .base (.dK (by rw [upd_ne c]; exact e))
    | dT e => exact .base (.dT (keep e (fun z => nomatch z)))
    | ins e a b c d f => exact .base (.ins (keep e (fun z => nomatch z)) a b c d f)
  | byt b => exact .byt b
  | set e => exact .set (keep e (fun z => nomatch z))
  | kList e c => exact .kList e c
  | kTuple e c => exact .kTuple e c
  | kDict e c => exact .kDict e c
  | fTuple e => exact .fTuple (keep e (fun z => nomatch z))
  | fDict e => exact .fDict (keep e (fun z => nomatch z))
theorem NoStr.lock {K : PySem.W.Frag} {H : Hp} {x : V} {d : Addr} {kvs : List (Key × V)} (o : Obj) (h : NoStr K H x) (hd : H d = some (.dK kvs)) : NoStr K (upd H d (.frz o (.dK kvs))) x := by
  obtain ⟨t, ty, k⟩ := h
  exact ⟨t, tyx_lock o ty hd, k⟩
theorem Sq.lock {K : PySem.W.Frag} {H : Hp} {a : Addr} {ws : List Str} {d : Addr} {kvs : List (Key × V)} (o : Obj) (h : Sq K H a ws) (hd : H d = some (.dK kvs)) : Sq K (upd H d (.frz o (.dK kvs))) a ws := by
  have keep : ∀ {u : HO}, H a = some u → u ≠ .dK kvs → upd H d (.frz o (.dK kvs)) a = some u := fun {u} e n => by
    rw [upd_ne (fun z => n (by rw [z, hd] at e; exact (Option.some.inj e).symm))]
    exact e
  rcases h with ((h | ⟨p, h⟩) | h) | ((h | ⟨p, h⟩) | h)
  · exact .inl (.inl (.inl (keep h (fun z => nomatch z))))
  · exact .inl (.inl (.inr ⟨p, keep h (fun z => nomatch z)⟩))
  · exact .inl (.inr h)
  · exact .inr (.inl (.inl (keep h (fun z => nomatch z))))
  · exact .inr (.inl (.inr ⟨p, keep h (fun z => nomatch z)⟩))
  · exact .inr (.inr h)
theorem sm_unlock {H H1 : Hp} {d : Addr} {u : HO} {o : Obj} (hd : H d = some u) (m : Sm (upd H d (.frz o u)) H1) : Sm H (upd H1 d u) := fun b v e => by
  by_cases c : b = d
  · subst c
    rw [hd] at e
    rw [upd_same]
    exact e
  · rw [upd_ne c]
    exact m b v (by rw [upd_ne c]; exact e)
def oneB (ws : List Str) : V → Bool
  | .str z => decide (z ∈ ws)
  | _ => false
theorem NoStr.one {K : PySem.W.Frag} {H : Hp} {v : V} (ws : List Str) (h : NoStr K H v) : oneB ws v = false := by
  have e := NoStr.name h
  cases v with
  | str z =>
    obtain ⟨t, ty, k⟩ := h
    cases ty with
    | base b =>
      cases b
      rw [show PySem.W.kitOne K (.type "str") (.type "str") = some true from kit_ty (by decide +kernel)] at k
      cases k
  | _ => rfl
def leadB (kvs : List (Key × V)) (ws : List Str) : Bool := tableB kvs ws && (kvs.map (·.2)).all (oneB ws)
def sightB (kvs : List (Key × V)) (ws : List Str) : Bool := tableB kvs ws && (kvs.map (·.2)).all nameB
/-- a table or no table, whose keys are some names -/
def spTab (K : PySem.W.Frag) (B : List (Key × V) → List Str → Bool) : Sp := fun vs H Q _ => ∃ (x : V) (k : Addr) (ws : List Str), vs = [x, .ref k] ∧ Sq K H k ws ∧ ws.length ≤ 1000 ∧
  ((∃ (d : Addr) (kvs : List (Key × V)), x = .ref d ∧ H d = some (.dK kvs) ∧ kvs.length ≤ 1000 ∧ (∀ y ∈ kvs.map (·.2), Itm K H y) ∧ ∀ H', Sm H H' → Q (.bl (B kvs ws)) H') ∨ (NoDict K H x ∧ ∀ H', Sm H H' → Q (.bl false) H'))
abbrev nLead : List Str := ["value", "standings", "target"]
theorem scLead : FnScope nLead ["value", "standings"] (defScope (top 23)) := ⟨rfl, rfl, rfl, by decide +kernel, rfl, by decide +kernel, by decide +kernel⟩
abbrev nAreS : List Str := ["value", "standings", "sight"]
theorem scAreS : FnScope nAreS ["value", "standings"] (defScope (top 24)) := ⟨rfl, rfl, rfl, by decide +kernel, rfl, by decide +kernel, by decide +kernel⟩
section
variable {P : Program} {w : World} {K : PySem.W.Frag} {mg : Str → Option Value} {base : Heap} {f fI fT fO : Addr} {fd dI dT dO : FuncData}
theorem bTb (F : FnP K "is_table" (top 12) fT dT) : Binds K dT ["value", "keys"] [] := F.bindsN fun _ _ _ _ _ _ us hl => match us, hl with
  | [_, _], _ => rfl
theorem bO (F : FnP K "is_one_of" (top 10) fO dO) : Binds K dO ["value", "names"] [] := F.bindsN fun _ _ _ _ _ _ us hl => match us, hl with
  | [_, _], _ => rfl
theorem ok_lead (F : FnP K "is_lead" (top 23) f fd) (ma : mg "all" = none)
    (GT : FnOk P w K mg base CX0 1 fT dT ["value", "keys"] (spTable K)) (FT : FnP K "is_table" (top 12) fT dT) (gT : mg "is_table" = some (.ref fT)) (GO : FnOk P w K mg base CX0 1 fO dO nOneOf (spOneOf K)) (FO : FnP K "is_one_of" (top 10) fO dO) (gO : mg "is_one_of" = some (.ref fO)) :
    FnOk P w K mg base CX0 2 f fd ["value", "standings"] (spTab K leadB) := by
  refine F.ok (CX := CX0) scLead (fun vs H Q E h => ?_) (fun cdv A outer s H vs Q E hr h => ?_)
  · obtain ⟨x, k, ws, rfl, _⟩ := h
    rfl
  · refine ⟨_, PSs.nox (pss_cons (ps_if (pt_not (pt_val (by exact (pe_call GT hr rfl gT FT.kp (bTb FT) .nil pass0 (pa_cons (pv 0) (pa_cons (pv 1) pa_nil)))) (fun _ => rfl))) (pss_one (ps_ret pe_bl)) pss_nil)
      (pss_one (ps_ret (by exact (pe_callB (cr_all rfl) rfl ma PyProof.Rows.boot_all (pa_cons (pe_lock (by exact (pe_lc (own := [("target", 2)]) (g := gName 2) (tt := tYes) (te := tCall (spOneOf K) [] E0 (tCons (tVar 2) (tCons (tVar 1) tNil))) rfl scLead.nd (pi_values (pv 0))
        (blkOk_by (N := nLead) (sc := defScope (top 23)) (by decide +kernel)) (fun _ _ _ _ _ => pg_name (i := 2) scLead.nd rfl (Or.inl rfl)) (fun _ _ _ _ _ => pts_nil) (fun _ _ _ _ _ => by exact (pe_call GO hr rfl gO FO.kp (bO FO) .nil pass0 (pa_cons (by exact (pv 2)) (pa_cons (by exact (pv 1)) pa_nil))))))) pa_nil)))))), ?_⟩
    obtain ⟨x, k, ws, rfl, hk, kl, h⟩ := h
    refine ⟨_, rfl, _, rfl, x, k, ws, rfl, hk, kl, ?_⟩
    rcases h with ⟨d, kvs, rfl, hd, dl, hi, q⟩ | ⟨nd, q⟩
    · refine .inl ⟨d, kvs, rfl, hd, fun H1 m1 => ⟨_, rfl, ?_⟩⟩
      by_cases c : tableB kvs ws = true
      · rw [c]
        have hd1 := m1 _ _ hd
        refine iteF ⟨d, .dK kvs, hd1, True.intro, fun od => ⟨_, rfl, d, od, kvs, rfl, upd_same, ?_⟩⟩
        have hk1 := Sq.lock od (Sq.sm hk m1) hd1
        refine lc_vals (fv := fun j => .bl (oneB ws ((kvs.map (·.2)).getD j .non))) upd_same dl (fun _ => rfl) (fun j y H2 Q ey s2 qq => ?_) fun D H2 m nD ed => ?_
        · have z2 := qq H2 (Sm.refl _)
          rw [List.getD_eq_getElem?_getD, ey] at z2
          refine ⟨_, rfl, _, rfl, y, k, rfl, ?_⟩
          rcases hi y (List.mem_of_getElem? ey) with ⟨z, rfl, zl⟩ | ns
          · exact .inl ⟨z, ws, rfl, by rcases Sq.sm hk1 s2 with a | a; exact .inl a; exact .inr (.inl a), z2⟩
          · refine .inr ⟨NoStr.sm (NoStr.lock od (NoStr.sm ns m1) hd1) s2, ?_⟩
            rw [show oneB ws ((some y).getD .non) = oneB ws y from rfl, NoStr.one ws ns] at z2
            exact z2
        · refine ⟨m _ _ upd_same, D, (List.range kvs.length).map fun j => oneB ws ((kvs.map (·.2)).getD j .non), rfl, ?_, ?_⟩
          · have nd : D ≠ d := fun z => by
              rw [z, upd_same] at nD
              cases nD
            exact .inl (.inl (by rw [upd_ne nd, ed, List.map_map]; rfl))
          · have e : ((List.range kvs.length).map fun j => oneB ws ((kvs.map (·.2)).getD j .non)).all id = leadB kvs ws := by
              have := all_rangeV (xs := kvs.map (·.2)) (p := oneB ws)
              rw [List.length_map] at this
              rw [this]
              unfold leadB
              rw [c, Bool.true_and]
            rw [e]
            exact q _ (Sm.trans m1 (sm_unlock hd1 m))
      · rw [Bool.not_eq_true] at c
        have q := q H1 m1
        unfold leadB at q
        rw [c, Bool.false_and] at q
        rw [c]
        exact iteT q
    · exact .inr ⟨nd, _, rfl, iteT (q H (Sm.refl H))⟩
theorem ok_areS (F : FnP K "are_sights" (top 24) f fd) (ma : mg "all" = none)
    (GT : FnOk P w K mg base CX0 1 fT dT ["value", "keys"] (spTable K)) (FT : FnP K "is_table" (top 12) fT dT) (gT : mg "is_table" = some (.ref fT)) (GI : FnOk P w K mg base CX0 1 fI dI ["value"] (spIsName K)) (FI : FnP K "is_name" (top 9) fI dI) (gI : mg "is_name" = some (.ref fI)) :
    FnOk P w K mg base CX0 2 f fd ["value", "standings"] (spTab K sightB) := by
  refine F.ok (CX := CX0) scAreS (fun vs H Q E h => ?_) (fun cdv A outer s H vs Q E hr h => ?_)
  · obtain ⟨x, k, ws, rfl, _⟩ := h
    rfl
  · refine ⟨_, PSs.nox (pss_one (ps_ret (by exact (pe_and (by exact (pe_call GT hr rfl gT FT.kp (bTb FT) .nil pass0 (pa_cons (pv 0) (pa_cons (pv 1) pa_nil)))) (pe_one (by exact (pe_callB (cr_all rfl) rfl ma PyProof.Rows.boot_all (pa_cons (pe_lock (by exact (pe_lc (own := [("sight", 2)]) (g := gName 2) (tt := tYes) (te := tCall (spIsName K) [] E0 (tCons (tVar 2) tNil)) rfl scAreS.nd (pi_values (pv 0))
        (blkOk_by (N := nAreS) (sc := defScope (top 24)) (by decide +kernel)) (fun _ _ _ _ _ => pg_name (i := 2) scAreS.nd rfl (Or.inl rfl)) (fun _ _ _ _ _ => pts_nil) (fun _ _ _ _ _ => by exact (pe_call GI hr rfl gI FI.kp (bI FI) .nil pass0 (pa_cons (by exact (pv 2)) pa_nil)))))) pa_nil)))))))), ?_⟩
    obtain ⟨x, k, ws, rfl, hk, kl, h⟩ := h
    refine ⟨_, rfl, _, rfl, x, k, ws, rfl, hk, kl, ?_⟩
    rcases h with ⟨d, kvs, rfl, hd, dl, hi, q⟩ | ⟨nd, q⟩
    · refine .inl ⟨d, kvs, rfl, hd, fun H1 m1 => ⟨_, rfl, ?_⟩⟩
      by_cases c : tableB kvs ws = true
      · rw [c]
        have hd1 := m1 _ _ hd
        refine iteT ⟨d, .dK kvs, hd1, True.intro, fun od => ⟨_, rfl, d, od, kvs, rfl, upd_same, ?_⟩⟩
        refine lc_vals (fv := fun j => .bl (nameB ((kvs.map (·.2)).getD j .non))) upd_same dl (fun _ => rfl) (fun j y H2 Q ey s2 qq => ?_) fun D H2 m nD ed => ?_
        · have z2 := qq
          rw [List.getD_eq_getElem?_getD, ey] at z2
          refine ⟨_, rfl, y, rfl, ?_⟩
          rcases hi y (List.mem_of_getElem? ey) with ⟨z, rfl, zl⟩ | ns
          · exact .inl ⟨z, rfl, zl, fun H4 m4 => z2 H4 m4⟩
          · refine .inr ⟨NoStr.sm (NoStr.lock od (NoStr.sm ns m1) hd1) s2, ?_⟩
            have z3 := z2 H2 (Sm.refl _)
            rw [show nameB ((some y).getD .non) = nameB y from rfl, NoStr.name ns] at z3
            exact z3
        · refine ⟨m _ _ upd_same, D, (List.range kvs.length).map fun j => nameB ((kvs.map (·.2)).getD j .non), rfl, ?_, ?_⟩
          · have nd : D ≠ d := fun z => by
              rw [z, upd_same] at nD
              cases nD
            exact .inl (.inl (by rw [upd_ne nd, ed, List.map_map]; rfl))
          · have e : ((List.range kvs.length).map fun j => nameB ((kvs.map (·.2)).getD j .non)).all id = sightB kvs ws := by
              have := all_rangeV (xs := kvs.map (·.2)) (p := nameB)
              rw [List.length_map] at this
              rw [this]
              unfold sightB
              rw [c, Bool.true_and]
            rw [e]
            exact q _ (Sm.trans m1 (sm_unlock hd1 m))
      · rw [Bool.not_eq_true] at c
        have q := q H1 m1
        unfold sightB at q
        rw [c, Bool.false_and] at q
        rw [c]
        exact iteF q
    · exact .inr ⟨nd, _, rfl, iteF (q H (Sm.refl H))⟩
end
end Dk
set_option Elab.async false
set_option linter.all false
set_option maxRecDepth 100000
set_option maxHeartbeats 4000000
namespace Dk
open PySem PySem.Spec PyProof.Rows L2 Er
/-! ### are_deeds -/
theorem pair_at {α β : Type} {F : α → β → Prop} : ∀ {ps : List α} {qs : List β}, Paired F ps qs → ∀ {j : Nat} {p : α}, ps[j]? = some p → ∃ q, qs[j]? = some q ∧ F p q
  | _, _, .nil, j, p, e => by cases e
  | _, _, .cons a t, 0, p, e => by
    have e2 := Option.some.inj e
    subst e2
    exact ⟨_, rfl, a⟩
  | _, _, .cons a t, j + 1, p, e => pair_at t (j := j) e
theorem paired_len {α β : Type} {F : α → β → Prop} {ps : List α} {qs : List β} (h : Paired F ps qs) : ps.length = qs.length := by
  induction h with
  | nil => rfl
  | cons a _ ih => rw [List.length_cons, List.length_cons, ih]
theorem valV_of : ∀ {kvs : List (Key × V)} {j : Nat} {k : Key} {v : V}, (kvs.map (·.1)).Nodup → kvs[j]? = some (k, v) → valV kvs k = some v
  | [], _, _, _, _, e => by cases e
  | (k0, v0) :: kvs, 0, k, v, _, e => by
    have e2 := Option.some.inj e
    cases e2
    unfold valV
    rw [List.find?_cons_of_pos (by simp)]
    rfl
  | (k0, v0) :: kvs, j + 1, k, v, nd, e => by
    have e2 : kvs[j]? = some (k, v) := e
    have nd2 := List.nodup_cons.mp nd
    have ne : k0 ≠ k := fun z => nd2.1 (z ▸ List.mem_map.mpr ⟨_, List.mem_of_getElem? e2, rfl⟩)
    have ih := valV_of nd2.2 e2
    unfold valV at ih ⊢
    rw [List.find?_cons_of_neg (by simpa using ne)]
    exact ih
/-- a value of a dict of deeds: a dict, or something that is none -/
def TabAt (K : PySem.W.Frag) (H : Hp) (d : Addr) (v : V) : Option (List (Key × V)) → Prop
  | some ks => ∃ e, v = .ref e ∧ e ≠ d ∧ H e = some (.dK ks) ∧ ks.length ≤ 1000 ∧ ∀ y ∈ ks.map (·.2), Itm K H y
  | none => NoDict K H v
def entB (ws : List Str) (kv : Key × V) (t : Option (List (Key × V))) : Bool := nameB (kV kv.1) && (match t with
  | some ks => leadB ks ws
  | none => false)
def deedB (kvs : List (Key × V)) (tabs : List (Option (List (Key × V)))) (ws : List Str) : Bool := decide (1 ≤ kvs.length ∧ kvs.length ≤ 4) && ((kvs.zip tabs).map fun p => entB ws p.1 p.2).all id
def spDeeds (K : PySem.W.Frag) : Sp := fun vs H Q _ => ∃ (x : V) (k : Addr) (ws : List Str), vs = [x, .ref k] ∧ Sq K H k ws ∧ ws.length ≤ 1000 ∧
  ((∃ (d : Addr) (kvs : List (Key × V)) (tabs : List (Option (List (Key × V)))), x = .ref d ∧ H d = some (.dK kvs) ∧ kvs.length ≤ 1000 ∧ (kvs.map (·.1)).Nodup ∧ (∀ kv ∈ kvs, ∀ z, kv.1 = .inr z → z.length ≤ 1000) ∧ Paired (fun kv t => TabAt K H d kv.2 t) kvs tabs ∧ ∀ H', Sm H H' → Q (.bl (deedB kvs tabs ws)) H') ∨
    (NoDict K H x ∧ ∀ H', Sm H H' → Q (.bl false) H'))
abbrev nDeeds : List Str := ["value", "standings", "name"]
theorem scDeeds : FnScope nDeeds ["value", "standings"] (defScope (top 22)) := ⟨rfl, rfl, rfl, by decide +kernel, rfl, by decide +kernel, by decide +kernel⟩
theorem range_bools (bs : List Bool) : ((List.range bs.length).map fun j => bs.getD j false) = bs := by
  refine List.ext_getElem (by simp) fun j h1 h2 => ?_
  rw [List.getElem_map, List.getElem_range, List.getD_eq_getElem?_getD, List.getElem?_eq_getElem h2]
  rfl
theorem Itm.sm {K : PySem.W.Frag} {H H2 : Hp} {x : V} (h : Itm K H x) (m : Sm H H2) : Itm K H2 x := by
  rcases h with h | h
  · exact .inl h
  · exact .inr (NoStr.sm h m)
theorem Itm.lock {K : PySem.W.Frag} {H : Hp} {x : V} {d : Addr} {kvs : List (Key × V)} (o : Obj) (h : Itm K H x) (hd : H d = some (.dK kvs)) : Itm K (upd H d (.frz o (.dK kvs))) x := by
  rcases h with h | h
  · exact .inl h
  · exact .inr (NoStr.lock o h hd)
theorem NoDict.sm {K : PySem.W.Frag} {H H2 : Hp} {x : V} (h : NoDict K H x) (m : Sm H H2) : NoDict K H2 x := by
  obtain ⟨t, ty, k⟩ := h
  exact ⟨t, tyx_sm ty m, k⟩
theorem NoDict.lock {K : PySem.W.Frag} {H : Hp} {x : V} {d : Addr} {kvs : List (Key × V)} (o : Obj) (h : NoDict K H x) (hd : H d = some (.dK kvs)) : NoDict K (upd H d (.frz o (.dK kvs))) x := by
  obtain ⟨t, ty, k⟩ := h
  exact ⟨t, tyx_lock o ty hd, k⟩
section
variable {P : Program} {w : World} {K : PySem.W.Frag} {mg : Str → Option Value} {base : Heap} {f fI fL : Addr} {fd dI dL : FuncData}
theorem bLd (F : FnP K "is_lead" (top 23) fL dL) : Binds K dL ["value", "standings"] [] := F.bindsN fun _ _ _ _ _ _ us hl => match us, hl with
  | [_, _], _ => rfl
theorem ok_deeds (F : FnP K "are_deeds" (top 22) f fd) (mi : mg "isinstance" = none) (md : mg "dict" = none) (ml : mg "len" = none) (ma : mg "all" = none)
    (GI : FnOk P w K mg base CX0 1 fI dI ["value"] (spIsName K)) (FI : FnP K "is_name" (top 9) fI dI) (gI : mg "is_name" = some (.ref fI)) (GL : FnOk P w K mg base CX0 2 fL dL ["value", "standings"] (spTab K leadB)) (FL : FnP K "is_lead" (top 23) fL dL) (gL : mg "is_lead" = some (.ref fL)) :
    FnOk P w K mg base CX0 3 f fd ["value", "standings"] (spDeeds K) := by
  refine F.ok (CX := CX0) scDeeds (fun vs H Q E h => ?_) (fun cdv A outer s H vs Q E hr h => ?_)
  · obtain ⟨x, k, ws, rfl, _⟩ := h
    rfl
  · have hr1 := hr.mono (show 1 ≤ 2 by decide)
    refine ⟨_, PSs.nox (pss_cons (ps_if (PW.pt (pw_or (pt_not (pt_val (by exact (pe_callB call_isi rfl mi PyProof.Rows.boot_isinstance (pa_cons (pv 0) (pa_cons (pe_bltn (v := .ty "dict") rfl md (by decide +kernel) rfl) pa_nil))))))
        (pw_or1 (pt_not (pt_chain op_le op_le pe_int (by exact (pe_callB call_lenD rfl ml boot_len (pa_cons (pv 0) pa_nil))) pe_int))))) (pss_one (ps_ret pe_bl)) pss_nil)
      (pss_one (ps_ret (by exact (pe_callB (cr_all rfl) rfl ma PyProof.Rows.boot_all (pa_cons (pe_lock (by exact (pe_lc (own := [("name", 2)]) (g := gName 2) (tt := tYes) (te := tAndV (tCall (spIsName K) [] E0 (tCons (tVar 2) tNil)) (tCall (spTab K leadB) [] E0 (tCons (tDGet (tVar 0) (tVar 2)) (tCons (tVar 1) tNil)))) rfl scDeeds.nd (pi_keys (pv 0))
        (blkOk_by (N := nDeeds) (sc := defScope (top 22)) (by decide +kernel)) (fun _ _ _ _ _ => pg_name (i := 2) scDeeds.nd rfl (Or.inl rfl)) (fun _ _ _ _ _ => pts_nil)
        (fun _ _ _ _ _ => by exact (pe_and (by exact (pe_call GI hr1 rfl gI FI.kp (bI FI) .nil pass0 (pa_cons (by exact (pv 2)) pa_nil))) (pe_one (by exact (pe_call GL hr rfl gL FL.kp (bLd FL) .nil pass0 (pa_cons (by exact (pe_dget (hu_of hr) (by exact (pv 0)) (by exact (pv 2)) (fun _ _ => rfl))) (pa_cons (by exact (pv 1)) pa_nil)))))))))) pa_nil)))))), ?_⟩
    obtain ⟨x, k, ws, rfl, hk, kl, h⟩ := h
    rcases h with ⟨d, kvs, tabs, rfl, hd, dl, nd, zl, pr, q⟩ | ⟨⟨t, ty, kk⟩, q⟩
    · refine ⟨_, rfl, .ref d, .ty "dict", _, _, true, rfl, .ty "dict", .base (.dK hd), kit_ty (by decide +kernel), _, rfl, ?_⟩
      refine iteF ⟨_, rfl, d, kvs, rfl, hd, _, _, rfl, rfl, _, rfl, ?_⟩
      have bad : ¬(1 ≤ kvs.length ∧ kvs.length ≤ 4) → deedB kvs tabs ws = false := fun z => by
        unfold deedB
        rw [decide_eq_false z]
        rfl
      by_cases c1 : (1 : Int) ≤ (kvs.length : Nat)
      · rw [decide_eq_true c1]
        refine iteT ⟨_, _, rfl, rfl, _, rfl, ?_⟩
        by_cases c4 : ((kvs.length : Nat) : Int) ≤ 4
        · rw [decide_eq_true c4]
          have tl : tabs.length = kvs.length := (paired_len pr).symm
          have bl : ((kvs.zip tabs).map fun p => entB ws p.1 p.2).length = kvs.length := by
            rw [List.length_map, List.length_zip]
            omega
          have good : deedB kvs tabs ws = ((kvs.zip tabs).map fun p => entB ws p.1 p.2).all id := by
            unfold deedB
            rw [decide_eq_true (by omega), Bool.true_and]
          rw [good] at q
          refine iteF ⟨d, .dK kvs, hd, True.intro, fun od => ⟨_, rfl, d, od, rfl, .inl ⟨kvs, upd_same, ?_⟩⟩⟩
          have hk1 := Sq.lock od hk hd
          refine lc_map walk_keys (fv := fun j => .bl (((kvs.zip tabs).map fun p => entB ws p.1 p.2).getD j false)) dl (fun H2 m => m _ _ upd_same) (fun _ => rfl) (fun j H2 x H3 _ y => by rw [y.1]; exact Sm.refl _) (fun j x H2 H3 Q hj s2 y s3 qq => ?_) fun D H2 m nD ed => ?_
          · obtain ⟨rfl, kx, v, ekv, rfl⟩ := y
            obtain ⟨tb, et, ht⟩ := pair_at pr ekv
            have eb : ((kvs.zip tabs).map fun p => entB ws p.1 p.2).getD j false = entB ws (kx, v) tb := by
              rw [List.getD_eq_getElem?_getD, List.getElem?_map, List.getElem?_zip_eq_some (z := ((kx, v), tb)) |>.mpr ⟨ekv, et⟩]
              rfl
            rw [eb] at qq
            refine ⟨_, rfl, kV kx, rfl, ?_⟩
            have hd2 : H3 d = some (.frz od (.dK kvs)) := s2 _ _ upd_same
            have go : ∀ H4, Sm H3 H4 → nameB (kV kx) = true → (tCall (spTab K leadB) [] E0 (tCons (tDGet (tVar 0) (tVar 2)) (tCons (tVar 1) tNil))) ((wipe (L2.start nDeeds [V.ref d, V.ref k]) [2]).set 2 (some (kV kx))) H4 Q := fun H4 m4 en => by
              refine ⟨_, rfl, _, rfl, d, v, rfl, .inl ⟨kvs, kx, .inr ⟨od, m4 _ _ hd2⟩, rfl, (valV_of nd ekv).symm⟩, _, rfl, v, k, ws, rfl, Sq.sm hk1 (Sm.trans s2 m4), kl, ?_⟩
              cases tb with
              | some ks =>
                obtain ⟨e, rfl, ned, he, kl2, hi⟩ := ht
                refine .inl ⟨e, ks, rfl, m4 _ _ (s2 _ _ (by rw [upd_ne ned]; exact he)), kl2, fun y hy => Itm.sm (Itm.lock od (hi y hy) hd) (Sm.trans s2 m4), fun H5 m5 => ?_⟩
                have z := qq H5 (Sm.trans m4 m5)
                unfold entB at z
                rw [show nameB (kV (kx, V.ref e).1) = true from en, Bool.true_and] at z
                exact z
              | none =>
                refine .inr ⟨NoDict.sm (NoDict.lock od ht hd) (Sm.trans s2 m4), fun H5 m5 => ?_⟩
                have z := qq H5 (Sm.trans m4 m5)
                unfold entB at z
                rw [Bool.and_false] at z
                exact z
            have stop : ∀ H4, Sm H3 H4 → nameB (kV kx) = false → Q (.bl false) H4 := fun H4 m4 en => by
              have z := qq H4 m4
              unfold entB at z
              rw [show nameB (kV (kx, v).1) = false from en, Bool.false_and] at z
              exact z
            cases kx with
            | inl i => exact .inr ⟨NoStr.int, _, rfl, iteF (stop H3 (Sm.refl _) rfl)⟩
            | inr z =>
              refine .inl ⟨z, rfl, zl _ (List.mem_of_getElem? ekv) z rfl, fun H4 m4 => ⟨_, rfl, ?_⟩⟩
              by_cases cz : IsWord z
              · rw [decide_eq_true cz]
                exact iteT (go H4 m4 (decide_eq_true cz))
              · rw [decide_eq_false cz]
                exact iteF (stop H4 m4 (decide_eq_false cz))
          · refine ⟨m _ _ upd_same, D, (List.range kvs.length).map fun j => ((kvs.zip tabs).map fun p => entB ws p.1 p.2).getD j false, rfl, ?_, ?_⟩
            · have nd : D ≠ d := fun z => by
                rw [z, upd_same] at nD
                cases nD
              exact .inl (.inl (by rw [upd_ne nd, ed, List.map_map]; rfl))
            · rw [← bl, range_bools]
              exact q _ (sm_unlock hd m)
        · rw [decide_eq_false c4]
          rw [bad (by omega)] at q
          exact iteT (q _ (Sm.refl _))
      · rw [decide_eq_false c1]
        rw [bad (by omega)] at q
        exact iteF ⟨_, rfl, iteT (q _ (Sm.refl _))⟩
    · refine ⟨_, rfl, x, .ty "dict", _, _, false, rfl, .ty "dict", ty, kk, _, rfl, ?_⟩
      exact iteT (iteT (q _ (Sm.refl _)))
end
end Dk
set_option Elab.async false
set_option linter.all false
set_option maxRecDepth 100000
set_option maxHeartbeats 4000000
namespace Dk
open PySem PySem.Spec PyProof.Rows L2 Er
/-! ### comprehensions of dicts -/
/-- what a dict comprehension without conditions asks of its walk -/
abbrev DcR (g : TG) (tk tv : TE) (σ : L2.St) (vs : List Nat) (H1 : Hp) (Q : Addr → Hp → Prop) (J : It) : Prop := ∀ D, H1 D = none → ∃ W : Nat → Nat → Hp → Prop, (∃ m, W 0 m (upd H1 D (.dK []))) ∧ ∀ i m H, W i m H →
      (J.stop i H ∧ Q D H) ∨ (J.go i H ∧ ∃ Nx : Hp → Prop, (∀ H', Nx H' → ∃ m', m' < m ∧ W (i + 1) m' H') ∧ ∀ x H', J.yld i H x H' → g x (wipe σ vs) H' fun σ2 H2 => wipe σ2 vs = wipe σ vs ∧ tYes σ2 H2 fun b H3 =>
        if b = true then tk σ2 H3 fun y H4 => tv σ2 H4 fun z H5 => ∃ kvs k, y = kV k ∧ H5 D = some (.dK kvs) ∧ kvs.length < sizeLine ∧ Nx (upd H5 D (.dK (putK kvs k z))) else Nx H3)
theorem dc_it {J : It} {n : Nat} {G : Hp → Prop} {Y : Nat → Hp → V → Hp → Prop} (w : Walk J n G Y) {tk tv : TE} {i : Nat} {σ : L2.St} {H1 : Hp} {Q : Addr → Hp → Prop} (w1 : ∀ v, wipe ((wipe σ [i]).set i (some v)) [i] = wipe σ [i]) (Pv : Addr → Nat → Hp → Prop)
    (h0 : ∀ D, H1 D = none → Pv D 0 (upd H1 D (.dK []))) (hG : ∀ D j H, j ≤ n → Pv D j H → G H)
    (hs : ∀ D j x H H', H1 D = none → j < n → Pv D j H → Y j H x H' → tk ((wipe σ [i]).set i (some x)) H' fun y H4 => tv ((wipe σ [i]).set i (some x)) H4 fun z H5 => ∃ kvs k, y = kV k ∧ H5 D = some (.dK kvs) ∧ kvs.length < sizeLine ∧ Pv D (j + 1) (upd H5 D (.dK (putK kvs k z))))
    (hd : ∀ D H, H1 D = none → Pv D n H → Q D H) : DcR (gName i) tk tv σ [i] H1 Q J := by
  intro D nD
  refine ⟨fun j m H => m = n - j ∧ j ≤ n ∧ Pv D j H, ⟨n, rfl, Nat.zero_le _, h0 D nD⟩, ?_⟩
  rintro j m H ⟨rfl, hj, p⟩
  have q := hG D j H hj p
  by_cases lt : j < n
  · refine .inr ⟨w.goes j H lt q, Pv D (j + 1), fun H' p2 => ⟨n - (j + 1), by omega, rfl, lt, p2⟩, fun x H' y => ⟨w1 x, ?_⟩⟩
    unfold tYes
    dsimp only
    rw [if_pos rfl]
    exact hs D j x H H' nD lt p (w.yields j H x H' lt q y)
  · have e : j = n := by omega
    subst e
    exact .inl ⟨w.stops H q, hd D H nD p⟩
/-- {x: e for x in names} -/
theorem dc_names {K : PySem.W.Frag} {a : Addr} {ws : List Str} {tv : TE} {fv : Nat → V} {σ : L2.St} {i : Nat} {H1 : Hp} {Q : Addr → Hp → Prop} (hk : Sq K H1 a ws) (nd : ws.Nodup) (hn : ws.length ≤ 1000) (w1 : ∀ v, wipe ((wipe σ [i]).set i (some v)) [i] = wipe σ [i])
    (s1 : ∀ v, ((wipe σ [i]).set i (some v))[i]? = some (some v))
    (ev : ∀ (j : Nat) (z : Str) (H2 : Hp) (Q : VK), ws[j]? = some z → Sm H1 H2 → Q (fv j) H2 → tv ((wipe σ [i]).set i (some (.str z))) H2 Q)
    (q : ∀ (D : Addr) (H2 : Hp), Sm H1 H2 → H1 D = none → H2 D = some (.dK (dkv ws ((List.range ws.length).map fv))) → Q D H2) :
    (SqL K H1 a (ws.map V.str) ∧ DcR (gName i) (tVar i) tv σ [i] H1 Q (Itl K a)) ∨ (SqT K H1 a (ws.map V.str) ∧ DcR (gName i) (tVar i) tv σ [i] H1 Q (Itt K a)) := by
  have hl : (ws.map V.str).length = ws.length := List.length_map _
  have step : ∀ (D : Addr) (j : Nat) (x : V) (H : Hp), H1 D = none → j < ws.length → (H D = some (.dK (dkv (ws.take j) ((List.range j).map fv))) ∧ Sm H1 H) → (ws.map V.str)[j]? = some x →
      (tVar i) ((wipe σ [i]).set i (some x)) H fun y H4 => tv ((wipe σ [i]).set i (some x)) H4 fun z H5 => ∃ kvs k, y = kV k ∧ H5 D = some (.dK kvs) ∧ kvs.length < sizeLine ∧ ((upd H5 D (.dK (putK kvs k z))) D = some (.dK (dkv (ws.take (j + 1)) ((List.range (j + 1)).map fv))) ∧ Sm H1 (upd H5 D (.dK (putK kvs k z)))) := by
    rintro D j x H nD hj ⟨ed, sm⟩ ex
    have ez : ws[j]? = some (ws[j]'hj) := List.getElem?_eq_getElem hj
    have e2 : x = .str (ws[j]'hj) := by
      rw [List.getElem?_map, ez] at ex
      exact (Option.some.inj ex).symm
    subst e2
    refine ⟨_, s1 _, ev j _ H _ ez sm ?_⟩
    have l1 : ((List.range j).map fv).length = (ws.take j).length := by
      rw [List.length_map, List.length_range, List.length_take]
      omega
    have tk : ws.take (j + 1) = ws.take j ++ [ws[j]'hj] := by
      rw [List.take_add_one, ez]
      rfl
    refine ⟨_, .inr (ws[j]'hj), rfl, ed, by rw [dkv_len l1, List.length_take, sizeLine_eq]; omega, ?_, ?_⟩
    · rw [upd_same, put_new]
      · rw [tk, List.range_succ, List.map_append]
        unfold dkv
        rw [List.map_append, List.zip_append (by rw [List.length_map]; exact l1.symm)]
        rfl
      · rw [dkv_keys l1.symm]
        intro z
        obtain ⟨y, hy, e⟩ := List.mem_map.mp z
        have e3 : y = ws[j]'hj := Sum.inr.inj e
        have nd2 : (ws.take j ++ [ws[j]'hj]).Nodup := by
          rw [← tk]
          exact nd.sublist (List.take_sublist _ _)
        exact (List.nodup_append.mp nd2).2.2 y hy _ List.mem_cons_self e3
    · intro b o e
      rw [upd_ne (ne_of_none e nD)]
      exact sm _ _ e
  have fin : ∀ D H, H1 D = none → (H D = some (.dK (dkv (ws.take ws.length) ((List.range ws.length).map fv))) ∧ Sm H1 H) → Q D H := fun D H nD ⟨ed, sm⟩ => q D H sm nD (by rw [List.take_length] at ed; exact ed)
  rcases hk with hk | hk
  · refine .inl ⟨hk, dc_it walk_list w1 (fun D j H => H D = some (.dK (dkv (ws.take j) ((List.range j).map fv))) ∧ Sm H1 H) (fun D nD => ⟨upd_same, Sm.new nD⟩) (fun D j H _ p => SqL.sm hk p.2) (fun D j x H H' nD hj p y => ?_) fun D H nD p => fin D H nD (by rw [hl] at p; exact p)⟩
    obtain ⟨rfl, ex⟩ := y
    exact step D j x _ nD (by omega) p ex
  · refine .inr ⟨hk, dc_it walk_tup w1 (fun D j H => H D = some (.dK (dkv (ws.take j) ((List.range j).map fv))) ∧ Sm H1 H) (fun D nD => ⟨upd_same, Sm.new nD⟩) (fun D j H _ p => SqT.sm hk p.2) (fun D j x H H' nD hj p y => ?_) fun D H nD p => fin D H nD (by rw [hl] at p; exact p)⟩
    obtain ⟨rfl, ex⟩ := y
    exact step D j x _ nD (by omega) p ex
/-- a statement that is never reached -/
def tNever : TS := fun _ _ _ => False
theorem ps_never {X : Cx} {st : Stmt} : PS X st tNever := ⟨fun _ _ _ _ _ _ h => h.elim⟩
end Dk
set_option Elab.async false
set_option linter.all false
set_option maxRecDepth 100000
set_option maxHeartbeats 4000000
namespace Dk
open PySem PySem.Spec PyProof.Rows L2 Er
/-! ### the class of desks: its making -/
def clsBody (s : Stmt) : List Stmt := match s with
  | .ClassDef _ _ _ b _ _ _ _ _ _ _ => b
  | _ => []
def meth (i : Nat) : Stmt := (clsBody (top 20)).getD i (.Pass ⟨0, 0, 0, 0⟩)
/-- the names of the outer comprehension of __init__ -/
abbrev scI1 : Scope := { kind := .function, names := [(".0", .local), ("deed", .cell), ("deeds", .cell), ("standings", .cell)], isGenerator := false, isCoroutine := false }
abbrev nInit : List Str := ["self", "standings", "deeds", "sights", "deed", "one"]
theorem scInit : FnScope nInit ["self", "standings", "deeds", "sights"] (defScope (meth 0)) := ⟨rfl, rfl, rfl, by decide +kernel, rfl, by decide +kernel, by decide +kernel⟩
/-- a desk's own fields -/
def fldsOf (st ld si : Addr) : List (Str × V) := [("_standings", .ref st), ("_leads", .ref ld), ("_sights", .ref si)]
/-- what stands under the names ws in a table -/
def picked (ks : List (Key × V)) (ws : List Str) : List V := ws.map fun z => (valV ks (.inr z)).getD .non
def spInit (K : PySem.W.Frag) (C : Addr) : Sp := fun vs H Q _ => ∃ (x dx sa da ga : Addr) (ws ds : List Str) (us : List V) (tabs : List (List (Key × V))) (gs : List (Key × V)), vs = [.ref x, .ref sa, .ref da, .ref ga] ∧
  H x = some (.ins C dx []) ∧ Sq K H sa ws ∧ ws.Nodup ∧ standB (ws.map V.str) = true ∧ H da = some (.dK (dkv ds us)) ∧ us.length = ds.length ∧ ds.Nodup ∧ (∀ z ∈ ds, IsWord z) ∧
  Paired (fun v t => ∃ e, v = V.ref e ∧ e ≠ da ∧ H e = some (.dK t) ∧ t.length ≤ 1000 ∧ ∀ y ∈ t.map (·.2), Itm K H y) us tabs ∧ deedB (dkv ds us) (tabs.map some) ws = true ∧
  H ga = some (.dK gs) ∧ gs.length ≤ 1000 ∧ (∀ y ∈ gs.map (·.2), Itm K H y) ∧ sightB gs ws = true ∧
  ∀ (st ld si : Addr) (as : List Addr) H', Sx x H H' → H' x = some (.ins C dx (fldsOf st ld si)) → ld ≠ x → si ≠ x → SqT K H' st (ws.map V.str) → H' ld = some (.dK (dkv ds (as.map V.ref))) → H' si = some (.dK (dkv ws (picked gs ws))) →
    Paired (fun a t => a ≠ x ∧ H' a = some (.dK (dkv ws (picked t ws)))) as tabs → Q .non H'
theorem SqL.x {K : PySem.W.Frag} {H H2 : Hp} {a x C dx : Addr} {fs : List (Str × V)} {xs : List V} (h : SqL K H a xs) (hx : H x = some (.ins C dx fs)) (m : Sx x H H2) : SqL K H2 a xs := by
  have ne : ∀ {u : HO}, H a = some u → u ≠ .ins C dx fs → a ≠ x := fun {u} e n z => n (by rw [z, hx] at e; exact (Option.some.inj e).symm)
  rcases h with (h | ⟨o, h⟩) | h
  · exact .inl (.inl (m _ _ (ne h (fun z => nomatch z)) h))
  · exact .inl (.inr ⟨o, m _ _ (ne h (fun z => nomatch z)) h⟩)
  · exact .inr h
theorem SqT.x {K : PySem.W.Frag} {H H2 : Hp} {a x C dx : Addr} {fs : List (Str × V)} {xs : List V} (h : SqT K H a xs) (hx : H x = some (.ins C dx fs)) (m : Sx x H H2) : SqT K H2 a xs := by
  have ne : ∀ {u : HO}, H a = some u → u ≠ .ins C dx fs → a ≠ x := fun {u} e n z => n (by rw [z, hx] at e; exact (Option.some.inj e).symm)
  rcases h with (h | ⟨o, h⟩) | h
  · exact .inl (.inl (m _ _ (ne h (fun z => nomatch z)) h))
  · exact .inl (.inr ⟨o, m _ _ (ne h (fun z => nomatch z)) h⟩)
  · exact .inr h
theorem Sq.x {K : PySem.W.Frag} {H H2 : Hp} {a x C dx : Addr} {fs : List (Str × V)} {ws : List Str} (h : Sq K H a ws) (hx : H x = some (.ins C dx fs)) (m : Sx x H H2) : Sq K H2 a ws := by
  rcases h with h | h
  · exact .inl (SqL.x h hx m)
  · exact .inr (SqT.x h hx m)
theorem tup_either {K : PySem.W.Frag} {H : Hp} {a : Addr} {xs : List V} {R : V → Hp → Prop} (h : SqL K H a xs ∨ SqT K H a xs) (r : ∀ st G, Sm H G → SqT K G st xs → R (.ref st) G) :
    (SqL K H a xs ∧ ∀ l, H l = none → R (.ref l) (upd H l (.tup xs))) ∨ (SqT K H a xs ∧ R (.ref a) H) := by
  rcases h with h | h
  · exact .inl ⟨h, fun l nl => r l _ (Sm.new nl) (.inl (.inl upd_same))⟩
  · exact .inr ⟨h, r a H (Sm.refl _) h⟩
/-- tuple(xs) of a list or a tuple -/
def rTupA (K : PySem.W.Frag) : List V → Hp → VK → Prop := fun vs H Q => ∃ (a : Addr) (xs : List V), vs = [.ref a] ∧ (SqL K H a xs ∨ SqT K H a xs) ∧ ∀ st G, Sm H G → SqT K G st xs → Q (.ref st) G
theorem call_tupA {X : Cx} : CallR X (.type "tuple") (rTupA X.K) := by
  intro pins s σ H vs us Q I r h
  obtain ⟨a, xs, e, h, q⟩ := h
  exact call_tuple_of pins s σ H vs us Q I r ⟨a, xs, e, tup_either (R := Q) h q⟩
theorem range_picked {t : List (Key × V)} {ws : List Str} : ((List.range ws.length).map fun j => (valV t (.inr (ws.getD j ⟨#[]⟩))).getD .non) = picked t ws := by
  unfold picked
  refine List.ext_getElem (by simp) fun j h1 h2 => ?_
  rw [List.length_map] at h2
  rw [List.getElem_map, List.getElem_range, List.getElem_map, List.getD_eq_getElem?_getD, List.getElem?_eq_getElem h2]
  rfl
theorem table_has {t : List (Key × V)} {ws : List Str} {z : Str} (h : tableB t ws = true) (hz : z ∈ ws) : valV t (.inr z) = some ((valV t (.inr z)).getD .non) := by
  unfold tableB at h
  rw [Bool.and_eq_true] at h
  have := List.all_eq_true.mp h.2 z hz
  cases e : valV t (.inr z) with
  | none =>
    rw [e] at this
    cases this
  | some v => rfl
theorem dkv_at {ds : List Str} {us : List V} {j : Nat} {k : Key} {v : V} (h : (dkv ds us)[j]? = some (k, v)) : ∃ z, ds[j]? = some z ∧ k = .inr z ∧ us[j]? = some v := by
  obtain ⟨a, b⟩ := List.getElem?_zip_eq_some.mp h
  rw [List.getElem?_map] at a
  cases e : ds[j]? with
  | none =>
    rw [e] at a
    cases a
  | some z =>
    rw [e] at a
    exact ⟨z, rfl, (Option.some.inj a).symm, b⟩
section
variable {P : Program} {w : World} {K : PySem.W.Frag} {mg : Str → Option Value} {base : Heap} {f C fS fD fG : Addr} {fd dS dD dG : FuncData}
theorem bSt (F : FnP K "are_standings" (top 21) fS dS) : Binds K dS ["value"] [] := F.bindsN fun _ _ _ _ _ _ us hl => match us, hl with
  | [_], _ => rfl
theorem bDd (F : FnP K "are_deeds" (top 22) fD dD) : Binds K dD ["value", "standings"] [] := F.bindsN fun _ _ _ _ _ _ us hl => match us, hl with
  | [_, _], _ => rfl
theorem bSg (F : FnP K "are_sights" (top 24) fG dG) : Binds K dG ["value", "standings"] [] := F.bindsN fun _ _ _ _ _ _ us hl => match us, hl with
  | [_, _], _ => rfl
theorem ok_init (F : FunD K "__init__" "Desk.__init__" (defArgs (meth 0)) (defBody (meth 0)) (defScope (meth 0)) [] [] f fd) (mT : mg "tuple" = none) (hC : Cls K C) (n1 : NoAttr K C "_standings") (n2 : NoAttr K C "_leads") (n3 : NoAttr K C "_sights")
    (GS : FnOk P w K mg base CX0 2 fS dS ["value"] (spStand K)) (FS : FnP K "are_standings" (top 21) fS dS) (gS : mg "are_standings" = some (.ref fS)) (GD : FnOk P w K mg base CX0 3 fD dD ["value", "standings"] (spDeeds K)) (FD : FnP K "are_deeds" (top 22) fD dD) (gD : mg "are_deeds" = some (.ref fD))
    (GG : FnOk P w K mg base CX0 2 fG dG ["value", "standings"] (spTab K sightB)) (FG : FnP K "are_sights" (top 24) fG dG) (gG : mg "are_sights" = some (.ref fG)) :
    FnOk P w K mg base CX0 4 f fd ["self", "standings", "deeds", "sights"] (spInit K C) := by
  refine F.ok (CX := CX0) scInit (fun vs H Q E h => ?_) (fun cdv A outer s H vs Q E hr h => ?_)
  · obtain ⟨x, dx, sa, da, ga, ws, ds, us, tabs, gs, rfl, _⟩ := h
    rfl
  · have hr2 := hr.mono (show 2 ≤ 3 by decide)
    refine ⟨_, PSs.nox (pss_cons (ps_if (pt_not (pt_val (by exact (pe_call GS hr2 rfl gS FS.kp (bSt FS) .nil pass0 (pa_cons (pv 1) pa_nil))) (fun _ => rfl))) (pss_one ps_never) pss_nil)
      (pss_cons (ps_if (pt_not (pt_val (by exact (pe_call GD hr rfl gD FD.kp (bDd FD) .nil pass0 (pa_cons (pv 2) (pa_cons (pv 1) pa_nil)))) (fun _ => rfl))) (pss_one ps_never) pss_nil)
      (pss_cons (ps_if (pt_not (pt_val (by exact (pe_call GG hr2 rfl gG FG.kp (bSg FG) .nil pass0 (pa_cons (pv 3) (pa_cons (pv 1) pa_nil)))) (fun _ => rfl))) (pss_one ps_never) pss_nil)
      (pss_cons (ps_fld (pv 0) (by exact (pe_callTy call_tupA rfl mT PyProof.Rows.boot_tuple (pa_cons (pv 1) pa_nil))) (by rfl))
      (pss_cons (ps_fld (pv 0) (pe_lock (by exact (pe_dc (own := [("deed", 4)]) (g := gName 4) (tt := tYes) (tk := tVar 4) (tv := tDc (iSeq K (tVar 1)) (gName 5) tYes (tVar 5) (tDGet (tDGet (tVar 2) (tVar 4)) (tVar 5)) [5]) rfl scInit.nd (pi_keys (pv 2))
        (blkOk_by (N := nInit) (sc := defScope (meth 0)) (by decide +kernel)) (fun _ _ _ _ _ => pg_name (i := 4) scInit.nd rfl (Or.inr rfl)) (fun _ _ _ _ _ => pts_nil) (fun _ _ _ _ _ => by exact (pv 4))
        (fun _ _ _ _ _ => by exact (pe_dc (own := [("one", 5)]) (g := gName 5) (tt := tYes) rfl scInit.nd (pi_seq (by exact (pv 1)))
          (blkOk_by (N := nInit) (sc := scI1) (by decide +kernel)) (fun _ _ _ _ _ => pg_name (i := 5) scInit.nd rfl (Or.inl rfl)) (fun _ _ _ _ _ => pts_nil) (fun _ _ _ _ _ => by exact (pv 5))
          (fun _ _ _ _ _ => by exact (pe_dget (hu_of hr) (by exact (pe_dget (hu_of hr) (by exact (pv 2)) (by exact (pv 4)) (fun _ _ => rfl))) (by exact (pv 5)) (fun _ _ => rfl)))))))) (by rfl))
      (pss_one (ps_fld (pv 0) (by exact (pe_dc (own := [("one", 5)]) (g := gName 5) (tt := tYes) (tk := tVar 5) (tv := tDGet (tVar 3) (tVar 5)) rfl scInit.nd (pi_seq (pv 1))
        (blkOk_by (N := nInit) (sc := defScope (meth 0)) (by decide +kernel)) (fun _ _ _ _ _ => pg_name (i := 5) scInit.nd rfl (Or.inl rfl)) (fun _ _ _ _ _ => pts_nil) (fun _ _ _ _ _ => by exact (pv 5)) (fun _ _ _ _ _ => by exact (pe_dget (hu_of hr) (by exact (pv 3)) (by exact (pv 5)) (fun _ _ => rfl))))) (by rfl)))))))), ?_⟩
    obtain ⟨x, dx, sa, da, ga, ws, ds, us, tabs, gs, rfl, hx, hs, wnd, hst, hda, ul, dnd, dw, pr, hdeed, hga, gl, gi, hsig, q⟩ := h
    have st9 : ws.length ≤ 9 ∧ ∀ z ∈ ws, z.length ≤ 1000 := by
      unfold standB at hst
      rw [Bool.and_eq_true, Bool.and_eq_true, decide_eq_true_iff, List.length_map] at hst
      refine ⟨hst.1.2, fun z hz => ?_⟩
      have h8 : IsWord z := of_decide_eq_true (List.all_eq_true.mp hst.2.1 (.str z) (List.mem_map.mpr ⟨z, hz, rfl⟩))
      have := h8.2.1
      omega
    have tl : tabs.length = us.length := (paired_len pr).symm
    have dkl : (dkv ds us).length = ds.length := dkv_len (by omega)
    have d4 : ds.length ≤ 4 ∧ ∀ t ∈ tabs, leadB t ws = true := by
      unfold deedB at hdeed
      rw [Bool.and_eq_true, decide_eq_true_iff, dkl] at hdeed
      refine ⟨hdeed.1.2, fun t ht => ?_⟩
      obtain ⟨j, hj, rfl⟩ := List.mem_iff_getElem.mp ht
      have hj2 : j < (dkv ds us).length := by omega
      have := List.all_eq_true.mp hdeed.2 (entB ws ((dkv ds us)[j]'hj2) (some tabs[j])) (List.mem_map.mpr ⟨((dkv ds us)[j]'hj2, some tabs[j]), List.mem_of_getElem? (i := j) (List.getElem?_zip_eq_some.mpr ⟨List.getElem?_eq_getElem hj2, by rw [List.getElem?_map, List.getElem?_eq_getElem hj]; rfl⟩), rfl⟩)
      unfold entB at this
      have this : (nameB (kV ((dkv ds us)[j]'hj2).1) && leadB tabs[j] ws) = true := this
      rw [Bool.and_eq_true] at this
      exact this.2
    have knd : ((dkv ds us).map (·.1)).Nodup := by
      rw [dkv_keys ul.symm]
      exact List.Pairwise.map _ (fun a b n z => n (Sum.inr.inj z)) dnd
    refine ⟨_, rfl, .ref sa, rfl, .inl ⟨sa, ws.map V.str, rfl, hs, by rw [List.length_map]; omega, fun y hy => ?_, fun H1 m1 => ⟨_, rfl, ?_⟩⟩⟩
    · obtain ⟨z, hz, rfl⟩ := List.mem_map.mp hy
      exact .inl ⟨z, rfl, st9.2 z hz⟩
    rw [hst]
    refine iteF ⟨_, rfl, _, rfl, .ref da, sa, ws, rfl, Sq.sm hs m1, by omega, .inl ⟨da, dkv ds us, tabs.map some, rfl, m1 _ _ hda, by omega, knd, fun kv hk z ez => ?_, ?_, fun H2 m2 => ⟨_, rfl, ?_⟩⟩⟩
    · obtain ⟨j, hj⟩ := List.mem_iff_getElem?.mp hk
      obtain ⟨k, v⟩ := kv
      obtain ⟨z2, e1, e2, _⟩ := dkv_at hj
      have ez : k = .inr z := ez
      rw [e2] at ez
      have e3 : z2 = z := Sum.inr.inj ez
      have := (dw z2 (List.mem_of_getElem? e1)).2.1
      rw [← e3]
      omega
    · refine paired_of (by rw [List.length_map]; omega) fun j kv t e1 e2 => ?_
      obtain ⟨k, v⟩ := kv
      obtain ⟨z2, _, _, ev⟩ := dkv_at e1
      obtain ⟨t2, et, e, ee, ne, he, hl, hi⟩ := pair_at pr ev
      rw [List.getElem?_map, et] at e2
      have e3 : some t2 = t := Option.some.inj e2
      subst e3
      exact ⟨e, ee, ne, m1 _ _ he, hl, fun y hy => Itm.sm (hi y hy) m1⟩
    rw [hdeed]
    have m12 := Sm.trans m1 m2
    refine iteF ⟨_, rfl, _, rfl, .ref ga, sa, ws, rfl, Sq.sm hs m12, by omega, .inl ⟨ga, gs, rfl, m12 _ _ hga, gl, fun y hy => Itm.sm (gi y hy) m12, fun H3 m3 => ⟨_, rfl, ?_⟩⟩⟩
    rw [hsig]
    refine iteF ?_
    have m := Sm.trans m12 m3
    clear m1 m2 m3 m12
    have hx3 := m _ _ hx
    have hs3 := Sq.sm hs m
    have hda3 := m _ _ hda
    have hga3 := m _ _ hga
    have pr3 : Paired (fun v t => ∃ e, v = V.ref e ∧ e ≠ da ∧ H3 e = some (.dK t)) us tabs := pair_mono pr fun v _ t ⟨e, a, b, c, _⟩ => ⟨e, a, b, m _ _ c⟩
    have htab : ∀ t ∈ tabs, tableB t ws = true := fun t ht => by
      have := d4.2 t ht
      unfold leadB at this
      rw [Bool.and_eq_true] at this
      exact this.1
    have hgt : tableB gs ws = true := by
      unfold sightB at hsig
      rw [Bool.and_eq_true] at hsig
      exact hsig.1
    refine ⟨_, rfl, sa, ws.map V.str, rfl, hs3, fun st G mG hst2 => ?_⟩
    have hxG := mG _ _ hx3
    refine ⟨_, rfl, x, C, dx, [], rfl, hxG, hC, n1, by show 0 < 1000; decide, ?_⟩
    have m4 : Sx x H (upd G x (.ins C dx (putF "_standings" (.ref st) []))) := (Sx.of (Sm.trans m mG)).trans Sx.upd
    have hs4 : Sq K (upd G x (.ins C dx (putF "_standings" (.ref st) []))) sa ws := Sq.x (Sq.sm hs3 mG) hxG Sx.upd
    have st4 : SqT K (upd G x (.ins C dx (putF "_standings" (.ref st) []))) st (ws.map V.str) := SqT.x hst2 hxG Sx.upd
    have x4 : upd G x (.ins C dx (putF "_standings" (.ref st) [])) x = some (.ins C dx [("_standings", .ref st)]) := upd_same
    have dax : da ≠ x := fun z => by
      rw [z, hx3] at hda3
      cases hda3
    have gax : ga ≠ x := fun z => by
      rw [z, hx3] at hga3
      cases hga3
    have hda4 := m4 _ _ dax hda
    have hga4 := m4 _ _ gax hga
    have pr4 : Paired (fun v t => ∃ e, v = V.ref e ∧ e ≠ da ∧ upd G x (.ins C dx (putF "_standings" (.ref st) [])) e = some (.dK t)) us tabs := pair_mono pr fun v _ t ⟨e, a, b, c, _⟩ => ⟨e, a, b, m4 _ _ (fun z => by rw [z, hx] at c; cases c) c⟩
    generalize upd G x (.ins C dx (putF "_standings" (.ref st) [])) = G4 at m4 hs4 st4 x4 hda4 hga4 pr4 ⊢
    clear hs3 hda3 hga3 pr3 hx3 hst2 hxG mG m
    refine ⟨da, .dK (dkv ds us), hda4, True.intro, fun od => ⟨_, rfl, da, od, rfl, .inl ⟨dkv ds us, upd_same, ?_⟩⟩⟩
    have ndx : da ≠ x := dax
    have hsL := Sq.lock od hs4 hda4
    have xL : upd G4 da (.frz od (.dK (dkv ds us))) x = some (.ins C dx [("_standings", .ref st)]) := by rw [upd_ne (Ne.symm dax)]; exact x4
    have prL : Paired (fun v t => ∃ e, v = V.ref e ∧ e ≠ da ∧ upd G4 da (.frz od (.dK (dkv ds us))) e = some (.dK t)) us tabs := pair_mono pr4 fun v _ t ⟨e, a, b, c⟩ => ⟨e, a, b, by rw [upd_ne b]; exact c⟩
    have dL : upd G4 da (.frz od (.dK (dkv ds us))) da = some (.frz od (.dK (dkv ds us))) := upd_same
    have unl : ∀ H5, Sm (upd G4 da (.frz od (.dK (dkv ds us)))) H5 → Sm G4 (upd H5 da (.dK (dkv ds us))) := fun H5 mm => sm_unlock hda4 mm
    generalize upd G4 da (.frz od (.dK (dkv ds us))) = L at hsL xL prL dL unl ⊢
    refine dc_it walk_keys (fun _ => rfl) (fun D j H => ∃ as : List Addr, as.length = j ∧ H D = some (.dK (dkv (ds.take j) (as.map V.ref))) ∧ Paired (fun a t => H a = some (.dK (dkv ws (picked t ws)))) as (tabs.take j) ∧ (∀ a ∈ as, L a = none ∧ a ≠ D) ∧ Sm L H) (fun D nD => ?_) (fun D j H _ ⟨_, _, _, _, _, sm⟩ => sm _ _ dL) (fun D j x0 H5 H6 nD hj p y => ?_) (fun D H5 nD p => ?_)
    · exact ⟨[], rfl, upd_same, .nil, (fun a ha => nomatch ha), Sm.new nD⟩
    · obtain ⟨as, al, ed, pr5, ap, sm⟩ := p
      obtain ⟨rfl, k, v, ekv, rfl⟩ := y
      obtain ⟨d, e1, rfl, ev⟩ := dkv_at ekv
      obtain ⟨t, et, e, rfl, ne, he⟩ := pair_at prL ev
      have ht := htab t (List.mem_of_getElem? et)
      refine ⟨_, rfl, _, rfl, sa, ws.map V.str, rfl, ?_⟩
      refine dc_names (fv := fun i => (valV t (.inr (ws.getD i ⟨#[]⟩))).getD .non) (Sq.sm hsL sm) wnd (by omega) (fun _ => rfl) (fun _ => rfl) (fun i z H7 Q7 ez s7 hQ => ?_) fun a H7 m7 na ea => ?_
      · have gz : ws.getD i ⟨#[]⟩ = z := by
          rw [List.getD_eq_getElem?_getD, ez]
          rfl
        rw [gz] at hQ
        exact ⟨_, rfl, _, rfl, da, .ref e, rfl, .inl ⟨dkv ds us, .inr d, .inr ⟨od, s7 _ _ (sm _ _ dL)⟩, rfl, (valV_of knd ekv).symm⟩, _, rfl, e, _, rfl, .inl ⟨t, .inr z, .inl (s7 _ _ (sm _ _ he)), rfl, (table_has ht (List.mem_of_getElem? ez)).symm⟩, hQ⟩
      · rw [range_picked] at ea
        have jl : j < ds.length := by omega
        have ej : ds[j]'jl = d := by
          rw [List.getElem?_eq_getElem jl] at e1
          exact Option.some.inj e1
        have tk : ds.take (j + 1) = ds.take j ++ [d] := by
          rw [List.take_add_one, e1]
          rfl
        have tt : tabs.take (j + 1) = tabs.take j ++ [t] := by
          rw [List.take_add_one, et]
          rfl
        have l1 : as.length = (ds.take j).length := by
          rw [List.length_take]
          omega
        have aD : a ≠ D := Ne.symm (ne_of_none ed na)
        refine ⟨_, .inr d, rfl, m7 _ _ ed, by rw [dkv_len (by rw [List.length_map]; omega), List.length_take, sizeLine_eq]; omega, as ++ [a], by rw [List.length_append, al]; rfl, ?_, ?_, ?_, ?_⟩
        · rw [upd_same, put_dkv l1 (by rw [← tk]; exact dnd.sublist (List.take_sublist _ _)), tk]
        · rw [tt]
          refine pair_more (pair_mono pr5 fun b hb t2 eb => ?_) ?_
          · rw [upd_ne (ap b hb).2]
            exact m7 _ _ eb
          · rw [upd_ne aD]
            exact ea
        · intro b hb
          rcases List.mem_append.mp hb with z | z
          · exact ap b z
          · have z2 : b = a := by simpa using z
            rw [z2]
            refine ⟨?_, aD⟩
            cases q2 : L a with
            | none => rfl
            | some u =>
              rw [sm _ _ q2] at na
              cases na
        · intro b o eb
          rw [upd_ne (ne_of_none eb nD)]
          exact m7 _ _ (sm _ _ eb)
    · obtain ⟨as, al, ed, pr5, ap, sm⟩ := p
      rw [dkl] at al ed pr5
      rw [List.take_length] at ed
      rw [List.take_of_length_le (by omega)] at pr5
      refine ⟨sm _ _ dL, _, rfl, x, C, dx, [("_standings", .ref st)], rfl, ?_, hC, n2, by show 1 < 1000; decide, ?_⟩
      · rw [upd_ne (Ne.symm dax)]
        exact sm _ _ xL
      have Dd : D ≠ da := fun z => by
        rw [z, dL] at nD
        cases nD
      have Dx : D ≠ x := fun z => by
        rw [z, xL] at nD
        cases nD
      have asd : ∀ a ∈ as, a ≠ da ∧ a ≠ x := fun a ha => ⟨(fun z => by have := (ap a ha).1; rw [z, dL] at this; cases this), (fun z => by have := (ap a ha).1; rw [z, xL] at this; cases this)⟩
      have u5 := unl H5 sm
      have m6 : Sx x H (upd (upd H5 da (.dK (dkv ds us))) x (.ins C dx (putF "_leads" (.ref D) [("_standings", .ref st)]))) := m4.trans ((Sx.of u5).trans Sx.upd)
      have x5 := u5 _ _ x4
      have hs6 := Sq.x (H2 := (upd (upd H5 da (.dK (dkv ds us))) x (.ins C dx (putF "_leads" (.ref D) [("_standings", .ref st)])))) (Sq.sm hs4 u5) x5 Sx.upd
      have st6 := SqT.x (H2 := (upd (upd H5 da (.dK (dkv ds us))) x (.ins C dx (putF "_leads" (.ref D) [("_standings", .ref st)])))) (SqT.sm st4 u5) x5 Sx.upd
      have x6 : (upd (upd H5 da (.dK (dkv ds us))) x (.ins C dx (putF "_leads" (.ref D) [("_standings", .ref st)]))) x = some (.ins C dx [("_standings", .ref st), ("_leads", .ref D)]) := upd_same
      have hga6 := m6 _ _ gax hga
      have ed6 : (upd (upd H5 da (.dK (dkv ds us))) x (.ins C dx (putF "_leads" (.ref D) [("_standings", .ref st)]))) D = some (.dK (dkv ds (as.map V.ref))) := by
        rw [upd_ne Dx, upd_ne Dd]
        exact ed
      have pr6 : Paired (fun a t => a ≠ x ∧ (upd (upd H5 da (.dK (dkv ds us))) x (.ins C dx (putF "_leads" (.ref D) [("_standings", .ref st)]))) a = some (.dK (dkv ws (picked t ws)))) as tabs := pair_mono pr5 fun a ha t e => ⟨(asd a ha).2, by
        rw [upd_ne (asd a ha).2, upd_ne (asd a ha).1]
        exact e⟩
      generalize (upd (upd H5 da (.dK (dkv ds us))) x (.ins C dx (putF "_leads" (.ref D) [("_standings", .ref st)]))) = G6 at m6 hs6 st6 x6 hga6 ed6 pr6 ⊢
      refine ⟨_, rfl, sa, ws.map V.str, rfl, ?_⟩
      refine dc_names (fv := fun i => (valV gs (.inr (ws.getD i ⟨#[]⟩))).getD .non) hs6 wnd (by omega) (fun _ => rfl) (fun _ => rfl) (fun i z H7 Q7 ez s7 hQ => ?_) fun si H7 m7 nsi esi => ?_
      · have gz : ws.getD i ⟨#[]⟩ = z := by
          rw [List.getD_eq_getElem?_getD, ez]
          rfl
        rw [gz] at hQ
        exact ⟨_, rfl, _, rfl, ga, _, rfl, .inl ⟨gs, .inr z, .inl (s7 _ _ hga6), rfl, (table_has hgt (List.mem_of_getElem? ez)).symm⟩, hQ⟩
      · rw [range_picked] at esi
        have six : si ≠ x := fun z => by
          rw [z, x6] at nsi
          cases nsi
        refine ⟨_, rfl, x, C, dx, [("_standings", .ref st), ("_leads", .ref D)], rfl, m7 _ _ x6, hC, n3, by show 2 < 1000; decide, ?_⟩
        refine q st D si as _ (m6.trans ((Sx.of m7).trans Sx.upd)) upd_same Dx six (SqT.x (SqT.sm st6 m7) (m7 _ _ x6) Sx.upd) ?_ ?_ ?_
        · rw [upd_ne Dx]
          exact m7 _ _ ed6
        · rw [upd_ne six]
          exact esi
        · exact pair_mono pr6 fun a _ t e => ⟨e.1, by
            rw [upd_ne e.1]
            exact m7 _ _ e.2⟩
end
end Dk
set_option Elab.async false
set_option linter.all false
set_option maxRecDepth 100000
set_option maxHeartbeats 4000000
namespace Dk
open PySem PySem.Spec PyProof.Rows L2 Er
/-! ### _law_made -/
/-- a desk of the program at x -/
def DeskOb (K : PySem.W.Frag) (C : Addr) (H : Hp) (x : Addr) (ws ds : List Str) (tb : List (List Str)) (ls : List Str) : Prop := ∃ (dx st ld si : Addr) (as : List Addr), H x = some (.ins C dx (fldsOf st ld si)) ∧ SqT K H st (ws.map V.str) ∧
  H ld = some (.dK (dkv ds (as.map V.ref))) ∧ H si = some (.dK (dkv ws (ls.map V.str))) ∧ Paired (fun a vs => H a = some (.dK (dkv ws (vs.map V.str)))) as tb
/-- the entries of a table in the opposite sequence -/
def back (ws vs : List Str) : List (Key × V) := (dkv ws (vs.map V.str)).reverse
theorem back_nd {ws vs : List Str} (e : vs.length = ws.length) (nd : ws.Nodup) : ((back ws vs).map (·.1)).Nodup := by
  unfold back
  rw [List.map_reverse, dkv_keys (by rw [List.length_map, e])]
  exact List.pairwise_reverse.mpr (List.Pairwise.map _ (fun a b n z => n (Sum.inr.inj z).symm) nd)
theorem back_len {ws vs : List Str} (e : vs.length = ws.length) : (back ws vs).length = ws.length := by
  unfold back
  rw [List.length_reverse, dkv_len (by rw [List.length_map, e])]
theorem back_at {ws vs : List Str} (e : vs.length = ws.length) (nd : ws.Nodup) {j : Nat} {z v : Str} (h1 : ws[j]? = some z) (h2 : vs[j]? = some v) : valV (back ws vs) (.inr z) = some (.str v) := by
  have m : ((Sum.inr z, V.str v) : Key × V) ∈ back ws vs := by
    unfold back
    refine List.mem_reverse.mpr (List.mem_of_getElem? (i := j) (List.getElem?_zip_eq_some.mpr ⟨?_, ?_⟩))
    · rw [List.getElem?_map, h1]
      rfl
    · rw [List.getElem?_map, h2]
      rfl
  obtain ⟨i, hi⟩ := List.mem_iff_getElem?.mp m
  exact valV_of (back_nd e nd) hi
theorem picked_back {ws vs : List Str} (e : vs.length = ws.length) (nd : ws.Nodup) : picked (back ws vs) ws = vs.map V.str := by
  unfold picked
  refine List.ext_getElem (by rw [List.length_map, List.length_map, e]) fun j h1 h2 => ?_
  rw [List.length_map] at h1 h2
  rw [List.getElem_map, List.getElem_map, back_at e nd (List.getElem?_eq_getElem h1) (List.getElem?_eq_getElem h2)]
  rfl
theorem back_table {ws vs : List Str} (e : vs.length = ws.length) (nd : ws.Nodup) : tableB (back ws vs) ws = true := by
  unfold tableB
  rw [back_len e, decide_eq_true rfl, Bool.true_and, List.all_eq_true]
  intro z hz
  obtain ⟨j, hj, rfl⟩ := List.mem_iff_getElem.mp hz
  rw [back_at e nd (List.getElem?_eq_getElem hj) (List.getElem?_eq_getElem (by omega))]
  rfl
theorem back_vals {ws vs : List Str} (e : vs.length = ws.length) : (back ws vs).map (·.2) = (vs.map V.str).reverse := by
  unfold back
  rw [List.map_reverse]
  congr 1
  exact List.map_snd_zip (by rw [List.length_map, List.length_map, e]; exact Nat.le_refl _)
theorem back_lead {ws vs : List Str} (e : vs.length = ws.length) (nd : ws.Nodup) (h : ∀ z ∈ vs, z ∈ ws) : leadB (back ws vs) ws = true := by
  unfold leadB
  rw [back_table e nd, Bool.true_and, back_vals e, List.all_eq_true]
  intro y hy
  obtain ⟨z, hz, rfl⟩ := List.mem_map.mp (List.mem_reverse.mp hy)
  exact decide_eq_true (h z hz)
theorem back_sight {ws vs : List Str} (e : vs.length = ws.length) (nd : ws.Nodup) (h : ∀ z ∈ vs, IsWord z) : sightB (back ws vs) ws = true := by
  unfold sightB
  rw [back_table e nd, Bool.true_and, back_vals e, List.all_eq_true]
  intro y hy
  obtain ⟨z, hz, rfl⟩ := List.mem_map.mp (List.mem_reverse.mp hy)
  exact decide_eq_true (h z hz)
theorem back_itm {K : PySem.W.Frag} {H : Hp} {ws vs : List Str} (e : vs.length = ws.length) (h : ∀ z ∈ vs, IsWord z) : ∀ y ∈ (back ws vs).map (·.2), Itm K H y := fun y hy => by
  rw [back_vals e] at hy
  obtain ⟨z, hz, rfl⟩ := List.mem_map.mp (List.mem_reverse.mp hy)
  have := (h z hz).2.1
  exact .inl ⟨z, rfl, by omega⟩
theorem deeds_ok {ws ds : List Str} {us : List V} {tb : List (List Str)} (ul : us.length = ds.length) (tl : tb.length = ds.length) (d1 : 1 ≤ ds.length) (d4 : ds.length ≤ 4) (dw : ∀ z ∈ ds, IsWord z) (nd : ws.Nodup) (h : ∀ vs ∈ tb, vs.length = ws.length ∧ ∀ z ∈ vs, z ∈ ws) :
    deedB (dkv ds us) ((tb.map (back ws)).map some) ws = true := by
  unfold deedB
  rw [dkv_len ul, decide_eq_true ⟨d1, d4⟩, Bool.true_and, List.all_eq_true]
  intro b hb
  obtain ⟨⟨kv, t⟩, hp, rfl⟩ := List.mem_map.mp hb
  obtain ⟨j, hj⟩ := List.mem_iff_getElem?.mp hp
  obtain ⟨a, c⟩ := List.getElem?_zip_eq_some.mp hj
  obtain ⟨k, v⟩ := kv
  obtain ⟨z, ez, ek, _⟩ := dkv_at a
  rw [List.getElem?_map, List.getElem?_map] at c
  cases e : tb[j]? with
  | none =>
    rw [e] at c
    cases c
  | some vs =>
    rw [e] at c
    have c2 : some (back ws vs) = t := Option.some.inj c
    subst c2 ek
    have q := h vs (List.mem_of_getElem? e)
    show (decide (IsWord z) && leadB (back ws vs) ws) = true
    rw [decide_eq_true (dw z (List.mem_of_getElem? ez)), back_lead q.1 nd q.2]
    rfl
theorem stand_ok {ws : List Str} (n1 : 1 ≤ ws.length) (n9 : ws.length ≤ 9) (nd : ws.Nodup) (h : ∀ z ∈ ws, IsWord z) : standB (ws.map V.str) = true := by
  unfold standB
  rw [List.length_map, decide_eq_true ⟨n1, n9⟩, decide_eq_true (nodup_strs.mpr nd), Bool.true_and, Bool.and_true, List.all_eq_true]
  intro y hy
  obtain ⟨z, hz, rfl⟩ := List.mem_map.mp hy
  exact decide_eq_true (h z hz)
theorem dkv_ne {ws ds vs : List Str} {as : List Addr} (n1 : 1 ≤ ws.length) (e : vs.length = ws.length) : dkv ws (vs.map V.str) ≠ dkv ds (as.map V.ref) := by
  intro h
  cases ws with
  | nil => exact absurd n1 (by decide)
  | cons w ws =>
    cases vs with
    | nil => simp at e
    | cons v vs =>
      cases ds with
      | nil => exact nomatch (show ((Sum.inr w, V.str v) : Key × V) :: dkv ws (vs.map V.str) = [] from h)
      | cons d ds =>
        cases as with
        | nil => exact nomatch (show ((Sum.inr w, V.str v) : Key × V) :: dkv ws (vs.map V.str) = [] from h)
        | cons a as =>
          have h2 : ((Sum.inr w, V.str v) : Key × V) :: dkv ws (vs.map V.str) = (Sum.inr d, V.ref a) :: dkv ds (as.map V.ref) := h
          have h3 := congrArg (fun l : List (Key × V) => (l.head?.map (·.2))) h2
          exact nomatch (show (some (V.str v) : Option V) = some (V.ref a) from h3)
def spMade (K : PySem.W.Frag) (C : Addr) : Sp := fun vs H Q _ => ∃ (u nm dd sg : Addr) (ws ds : List Str) (as : List Addr) (tb : List (List Str)) (ls : List Str) (m : Nat), vs = [.ref u] ∧ DkAt H u nm dd sg ws ds as tb ls ∧ DkIs m ws ds tb ls ∧ m ≤ 9 ∧
  ∀ x H', Sm H H' → H x = none → DeskOb K C H' x ws ds tb ls → Q (.ref x) H'
abbrev nMade : List Str := ["_law_desk_here", "_law_deeds", "_law_deed"]
theorem scMade : FnScope nMade ["_law_desk_here"] (defScope (top 46)) := ⟨rfl, rfl, rfl, by decide +kernel, rfl, by decide +kernel, by decide +kernel⟩
section
variable {P : Program} {w : World} {K : PySem.W.Frag} {mg : Str → Option Value} {base : Heap} {f C fI fT : Addr} {fd dI dT : FuncData}
theorem bTu (F : FnP K "_law_turned" (top 45) fT dT) : Binds K dT ["_law_some"] [] := F.bindsN fun _ _ _ _ _ _ us hl => match us, hl with
  | [_], _ => rfl
theorem ok_made (F : FnP K "_law_made" (top 46) f fd) (mL : mg "list" = none) (gC : mg "Desk" = some (.ref C)) (M : Mk K C fI) (GI : FnOk P w K mg base CX0 4 fI dI ["self", "standings", "deeds", "sights"] (spInit K C)) (bIn : Binds K dI ["self", "standings", "deeds", "sights"] [])
    (GT : FnOk P w K mg base CX0 1 fT dT ["_law_some"] spTurned) (FT : FnP K "_law_turned" (top 45) fT dT) (gT : mg "_law_turned" = some (.ref fT)) :
    FnOk P w K mg base CX0 6 f fd ["_law_desk_here"] (spMade K C) := by
  refine F.ok (CX := CX0) scMade (fun vs H Q E h => ?_) (fun cdv A outer s H vs Q E hr h => ?_)
  · obtain ⟨u, nm, dd, sg, ws, ds, as, tb, ls, m, rfl, _⟩ := h
    rfl
  · have hr1 := hr.mono (show 1 ≤ 5 by decide)
    refine ⟨_, PSs.nox (pss_cons (ps_set (i := 1) scMade.nd rfl (.inl rfl) pe_dnewK)
      (pss_cons (ps_lock (ps_for PassesOwn.never rfl (pi_keys (by exact (pe_ix ix_tup (pv 0) pe_int (fun _ _ => rfl)))) (pg_name (i := 2) scMade.nd rfl (.inl rfl))
        (pss_one (ps_dput (hu_of hr) (pv 1) (pv 2) (by exact (pe_call GT hr1 rfl gT FT.kp (bTu FT) .nil pass0 (pa_cons (by exact (pe_dget (hu_of hr) (by exact (pe_ix ix_tup (pv 0) pe_int (fun _ _ => rfl))) (pv 2) (fun _ _ => rfl))) pa_nil))) (by rfl)))))
      (pss_one (ps_ret (by exact (pe_make M GI hr rfl gC bIn .nil pass0 (pa_cons (by exact (pe_callTy call_list_of rfl mL PyProof.Rows.boot_list (pa_cons (pe_ix ix_tup (pv 0) pe_int (fun _ _ => rfl)) pa_nil))) (pa_cons (pv 1) (pa_cons (by exact (pe_call GT hr1 rfl gT FT.kp (bTu FT) .nil pass0 (pa_cons (by exact (pe_ix ix_tup (pv 0) pe_int (fun _ _ => rfl))) pa_nil))) pa_nil))))))))), ?_⟩
    obtain ⟨u, nm, dd, sg, ws, ds, as, tb, ls, m, rfl, ⟨hu, hnm, hdd, hsg, pr⟩, is, m9, q⟩ := h
    intro ne nne
    have fresh : ∀ {b : Addr} {o : HO}, H b = some o → b ≠ ne := fun {b o} e z => by
      rw [z, nne] at e
      cases e
    have tl := is.rows
    have al : as.length = ds.length := by rw [paired_len pr, tl]
    have udd : u ≠ dd := fun z => by
      rw [z, hdd] at hu
      cases hu
    have s0 := Sm.new (o := .dK []) nne
    have add : ∀ vs ∈ tb, vs.length = ws.length := fun vs hv => (is.row vs hv).1
    have prd : Paired (fun a vs => a ≠ dd ∧ a ≠ ne ∧ H a = some (.dK (dkv ws (vs.map V.str)))) as tb := paired_of (paired_len pr) fun j a vs e1 e2 => by
      obtain ⟨vs2, e3, e4⟩ := pair_at pr e1
      rw [e2] at e3
      have e5 := Option.some.inj e3
      subst e5
      refine ⟨fun z => ?_, fresh e4, e4⟩
      rw [z, hdd] at e4
      have e6 := HO.dK.inj (Option.some.inj e4)
      exact dkv_ne is.some (add vs (List.mem_of_getElem? e2)) e6.symm
    refine ⟨dd, .dK (dkv ds (as.map V.ref)), s0 _ _ hdd, True.intro, fun od => ?_⟩
    have uL : upd (upd H ne (.dK [])) dd (.frz od (.dK (dkv ds (as.map V.ref)))) u = some (.tup [.ref nm, .ref dd, .ref sg]) := by
      rw [upd_ne udd]
      exact s0 _ _ hu
    have dL : upd (upd H ne (.dK [])) dd (.frz od (.dK (dkv ds (as.map V.ref)))) dd = some (.frz od (.dK (dkv ds (as.map V.ref)))) := upd_same
    have neL : upd (upd H ne (.dK [])) dd (.frz od (.dK (dkv ds (as.map V.ref)))) ne = some (.dK []) := by
      rw [upd_ne (Ne.symm (fresh hdd)), upd_same]
    have prL : Paired (fun a vs => a ≠ ne ∧ upd (upd H ne (.dK [])) dd (.frz od (.dK (dkv ds (as.map V.ref)))) a = some (.dK (dkv ws (vs.map V.str)))) as tb := pair_mono prd fun a _ vs e => ⟨e.2.1, by
      rw [upd_ne e.1]
      exact s0 _ _ e.2.2⟩
    have unl : ∀ H5, Sx ne (upd (upd H ne (.dK [])) dd (.frz od (.dK (dkv ds (as.map V.ref))))) H5 → Sm H (upd H5 dd (.dK (dkv ds (as.map V.ref)))) := fun H5 mm b o e => by
      by_cases c : b = dd
      · subst c
        rw [hdd] at e
        rw [upd_same]
        exact e
      · rw [upd_ne c]
        exact mm b o (fresh e) (by
          rw [upd_ne c]
          exact s0 _ _ e)
    generalize upd (upd H ne (.dK [])) dd (.frz od (.dK (dkv ds (as.map V.ref)))) = L at uL dL neL prL unl ⊢
    have une : u ≠ ne := fresh hu
    have dne : dd ≠ ne := fresh hdd
    have knd : ((dkv ds (as.map V.ref)).map (·.1)).Nodup := by
      rw [dkv_keys (by rw [List.length_map, al])]
      exact List.Pairwise.map _ (fun a b n z => n (Sum.inr.inj z)) is.dnd
    have dkl : (dkv ds (as.map V.ref)).length = ds.length := dkv_len (by rw [List.length_map, al])
    have d4 := is.dmost
    refine ⟨_, rfl, u, _, 1, .ref dd, rfl, rfl, .inl (.inl uL), rfl, dd, od, rfl, .inl ⟨_, dL, ?_⟩⟩
    refine for_it walk_keys (fun i σ H5 => ∃ (es : List Addr) (v2 : Option V), σ = [some (.ref u), some (.ref ne), v2] ∧ es.length = i ∧ H5 ne = some (.dK (dkv (ds.take i) (es.map V.ref))) ∧ Paired (fun e vs => e ≠ ne ∧ H5 e = some (.dK (back ws vs))) es (tb.take i) ∧ Sx ne L H5) ?_ (fun i σ H5 _ p => ?_) (fun i x σ H5 H6 hi p y => ?_) (fun σ H5 p => ?_)
    · exact ⟨[], none, rfl, rfl, neL, .nil, Sx.refl _ _⟩
    · obtain ⟨_, _, _, _, _, _, mm⟩ := p
      exact mm _ _ dne dL
    · obtain ⟨es, v2, rfl, el, ed, pe, mm⟩ := p
      obtain ⟨rfl, k, v, ekv, rfl⟩ := y
      obtain ⟨d, e1, rfl, ev⟩ := dkv_at ekv
      obtain ⟨a, ea, rfl⟩ : ∃ a, as[i]? = some a ∧ v = .ref a := by
        rw [List.getElem?_map] at ev
        cases e : as[i]? with
        | none =>
          rw [e] at ev
          cases ev
        | some a =>
          rw [e] at ev
          exact ⟨a, rfl, (Option.some.inj ev).symm⟩
      obtain ⟨vs, et, ane, ha⟩ := pair_at prL ea
      have vl := add vs (List.mem_of_getElem? et)
      refine ⟨_, rfl, u, _, 1, .ref dd, rfl, rfl, .inl (.inl (mm _ _ une uL)), rfl, _, rfl, dd, .ref a, rfl, .inl ⟨_, .inr d, .inr ⟨od, mm _ _ dne dL⟩, rfl, (valV_of knd ekv).symm⟩, a, dkv ws (vs.map V.str), rfl, mm _ _ ane ha, ?_, fun e H7 m7 ne7 ee => ?_⟩
      · rw [dkv_keys (by rw [List.length_map, vl])]
        exact List.Pairwise.map _ (fun a b n z => n (Sum.inr.inj z)) is.nd
      · have ene : e ≠ ne := fun z => by
          rw [z, ed] at ne7
          cases ne7
        have il : i < ds.length := by omega
        have tk : ds.take (i + 1) = ds.take i ++ [d] := by
          rw [List.take_add_one, e1]
          rfl
        have tt : tb.take (i + 1) = tb.take i ++ [vs] := by
          rw [List.take_add_one, et]
          rfl
        have l1 : es.length = (ds.take i).length := by
          rw [List.length_take]
          omega
        refine ⟨_, rfl, _, rfl, ne, _, rfl, DPut.k (k := .inr d) (m7 _ _ ed) (by rw [dkv_len (by rw [List.length_map]; omega), List.length_take, sizeLine_eq]; omega), es ++ [e], _, rfl, by rw [List.length_append, el]; rfl, ?_, ?_, ?_⟩
        · rw [upd_same, put_dkv l1 (by rw [← tk]; exact is.dnd.sublist (List.take_sublist _ _)), tk]
        · rw [tt]
          refine pair_more (pair_mono pe fun b _ t2 eb => ⟨eb.1, ?_⟩) ⟨ene, ?_⟩
          · rw [upd_ne eb.1]
            exact m7 _ _ eb.2
          · rw [upd_ne ene]
            exact ee
        · intro b o nb eb
          rw [upd_ne nb]
          exact m7 _ _ (mm b o nb eb)
    · obtain ⟨es, v2, rfl, el, ed, pe, mm⟩ := p
      rw [dkl] at el ed pe
      rw [List.take_length] at ed
      rw [List.take_of_length_le (by omega)] at pe
      refine ⟨mm _ _ dne dL, ?_⟩
      have m5 := unl H5 mm
      have ed5 : upd H5 dd (.dK (dkv ds (as.map V.ref))) ne = some (.dK (dkv ds (es.map V.ref))) := by
        rw [upd_ne (Ne.symm dne)]
        exact ed
      have pe5 : Paired (fun e vs => e ≠ ne ∧ upd H5 dd (.dK (dkv ds (as.map V.ref))) e = some (.dK (back ws vs))) es tb := paired_of (paired_len pe) fun j e vs e1 e2 => by
        obtain ⟨vs2, e3, e4, e5⟩ := pair_at pe e1
        rw [e2] at e3
        have e6 := Option.some.inj e3
        subst e6
        refine ⟨e4, ?_⟩
        have edd : e ≠ dd := fun z => by
          rw [z, mm _ _ dne dL] at e5
          cases e5
        rw [upd_ne edd]
        exact e5
      generalize upd H5 dd (.dK (dkv ds (as.map V.ref))) = G at m5 ed5 pe5 ⊢
      have u5 := m5 _ _ hu
      refine ⟨_, rfl, u, _, 0, .ref nm, rfl, rfl, .inl (.inl u5), rfl, nm, ws.map V.str, rfl, .inl (.inl (.inl (m5 _ _ hnm))), fun l nl => ?_⟩
      have s6 := Sm.new (o := .lst (ws.map V.str)) nl
      refine ⟨_, rfl, _, rfl, u, _, 2, .ref sg, rfl, rfl, .inl (.inl (s6 _ _ u5)), rfl, sg, dkv ws (ls.map V.str), rfl, s6 _ _ (m5 _ _ hsg), ?_, fun g H7 m7 ng eg => ?_⟩
      · rw [dkv_keys (by rw [List.length_map, is.looks])]
        exact List.Pairwise.map _ (fun a b n z => n (Sum.inr.inj z)) is.nd
      have l7 := m7 _ _ (upd_same (H := G) (a := l) (o := .lst (ws.map V.str)))
      have m7 := Sm.trans s6 m7
      intro x dx nx ndx nex
      have mx : Sm H7 (upd (upd H7 dx (.own x)) x (.ins C dx [])) := Sm.trans (Sm.new ndx) (Sm.new (by rw [upd_ne (Ne.symm nex)]; exact nx))
      have mA := Sm.trans m7 mx
      have xH : H x = none := by
        cases z : H x with
        | none => rfl
        | some o =>
          rw [m7 _ _ (m5 _ _ z)] at nx
          cases nx
      refine ⟨x, dx, l, ne, g, ws, ds, es.map V.ref, tb.map (back ws), back ws ls, rfl, upd_same, .inl (.inl (.inl (mx _ _ l7))), is.nd, stand_ok is.some (Nat.le_trans is.most m9) is.nd is.word, mA _ _ ed5, by rw [List.length_map]; omega, is.dnd, is.dword, ?_, deeds_ok (by rw [List.length_map]; omega) tl is.dsome is.dmost is.dword is.nd is.row, mx _ _ eg, by rw [back_len is.looks]; have := is.most; omega, back_itm is.looks is.look, back_sight is.looks is.nd is.look, fun st ld si as2 H8 m8 x8 ldx six st8 eld esi pr8 => ⟨rfl, q x H8 ?_ xH ⟨dx, st, ld, si, as2, x8, st8, eld, ?_, ?_⟩⟩⟩
      · refine paired_of (by rw [List.length_map, List.length_map]; omega) fun j v t e1 e2 => ?_
        rw [List.getElem?_map] at e1
        cases e3 : es[j]? with
        | none =>
          rw [e3] at e1
          cases e1
        | some e =>
          rw [e3] at e1
          have e4 : V.ref e = v := Option.some.inj e1
          obtain ⟨vs, e5, e6, e7⟩ := pair_at pe5 e3
          rw [List.getElem?_map, e5] at e2
          have e8 : back ws vs = t := Option.some.inj e2
          subst e4 e8
          have hv := is.row vs (List.mem_of_getElem? e5)
          exact ⟨e, rfl, e6, mA _ _ e7, by rw [back_len hv.1]; have := is.most; omega, back_itm hv.1 fun z hz => is.word z (hv.2 z hz)⟩
      · intro b o eb
        have bx : b ≠ x := fun z => by
          rw [z, xH] at eb
          cases eb
        exact m8 b o bx (mA _ _ (m5 _ _ eb))
      · rw [picked_back is.looks is.nd] at esi
        exact esi
      · refine paired_of (by rw [paired_len pr8, List.length_map]) fun j a vs e1 e2 => ?_
        obtain ⟨t, e3, _, e4⟩ := pair_at pr8 e1
        rw [List.getElem?_map, e2] at e3
        have e5 : back ws vs = t := Option.some.inj e3
        subst e5
        rw [picked_back (is.row vs (List.mem_of_getElem? e2)).1 is.nd] at e4
        exact e4
end
end Dk
set_option Elab.async false
set_option linter.all false
set_option maxRecDepth 100000
set_option maxHeartbeats 4000000
namespace Dk
open PySem PySem.Spec PyProof.Rows L2 Er
/-! ### where rows lead -/
/-- the standing to which a deed leads one -/
def nxt (ws ds : List Str) (tb : List (List Str)) (z d : Str) : Str := (tb.getD (ds.idxOf d) []).getD (ws.idxOf z) ⟨#[]⟩
theorem dkv_get {ws : List Str} {us : List V} {z : Str} (e : us.length = ws.length) (hz : z ∈ ws) : valV (dkv ws us) (.inr z) = us[ws.idxOf z]? := by
  induction ws generalizing us with
  | nil => cases hz
  | cons w ws ih =>
    cases us with
    | nil => simp at e
    | cons u us =>
      by_cases c : w = z
      · subst c
        rw [List.idxOf_cons_self]
        unfold valV
        show ((((Sum.inr w, u) : Key × V) :: dkv ws us).find? _).map _ = _
        rw [List.find?_cons_of_pos (by simp)]
        rfl
      · have h2 : z ∈ ws := by
          rcases List.mem_cons.mp hz with x | x
          · exact absurd x.symm c
          · exact x
        rw [List.idxOf_cons, show (w == z) = false from by simpa using c, cond_false, List.getElem?_cons_succ, ← ih (by simpa using e) h2]
        unfold valV
        show ((((Sum.inr w, u) : Key × V) :: dkv ws us).find? _).map _ = _
        rw [List.find?_cons_of_neg]
        intro x
        have e2 : (Sum.inr w : Key) = .inr z := of_decide_eq_true x
        exact c (Sum.inr.inj e2)
theorem idx_lt {ws : List Str} {z : Str} (h : z ∈ ws) : ws.idxOf z < ws.length := List.idxOf_lt_length_iff.mpr h
/-- what a drawn desk's dicts hold -/
theorem dk_step {H : Hp} {u nm dd sg : Addr} {ws ds : List Str} {as : List Addr} {tb : List (List Str)} {ls : List Str} {m : Nat} (h : DkAt H u nm dd sg ws ds as tb ls) (is : DkIs m ws ds tb ls) {d z : Str} (hd : d ∈ ds) (hz : z ∈ ws) :
    ∃ a, valV (dkv ds (as.map V.ref)) (.inr d) = some (.ref a) ∧ DGet H a (.str z) (some (.str (nxt ws ds tb z d))) ∧ nxt ws ds tb z d ∈ ws := by
  obtain ⟨_, _, _, _, pr⟩ := h
  have al : as.length = ds.length := by rw [paired_len pr, is.rows]
  have il := idx_lt hd
  have e1 : as[ds.idxOf d]? = some (as[ds.idxOf d]'(by omega)) := List.getElem?_eq_getElem _
  obtain ⟨vs, et, ha⟩ := pair_at pr e1
  have hv := is.row vs (List.mem_of_getElem? et)
  have zl := idx_lt hz
  have e2 : vs[ws.idxOf z]? = some (vs[ws.idxOf z]'(by omega)) := List.getElem?_eq_getElem _
  have en : nxt ws ds tb z d = vs[ws.idxOf z]'(by omega) := by
    unfold nxt
    rw [List.getD_eq_getElem?_getD, List.getD_eq_getElem?_getD, et]
    show (vs[ws.idxOf z]?).getD _ = _
    rw [e2]
    rfl
  refine ⟨as[ds.idxOf d]'(by omega), ?_, ?_, ?_⟩
  · rw [dkv_get (by rw [List.length_map, al]) hd, List.getElem?_map, e1]
    rfl
  · refine .inl ⟨_, .inr z, .inl ha, rfl, ?_⟩
    rw [dkv_get (by rw [List.length_map, hv.1]) hz, List.getElem?_map, e2, en]
    rfl
  · rw [en]
    exact hv.2 _ (List.getElem_mem _)
/-- where a row leads -/
def ledBy (ws ds : List Str) (tb : List (List Str)) (z : Str) (row : List Str) : Str := row.foldl (nxt ws ds tb) z
def spLeadL (K : PySem.W.Frag) : Sp := fun vs H Q _ => ∃ (u r nm dd sg : Addr) (z : Str) (row ws ds : List Str) (as : List Addr) (tb : List (List Str)) (ls : List Str) (m : Nat), vs = [.ref u, .str z, .ref r] ∧ DkAt H u nm dd sg ws ds as tb ls ∧ DkIs m ws ds tb ls ∧ z ∈ ws ∧ SqL K H r (row.map V.str) ∧ (∀ d ∈ row, d ∈ ds) ∧
  (ledBy ws ds tb z row ∈ ws → Q (.str (ledBy ws ds tb z row)) H)
abbrev nLeadL : List Str := ["_law_desk_here", "_law_standing", "_law_row", "_law_deed"]
section
variable {P : Program} {w : World} {K : PySem.W.Frag} {mg : Str → Option Value} {base : Heap} {f fD fP : Addr} {fd dD dP : FuncData}
end
end Dk
set_option Elab.async false
set_option linter.all false
set_option maxRecDepth 100000
set_option maxHeartbeats 4000000
namespace Dk
open PySem PySem.Spec PyProof.Rows L2 Er
/-! ### _law_stranger -/
def menu : List Str := ["onn", "nxt", "sett", "keys", "up", "low", "lit", "dim", "fail", "stop", "d", "e", "f", "g", "h", "i", "j"]
theorem menu_nd : menu.Nodup := by decide +kernel
theorem nodup_le : ∀ {l m : List Str}, l.Nodup → (∀ x ∈ l, x ∈ m) → l.length ≤ m.length
  | [], _, _, _ => Nat.zero_le _
  | x :: l, m, hn, hs => by
    obtain ⟨h1, h2⟩ := List.nodup_cons.mp hn
    have hx : x ∈ m := hs x List.mem_cons_self
    have ih := nodup_le (l := l) (m := m.erase x) h2 fun y hy => (List.mem_erase_of_ne (fun e : y = x => h1 (by rw [← e]; exact hy))).2 (hs y (List.mem_cons_of_mem _ hy))
    have hp : 0 < m.length := List.length_pos_of_mem hx
    rw [List.length_erase_of_mem hx] at ih
    rw [List.length_cons]
    omega
/-- a menu that is longer than what is left out -/
theorem left_some {ws : List Str} (h : ws.length ≤ 16) : menu.filter (fun z => decide (z ∉ ws)) ≠ [] := by
  intro e
  have all : ∀ z ∈ menu, z ∈ ws := fun z hz => by
    by_cases c : z ∈ ws
    · exact c
    · have : z ∈ menu.filter (fun z => decide (z ∉ ws)) := List.mem_filter.mpr ⟨hz, decide_eq_true c⟩
      rw [e] at this
      cases this
  have := nodup_le menu_nd all
  rw [show menu.length = 17 from rfl] at this
  omega
def spStranger (K : PySem.W.Frag) : Sp := fun vs H Q _ => ∃ (l : Addr) (ws : List Str), vs = [.ref l] ∧ SqL K H l (ws.map V.str) ∧ ws.length ≤ 16 ∧ ∀ z H', Sm H H' → z ∈ menu → z ∉ ws → Q (.str z) H'
abbrev nStr : List Str := ["_law_names_here", "_law_some", "_law_name"]
theorem scStr : FnScope nStr ["_law_names_here"] (defScope (top 50)) := ⟨rfl, rfl, rfl, by decide +kernel, rfl, by decide +kernel, by decide +kernel⟩
section
variable {P : Program} {w : World} {K : PySem.W.Frag} {mg : Str → Option Value} {base : Heap} {f : Addr} {fd : FuncData}
theorem ok_stranger (F : FnP K "_law_stranger" (top 50) f fd) : FnOk P w K mg base CX0 1 f fd ["_law_names_here"] (spStranger K) := by
  refine F.ok (CX := CX0) scStr (fun vs H Q E h => ?_) (fun cdv A outer s H vs Q E hr h => ?_)
  · obtain ⟨l, ws, rfl, _⟩ := h
    rfl
  · refine ⟨_, PSs.nox (pss_cons (ps_set (i := 1) scStr.nd rfl (.inl rfl) (pe_lst (pa_cons pe_str (pa_cons pe_str (pa_cons pe_str (pa_cons pe_str (pa_cons pe_str (pa_cons pe_str (pa_cons pe_str (pa_cons pe_str (pa_cons pe_str (pa_cons pe_str (pa_cons pe_str (pa_cons pe_str (pa_cons pe_str (pa_cons pe_str (pa_cons pe_str (pa_cons pe_str (pa_cons pe_str pa_nil)))))))))))))))))))
      (pss_one (ps_ret (by exact (pe_ix ix_list (by exact (pe_lc (own := [("_law_name", 2)]) (g := gName 2) (tt := tTest (tOp (rIn K true) (tVar 2) (tVar 0))) (te := tVar 2) rfl scStr.nd (pi_list (pv 1))
        (blkOk_by (N := nStr) (sc := defScope (top 50)) (by decide +kernel)) (fun _ _ _ _ _ => pg_name (i := 2) scStr.nd rfl (Or.inl rfl)) (fun _ _ _ _ _ => pts_one (by exact (pt_cmpR op_notIn_seq (by exact (pv 2)) (by exact (pv 0)) rfl))) (fun _ _ _ _ _ => by exact (pv 2)))) pe_int (fun _ _ => rfl)))))), ?_⟩
    obtain ⟨l, ws, rfl, hl, n16, q⟩ := h
    refine ⟨by show 17 ≤ sizeLine; rw [sizeLine_eq]; decide, fun M nM => ?_⟩
    have eM : upd H M (.lst (menu.map V.str)) M = some (.lst (menu.map V.str)) := upd_same
    have mM := Sm.new (o := .lst (menu.map V.str)) nM
    refine ⟨_, rfl, M, rfl, ⟨_, .inl (.inl eM)⟩, fun D nD => ?_⟩
    have nD : upd H M (.lst (menu.map V.str)) D = none := nD
    show ∃ W : Nat → Nat → Hp → Prop, (∃ m, W 0 m (upd (upd H M (.lst (menu.map V.str))) D (.lst []))) ∧ _
    generalize upd H M (.lst (menu.map V.str)) = G at eM mM nD ⊢
    have hl := SqL.sm hl mM
    refine lc_list (xs := menu.map V.str) (fun j G2 => G2 D = some (.lst (((menu.take j).filter (fun z => decide (z ∉ ws))).map V.str)) ∧ Sm G G2) ⟨upd_same, Sm.new nD⟩ (fun j G2 _ p => .inl (.inl (p.2 _ _ eM))) ?_ ?_
    · rintro j x G2 ex ⟨ed, sg⟩
      obtain ⟨z, ez, rfl⟩ : ∃ z, menu[j]? = some z ∧ x = .str z := by
        rw [List.getElem?_map] at ex
        cases e : menu[j]? with
        | none =>
          rw [e] at ex
          cases ex
        | some d =>
          rw [e] at ex
          exact ⟨d, rfl, (Option.some.inj ex).symm⟩
      have tk : menu.take (j + 1) = menu.take j ++ [z] := by
        rw [List.take_add_one, ez]
        rfl
      refine ⟨rfl, _, rfl, _, rfl, l, ws.map V.str, rfl, .inl (SqL.sm hl sg), rfl, flat_strs ws, _, rfl, ?_⟩
      rw [in_strs, if_pos rfl]
      by_cases c : z ∈ ws
      · rw [decide_eq_true c]
        refine iteF ⟨?_, sg⟩
        rw [tk, List.filter_append, List.filter_cons_of_neg (by simpa using c), List.filter_nil, List.append_nil]
        exact ed
      · rw [decide_eq_false c]
        refine iteT ⟨_, rfl, _, ed, ?_, ?_, ?_⟩
        · have h1 := List.length_filter_le (fun z => decide (z ∉ ws)) (menu.take j)
          rw [List.length_take] at h1
          rw [List.length_map, sizeLine_eq]
          have h2 : menu.length = 17 := rfl
          omega
        · rw [upd_same, tk, List.filter_append, List.filter_cons_of_pos (by simpa using c), List.filter_nil, List.map_append]
          rfl
        · intro b o eb
          rw [upd_ne (ne_of_none eb nD)]
          exact sg _ _ eb
    · rintro G2 ⟨ed, sg⟩
      rw [List.length_map, List.take_length] at ed
      have ne := left_some n16
      cases ec : menu.filter (fun z => decide (z ∉ ws)) with
      | nil => exact absurd ec ne
      | cons z rest =>
        rw [ec] at ed
        have hz : z ∈ menu.filter (fun z => decide (z ∉ ws)) := by
          rw [ec]
          exact List.mem_cons_self
        obtain ⟨a, b⟩ := List.mem_filter.mp hz
        exact ⟨D, _, 0, .str z, rfl, rfl, .inl (.inl ed), atI_nat (j := 0) rfl, q z G2 (Sm.trans mM sg) a (of_decide_eq_true b)⟩
end
end Dk
set_option Elab.async false
set_option linter.all false
set_option maxRecDepth 100000
set_option maxHeartbeats 4000000
namespace Dk
open PySem PySem.Spec PyProof.Rows L2 Er
/-! ### _law_nexts -/
theorem idx_of {ds : List Str} {j : Nat} {d : Str} (nd : ds.Nodup) (h : ds[j]? = some d) : ds.idxOf d = j := by
  obtain ⟨hj, e⟩ := List.getElem?_eq_some_iff.mp h
  have hd : d ∈ ds := List.mem_of_getElem? h
  have il := idx_lt hd
  have eg : ds[ds.idxOf d]'il = d := List.getElem_idxOf il
  have pw := List.pairwise_iff_getElem.mp nd
  rcases Nat.lt_trichotomy (ds.idxOf d) j with c | c | c
  · exact absurd (eg.trans e.symm) (pw _ _ il hj c)
  · exact c
  · exact absurd (e.trans eg.symm) (pw _ _ hj il c)
theorem row_get {ws ds vs : List Str} {tb : List (List Str)} {j : Nat} {z d : Str} (nd : ds.Nodup) (e1 : ds[j]? = some d) (e2 : tb[j]? = some vs) (vl : vs.length = ws.length) (hz : z ∈ ws) : valV (dkv ws (vs.map V.str)) (.inr z) = some (.str (nxt ws ds tb z d)) := by
  have zl := idx_lt hz
  have e3 : vs[ws.idxOf z]? = some (vs[ws.idxOf z]'(by omega)) := List.getElem?_eq_getElem _
  have en : nxt ws ds tb z d = vs[ws.idxOf z]'(by omega) := by
    unfold nxt
    rw [idx_of nd e1, List.getD_eq_getElem?_getD, List.getD_eq_getElem?_getD, e2]
    show (vs[ws.idxOf z]?).getD _ = _
    rw [e3]
    rfl
  rw [dkv_get (by rw [List.length_map, vl]) hz, List.getElem?_map, e3, en]
  rfl
theorem dk_rows {H : Hp} {u nm dd sg : Addr} {ws ds : List Str} {as : List Addr} {tb : List (List Str)} {ls : List Str} {m : Nat} (h : DkAt H u nm dd sg ws ds as tb ls) (is : DkIs m ws ds tb ls) : Paired (fun a vs => a ≠ dd ∧ H a = some (.dK (dkv ws (vs.map V.str)))) as tb := by
  obtain ⟨_, _, hdd, _, pr⟩ := h
  refine paired_of (paired_len pr) fun j a vs e1 e2 => ?_
  obtain ⟨vs2, e3, e4⟩ := pair_at pr e1
  rw [e2] at e3
  have e5 := Option.some.inj e3
  subst e5
  refine ⟨fun z => ?_, e4⟩
  rw [z, hdd] at e4
  exact dkv_ne is.some (is.row vs (List.mem_of_getElem? e2)).1 (HO.dK.inj (Option.some.inj e4)).symm
/-- the standings to which the deeds lead one -/
def nexts (ws ds : List Str) (tb : List (List Str)) (z : Str) : List Str := ds.map (nxt ws ds tb z)
def spNexts : Sp := fun vs H Q _ => ∃ (u nm dd sg : Addr) (ws ds : List Str) (as : List Addr) (tb : List (List Str)) (ls : List Str) (m : Nat), vs = [.ref u] ∧ DkAt H u nm dd sg ws ds as tb ls ∧ DkIs m ws ds tb ls ∧ m ≤ 9 ∧
  ∀ (q : Addr) (bs : List Addr) H', Sm H H' → H q = none → H' q = some (.dK (dkv ws (bs.map V.ref))) → Paired (fun b z => H' b = some (.lst ((nexts ws ds tb z).map V.str))) bs ws → Q (.ref q) H'
abbrev nNexts : List Str := ["_law_desk_here", "_law_found", "_law_one", "_law_leads_here"]
theorem scNexts : FnScope nNexts ["_law_desk_here"] (defScope (top 47)) := ⟨rfl, rfl, rfl, by decide +kernel, rfl, by decide +kernel, by decide +kernel⟩
section
variable {P : Program} {w : World} {K : PySem.W.Frag} {mg : Str → Option Value} {base : Heap} {f : Addr} {fd : FuncData}
theorem ok_nexts (F : FnP K "_law_nexts" (top 47) f fd) : FnOk P w K mg base CX0 1 f fd ["_law_desk_here"] spNexts := by
  refine F.ok (CX := CX0) scNexts (fun vs H Q E h => ?_) (fun cdv A outer s H vs Q E hr h => ?_)
  · obtain ⟨u, nm, dd, sg, ws, ds, as, tb, ls, m, rfl, _⟩ := h
    rfl
  · refine ⟨_, PSs.nox (pss_cons (ps_set (i := 1) scNexts.nd rfl (.inl rfl) pe_dnewK)
      (pss_cons (ps_for PassesOwn.never rfl (pi_list (by exact (pe_ix ix_tup (pv 0) pe_int (fun _ _ => rfl)))) (pg_name (i := 2) scNexts.nd rfl (.inr rfl))
        (pss_one (ps_dput (hu_of hr) (pv 1) (pv 2) (pe_lock (by exact (pe_lc (own := [("_law_leads_here", 3)]) (g := gName 3) (tt := tYes) (te := tDGet (tVar 3) (tVar 2)) rfl scNexts.nd (pi_values (by exact (pe_ix ix_tup (pv 0) pe_int (fun _ _ => rfl))))
          (blkOk_by (N := nNexts) (sc := defScope (top 47)) (by decide +kernel)) (fun _ _ _ _ _ => pg_name (i := 3) scNexts.nd rfl (Or.inl rfl)) (fun _ _ _ _ _ => pts_nil) (fun _ _ _ _ _ => by exact (pe_dget (hu_of hr) (by exact (pv 3)) (by exact (pv 2)) (fun _ _ => rfl)))))) (by rfl))))
      (pss_one (ps_ret (pv 1))))), ?_⟩
    obtain ⟨u, nm, dd, sg, ws, ds, as, tb, ls, m, rfl, hk, is, m9, q⟩ := h
    have prd := dk_rows hk is
    obtain ⟨hu, hnm, hdd, hsg, pr⟩ := hk
    have al : as.length = ds.length := by rw [paired_len pr, is.rows]
    have dkl : (dkv ds (as.map V.ref)).length = ds.length := dkv_len (by rw [List.length_map, al])
    have d4 := is.dmost
    have w9 := is.most
    intro ne nne
    have fresh : ∀ {b : Addr} {o : HO}, H b = some o → b ≠ ne := fun {b o} e z => by
      rw [z, nne] at e
      cases e
    have s0 := Sm.new (o := .dK []) nne
    refine ⟨_, rfl, u, _, 0, .ref nm, rfl, rfl, .inl (.inl (s0 _ _ hu)), atI_nat (j := 0) rfl, nm, rfl, ⟨ws.map V.str, .inl (.inl (s0 _ _ hnm))⟩, ?_⟩
    refine for_it (walk_list (xs := ws.map V.str)) (fun i σ G => ∃ (bs : List Addr) (v2 : Option V), σ = [some (.ref u), some (.ref ne), v2, none] ∧ bs.length = i ∧ G ne = some (.dK (dkv (ws.take i) (bs.map V.ref))) ∧ Paired (fun b z => b ≠ ne ∧ G b = some (.lst ((nexts ws ds tb z).map V.str))) bs (ws.take i) ∧ Sm H G)
      ⟨[], none, rfl, rfl, upd_same, .nil, s0⟩ (fun i σ G _ p => ?_) (fun i x σ G2 G hi p y => ?_) (fun σ G p => ?_)
    · obtain ⟨_, _, _, _, _, _, mm⟩ := p
      exact .inl (.inl (mm _ _ hnm))
    · obtain ⟨bs, v2, rfl, bl, eg, pb, mm⟩ := p
      obtain ⟨rfl, ex⟩ := y
      obtain ⟨z, ez, rfl⟩ : ∃ z, ws[i]? = some z ∧ x = .str z := by
        rw [List.getElem?_map] at ex
        cases e : ws[i]? with
        | none =>
          rw [e] at ex
          cases ex
        | some d =>
          rw [e] at ex
          exact ⟨d, rfl, (Option.some.inj ex).symm⟩
      have hz := List.mem_of_getElem? ez
      have dG := mm _ _ hdd
      refine ⟨dd, .dK (dkv ds (as.map V.ref)), dG, True.intro, fun od => ?_⟩
      have udd : u ≠ dd := fun y => by
        rw [y, hdd] at hu
        cases hu
      refine ⟨_, rfl, u, _, 1, .ref dd, rfl, rfl, .inl (.inl (by rw [upd_ne udd]; exact mm _ _ hu)), atI_nat (j := 1) rfl, dd, od, _, rfl, upd_same, ?_⟩
      refine lc_vals (fv := fun j => .str (nxt ws ds tb z (ds.getD j ⟨#[]⟩))) upd_same (by omega) (fun _ => rfl) (fun j x G3 Q3 ex s3 qq => ?_) fun D G3 m3 nD eD => ?_
      · rw [show (dkv ds (as.map V.ref)).map (·.2) = as.map V.ref from List.map_snd_zip (by rw [List.length_map, List.length_map, al]; exact Nat.le_refl _), List.getElem?_map] at ex
        cases ea : as[j]? with
        | none =>
          rw [ea] at ex
          cases ex
        | some a =>
          rw [ea] at ex
          have e5 : V.ref a = x := Option.some.inj ex
          subst e5
          obtain ⟨vs, et, ad, ha⟩ := pair_at prd ea
          have jl : j < ds.length := by
            have := (List.getElem?_eq_some_iff.mp ea).1
            omega
          have ed : ds[j]? = some (ds[j]'jl) := List.getElem?_eq_getElem jl
          have z3 := qq G3 (Sm.refl _)
          rw [List.getD_eq_getElem?_getD, ed] at z3
          exact ⟨_, rfl, _, rfl, a, _, rfl, .inl ⟨_, .inr z, .inl (s3 _ _ (by rw [upd_ne ad]; exact mm _ _ ha)), rfl, (row_get is.dnd ed et (is.row vs (List.mem_of_getElem? et)).1 hz).symm⟩, z3⟩
      · have Dd : D ≠ dd := fun y => by
          rw [y, upd_same] at nD
          cases nD
        have gne : (upd G dd (.frz od (.dK (dkv ds (as.map V.ref))))) ne = some (.dK (dkv (ws.take i) (bs.map V.ref))) := by
          rw [upd_ne (Ne.symm (fresh hdd))]
          exact eg
        have Dne : D ≠ ne := fun y => by
          rw [y, gne] at nD
          cases nD
        have sU := sm_unlock dG m3
        have il : i < ws.length := by
          have := (List.getElem?_eq_some_iff.mp ez).1
          exact this
        have tk : ws.take (i + 1) = ws.take i ++ [z] := by
          rw [List.take_add_one, ez]
          rfl
        have l1 : bs.length = (ws.take i).length := by
          rw [List.length_take]
          omega
        have lst : (List.range (dkv ds (as.map V.ref)).length).map (fun j => V.str (nxt ws ds tb z (ds.getD j ⟨#[]⟩))) = (nexts ws ds tb z).map V.str := by
          unfold nexts
          rw [dkl]
          refine List.ext_getElem (by simp) fun j h1 h2 => ?_
          rw [List.length_map, List.length_map] at h2
          rw [List.getElem_map, List.getElem_range, List.getElem_map, List.getElem_map, List.getD_eq_getElem?_getD, List.getElem?_eq_getElem h2]
          rfl
        rw [lst] at eD
        refine ⟨m3 _ _ upd_same, _, rfl, _, rfl, ne, _, rfl, DPut.k (k := .inr z) (sU _ _ eg) (by rw [dkv_len (by rw [List.length_map]; omega), List.length_take, sizeLine_eq]; omega), bs ++ [D], _, rfl, by rw [List.length_append, bl]; rfl, ?_, ?_, ?_⟩
        · rw [upd_same, put_dkv l1 (by rw [← tk]; exact is.nd.sublist (List.take_sublist _ _)), tk]
        · rw [tk]
          refine pair_more (pair_mono pb fun b _ t2 eb => ⟨eb.1, ?_⟩) ⟨Dne, ?_⟩
          · rw [upd_ne eb.1]
            exact sU _ _ eb.2
          · rw [upd_ne Dne, upd_ne Dd]
            exact eD
        · intro b o eb
          rw [upd_ne (fresh eb)]
          exact sU _ _ (mm _ _ eb)
    · obtain ⟨bs, v2, rfl, bl, eg, pb, mm⟩ := p
      rw [List.length_map, List.take_length] at eg pb
      exact ⟨_, rfl, q ne bs G mm nne eg (pair_mono pb fun b _ z e => e.2)⟩
end
end Dk
set_option Elab.async false
set_option linter.all false
set_option maxRecDepth 100000
set_option maxHeartbeats 4000000
namespace Dk
open PySem PySem.Spec PyProof.Rows L2 Er
open PySem.ErK (EC)
/-! ### a desk's errors; Desk.sight, Desk.lead -/
def ini (s : Stmt) : Stmt := (clsBody s).getD 0 (.Pass ⟨0, 0, 0, 0⟩)
def spErr (K : PySem.W.Frag) (g : Str) : Sp := fun vs H Q _ => ∃ (a C : Addr) (v : V), vs = [.ref a, v] ∧ OexC K C ∧ PySem.W.findIn K (.ref C) g = some none ∧ H a = some (exo a C none) ∧
  ∀ dx, H dx = none → dx ≠ a → Q .non (upd (upd H dx (exd dx [(g, v)])) a (exo a C (some dx)))
theorem scErV : FnScope ["self", "value"] ["self", "value"] (defScope (ini (top 6))) := ⟨rfl, rfl, rfl, by decide +kernel, rfl, by decide +kernel, by decide +kernel⟩
theorem scErP : FnScope ["self", "position"] ["self", "position"] (defScope (ini (top 7))) := ⟨rfl, rfl, rfl, by decide +kernel, rfl, by decide +kernel, by decide +kernel⟩
/-- what the written part says of an error: its class, its __init__ -/
structure Bad (K : PySem.W.Frag) (mg : Str → Option Value) (x g : Str) (st : Stmt) (C fI : Addr) (dI : FuncData) : Prop where
  ec : EC K x g C fI
  F : FunD K "__init__" (x ++ ".__init__") (defArgs st) (defBody st) (defScope st) [] [] fI dI
  gl : mg x = some (.ref C)
section
variable {P : Program} {w : World} {K : PySem.W.Frag} {mg : Str → Option Value} {base : Heap} {fI C : Addr} {dI : FuncData}
theorem ok_erV (B : Bad K mg "BadStanding" "value" (ini (top 6)) C fI dI) : FnOk P w K mg base CX0 1 fI dI ["self", "value"] (spErr K "value") := by
  refine B.F.ok (CX := CX0) scErV (fun vs H Q E h => ?_) (fun cdv A outer s H vs Q E hr h => ?_)
  · obtain ⟨a, C, v, rfl, _⟩ := h
    rfl
  · refine ⟨_, PSs.nox (pss_one (ps_ost (pv 0) (pv 1))), ?_⟩
    obtain ⟨a, C, v, rfl, T, no, ha, q⟩ := h
    exact ⟨_, rfl, _, rfl, a, C, rfl, T, no, .inl ⟨ha, q⟩⟩
theorem ok_erP (B : Bad K mg "BadRow" "position" (ini (top 7)) C fI dI) : FnOk P w K mg base CX0 1 fI dI ["self", "position"] (spErr K "position") := by
  refine B.F.ok (CX := CX0) scErP (fun vs H Q E h => ?_) (fun cdv A outer s H vs Q E hr h => ?_)
  · obtain ⟨a, C, v, rfl, _⟩ := h
    rfl
  · refine ⟨_, PSs.nox (pss_one (ps_ost (pv 0) (pv 1))), ?_⟩
    obtain ⟨a, C, v, rfl, T, no, ha, q⟩ := h
    exact ⟨_, rfl, _, rfl, a, C, rfl, T, no, .inl ⟨ha, q⟩⟩
theorem bErV (B : Bad K mg "BadStanding" "value" (ini (top 6)) C fI dI) : Binds K dI ["self", "value"] [] := B.F.bindsN fun _ _ _ _ _ _ us hl => match us, hl with
  | [_, _], _ => rfl
theorem bErP (B : Bad K mg "BadRow" "position" (ini (top 7)) C fI dI) : Binds K dI ["self", "position"] [] := B.F.bindsN fun _ _ _ _ _ _ us hl => match us, hl with
  | [_, _], _ => rfl
theorem upd_del {H : Hp} {a d : Addr} {o u v x : HO} (na : H a = none) (ne : d ≠ a) : upd (del (upd (upd (upd H a o) d u) a v) a) d x = upd H d x := by
  funext b
  by_cases hd : b = d
  · rw [hd, upd_same, upd_same]
  · rw [upd_ne hd, upd_ne hd]
    by_cases ha : b = a
    · rw [ha, del_same, na]
    · rw [del_ne ha, upd_ne ha, upd_ne hd, upd_ne ha]
/-- what raising one asks -/
theorem bad_reads {g : Str} {v : V} {H1 : Hp} {Q : XK} (T : OexC K C) (no : PySem.W.findIn K (.ref C) g = some none) (q : ∀ d, H1 d = none → Q (.ref C) (some d) (upd H1 d (.xd [(g, v)]))) :
    [v].length ≤ 1000 ∧ ∀ a, H1 a = none → spErr K g (.ref a :: ([v] ++ [])) (upd H1 a (exo a C none)) (fun u H2 => u = .non ∧ ∃ (d : Addr) (fs : List (Str × V)), H2 a = some (exo a C (some d)) ∧ H2 d = some (exd d fs) ∧ H1 d = none ∧ Q (.ref C) (some d) (upd (del H2 a) d (.xd fs))) (fun _ _ _ => False) := by
  refine ⟨by show 1 ≤ 1000; decide, fun a na => ⟨a, C, v, rfl, T, no, upd_same, fun dx nd ne => ⟨rfl, dx, [(g, v)], upd_same, ?_, ?_, ?_⟩⟩⟩
  · rw [upd_ne ne, upd_same]
  · rw [upd_ne ne] at nd
    exact nd
  · rw [upd_ne ne] at nd
    rw [upd_del na ne]
    exact q dx nd
end
/-- what stands in a told desk's dicts -/
theorem ob_step {H : Hp} {ws ds : List Str} {as : List Addr} {tb : List (List Str)} {ls : List Str} {m : Nat} (pr : Paired (fun a vs => H a = some (.dK (dkv ws (vs.map V.str)))) as tb) (is : DkIs m ws ds tb ls) {d z : Str} (hd : d ∈ ds) (hz : z ∈ ws) :
    ∃ a, valV (dkv ds (as.map V.ref)) (.inr d) = some (.ref a) ∧ DGet H a (.str z) (some (.str (nxt ws ds tb z d))) ∧ nxt ws ds tb z d ∈ ws := by
  have al : as.length = ds.length := by rw [paired_len pr, is.rows]
  have il := idx_lt hd
  have e1 : as[ds.idxOf d]? = some (as[ds.idxOf d]'(by omega)) := List.getElem?_eq_getElem _
  obtain ⟨vs, et, ha⟩ := pair_at pr e1
  have hv := is.row vs (List.mem_of_getElem? et)
  have zl := idx_lt hz
  have e2 : vs[ws.idxOf z]? = some (vs[ws.idxOf z]'(by omega)) := List.getElem?_eq_getElem _
  have en : nxt ws ds tb z d = vs[ws.idxOf z]'(by omega) := by
    unfold nxt
    rw [List.getD_eq_getElem?_getD, List.getD_eq_getElem?_getD, et]
    show (vs[ws.idxOf z]?).getD _ = _
    rw [e2]
    rfl
  refine ⟨as[ds.idxOf d]'(by omega), ?_, ?_, ?_⟩
  · rw [dkv_get (by rw [List.length_map, al]) hd, List.getElem?_map, e1]
    rfl
  · refine .inl ⟨_, .inr z, .inl ha, rfl, ?_⟩
    rw [dkv_get (by rw [List.length_map, hv.1]) hz, List.getElem?_map, e2, en]
    rfl
  · rw [en]
    exact hv.2 _ (List.getElem_mem _)
/-- no text of these -/
def NotOf (K : PySem.W.Frag) (H : Hp) (ws : List Str) (v : V) : Prop := (∃ z : Str, v = .str z ∧ z ∉ ws) ∨ NoStr K H v
theorem NotOf.sm {K : PySem.W.Frag} {H H' : Hp} {ws : List Str} {v : V} (h : NotOf K H ws v) (m : Sm H H') : NotOf K H' ws v := by
  rcases h with h | h
  · exact .inl h
  · exact .inr (NoStr.sm h m)
def spSight (K : PySem.W.Frag) (C CS : Addr) : Sp := fun vs H Q E => ∃ (x : Addr) (v : V) (ws ds : List Str) (tb : List (List Str)) (ls : List Str), vs = [.ref x, v] ∧ DeskOb K C H x ws ds tb ls ∧ ls.length = ws.length ∧
  ((∃ z l : Str, v = .str z ∧ z ∈ ws ∧ ls[ws.idxOf z]? = some l ∧ Q (.str l) H) ∨ (NotOf K H ws v ∧ ∀ d, H d = none → E (.ref CS) (some d) (upd H d (.xd [("value", v)]))))
abbrev nSight : List Str := ["self", "standing"]
theorem scSight : FnScope nSight nSight (defScope (meth 5)) := ⟨rfl, rfl, rfl, by decide +kernel, rfl, by decide +kernel, by decide +kernel⟩
section
variable {P : Program} {w : World} {K : PySem.W.Frag} {mg : Str → Option Value} {base : Heap} {f fI fJ C CS CR fO : Addr} {fd dI dJ dO : FuncData}
theorem bOne (F : FnP K "is_one_of" (top 10) fO dO) : Binds K dO nOneOf [] := F.bindsN fun _ _ _ _ _ _ us hl => match us, hl with
  | [_, _], _ => rfl
theorem ok_sight (F : FunD K "sight" "Desk.sight" (defArgs (meth 5)) (defBody (meth 5)) (defScope (meth 5)) [] [] f fd) (hC : Cls K C) (n1 : NoAttr K C "_standings") (n3 : NoAttr K C "_sights") (B : Bad K mg "BadStanding" "value" (ini (top 6)) CS fI dI)
    (GO : FnOk P w K mg base CX0 1 fO dO nOneOf (spOneOf K)) (FO : FnP K "is_one_of" (top 10) fO dO) (gO : mg "is_one_of" = some (.ref fO)) : FnOk P w K mg base (L2.CX P w) 3 f fd nSight (spSight K C CS) := by
  refine F.ok (CX := L2.CX P w) scSight (fun vs H Q E h => ?_) (fun cdv A outer s H vs Q E hr h => ?_)
  · obtain ⟨x, v, ws, ds, tb, ls, rfl, _⟩ := h
    rfl
  · have hr1 := hr.mono (show 1 ≤ 2 by decide)
    have GE : FnOk P w K mg base CX0 1 fI dI ["self", "value"] (spErr K "value") := ok_erV B
    refine ⟨_, pss_cons (ps_if (pt_not (pt_val (by exact (pe_call GO hr1 rfl gO FO.kp (bOne FO) .nil pass0 (pa_cons (pv 1) (pa_cons (by exact (pe_fld (pv 0) rfl)) pa_nil)))))) (pss_one (ps_raise rfl (takes_of rfl rfl rfl rfl) (pmk_oex (e := .Name "standing" _) (es := []) B.ec.ox B.ec.iC B.ec.tI GE hr (bErV B) .nil pass0 rfl B.gl (pa_cons (pv 1) pa_nil)))) pss_nil)
      (PSs.nox (pss_one (ps_ret (by exact (pe_dget (hu_of hr) (by exact (pe_fld (pv 0) rfl)) (pv 1) (fun _ _ => rfl)))))), ?_⟩
    obtain ⟨x, v, ws, ds, tb, ls, rfl, ⟨dx, st, ld, si, as, hx, hst, hld, hsi, pr⟩, ll, h⟩ := h
    refine ⟨_, rfl, _, rfl, x, C, dx, _, _, rfl, hx, hC, n1, rfl, v, st, rfl, ?_⟩
    rcases h with ⟨z, l, rfl, hz, el, q⟩ | ⟨hv, q⟩
    · refine .inl ⟨z, ws, rfl, .inr (.inl hst), _, rfl, ?_⟩
      rw [decide_eq_true hz]
      refine iteF ⟨_, rfl, x, C, dx, _, _, rfl, hx, hC, n3, rfl, _, rfl, si, .str l, rfl, .inl ⟨_, .inr z, .inl hsi, rfl, ?_⟩, q⟩
      rw [dkv_get (by rw [List.length_map, ll]) hz, List.getElem?_map, el]
      rfl
    · rcases hv with ⟨z, rfl, nz⟩ | hv
      · refine .inl ⟨z, ws, rfl, .inr (.inl hst), _, rfl, ?_⟩
        rw [decide_eq_false nz]
        exact iteT ⟨_, rfl, bad_reads B.ec.ox B.ec.noN q⟩
      · exact .inr ⟨hv, _, rfl, iteT ⟨_, rfl, bad_reads B.ec.ox B.ec.noN q⟩⟩
end
theorem DeskOb.sm {K : PySem.W.Frag} {C : Addr} {H H' : Hp} {x : Addr} {ws ds : List Str} {tb : List (List Str)} {ls : List Str} (h : DeskOb K C H x ws ds tb ls) (m : Sm H H') : DeskOb K C H' x ws ds tb ls := by
  obtain ⟨dx, st, ld, si, as, h1, h2, h3, h4, pr⟩ := h
  exact ⟨dx, st, ld, si, as, m _ _ h1, SqT.sm h2 m, m _ _ h3, m _ _ h4, pair_mono pr fun a _ vs e => m _ _ e⟩
/-- a row: its first deeds are a desk's, and then it ends, or what stands there is none -/
def spLeadD (K : PySem.W.Frag) (C CS CR : Addr) : Sp := fun vs H Q E => ∃ (x r : Addr) (v : V) (xs : List V) (ws ds : List Str) (tb : List (List Str)) (ls : List Str) (m : Nat), vs = [.ref x, v, .ref r] ∧ DeskOb K C H x ws ds tb ls ∧ DkIs m ws ds tb ls ∧ SqL K H r xs ∧ xs.length ≤ 1000 ∧
  ((NotOf K H ws v ∧ ∀ d, H d = none → E (.ref CS) (some d) (upd H d (.xd [("value", v)]))) ∨
   ∃ (z : Str) (row : List Str), v = .str z ∧ z ∈ ws ∧ (∀ d ∈ row, d ∈ ds) ∧
    ((xs = row.map V.str ∧ ∀ H', Sm H H' → ledBy ws ds tb z row ∈ ws → Q (.str (ledBy ws ds tb z row)) H') ∨
     (∃ y : V, xs.take row.length = row.map V.str ∧ xs[row.length]? = some y ∧ NotOf K H ds y ∧ ∀ d H', Sm H H' → H' d = some (.xd [("position", .int (row.length : Nat))]) → H d = none → E (.ref CR) (some d) H')))
abbrev nLeadD : List Str := ["self", "standing", "row", "position", "deed"]
theorem scLeadD : FnScope nLeadD ["self", "standing", "row"] (defScope (meth 4)) := ⟨rfl, rfl, rfl, by decide +kernel, rfl, by decide +kernel, by decide +kernel⟩
theorem none_of_sm {H H' : Hp} {a : Addr} (m : Sm H H') (n : H' a = none) : H a = none := by
  cases e : H a with
  | none => rfl
  | some o =>
    rw [m _ _ e] at n
    cases n
theorem led_more {ws ds : List Str} {tb : List (List Str)} {z d : Str} {row : List Str} {i : Nat} (e : row[i]? = some d) : ledBy ws ds tb z (row.take (i + 1)) = nxt ws ds tb (ledBy ws ds tb z (row.take i)) d := by
  unfold ledBy
  rw [List.take_add_one, e, List.foldl_append]
  rfl
section
variable {P : Program} {w : World} {K : PySem.W.Frag} {mg : Str → Option Value} {base : Heap} {f fI fJ C CS CR fO : Addr} {fd dI dJ dO : FuncData}
theorem ok_leadD (F : FunD K "lead" "Desk.lead" (defArgs (meth 4)) (defBody (meth 4)) (defScope (meth 4)) [] [] f fd) (hC : Cls K C) (n1 : NoAttr K C "_standings") (n2 : NoAttr K C "_leads") (B : Bad K mg "BadStanding" "value" (ini (top 6)) CS fI dI) (B2 : Bad K mg "BadRow" "position" (ini (top 7)) CR fJ dJ)
    (me : mg "enumerate" = none) (GO : FnOk P w K mg base CX0 1 fO dO nOneOf (spOneOf K)) (FO : FnP K "is_one_of" (top 10) fO dO) (gO : mg "is_one_of" = some (.ref fO)) : FnOk P w K mg base (L2.CX P w) 3 f fd ["self", "standing", "row"] (spLeadD K C CS CR) := by
  refine F.ok (CX := L2.CX P w) scLeadD (fun vs H Q E h => ?_) (fun cdv A outer s H vs Q E hr h => ?_)
  · obtain ⟨x, r, v, xs, ws, ds, tb, ls, m, rfl, _⟩ := h
    rfl
  · have hr1 := hr.mono (show 1 ≤ 2 by decide)
    have GE : FnOk P w K mg base CX0 1 fI dI ["self", "value"] (spErr K "value") := ok_erV B
    have GP : FnOk P w K mg base CX0 1 fJ dJ ["self", "position"] (spErr K "position") := ok_erP B2
    refine ⟨_, pss_cons (ps_if (pt_not (pt_val (by exact (pe_call GO hr1 rfl gO FO.kp (bOne FO) .nil pass0 (pa_cons (pv 1) (pa_cons (by exact (pe_fld (pv 0) rfl)) pa_nil)))))) (pss_one (ps_raise rfl (takes_of rfl rfl rfl rfl) (pmk_oex (e := .Name "standing" _) (es := []) B.ec.ox B.ec.iC B.ec.tI GE hr (bErV B) .nil pass0 rfl B.gl (pa_cons (pv 1) pa_nil)))) pss_nil)
      (pss_cons (ps_for (passes_of rfl) rfl (pi_enum rfl me (pa_cons (pv 2) pa_nil)) (pg_tup rfl (pgs_cons (pg_name (i := 3) scLeadD.nd rfl (.inl rfl)) (pgs_cons (pg_name (i := 4) scLeadD.nd rfl (.inl rfl)) pgs_nil)))
        (pss_cons (ps_if (pt_not (pt_val (by exact (pe_call GO hr1 rfl gO FO.kp (bOne FO) .nil pass0 (pa_cons (pv 4) (pa_cons (by exact (pe_fld (pv 0) rfl)) pa_nil)))))) (pss_one (ps_raise rfl (takes_of rfl rfl rfl rfl) (pmk_oex (e := .Name "position" _) (es := []) B2.ec.ox B2.ec.iC B2.ec.tI GP hr (bErP B2) .nil pass0 rfl B2.gl (pa_cons (pv 3) pa_nil)))) pss_nil)
          (PSs.nox (pss_one (ps_set (i := 1) scLeadD.nd rfl (.inl rfl) (by exact (pe_dget (hu_of hr) (by exact (pe_dget (hu_of hr) (by exact (pe_fld (pv 0) rfl)) (by exact (pv 4)) (fun _ _ => rfl))) (by exact (pv 1)) (fun _ _ => rfl))))))))
      (PSs.nox (pss_one (ps_ret (pv 1))))), ?_⟩
    obtain ⟨x, r, v, xs, ws, ds, tb, ls, m, rfl, ⟨dx, st, ld, si, as, hx, hst, hld, hsi, pr⟩, is, hr0, xl, h⟩ := h
    refine ⟨_, rfl, _, rfl, x, C, dx, _, _, rfl, hx, hC, n1, rfl, v, st, rfl, ?_⟩
    rcases h with ⟨hv, q⟩ | ⟨z, row, rfl, hz, hrow, h⟩
    · rcases hv with ⟨z, rfl, nz⟩ | hv
      · refine .inl ⟨z, ws, rfl, .inr (.inl hst), _, rfl, ?_⟩
        rw [decide_eq_false nz]
        exact iteT ⟨_, rfl, bad_reads B.ec.ox B.ec.noN q⟩
      · exact .inr ⟨hv, _, rfl, iteT ⟨_, rfl, bad_reads B.ec.ox B.ec.noN q⟩⟩
    · refine .inl ⟨z, ws, rfl, .inr (.inl hst), _, rfl, ?_⟩
      rw [decide_eq_true hz]
      refine iteF ⟨_, rfl, r, xs, rfl, hr0, ?_⟩
      have al : as.length = ds.length := by rw [paired_len pr, is.rows]
      have same : ∀ (i : Nat) (y : V), i < row.length → xs[i]? = some y → ∃ d, row[i]? = some d ∧ y = .str d := fun i y hi e => by
        have e2 : (row.map V.str)[i]? = some y := by
          rcases h with ⟨e1, _⟩ | ⟨_, e1, _⟩
          · rw [← e1]
            exact e
          · rw [← e1, List.getElem?_take_of_lt hi]
            exact e
        rw [List.getElem?_map] at e2
        cases e3 : row[i]? with
        | none =>
          rw [e3] at e2
          cases e2
        | some d =>
          rw [e3] at e2
          exact ⟨d, rfl, (Option.some.inj e2).symm⟩
      refine for_it (walk_enum (xs := xs)) (fun i σ G => i ≤ row.length ∧ ∃ (v3 v4 : Option V), σ = [some (.ref x), some (.str (ledBy ws ds tb z (row.take i))), some (.ref r), v3, v4] ∧ ledBy ws ds tb z (row.take i) ∈ ws ∧ Sm H G) ⟨Nat.zero_le _, none, none, rfl, hz, Sm.refl _⟩ (fun i σ G _ p => ?_) (fun i y σ G G' hi p yy => ?_) (fun σ G p => ?_)
      · obtain ⟨_, _, _, _, _, mm⟩ := p
        exact SqL.sm hr0 mm
      · obtain ⟨il, v3, v4, rfl, hin, mm⟩ := p
        obtain ⟨T, x1, x2, rfl, hT, rfl, e1, e2⟩ := yy
        have e1 := Option.some.inj e1
        subst e1
        have m2 := mm.trans (Sm.new (o := .tup [.int (i : Nat), x2]) hT)
        refine ⟨T, _, rfl, .inl (.inl upd_same), rfl, _, _, rfl, _, _, rfl, rfl, ?_⟩
        generalize upd G T (.tup [.int (i : Nat), x2]) = G2 at m2 ⊢
        by_cases c : i < row.length
        · obtain ⟨d, ed, rfl⟩ := same i x2 c e2
          have hd := hrow d (List.mem_of_getElem? ed)
          refine ⟨_, rfl, _, rfl, x, C, dx, _, _, rfl, m2 _ _ hx, hC, n2, rfl, .str d, ld, rfl, .inl ⟨d, ds, rfl, .inr (.inr ⟨as.map V.ref, .inl (m2 _ _ hld), by rw [List.length_map, al]⟩), _, rfl, ?_⟩⟩
          rw [decide_eq_true hd]
          have pr2 : Paired (fun a vs => G2 a = some (.dK (dkv ws (vs.map V.str)))) as tb := pair_mono pr fun a _ vs e => m2 _ _ e
          obtain ⟨a, b1, b2, b3⟩ := ob_step pr2 is hd hin
          refine iteF ⟨_, rfl, x, C, dx, _, _, rfl, m2 _ _ hx, hC, n2, rfl, _, rfl, ld, .ref a, rfl, .inl ⟨_, .inr d, .inl (m2 _ _ hld), rfl, b1.symm⟩, _, rfl, a, _, rfl, b2, c, some (.int (i : Nat)), some (.str d), ?_, ?_, m2⟩
          · rw [led_more ed]
            rfl
          · rw [led_more ed]
            exact b3
        · have ei : i = row.length := by omega
          subst ei
          rcases h with ⟨e3, _⟩ | ⟨y, _, e3, ny, q⟩
          · rw [e3, List.length_map] at hi
            omega
          · have e3 := Option.some.inj ((show xs[row.length]? = some x2 from e2).symm.trans e3)
            subst e3
            have out : ∀ d, G2 d = none → E (.ref CR) (some d) (upd G2 d (.xd [("position", .int (row.length : Nat))])) := fun d nd => q d _ (m2.trans (Sm.new nd)) upd_same (none_of_sm m2 nd)
            refine ⟨_, rfl, _, rfl, x, C, dx, _, _, rfl, m2 _ _ hx, hC, n2, rfl, x2, ld, rfl, ?_⟩
            rcases ny with ⟨d, rfl, nd⟩ | ny
            · refine .inl ⟨d, ds, rfl, .inr (.inr ⟨as.map V.ref, .inl (m2 _ _ hld), by rw [List.length_map, al]⟩), _, rfl, ?_⟩
              rw [decide_eq_false nd]
              exact iteT ⟨_, rfl, bad_reads B2.ec.ox B2.ec.noN out⟩
            · exact .inr ⟨NoStr.sm ny m2, _, rfl, iteT ⟨_, rfl, bad_reads B2.ec.ox B2.ec.noN out⟩⟩
      · obtain ⟨il, v3, v4, rfl, hin, mm⟩ := p
        rcases h with ⟨e3, q⟩ | ⟨y, _, e3, _⟩
        · have ln : xs.length = row.length := by rw [e3, List.length_map]
          rw [ln, List.take_length] at hin
          rw [ln, List.take_length]
          exact ⟨_, rfl, q G mm hin⟩
        · have := (List.getElem?_eq_some_iff.mp e3).1
          omega
end
end Dk
set_option Elab.async false
set_option linter.all false
set_option maxRecDepth 100000
set_option maxHeartbeats 4000000
namespace Dk
open PySem PySem.Spec PyProof.Rows L2 Er
/-! ### several clauses, each with a name of its own -/
/-- how a suite ends whose name is gone behind it -/
def endsAs (D : Ends) (i : Nat) : Ends := { nx := fun σ G => D.nx (σ.set i none) G, rt := D.rt, bk := fun σ G => D.bk (σ.set i none) G, ct := fun σ G => D.ct (σ.set i none) G }
abbrev Cl : Type := Value × Nat × (Addr → Value → Option Addr → TS)
/-- what the clauses wish of what a body raises -/
def wClauses (K : PySem.W.Frag) (Wout : WX) (D : Ends) : List Cl → WX
  | [] => Wout
  | q :: r => fun kl d σ G => ∃ b, PySem.W.exmOne K kl q.1 = some b ∧ (b = true → ∀ x, G x = none → q.2.2 x kl d (endsAs D q.2.1) (σ.set q.2.1 (some (.ref x))) G) ∧ (b = false → wClauses K Wout D r kl d σ G)
inductive Clauses (X : Cx) : List ExceptHandler → List Cl → Prop
  | nil : Clauses X [] []
  | cons {x n : Str} {c : Value} {i : Nat} {ts : Addr → Value → Option Addr → TS} {b0 : Stmt} {su : List Stmt} {p1 p2 : Pos} {hs : List ExceptHandler} {l : List Cl} (hc : Names X x c) (hi : X.N[i]? = some n) (hn : X.env.kindOf n = some .local)
      (hsu : ∀ (xa : Addr) (ob : Obj) (kl : Value) (d : Option Addr) (pn : List (Addr × Obj)), Zc kl d ob → (∃ vs, ob.data = .fields vs) → PSs (X.suite xa ((xa, ob) :: pn)) (b0 :: su) (ts xa kl d)) (r : Clauses X hs l) :
      Clauses X (.ExceptHandler (some (.Name x p1)) (some n) (b0 :: su) p2 :: hs) ((c, i, ts) :: l)
section
variable {X : Cx} {body : List Stmt} {h0 : ExceptHandler} {hs : List ExceptHandler} {l : List Cl} {pos : Pos} {tb : WX → TS} {Wout : WX}
theorem ps_try_clauses (st : X.stack = X.env :: X.outer) (fr : X.env.frame = some X.env.locals) (nd : X.N.Nodup) (tk : Takes X Wout)
    (hb : ∀ (W : WX) (pn : List (Addr × Obj)) (xe : Value → Shared → Prop), Takes (X.tr pn xe) W → PassesOwn (model X.prog X.w) X.A X.env xe → PSs (X.tr pn xe) body (tb W))
    (hh : Clauses X (h0 :: hs) l) : PS X (.Try body (h0 :: hs) [] [] pos) (fun D σ G => tb (wClauses X.K Wout D l) D σ G) := by
  refine ⟨fun ps sh sg G D I h => ?_⟩
  have ok := I.ok
  have frs0 : X.A.frames = some (X.env :: X.outer) := ok.frames.trans (congrArg some st)
  refine wpAny_Try_except (wpAny_mono ((hb (wClauses X.K Wout D l) (X.pn ++ ps) (fun e z1 => wpAny (model X.prog X.w) X.A (noteFrame e X.env) (fun _ z2 => wpAny (model X.prog X.w) X.A (setFlight e none) (fun _ z3 =>
    wpAny (model X.prog X.w) X.A (handleBy e X.env (h0 :: hs)) (SP X ps D) X.xe z3) X.xe z2) X.xe z1) (fun u s2 xx => ?_) PassesOwn.looking).run [] sh sg G D (I.toTry _) h) (fun fl s2 hsp => ?_) (fun _ _ z => z))
  · obtain ⟨xa, Bs, si, ps2, s3, G3, kl, d, rfl, Jt, nb, ups, sky, na, eos, ags, w⟩ := xx
    have Ja : Inv X ps s3 G3 si := Jt.ofTry ok
    have sky2 : Sky Bs (X.env :: X.outer) xa (Zc kl d) X.env.locals s2.heap := st ▸ sky
    show wpAny (model X.prog X.w) X.A (noteFrame (.ref xa) X.env) _ _ _
    refine Sky.land Zc.steady frs0 fr sky2 fun g1 f1 u1 => ?_
    have J1 : Inv X ps s3 G3 { s2 with heap := g1 } := Ja.landed nb f1.1 (ups.trans u1) eos ags
    obtain ⟨ob1, vs1, at1, zc1, fd1⟩ := f1.there
    -- the exception is no frame of those that run
    have out : xa ∉ frs (X.env :: X.outer) := fun hm => by
      obtain ⟨_, ob2, at2, no2⟩ := f1.2.2.1.mem hm
      exact no2 _ ((Option.some.inj (at1.symm.trans at2)) ▸ fd1)
    have out1 : xa ≠ X.env.locals := fun z => out (List.mem_filterMap.mpr ⟨_, List.mem_cons_self, fr.trans (congrArg some z.symm)⟩)
    have out2 : xa ∉ X.fs := fun hm => by
      obtain ⟨en, hen, q⟩ := List.mem_filterMap.mp hm
      exact out (List.mem_filterMap.mpr ⟨en, List.mem_cons_of_mem _ hen, q⟩)
    have S1 := J1.suite at1 fd1 na out1 out2
    have lk : PySem.W.Looks (model X.prog X.w) g1 (typeOf (.ref xa)) kl := fun _ _ _ _ kk q => wpAny_typeOf_ref (kk _ _ at1) (zc1.1 ▸ q)
    have all : ∀ {hs2 : List ExceptHandler} {l2 : List Cl}, Clauses X hs2 l2 → wClauses X.K Wout D l2 kl d s3 G3 → wpAny (model X.prog X.w) X.A (handleBy (.ref xa) X.env hs2) (SP X ps D) X.xe { s2 with heap := g1 } := by
      intro hs2 l2 hk
      induction hk with
      | nil =>
        intro w
        obtain ⟨_, _, _, ob2, vs2, Tr, _, _, e2, _, d2, v2, _⟩ := id f1
        refine wpAny_handleBy_nil ?_
        unfold PySem.passOn
        refine wpAny_bind (wpAny_field e2 d2 v2 ?_)
        rw [if_neg (by simp)]
        have last : wpAny (model X.prog X.w) X.A (setFlight (.ref xa) X.env.frame) (fun _ z => wpAny (model X.prog X.w) X.A (throw (.ref xa) : Sem Flow) (SP X ps D) X.xe z) X.xe { s2 with heap := g1 } := by
          rw [fr]
          exact HandSPX.setFlight_upZ f1 fun g2 f2 u2 => wpAny_throw (tk _ _ ⟨xa, Bs, si, ps, s3, G3, kl, d, rfl, Ja, nb, (ups.trans u1).trans u2, .inr (.inr (by rw [st]; exact f2)), na, eos, ags, w⟩)
        first
          | exact wpAny_bind (wpAny_pure (wpAny_bind last))
          | exact wpAny_bind last
      | @cons x n c i ts b0 su p1 p2 hs3 l3 hc hi hn hsu r ih =>
        rintro ⟨b, e, yes, no⟩
        have named : ∀ {Q : Value → Shared → Prop} {E : Value → Shared → Prop}, Q c { s2 with heap := g1 } → wpAny (model X.prog X.w) (X.A.mark (some (.ref xa))) (eval (.Name x p1) X.env) Q E { s2 with heap := g1 } := fun {Q E} q => by
          obtain ⟨gl, db, gm | ⟨gm, bv, ne⟩⟩ := hc
          · exact ld_glob (X := X.suite xa ((xa, ob1) :: (X.pn ++ ps))) S1 gl gm q db
          · exact ld_blt (X := X.suite xa ((xa, ob1) :: (X.pn ++ ps))) S1 gl gm bv q ne db
        refine wpAny_handleBy_cons (codeAny_handlers_test (named ((PySem.W.exm_one (M := model X.prog X.w) J1.kIn lk e).here ?_))) (fun z => nomatch z)
        cases b with
        | false => exact ih (no rfl)
        | true =>
          refine codeAny_handlers_suite_as (HandSPX.lands_againZ f1 fun g2 f2 u2 => ?_)
          obtain ⟨ob2, vs2, at2, zc2, fd2⟩ := f2.there
          have J2 : Inv X ps s3 G3 { s2 with heap := g2 } := Ja.landed nb f2.1 ((ups.trans u1).trans u2) eos ags
          refine store_ok (X := X.suite xa ((xa, ob2) :: (X.pn ++ ps))) (v := .ref xa) (J2.suite at2 fd2 na out1 out2) nd hi (.inl hn) rfl (fun s5 S5 => ?_) (.inr hn)
          refine wpAny_mono ((hsu xa ob2 kl d (X.pn ++ ps) zc2 ⟨_, fd2⟩).run [] s5 _ G3 _ S5 (yes rfl xa na)) (fun fl s6 q => ?_) fun _ _ z => z.elim
          have gone : ∀ {sg6 : L2.St} {G6 : Hp} {Q : Shared → Prop}, Inv (X.suite xa ((xa, ob2) :: (X.pn ++ ps))) [] sg6 G6 s6 → (∀ s7, Inv X ps (sg6.set i none) G6 s7 → Q s7) → wpAny (model X.prog X.w) X.A (do bindName X.env n .none; unbindBehindTheSuite X.env n p2) (fun _ s7 => Q s7) X.xe s6 :=
            fun I6 k => gone_ok (I6.unsuite ok) nd hi hn k
          match fl, q with
          | .next, ⟨_, _, I6, q6⟩ => exact gone I6 fun _ I7 => ⟨_, _, I7, q6⟩
          | .brk, ⟨_, _, I6, q6⟩ => exact gone I6 fun _ I7 => ⟨_, _, I7, q6⟩
          | .cont, ⟨_, _, I6, q6⟩ => exact gone I6 fun _ I7 => ⟨_, _, I7, q6⟩
          | .ret _, ⟨_, _, _, I6, r6, q6⟩ => exact gone I6 fun _ I7 => ⟨_, _, _, I7, r6, q6⟩
    exact all hh w
  · match fl, hsp with
    | .next, ⟨_, _, I6, q6⟩ => exact wpAny_execs_nil ⟨_, _, I6.ofTry ok, q6⟩
    | .brk, ⟨_, _, I6, q6⟩ => exact ⟨_, _, I6.ofTry ok, q6⟩
    | .cont, ⟨_, _, I6, q6⟩ => exact ⟨_, _, I6.ofTry ok, q6⟩
    | .ret _, ⟨_, _, _, I6, r6, q6⟩ => exact ⟨_, _, _, I6.ofTry ok, r6, q6⟩
end
end Dk
set_option Elab.async false
set_option linter.all false
set_option maxRecDepth 100000
set_option maxHeartbeats 4000000
namespace Dk
open PySem PySem.Spec PyProof.Rows L2 Er
open PySem.ErK (EC)
/-! ### o.m(..) under a try; _law_saw, _law_told -/
def tMethT (C : Addr) (m : Str) (sp : Sp) (E : L2.St → XK) (ta : TE) (t : TA) : TE := fun σ H Q => ta σ H fun y H1 => ∃ o dx fs, y = .ref o ∧ H1 o = some (.ins C dx fs) ∧ fs.lookup m = none ∧ t σ H1 fun vs H2 => sp (y :: (vs ++ [])) H2 Q (E σ)
theorem pe_methT {X : Cx} {CX : CXT} {k : Nat} {f C : Addr} {fd : FuncData} {ps : List Str} {sp : Sp} {E : L2.St → XK} {m : Str} {pos apos : Pos} {o e : Expr} {es : List Expr} {ta : TE} {t : TA} {pl : Sem Bool} (ho : PE X o ta) (c : Cls X.K C) (hm : Meth X.K C m f) (F : FnOk X.prog X.w X.K X.mg X.base CX k f fd ps sp)
    (hr : Room k X.A) (hb : Binds X.K fd ps []) (hx : ∀ σ, PassesAt CX X σ (E σ)) (ha : PA X (e :: es) t) (hst : starEach (e :: es) X.env = (false, eval e X.env) :: starEach es X.env := by rfl) (hpl : (backTo pos (starEach es X.env)).any (·.1) = false := by rfl)
    (ht : eval (.Call (.Attribute o m apos) (e :: es) [] pos) X.env = (do let ov ← eval o X.env; standAt apos.atName; let (g, first) ← holding [ov] (getMethod ov m pl); callWith pos g first (backTo pos (starEach (e :: es) X.env)) (backToKw pos (keywordEach [] X.env))) := by rfl) :
    PE X (.Call (.Attribute o m apos) (e :: es) [] pos) (tMethT C m sp E ta t) := by
  refine ⟨fun ps sh σ H Q I h => ?_⟩
  refine PySem.W.methodCall_KW (pl := pl) (thn (ho.run ps sh σ H _ I h) fun u s1 ⟨y, H1, I1, ry, a, dx, fs, ey, ea, l, q⟩ => ?_) ht
  subst ey
  obtain rfl : u = Value.ref a := ry
  refine getmeth_ok I1 ea c hm l (PySem.W.callWith_K (first := [.ref a]) (h₀ := X.base) I.ok.mod.kin hm.kp (thn (ha.run pos ps s1 σ H1 _ I1 q) fun us s2 ⟨vs, H2, I2, r, q2⟩ => ⟨I2.kIn, ?_⟩) hst hpl)
  exact run_fnSD (dvs := []) (us := .ref a :: us) (vs := .ref a :: vs) F hr hb .nil (hx σ) I2 (.cons rfl r) q2
/-- what a list of two tells -/
def Pair2 (H : Hp) (p : Addr) (x : Str) (y : V) : Prop := H p = some (.lst [.str x, y])
theorem takesN {X : Cx} : Takes X (fun _ _ _ _ => False) := fun _ _ ⟨_, _, _, _, _, _, _, _, _, _, _, _, _, _, _, _, w⟩ => w.elim
section
variable {P : Program} {w : World} {K : PySem.W.Frag} {mg : Str → Option Value} {base : Heap} {f fI fJ fS fL C CS CR : Addr} {fd dI dJ dS dL : FuncData}
theorem bSight (F : FunD K "sight" "Desk.sight" (defArgs (meth 5)) (defBody (meth 5)) (defScope (meth 5)) [] [] f fd) : Binds K fd nSight [] := F.bindsN fun _ _ _ _ _ _ us hl => match us, hl with
  | [_, _], _ => rfl
theorem bLead (F : FunD K "lead" "Desk.lead" (defArgs (meth 4)) (defBody (meth 4)) (defScope (meth 4)) [] [] f fd) : Binds K fd ["self", "standing", "row"] [] := F.bindsN fun _ _ _ _ _ _ us hl => match us, hl with
  | [_, _, _], _ => rfl
end
end Dk
set_option Elab.async false
set_option linter.all false
set_option maxRecDepth 100000
set_option maxHeartbeats 4000000
namespace Dk
open PySem PySem.Spec PyProof.Rows L2 Er
/-! ### == of dicts, whichever the answer -/
def sameF (F : V → V → Bool) (ks ls : List (Key × V)) : Bool := decide (ks.length = ls.length) && ks.all fun p => match valV ls p.1 with
  | none => false
  | some u => F p.2 u
theorem valV_in {ls : List (Key × V)} {k : Key} {u : V} (e : valV ls k = some u) : ∃ p ∈ ls, p.2 = u := by
  unfold valV at e
  cases h : ls.find? fun kv => decide (kv.1 = k) with
  | none =>
    rw [h] at e
    cases e
  | some p =>
    rw [h] at e
    exact ⟨p, List.mem_of_find?_eq_some h, Option.some.inj e⟩
theorem hits_P {P : Program} {w : World} {A : Around} {s : Shared} {F : V → V → Bool} {ls : List (Key × V)} {vb : List (Key × Value)} (rb : KV ls vb) : ∀ {ks : List (Key × V)} {va : List (Key × Value)}, KV ks va →
    (∀ p ∈ ks, ∀ u, valV ls p.1 = some u → ∀ y z, RelV p.2 y → RelV u z → SeqAt.EqP P w A s y z (F p.2 u)) → PySem.W.KeqHitsP P w A s vb va (ks.all fun p => match valV ls p.1 with
      | none => false
      | some u => F p.2 u)
  | [], _, ra, _ => by
    cases ra
    exact .nil
  | p :: ks, _, ra, ih => by
    cases ra with
    | @cons _ q _ qs h t =>
      obtain ⟨h1, h2⟩ := h
      obtain ⟨key, y⟩ := q
      have h1 : p.1 = key := h1
      subst h1
      have rest := hits_P (P := P) (w := w) (A := A) (s := s) (F := F) rb t fun p' hm => ih p' (List.mem_cons_of_mem _ hm)
      have rv := rb.val p.1
      rw [List.all_cons]
      cases e : valV ls p.1 with
      | none =>
        rw [e] at rv
        cases g : valueAt vb p.1 with
        | none => exact .miss g
        | some z =>
          rw [g] at rv
          exact rv.elim
      | some u =>
        rw [e] at rv
        cases g : valueAt vb p.1 with
        | none =>
          rw [g] at rv
          exact rv.elim
        | some z =>
          rw [g] at rv
          exact .hit g (ih p List.mem_cons_self u e y z h2 rv) rest
theorem hits_F {A : Around} {s : Shared} {ls : List (Key × V)} {vb : List (Key × Value)} (rb : KV ls vb) (fl : ∀ p ∈ ls, flatV p.2 = true) : ∀ {ks : List (Key × V)} {va : List (Key × Value)}, KV ks va → (∀ p ∈ ks, flatV p.2 = true) →
    PySem.W.KeqHits A s vb va (ks.all fun p => match valV ls p.1 with
      | none => false
      | some u => eqV p.2 u)
  | [], _, ra, _ => by
    cases ra
    exact .nil
  | p :: ks, _, ra, fk => by
    cases ra with
    | @cons _ q _ qs h t =>
      obtain ⟨h1, h2⟩ := h
      obtain ⟨key, y⟩ := q
      have h1 : p.1 = key := h1
      subst h1
      have rest := hits_F (A := A) (s := s) rb fl t fun p' hm => fk p' (List.mem_cons_of_mem _ hm)
      have rv := rb.val p.1
      rw [List.all_cons]
      cases e : valV ls p.1 with
      | none =>
        rw [e] at rv
        cases g : valueAt vb p.1 with
        | none => exact .miss g
        | some z =>
          rw [g] at rv
          exact rv.elim
      | some u =>
        rw [e] at rv
        obtain ⟨pu, hpu, rfl⟩ := valV_in e
        cases g : valueAt vb p.1 with
        | none =>
          rw [g] at rv
          exact rv.elim
        | some z =>
          rw [g] at rv
          exact .hit g (eqAt_V h2 rv (fk p List.mem_cons_self) (fl pu hpu)) rest
section
variable {X : Cx}
/-- a != b, two dicts of flat values -/
def rNeF : R2 := fun x y H Q => ∃ a b ks ls, x = .ref a ∧ y = .ref b ∧ H a = some (.dK ks) ∧ H b = some (.dK ls) ∧ (∀ p ∈ ks, flatV p.2 = true) ∧ (∀ p ∈ ls, flatV p.2 = true) ∧ Q (.bl (!sameF eqV ks ls)) H
theorem op_neF (hu : X.A.units + 1 < cLine) : OpR X (compareOp .NotEq) rNeF := by
  intro ps s σ H x y v u Q I rx ry h
  obtain ⟨a, b, ks, ls, rfl, rfl, ea, eb, fk, fl, q⟩ := h
  obtain rfl : v = Value.ref a := rx
  obtain rfl : u = Value.ref b := ry
  obtain ⟨_, ya, va, ra, da⟩ := (show ObjOk X.prog X.w H s.heap a (.dK ks) from I.hok a _ ea)
  obtain ⟨_, yb, vb, rb, db⟩ := (show ObjOk X.prog X.w H s.heap b (.dK ls) from I.hok b _ eb)
  refine PySem.W.keq_ne (knd := mixKind X.prog X.w) ya yb da db (by omega) (fun _ => hits_F rb fl ra fk) (fin_bl I q ?_)
  unfold sameF
  rw [ra.length, rb.length]
  rfl
/-- how the parts of two dicts of dicts compare -/
def sub (T : Addr → List (Key × V)) : V → V → Bool
  | .ref c, .ref d => if c = d then true else sameF eqV (T c) (T d)
  | _, _ => false
/-- a == b, two dicts of dicts of flat values -/
def rEqN : R2 := fun x y H Q => ∃ (a b : Addr) (ks ls : List (Key × V)) (T : Addr → List (Key × V)), x = .ref a ∧ y = .ref b ∧ H a = some (.dK ks) ∧ H b = some (.dK ls) ∧
  (∀ p ∈ ks, ∃ c, p.2 = .ref c ∧ H c = some (.dK (T c)) ∧ ∀ q ∈ T c, flatV q.2 = true) ∧ (∀ p ∈ ls, ∃ c, p.2 = .ref c ∧ H c = some (.dK (T c)) ∧ ∀ q ∈ T c, flatV q.2 = true) ∧ Q (.bl (sameF (sub T) ks ls)) H
theorem op_eqN (hu : X.A.units + 1 < cLine) : OpR X (compareOp .Eq) rEqN := by
  intro ps s σ H x y v u Q I rx ry h
  obtain ⟨a, b, ks, ls, T, rfl, rfl, ea, eb, fk, fl, q⟩ := h
  obtain rfl : v = Value.ref a := rx
  obtain rfl : u = Value.ref b := ry
  obtain ⟨_, ya, va, ra, da⟩ := (show ObjOk X.prog X.w H s.heap a (.dK ks) from I.hok a _ ea)
  obtain ⟨_, yb, vb, rb, db⟩ := (show ObjOk X.prog X.w H s.heap b (.dK ls) from I.hok b _ eb)
  have part : ∀ p ∈ ks, ∀ u, valV ls p.1 = some u → ∀ y z, RelV p.2 y → RelV u z → SeqAt.EqP X.prog X.w X.A.in1 s y z (sub T p.2 u) := fun p hp u e y z ry rz => by
    obtain ⟨pu, hpu, rfl⟩ := valV_in e
    obtain ⟨c, ec, hc, fc⟩ := fk p hp
    obtain ⟨d, ed, hd, fd⟩ := fl pu hpu
    rw [ec] at ry ⊢
    rw [ed] at rz ⊢
    obtain rfl : y = Value.ref c := ry
    obtain rfl : z = Value.ref d := rz
    show SeqAt.EqP X.prog X.w X.A.in1 s (.ref c) (.ref d) (if c = d then true else sameF eqV (T c) (T d))
    by_cases g : c = d
    · subst g
      rw [if_pos rfl]
      exact (SeqAt.EqAt.same _).eqP
    · rw [if_neg g]
      obtain ⟨_, yc, vc, rc, dc⟩ := (show ObjOk X.prog X.w H s.heap c (.dK (T c)) from I.hok c _ hc)
      obtain ⟨_, yd, vd, rd, dd⟩ := (show ObjOk X.prog X.w H s.heap d (.dK (T d)) from I.hok d _ hd)
      refine SeqAt.eqP_refs g fun E Q2 q2 => PySem.W.keq_eq (knd := mixKind X.prog X.w) yc yd dc dd (show X.A.in1.units < cLine from hu) (fun _ => hits_F rd fd rc fc) ?_
      unfold sameF at q2
      rw [rc.length, rd.length] at q2
      exact q2
  refine PySem.W.rcP_dicts (knd := mixKind X.prog X.w) ya yb da db (by omega) (fun _ => hits_P rb ra part) _ _ ?_
  refine fin_bl I q ?_
  unfold sameF
  rw [ra.length, rb.length]
  rfl
end
end Dk
set_option Elab.async false
set_option linter.all false
set_option maxRecDepth 100000
set_option maxHeartbeats 4000000
namespace Dk
open PySem PySem.Spec PyProof.Rows L2 Er
/-! ### tuple(x), x a dict -/
section
variable {prog : Program} {w : World} {A : Around} {E : Value → Shared → Prop} {s : Shared} {T : String} {r d : Addr} {n : Nat} {P : Nat → Value → Prop} {OK : Heap → Prop}
theorem gather_src {Q : List Value → Shared → Prop} (K : PySem.W.KdlSrc prog w T r d n P OK) (hh : A.handled = none) (ok : OK s.heap) (hn : n ≤ sizeLine)
    (fin : ∀ (g : Heap) (tk : Nat) (acc : Array Value), (∀ b o, s.heap.get? b = some o → g.get? b = some o) → ItemsOf P acc n → Q acc.toList { s with heap := g, toks := tk }) : wpAny (model prog w) A (collect (.ref r)) Q E s := by
  have lt := K.there _ ok
  have new : (s.heap.push { cls := .type "list", data := .seq ([] : List Value).toArray }).get? s.heap.objs.size = some { cls := .type "list", data := .seq #[] 0 } := Heap.get?_push_size _ rfl
  unfold collect
  refine wpAny_bind (wpAny_runValue (codeAny_builtin F.entry_proto_collect ?_))
  rw [Around.under_plainId F.plain_proto_collect _]
  show wpAny _ A.in1 (newList [] >>= fun z => again (.builtin "list.__iadd__" ⟨[z, .ref r], []⟩)) _ _ s
  refine wpAny_bind (wpAny_newObj_type (wpAny_pure ⟨plainId_quiet F.plain_list_iadd _, codeAny_builtin F.entry_list_iadd ?_⟩))
  rw [Around.under_plainId F.plain_list_iadd _]
  show wpAny _ A.in1 (Builtin.List.listExtendWith (.ref s.heap.objs.size) (.ref r) (.ref s.heap.objs.size)) _ _ _
  refine wpAny_mono (PySem.W.kdl_extend (A := A) (R := fun rr s2 => rr = .ok (.ret (.ref s.heap.objs.size)) ∧ ∃ (g : Heap) (tk : Nat) (acc : Array Value) (c2 : Nat), s2 = { s with heap := g, toks := tk } ∧ (∀ b o, s.heap.get? b = some o → g.get? b = some o) ∧
      g.get? s.heap.objs.size = some { cls := .type "list", dict := none, data := .seq acc c2, slots := #[] } ∧ ItemsOf P acc n)
    (s := { s with heap := s.heap.push { cls := .type "list", data := .seq ([] : List Value).toArray } }) K hh (K.keep _ _ ok fun b _ o e => Heap.get?_push_of_some _ e) _ (Nat.ne_of_gt lt.1) (Nat.ne_of_gt lt.2) _ 0 new
    (fun g tk acc c2 k e i => ⟨rfl, g, tk, acc, c2, rfl, fun b o q => k b o (Nat.ne_of_lt (Heap.lt_size q)) (Heap.get?_push_of_some _ q), e, i⟩) hn) (fun f s2 h => ?_) (fun e s2 h => absurd h.1 (by simp))
  cases f with
  | done f =>
    obtain ⟨ef, g, tk, acc, c2, rfl, k, e, i⟩ := h
    cases ef
    show wpAny _ A (load s.heap.objs.size >>= _) _ _ _
    exact wpAny_bind (wpAny_load e (wpAny_pure (fin g tk acc k i)))
  | again c1 =>
    refine ⟨h.1, codeAny_mono h.2 fun rr s3 q => ?_⟩
    obtain ⟨rfl, g, tk, acc, c2, rfl, k, e, i⟩ := q
    show wpAny _ A (load s.heap.objs.size >>= _) _ _ _
    exact wpAny_bind (wpAny_load e (wpAny_pure (fin g tk acc k i)))
theorem code_tup_src {Q1 : Value → Shared → Prop} (K : PySem.W.KdlSrc prog w T r d n P OK) (hh : A.handled = none) (ok : OK s.heap) (hn : n ≤ sizeLine) (nt : (Value.type T == Value.type "tuple") = false)
    (fin : ∀ (g : Heap) (tk : Nat) (acc : Array Value), (∀ b o, s.heap.get? b = some o → g.get? b = some o) → ItemsOf P acc n → Q1 (.ref g.objs.size) { s with heap := g.push { cls := .type "tuple", data := .seq acc }, toks := tk }) :
    codeAny (model prog w) A (.call (.builtin "tuple.__new__") ⟨[.type "tuple", .ref r], []⟩) (wants Q1 E) s := by
  refine codeAny_of_tree ?_
  show wpAny _ A.in1 (do checkBuiltinCall "tuple.__new__" ⟨[.type "tuple", .ref r], []⟩; again (.builtin "tuple.__new__" ⟨[.type "tuple", .ref r], []⟩)) _ _ s
  refine wpAny_bind (wpAny_of_eq (F.newCall_tuple_1 _) (wpAny_pure ⟨plainId_quiet F.plain_tuple_new _, codeAny_builtin F.entry_tuple_new ?_⟩))
  rw [Around.under_plainId F.plain_tuple_new _]
  have h1 := sub_tuple_self
  have h2 := init_tuple_lookup
  have h3 := madeHere_tuple
  have h4 := K.type _ ok
  have h5 : A.in1.handled = none := hh
  wp_walk using wpAny_typeOf h4, gather_src (A := A.in1) K h5 ok hn
  intro g tk acc k i
  show wpAny _ _ (Builtin.Tuple.tupleExact acc.toList.toArray >>= fun v => ret v) _ _ _
  unfold Builtin.Tuple.tupleExact
  refine wpAny_bind (wpAny_newObj_type ?_ (by show acc.toList.toArray.size ≤ sizeLine; simp only [Array.toArray_toList]; rw [i.1]; exact hn))
  refine wpAny_pure ?_
  rw [show acc.toList.toArray = acc from by simp]
  exact fin g tk acc k i
end
def rTupD : List V → Hp → VK → Prop := fun xs H Q => ∃ p kvs, xs = [.ref p] ∧ H p = some (.dK kvs) ∧ ∀ q, H q = none → Q (.ref q) (upd H q (.tup (kvs.map fun kv => kV kv.1)))
theorem call_tup_dK {X : Cx} (hc : X.calm = true) : CallR X (.type "tuple") rTupD := by
  intro ps s σ H xs us Q I r h
  obtain ⟨p, kvs, rfl, hk, q⟩ := h
  obtain ⟨u, rfl, rx⟩ := vals1 r
  obtain rfl : u = Value.ref p := rx
  obtain ⟨z, lo, vs, rk, hd⟩ := (show ObjOk X.prog X.w H s.heap p (.dK kvs) from I.hok p _ hk)
  obtain ⟨ep, at_⟩ := hd.dictAt
  have hl : kvs.length = vs.length := Paired.length rk
  refine callType_codes (Q₁ := fun obj s1 => s1.TypeIs obj "tuple" ∧ EP X ps σ Q obj s1) F.called_tuple (F.typeCall_tuple_1 _) F.entry_object_init
    (code_tup_src (A := X.A.in1) (PySem.W.kdl_dict (knd := mixKind X.prog X.w) (kvs := vs) (ep := ep) lo) (I.ok.hd hc) at_ (by rw [← hl]; exact z) (by decide) fun g tk acc k i => ⟨⟨_, Heap.get?_push_size _ rfl, rfl⟩, ?_⟩) fun obj s1 h1 => ?_
  · have I1 : Inv X ps σ H { s with heap := g, toks := tk } := I.kept k
    refine ⟨.ref g.objs.size, upd H g.objs.size (.tup (kvs.map fun kv => kV kv.1)), I1.laid (t' := tk) (fun c o e => Heap.get?_push_of_some _ e) (Nat.le_refl _) (show ObjOk X.prog X.w _ _ _ (.tup (kvs.map fun kv => kV kv.1)) from ⟨?_, acc.toList, ?_, ?_⟩), rfl, q _ (I1.hok.fresh (Nat.le_refl _))⟩
    · rw [List.length_map]
      exact z
    · have el : acc.toList.length = acc.size := by simp
      refine vals_of_at (by rw [List.length_map, el, i.1, hl]) fun j x w e1 e2 => ?_
      obtain ⟨ky, y, hky, hi⟩ := i.2 j w (by rw [← Array.getElem?_toList]; exact e2)
      have g1 : (kvs.map (·.1))[j]? = some ky := by
        rw [KV.keys rk, List.getElem?_map, hky]
        rfl
      have g2 : (kvs.map fun kv => kV kv.1)[j]? = some (kV ky) := by
        rw [show (kvs.map fun kv => kV kv.1) = (kvs.map (·.1)).map kV from by rw [List.map_map]; rfl, List.getElem?_map, g1]
        rfl
      rw [g2] at e1
      cases Option.some.inj e1
      exact keyIs_rel hi
    · rw [Array.toArray_toList]
      exact IsTup.new _ _
  · exact ⟨h1.1, F.args_object_init_2 obj _, object_init_meets F.called_tuple.init.lookup F.called_tuple.made (by decide) X.prog X.w X.A.in1 _ s1 ⟨h1.1, rfl, h1.2⟩⟩
end Dk
set_option Elab.async false
set_option linter.all false
set_option maxRecDepth 100000
set_option maxHeartbeats 4000000
namespace Dk
open PySem PySem.Spec PyProof.Rows L2 Er
/-! ### Desk.__eq__ -/
theorem same_iff {F : V → V → Bool} {ws : List Str} {us vs : List V} (nd : ws.Nodup) (h1 : us.length = ws.length) (h2 : vs.length = ws.length) : sameF F (dkv ws us) (dkv ws vs) = true ↔ ∀ (j : Nat) (u v : V), us[j]? = some u → vs[j]? = some v → F u v = true := by
  have knd : ((dkv ws vs).map (·.1)).Nodup := by
    rw [dkv_keys h2.symm]
    exact List.Pairwise.map _ (fun a b n z => n (Sum.inr.inj z)) nd
  unfold sameF
  rw [dkv_len h1, dkv_len h2, decide_eq_true rfl, Bool.true_and, List.all_eq_true]
  constructor
  · intro h j u v e1 e2
    have jl : j < ws.length := by
      have := (List.getElem?_eq_some_iff.mp e1).1
      omega
    have ew : (ws.map Sum.inr : List Key)[j]? = some (.inr (ws[j]'jl)) := by
      rw [List.getElem?_map, List.getElem?_eq_getElem jl]
      rfl
    have m1 : (dkv ws us)[j]? = some (.inr (ws[j]'jl), u) := List.getElem?_zip_eq_some.mpr ⟨ew, e1⟩
    have m2 : (dkv ws vs)[j]? = some (.inr (ws[j]'jl), v) := List.getElem?_zip_eq_some.mpr ⟨ew, e2⟩
    have q := h _ (List.mem_of_getElem? m1)
    rw [valV_of knd m2] at q
    exact q
  · intro h p hp
    obtain ⟨j, hj⟩ := List.mem_iff_getElem?.mp hp
    obtain ⟨k, u⟩ := p
    obtain ⟨z, ez, rfl, eu⟩ := dkv_at hj
    have jl : j < vs.length := by
      have := (List.getElem?_eq_some_iff.mp ez).1
      omega
    have m2 : (dkv ws vs)[j]? = some (.inr z, vs[j]'jl) := List.getElem?_zip_eq_some.mpr ⟨by rw [List.getElem?_map, ez]; rfl, List.getElem?_eq_getElem jl⟩
    rw [valV_of knd m2]
    exact h j u _ eu (List.getElem?_eq_getElem jl)
theorem same_strs {ws ls ms : List Str} (nd : ws.Nodup) (h1 : ls.length = ws.length) (h2 : ms.length = ws.length) : sameF eqV (dkv ws (ls.map V.str)) (dkv ws (ms.map V.str)) = decide (ls = ms) := by
  rw [Bool.eq_iff_iff, decide_eq_true_iff, same_iff nd (by rw [List.length_map, h1]) (by rw [List.length_map, h2])]
  constructor
  · intro h
    refine List.ext_getElem (by omega) fun j j1 j2 => ?_
    have q := h j (.str (ls[j]'j1)) (.str (ms[j]'j2)) (by rw [List.getElem?_map, List.getElem?_eq_getElem j1]; rfl) (by rw [List.getElem?_map, List.getElem?_eq_getElem j2]; rfl)
    exact beq_iff_eq.mp q
  · rintro rfl j u v e1 e2
    rw [e1] at e2
    cases e2
    rw [List.getElem?_map] at e1
    cases g : ls[j]? with
    | none =>
      rw [g] at e1
      cases e1
    | some z =>
      rw [g] at e1
      cases e1
      exact beq_self_eq_true z
/-- the dict at an address -/
def dictAt (H : Hp) (a : Addr) : List (Key × V) := match H a with
  | some (.dK t) => t
  | _ => []
theorem dictAt_of {H : Hp} {a : Addr} {t : List (Key × V)} (e : H a = some (.dK t)) : dictAt H a = t := by
  unfold dictAt
  rw [e]
theorem same_tabs {H : Hp} {ws ds : List Str} {as bs : List Addr} {tb tc : List (List Str)} (nd : ws.Nodup) (dnd : ds.Nodup) (h1 : tb.length = ds.length) (h2 : tc.length = ds.length) (r1 : ∀ vs ∈ tb, vs.length = ws.length) (r2 : ∀ vs ∈ tc, vs.length = ws.length)
    (p1 : Paired (fun a vs => H a = some (.dK (dkv ws (vs.map V.str)))) as tb) (p2 : Paired (fun a vs => H a = some (.dK (dkv ws (vs.map V.str)))) bs tc) : sameF (sub (dictAt H)) (dkv ds (as.map V.ref)) (dkv ds (bs.map V.ref)) = decide (tb = tc) := by
  have l1 := paired_len p1
  have l2 := paired_len p2
  have step : ∀ (c d : Addr) (vs us : List Str), vs.length = ws.length → us.length = ws.length → H c = some (.dK (dkv ws (vs.map V.str))) → H d = some (.dK (dkv ws (us.map V.str))) → sub (dictAt H) (.ref c) (.ref d) = decide (vs = us) := fun c d vs us e1 e2 e3 e4 => by
    show (if c = d then true else sameF eqV (dictAt H c) (dictAt H d)) = _
    by_cases g : c = d
    · subst g
      rw [e3] at e4
      have e5 := HO.dK.inj (Option.some.inj e4)
      have e6 := same_strs nd e1 e2
      rw [← e5, same_strs nd e1 e1, decide_eq_true rfl] at e6
      rw [if_pos rfl]
      exact e6
    · rw [if_neg g, dictAt_of e3, dictAt_of e4, same_strs nd e1 e2]
  rw [Bool.eq_iff_iff, decide_eq_true_iff, same_iff dnd (by rw [List.length_map, l1, h1]) (by rw [List.length_map, l2, h2])]
  constructor
  · intro h
    refine List.ext_getElem (by omega) fun j j1 j2 => ?_
    have ja : j < as.length := by omega
    have jb : j < bs.length := by omega
    obtain ⟨vs, e1, e2⟩ := pair_at p1 (List.getElem?_eq_getElem ja)
    obtain ⟨us, e3, e4⟩ := pair_at p2 (List.getElem?_eq_getElem jb)
    have q := h j (.ref (as[j]'ja)) (.ref (bs[j]'jb)) (by rw [List.getElem?_map, List.getElem?_eq_getElem ja]; rfl) (by rw [List.getElem?_map, List.getElem?_eq_getElem jb]; rfl)
    rw [step _ _ vs us (r1 _ (List.mem_of_getElem? e1)) (r2 _ (List.mem_of_getElem? e3)) e2 e4, decide_eq_true_iff] at q
    rw [List.getElem?_eq_getElem j1] at e1
    rw [List.getElem?_eq_getElem j2] at e3
    rw [Option.some.inj e1, Option.some.inj e3, q]
  · rintro rfl j u v e1 e2
    rw [List.getElem?_map] at e1 e2
    cases ga : as[j]? with
    | none =>
      rw [ga] at e1
      cases e1
    | some c =>
      cases gb : bs[j]? with
      | none =>
        rw [gb] at e2
        cases e2
      | some d =>
        rw [ga] at e1
        rw [gb] at e2
        cases e1
        cases e2
        obtain ⟨vs, e3, e4⟩ := pair_at p1 ga
        obtain ⟨us, e5, e6⟩ := pair_at p2 gb
        rw [e3] at e5
        cases Option.some.inj e5
        have lv := r1 _ (List.mem_of_getElem? e3)
        rw [step _ _ vs vs lv lv e4 e6, decide_eq_true rfl]
theorem dp_strs {K : PySem.W.Frag} {H : Hp} : ∀ (ws : List Str), DpAll K H (ws.map V.str) (ws.map PyData.str)
  | [] => .nil
  | z :: ws => .cons (.str z) (dp_strs ws)
theorem lay_strs : ∀ {ws : List Str}, (∀ z ∈ ws, IsWord z) → PyData.canLayAll0 (ws.map PyData.str) = true ∧ PyData.depthAll (ws.map PyData.str) ≤ 1
  | [], _ => ⟨by simp [PyData.canLayAll0], by simp [PyData.depthAll]⟩
  | z :: ws, h => by
    have ih := lay_strs (ws := ws) fun y hy => h y (List.mem_cons_of_mem _ hy)
    exact ⟨by simp [PyData.canLayAll0, PyData.canLay0, (h z List.mem_cons_self).ok, ih.1], by simp only [List.map_cons, PyData.depthAll, PyData.depth]; omega⟩
theorem shaped_tupS {ws : List Str} (h : ∀ z ∈ ws, IsWord z) : SeqAt.shaped (.tuple (ws.map PyData.str)) = true := by
  have z := lay_strs h
  unfold SeqAt.shaped
  have c : (PyData.tuple (ws.map PyData.str)).canLay0 = true := by simpa [PyData.canLay0] using z.1
  rw [c, Bool.true_and, decide_eq_true_iff]
  have d : (PyData.tuple (ws.map PyData.str)).depth ≤ 2 := by
    simp only [PyData.depth]
    omega
  omega
theorem eqv_strs : ∀ {ws vs : List Str}, PyData.eqvAll (ws.map PyData.str) (vs.map PyData.str) = decide (ws = vs)
  | [], [] => by simp [PyData.eqvAll]
  | [], _ :: _ => by simp [PyData.eqvAll]
  | _ :: _, [] => by simp [PyData.eqvAll]
  | z :: ws, y :: vs => by
    have ih := eqv_strs (ws := ws) (vs := vs)
    simp only [List.map_cons, PyData.eqvAll, PyData.eqv, ih]
    rw [Bool.eq_iff_iff]
    simp
theorem eqv_tupS {ws vs : List Str} : PyData.eqv (.tuple (ws.map PyData.str)) (.tuple (vs.map PyData.str)) = decide (ws = vs) := by
  rw [← eqv_strs]
  simp only [PyData.eqv]
/-- what the written part says of Desk -/
structure DkC (K : PySem.W.Frag) (mg : Str → Option Value) (C : Addr) : Prop where
  cl : Cls K C
  ha : PySem.W.findIn K (.ref C) "__class__" = some (some (.builtin "object.__class__"))
  hn : PySem.W.specialIn K (.builtin "object.__class__") "__get__" = some (some (.builtin "getset_descriptor.__get__"))
  htk : PySem.W.takesIn K (.builtin "object.__class__") = some true
  hm : PySem.W.mroIn K C (.type "object") = some true
  kC : PySem.W.kitOne K (.ref C) (.ref C) = some true
  n1 : NoAttr K C "_standings"
  n2 : NoAttr K C "_leads"
  n3 : NoAttr K C "_sights"
  g : mg "Desk" = some (.ref C)
def spEqK (K : PySem.W.Frag) (C : Addr) : Sp := fun vs H Q _ => ∃ (x : Addr) (y : V) (ws ds : List Str) (tb : List (List Str)) (ls : List Str) (m : Nat), vs = [.ref x, y] ∧ DeskOb K C H x ws ds tb ls ∧ DkIs m ws ds tb ls ∧
  ((∃ (z : Addr) (ws' ds' : List Str) (tb' : List (List Str)) (ls' : List Str) (m' : Nat), y = .ref z ∧ DeskOb K C H z ws' ds' tb' ls' ∧ DkIs m' ws' ds' tb' ls' ∧ ∀ H', Sm H H' → Q (.bl (decide (ws = ws' ∧ ls = ls' ∧ ds = ds' ∧ tb = tb'))) H') ∨
   ∃ t, TyX K H y t ∧ PySem.W.kitOne K t (.ref C) = some false ∧ Q (.bl false) H)
abbrev nEq : List Str := ["self", "other"]
theorem scEq : FnScope nEq nEq (defScope (meth 7)) := ⟨rfl, rfl, rfl, by decide +kernel, rfl, by decide +kernel, by decide +kernel⟩
theorem keys_dkv {ds : List Str} {us : List V} (e : us.length = ds.length) : ((dkv ds us).map fun kv => kV kv.1) = ds.map V.str := by
  have z := dkv_keys e.symm
  rw [show ((dkv ds us).map fun kv => kV kv.1) = ((dkv ds us).map (·.1)).map kV from by rw [List.map_map]; rfl, z, List.map_map]
  rfl
section
variable {P : Program} {w : World} {K : PySem.W.Frag} {mg : Str → Option Value} {base : Heap} {f C : Addr} {fd : FuncData}
theorem ok_eqK (F : FunD K "__eq__" "Desk.__eq__" (defArgs (meth 7)) (defBody (meth 7)) (defScope (meth 7)) [] [] f fd) (mi : mg "isinstance" = none) (mT : mg "tuple" = none) (T : DkC K mg C) : FnOk P w K mg base CX0 1 f fd nEq (spEqK K C) := by
  refine F.ok (CX := CX0) scEq (fun vs H Q E h => ?_) (fun cdv A outer s H vs Q E hr h => ?_)
  · obtain ⟨x, y, ws, ds, tb, ls, m, rfl, _⟩ := h
    rfl
  · refine ⟨_, PSs.nox (pss_cons (ps_if (pt_not (pt_val (by exact (pe_callB call_isi rfl mi PyProof.Rows.boot_isinstance (pa_cons (pv 1) (pa_cons (pe_glob (v := .ref C) rfl T.g rfl) pa_nil)))))) (pss_one (ps_ret pe_bl)) pss_nil)
      (pss_cons (ps_if (PW.pt (pw_or (pt_cmpR (op_neD hr.units) (pe_fld (pv 0) rfl) (pe_fld (pv 1) rfl) (nomark _)) (pw_or1 (pt_cmpR (op_neF (hu_of hr)) (pe_fld (pv 0) rfl) (pe_fld (pv 1) rfl) (nomark _))))) (pss_one (ps_ret pe_bl)) pss_nil)
      (pss_one (ps_ret (by exact (pe_and (by exact (pe_cmpR (op_eqD hr.units) (by exact (pe_callTy (call_tup_dK rfl) rfl mT PyProof.Rows.boot_tuple (pa_cons (by exact (pe_fld (pv 0) rfl)) pa_nil))) (by exact (pe_callTy (call_tup_dK rfl) rfl mT PyProof.Rows.boot_tuple (pa_cons (by exact (pe_fld (pv 1) rfl)) pa_nil))) (nomark _)))
        (pe_one (by exact (pe_cmpR (op_eqN (hu_of hr)) (pe_fld (pv 0) rfl) (pe_fld (pv 1) rfl) (nomark _)))))))))), ?_⟩
    obtain ⟨x, y, ws, ds, tb, ls, m, rfl, ⟨dx, st, ld, si, as, hx, hst, hld, hsi, pr⟩, is, h⟩ := h
    rcases h with ⟨z, ws', ds', tb', ls', m', rfl, ⟨dz, st', ld', si', as', hz, hst', hld', hsi', pr'⟩, is', q⟩ | ⟨t, ty, kk, q⟩
    · refine ⟨_, rfl, _, .ref C, _, _, true, rfl, .own C, .base (.ins hz T.cl T.ha T.hn T.htk T.hm), T.kC, _, rfl, ?_⟩
      refine iteF ⟨_, rfl, x, C, dx, _, _, rfl, hx, T.cl, T.n1, rfl, _, rfl, z, C, dz, _, _, rfl, hz, T.cl, T.n1, rfl, .tuple (ws.map PyData.str), .tuple (ws'.map PyData.str), .tup hst (dp_strs ws), .tup hst' (dp_strs ws'), shaped_tupS is.word, shaped_tupS is'.word, _, rfl, ?_⟩
      rw [eqv_tupS]
      by_cases e1 : ws = ws'
      · subst e1
        rw [decide_eq_true rfl]
        refine iteF ⟨_, rfl, x, C, dx, _, _, rfl, hx, T.cl, T.n3, rfl, _, rfl, z, C, dz, _, _, rfl, hz, T.cl, T.n3, rfl, si, si', _, _, rfl, rfl, hsi, hsi', ?f1, ?f2, _, rfl, ?g1⟩
        case f1 =>
          intro p hp
          obtain ⟨u, hu, e⟩ := List.mem_map.mp (List.of_mem_zip (show (p.1, p.2) ∈ _ from hp)).2
          rw [← e]
          rfl
        case f2 =>
          intro p hp
          obtain ⟨u, hu, e⟩ := List.mem_map.mp (List.of_mem_zip (show (p.1, p.2) ∈ _ from hp)).2
          rw [← e]
          rfl
        case g1 =>
          rw [same_strs is.nd is.looks is'.looks]
          by_cases e2 : ls = ls'
          · subst e2
            rw [decide_eq_true rfl]
            have al : as.length = ds.length := by rw [paired_len pr, is.rows]
            have al' : as'.length = ds'.length := by rw [paired_len pr', is'.rows]
            refine iteF ⟨_, rfl, x, C, dx, _, _, rfl, hx, T.cl, T.n2, rfl, ld, _, rfl, hld, fun t1 n1 => ⟨_, rfl, z, C, dz, _, _, rfl, Sm.new n1 _ _ hz, T.cl, T.n2, rfl, ld', _, rfl, Sm.new n1 _ _ hld', fun t2 n2 => ?_⟩⟩
            have m1 := Sm.new (o := .tup ((dkv ds (as.map V.ref)).map fun kv => kV kv.1)) n1
            have m2 := m1.trans (Sm.new (o := .tup ((dkv ds' (as'.map V.ref)).map fun kv => kV kv.1)) n2)
            have a1 := Sm.new (o := .tup ((dkv ds' (as'.map V.ref)).map fun kv => kV kv.1)) n2 _ _ (show upd H t1 (.tup ((dkv ds (as.map V.ref)).map fun kv => kV kv.1)) t1 = _ from upd_same)
            have a2 : upd (upd H t1 (.tup ((dkv ds (as.map V.ref)).map fun kv => kV kv.1))) t2 (.tup ((dkv ds' (as'.map V.ref)).map fun kv => kV kv.1)) t2 = _ := upd_same
            have k1 := keys_dkv (ds := ds) (us := as.map V.ref) (by rw [List.length_map, al])
            have k2 := keys_dkv (ds := ds') (us := as'.map V.ref) (by rw [List.length_map, al'])
            clear m1
            generalize ((dkv ds (as.map V.ref)).map fun kv => kV kv.1) = l1 at k1 m2 a1 a2 n2 ⊢
            generalize ((dkv ds' (as'.map V.ref)).map fun kv => kV kv.1) = l2 at k2 m2 a1 a2 ⊢
            generalize upd (upd H t1 (.tup l1)) t2 (.tup l2) = G at m2 a1 a2 ⊢
            subst k1 k2
            refine ⟨.tuple (ds.map PyData.str), .tuple (ds'.map PyData.str), .tup (.inl (.inl a1)) (dp_strs ds), .tup (.inl (.inl a2)) (dp_strs ds'), shaped_tupS is.dword, shaped_tupS is'.dword, _, rfl, ?_⟩
            rw [eqv_tupS]
            have q := q G m2
            by_cases e3 : ds = ds'
            · subst e3
              rw [decide_eq_true rfl]
              have prG : Paired (fun a vs => G a = some (.dK (dkv ws (vs.map V.str)))) as tb := pair_mono pr fun a _ vs e => m2 _ _ e
              have prG' : Paired (fun a vs => G a = some (.dK (dkv ws (vs.map V.str)))) as' tb' := pair_mono pr' fun a _ vs e => m2 _ _ e
              have flats : ∀ {bs : List Addr} {tc : List (List Str)}, Paired (fun a vs => G a = some (.dK (dkv ws (vs.map V.str)))) bs tc → ∀ p ∈ dkv ds (bs.map V.ref), ∃ c, p.2 = .ref c ∧ G c = some (.dK (dictAt G c)) ∧ ∀ r ∈ dictAt G c, flatV r.2 = true := fun {bs tc} pp p hp => by
                obtain ⟨c, hc, e⟩ := List.mem_map.mp (List.of_mem_zip (show (p.1, p.2) ∈ _ from hp)).2
                obtain ⟨j, hj⟩ := List.mem_iff_getElem?.mp hc
                obtain ⟨vs, _, e5⟩ := pair_at pp hj
                refine ⟨c, e.symm, by rw [dictAt_of e5]; exact e5, fun r hr => ?_⟩
                rw [dictAt_of e5] at hr
                obtain ⟨u, hu, e6⟩ := List.mem_map.mp (List.of_mem_zip (show (r.1, r.2) ∈ _ from hr)).2
                rw [← e6]
                rfl
              refine iteT ⟨_, rfl, x, C, dx, _, _, rfl, m2 _ _ hx, T.cl, T.n2, rfl, _, rfl, z, C, dz, _, _, rfl, m2 _ _ hz, T.cl, T.n2, rfl, ld, ld', _, _, dictAt G, rfl, rfl, m2 _ _ hld, m2 _ _ hld', flats prG, flats prG', ?_⟩
              rw [same_tabs is.nd is.dnd is.rows is'.rows (fun vs hv => (is.row vs hv).1) (fun vs hv => (is'.row vs hv).1) prG prG']
              rw [show decide (ws = ws ∧ ls = ls ∧ ds = ds ∧ tb = tb') = decide (tb = tb') from by simp] at q
              exact q
            · rw [decide_eq_false e3]
              rw [decide_eq_false (fun z => e3 z.2.2.1)] at q
              exact iteF q
          · rw [decide_eq_false e2]
            have q := q H (Sm.refl H)
            rw [decide_eq_false (fun z => e2 z.2.1)] at q
            exact iteT q
      · rw [decide_eq_false e1]
        have q := q H (Sm.refl H)
        rw [decide_eq_false (fun z => e1 z.1)] at q
        exact iteT q
    · exact ⟨_, rfl, y, .ref C, _, _, false, rfl, .own C, ty, kk, _, rfl, iteT q⟩
end
end Dk
set_option Elab.async false
set_option linter.all false
set_option maxRecDepth 100000
set_option maxHeartbeats 4000000
namespace Dk
open PySem PySem.Spec PyProof.Rows L2 Er
/-! ### a function with one parameter, which is a cell, and with captured names: its frame -/
section
variable {M : Model} {A : Around} {E : Value → Shared → Prop} {s : Shared}
theorem env_one {scope : Scope} {globals : Addr} {closure : List (Str × Addr)} {x : Str} {v : Value} {qual : Str} {func : Option Addr} {code : Value} {builtins : Addr} {Q : Env → Shared → Prop}
    (hk : scope.kind = .function) (hx : scope.names.lookup x = some .cell) (hcl : closure.lookup x = none)
    (hQ : ∀ (c : Addr) (g : Heap) (tk : Nat), (cellsFrom (s.heap.objs.size + 1) scope.names closure).lookup x = some c → s.heap.objs.size < c → g.IsCell c (some v) → g.Ns s.heap.objs.size (fun _ => none) → (∀ b o, s.heap.get? b = some o → g.get? b = some o) →
      Q (newEnv scope s.heap.objs.size globals (cellsFrom (s.heap.objs.size + 1) scope.names closure) qual func code none builtins) { s with heap := g, toks := tk }) :
    wpAny M A (newFunctionEnv scope globals closure [(x, v)] qual func code none builtins) Q E s := by
  simp only [newFunctionEnv, Option.isSome_none, Bool.false_eq_true, if_false]
  refine wpAny_bind (wpAny_alloc ?_)
  refine wpAny_bind (wpAny_layCells _ (fun n k c => by cases e : k == NameKind.cell <;> simp [e]) _ _ _ _ ?_)
  obtain ⟨c, hc, lc, ic⟩ := oc_cell (h := s.heap.push { cls := .type "frame", data := .dict #[] }) hx hcl
  rw [Heap.size_push] at hc lc
  rw [show ({ s with heap := s.heap.push { cls := .type "frame", data := .dict #[] } } : Shared).heap.objs.size = s.heap.objs.size + 1 from Heap.size_push ..]
  have ns0 : (pushCells (s.heap.push { cls := .type "frame", data := .dict #[] }) scope.names).Ns s.heap.objs.size (fun _ => none) := (Heap.Ns.new s.heap (.type "frame")).keeps (pushCells_keeps _ _)
  have kp0 : ∀ b o, s.heap.get? b = some o → (pushCells (s.heap.push { cls := .type "frame", data := .dict #[] }) scope.names).get? b = some o := fun b o e => pushCells_keeps _ _ b o (Heap.get?_push_of_some _ e)
  refine wpAny_bind ?_
  rw [List.forIn_cons]
  refine wpAny_bind (wpAny_bind (wpAny_storeName_cell (env := newEnv scope s.heap.objs.size globals (cellsFrom (s.heap.objs.size + 1) scope.names closure) qual func code none builtins) hk hx hc ic fun g e k => wpAny_pure ?_))
  show wpAny M A (forIn ([] : List (Str × Value)) _ _) _ _ _
  rw [List.forIn_nil]
  refine wpAny_pure (wpAny_pure (hQ c g _ hc lc e (ns0.sameBut k (Nat.ne_of_lt lc)) fun b o q => ?_))
  have nb : b ≠ c := Nat.ne_of_lt (Nat.lt_trans (Heap.lt_size q) lc)
  exact k.extBut b o nb (kp0 b o q)
end
end Dk
set_option Elab.async false
set_option linter.all false
set_option maxRecDepth 100000
set_option maxHeartbeats 4000000
namespace Dk
open PySem PySem.Spec PyProof.Rows L2 Er
/-! ### list(d.values()) -/
def tListVals (td : TE) : TE := fun σ H Q => td σ H fun x H1 => ∃ a kvs, x = .ref a ∧ H1 a = some (.dK kvs) ∧ ∀ q, H1 q = none → Q (.ref q) (upd H1 q (.lst (kvs.map (·.2))))
section
variable {X : Cx} {e : Expr} {td : TE} {apos cpos p pos : Pos}
theorem pe_listVals (hc : X.calm = true) (hg : Gl X "list") (hm : X.mg "list" = none) (he : PE X e td) (hbase : attributeBase e "values" X.env (eval e X.env) = eval e X.env := by rfl) (hline : (apos.endLine == cpos.line) = true := by rfl)
    (na : starEach [Expr.Call (.Attribute e "values" apos) [] [] cpos] X.env = (false, eval (Expr.Call (.Attribute e "values" apos) [] [] cpos) X.env) :: starEach [] X.env := by rfl) :
    PE X (.Call (.Name "list" p) [.Call (.Attribute e "values" apos) [] [] cpos] [] pos) (tListVals td) := by
  refine ⟨fun ps s σ H Q I h => ?_⟩
  refine Call_ (ld_blt I hg hm boot_list (PyProof.Rows.callWith_type1 (args_cons ?_ na) na))
  refine wpAny_Call_method (T := "dict") (id := "dict.values") hbase rfl hline F.plainAttrs_dict F.slot_dict_values F.type_dict_values (thn (he.run ps s σ H _ I h) fun u s1 ⟨x, H1, I1, rx, a, kvs, ex, ha, q⟩ => ?_)
  subst ex
  obtain rfl : u = Value.ref a := rx
  obtain ⟨z, lo, vs, kv, hd⟩ := (show ObjOk X.prog X.w H1 s1.heap a (.dK kvs) from I1.hok a _ ha)
  obtain ⟨ep, at_⟩ := hd.dictAt
  have hl : kvs.length = vs.length := Paired.length kv
  refine ⟨at_.dictOf.typeIs, at_.dictOf.mapOf.noDict, ?_⟩
  have I2 : Inv X ps σ H1 { s1 with heap := s1.heap.push { cls := .type "dict_values", data := .fields #[.ref a] } } := I1.kept (t' := s1.toks) fun b ob q => Heap.get?_push_of_some _ q
  have at2 : (s1.heap.push { cls := .type "dict_values", data := .fields #[.ref a] }).DictAt (mixKind X.prog X.w) a vs ep := at_.keep fun b u e => Heap.get?_push_of_some _ e
  show wpAny _ _ (callWith cpos (.builtin "dict.values") [.ref a] [] []) _ X.xe s1
  refine method_meetsIn F.slot_dict_values F.entry_dict_values rfl (PySem.evalArgs_none ⟨rfl, at_.dictOf.typeIs, F.args_dict_values_1 _, _, meets_dict_values (mixKind X.prog X.w) a lo, ⟨vs, hd⟩, args_nil ?_⟩)
  refine PySem.W.kdl_call (PySem.W.kdl_values (knd := mixKind X.prog X.w) (kvs := vs) (ep := ep)) (I1.ok.hd hc) ⟨⟨_, Heap.get?_push_size _ rfl, rfl, rfl⟩, at2⟩ (by rw [← hl]; exact z) fun g tk acc c2 k hS i => ?_
  refine ⟨.ref _, upd H1 _ (.lst (kvs.map (·.2))), I2.laid k (Nat.le_refl _) (show ObjOk X.prog X.w _ _ _ (.lst (kvs.map (·.2))) from ⟨?_, acc.toList, c2, ?_, ?_⟩), rfl, q _ (I2.hok.fresh (Nat.le_refl _))⟩
  · rw [List.length_map]
    exact z
  · have el : acc.toList.length = acc.size := by simp
    refine vals_of_at (by rw [List.length_map, el, i.1, hl]) fun j x w e1 e2 => ?_
    obtain ⟨ky, hky⟩ := i.2 j w (by rw [← Array.getElem?_toList]; exact e2)
    obtain ⟨x2, h1, h2⟩ := KV.at' kv hky
    rw [List.getElem?_map, h1] at e1
    cases Option.some.inj e1
    exact h2
  · rw [Array.toArray_toList]
    exact hS
end
end Dk
set_option linter.all false
namespace Ap
/-! ### which are told apart, and in how many steps -/
section
variable {S D V : Type} [DecidableEq S] [DecidableEq V]
def led (nx : S → D → S) (z : S) (r : List D) : S := r.foldl nx z
/-- a row of k deeds parts two -/
def Sep (nx : S → D → S) (si : S → V) (ds : List D) (z y : S) (k : Nat) : Prop := ∃ r : List D, r.length = k ∧ (∀ d ∈ r, d ∈ ds) ∧ si (led nx z r) ≠ si (led nx y r)
/-- k is the least such number -/
def Min (nx : S → D → S) (si : S → V) (ds : List D) (z y : S) (k : Nat) : Prop := Sep nx si ds z y k ∧ ∀ j, j < k → ¬ Sep nx si ds z y j
/-- no row of at most k deeds parts two -/
def Eq (nx : S → D → S) (si : S → V) (ds : List D) (k : Nat) (z y : S) : Prop := ∀ j, j ≤ k → ¬ Sep nx si ds z y j
variable {nx : S → D → S} {si : S → V} {ds : List D}
theorem sep_zero {z y : S} : Sep nx si ds z y 0 ↔ si z ≠ si y := by
  constructor
  · rintro ⟨r, e, _, h⟩
    have : r = [] := List.eq_nil_of_length_eq_zero e
    subst this
    exact h
  · exact fun h => ⟨[], rfl, (fun d hd => nomatch hd), h⟩
theorem sep_succ {z y : S} {k : Nat} : Sep nx si ds z y (k + 1) ↔ ∃ d ∈ ds, Sep nx si ds (nx z d) (nx y d) k := by
  constructor
  · rintro ⟨r, e, h1, h2⟩
    cases r with
    | nil => cases e
    | cons d r => exact ⟨d, h1 d List.mem_cons_self, r, by simpa using e, fun x hx => h1 x (List.mem_cons_of_mem _ hx), h2⟩
  · rintro ⟨d, hd, r, e, h1, h2⟩
    exact ⟨d :: r, by simp [e], fun x hx => by
      rcases List.mem_cons.mp hx with h | h
      · rw [h]
        exact hd
      · exact h1 x h, h2⟩
theorem sep_symm {z y : S} {k : Nat} (h : Sep nx si ds z y k) : Sep nx si ds y z k := by
  obtain ⟨r, e, h1, h2⟩ := h
  exact ⟨r, e, h1, fun x => h2 x.symm⟩
theorem sep_trans {z y x : S} {k : Nat} (h : Sep nx si ds z y k) : Sep nx si ds z x k ∨ Sep nx si ds x y k := by
  obtain ⟨r, e, h1, h2⟩ := h
  by_cases c : si (led nx z r) = si (led nx x r)
  · exact .inr ⟨r, e, h1, by rw [← c]; exact h2⟩
  · exact .inl ⟨r, e, h1, c⟩
theorem sep_self {z : S} {k : Nat} : ¬ Sep nx si ds z z k := fun ⟨_, _, _, h⟩ => h rfl
theorem min_one {z y : S} {k j : Nat} (a : Min nx si ds z y k) (b : Min nx si ds z y j) : k = j := by
  rcases Nat.lt_trichotomy k j with c | c | c
  · exact absurd a.1 (b.2 k c)
  · exact c
  · exact absurd b.1 (a.2 j c)
theorem min_some {z y : S} : ∀ {k : Nat}, Sep nx si ds z y k → ∃ j, j ≤ k ∧ Min nx si ds z y j := by
  intro k
  induction k using Nat.strongRecOn with
  | ind k ih =>
    intro h
    by_cases c : ∃ j, j < k ∧ Sep nx si ds z y j
    · obtain ⟨j, hj, s⟩ := c
      obtain ⟨i, hi, m⟩ := ih j hj s
      exact ⟨i, by omega, m⟩
    · exact ⟨k, Nat.le_refl _, h, fun j hj s => c ⟨j, hj, s⟩⟩
theorem min_succ {z y : S} {k : Nat} (h : Min nx si ds z y (k + 1)) : ∃ d ∈ ds, Min nx si ds (nx z d) (nx y d) k := by
  obtain ⟨d, hd, s⟩ := sep_succ.mp h.1
  exact ⟨d, hd, s, fun j hj s2 => h.2 (j + 1) (by omega) (sep_succ.mpr ⟨d, hd, s2⟩)⟩
/-- where some need more than m, some need m + 1 -/
theorem min_next {ws : List S} (cl : ∀ z ∈ ws, ∀ d ∈ ds, nx z d ∈ ws) {m : Nat} : ∀ {k : Nat} {z y : S}, z ∈ ws → y ∈ ws → m < k → Min nx si ds z y k → ∃ z2 ∈ ws, ∃ y2 ∈ ws, Min nx si ds z2 y2 (m + 1) := by
  intro k
  induction k with
  | zero => intro z y _ _ h
            exact absurd h (Nat.not_lt_zero _)
  | succ k ih =>
    intro z y hz hy hk hm
    by_cases c : m = k
    · subst c
      exact ⟨z, hz, y, hy, hm⟩
    · obtain ⟨d, hd, m2⟩ := min_succ hm
      exact ih (cl z hz d hd) (cl y hy d hd) (by omega) m2
/-! ### how many rounds there can be -/
theorem countP_lt {α : Type} {p q : α → Bool} : ∀ {l : List α}, (∀ x ∈ l, p x = true → q x = true) → (∃ x ∈ l, q x = true ∧ p x = false) → l.countP p < l.countP q
  | [], _, ⟨x, hx, _⟩ => nomatch hx
  | a :: l, h, ⟨x, hx, h1, h2⟩ => by
    have le : l.countP p ≤ l.countP q := List.countP_mono_left fun y hy => h y (List.mem_cons_of_mem _ hy)
    rw [List.countP_cons, List.countP_cons]
    rcases List.mem_cons.mp hx with e | e
    · subst e
      rw [h1, h2]
      simp
      omega
    · have ih := countP_lt (l := l) (fun y hy => h y (List.mem_cons_of_mem _ hy)) ⟨x, e, h1, h2⟩
      have ha := h a List.mem_cons_self
      cases pa : p a with
      | true =>
        rw [ha pa]
        simp
        omega
      | false =>
        cases q a <;> simp <;> omega
open Classical in
/-- the first of its lot -/
noncomputable def rep (nx : S → D → S) (si : S → V) (ds : List D) (ws : List S) (k : Nat) (i : Nat) : Bool := decide (∀ j x y, j < i → ws[j]? = some x → ws[i]? = some y → ¬ Eq nx si ds k x y)
open Classical in
theorem rep_iff {ws : List S} {k i : Nat} : rep nx si ds ws k i = true ↔ ∀ j x y, j < i → ws[j]? = some x → ws[i]? = some y → ¬ Eq nx si ds k x y := by
  unfold rep
  exact decide_eq_true_iff
theorem rep_not {ws : List S} {k i : Nat} : rep nx si ds ws k i = false ↔ ¬ ∀ j x y, j < i → ws[j]? = some x → ws[i]? = some y → ¬ Eq nx si ds k x y := by
  rw [← rep_iff (ws := ws) (k := k) (i := i)]
  cases rep nx si ds ws k i <;> simp
noncomputable def lots (nx : S → D → S) (si : S → V) (ds : List D) (ws : List S) (k : Nat) : Nat := (List.range ws.length).countP (rep nx si ds ws k)
theorem lots_le {ws : List S} {k : Nat} : lots nx si ds ws k ≤ ws.length := by
  have := List.countP_le_length (p := rep nx si ds ws k) (l := List.range ws.length)
  rw [List.length_range] at this
  exact this
theorem lots_some {ws : List S} {k : Nat} (h : 1 ≤ ws.length) : 1 ≤ lots nx si ds ws k := by
  refine List.countP_pos_iff.mpr ⟨0, List.mem_range.mpr h, ?_⟩
  rw [rep_iff]
  exact fun j x y hj => absurd hj (Nat.not_lt_zero _)
theorem eq_symm {k : Nat} {z y : S} (h : Eq nx si ds k z y) : Eq nx si ds k y z := fun j hj s => h j hj (sep_symm s)
theorem eq_trans {k : Nat} {z y x : S} (h : Eq nx si ds k z y) (g : Eq nx si ds k y x) : Eq nx si ds k z x := fun j hj s => by
  rcases sep_trans (x := y) s with a | a
  · exact h j hj a
  · exact g j hj a
theorem eq_less {k j : Nat} {z y : S} (h : Eq nx si ds k z y) (l : j ≤ k) : Eq nx si ds j z y := fun i hi => h i (Nat.le_trans hi l)
theorem eq_refl {k : Nat} {z : S} : Eq nx si ds k z z := fun _ _ => sep_self
/-- the first one that is like one -/
theorem rep_of {ws : List S} {k : Nat} {z : S} : ∀ {i : Nat}, ws[i]? = some z → ∃ (j : Nat) (x : S), j ≤ i ∧ ws[j]? = some x ∧ Eq nx si ds k x z ∧ rep nx si ds ws k j = true := by
  intro i
  induction i using Nat.strongRecOn generalizing z with
  | ind i ih =>
    intro e
    cases c : rep nx si ds ws k i with
    | true => exact ⟨i, z, Nat.le_refl _, e, eq_refl, c⟩
    | false =>
      rw [rep_not] at c
      have ⟨j, x, y, hj, e1, e2, q⟩ : ∃ j x y, j < i ∧ ws[j]? = some x ∧ ws[i]? = some y ∧ Eq nx si ds k x y := by
        refine Classical.byContradiction fun n => c fun j x y h1 h2 h3 h4 => n ⟨j, x, y, h1, h2, h3, h4⟩
      rw [e] at e2
      cases Option.some.inj e2
      obtain ⟨j2, x2, h1, h2, h3, h4⟩ := ih j hj e1
      exact ⟨j2, x2, by omega, h2, eq_trans h3 q, h4⟩
theorem lots_more {ws : List S} {k : Nat} {z y : S} (hz : z ∈ ws) (hy : y ∈ ws) (h : Min nx si ds z y (k + 1)) : lots nx si ds ws k < lots nx si ds ws (k + 1) := by
  refine countP_lt (fun i _ c => ?_) ?_
  · rw [rep_iff] at c ⊢
    exact fun j x y h1 h2 h3 h4 => c j x y h1 h2 h3 (eq_less h4 (Nat.le_succ _))
  · obtain ⟨i, hi⟩ := List.mem_iff_getElem?.mp hz
    obtain ⟨i2, hi2⟩ := List.mem_iff_getElem?.mp hy
    have zy : Eq nx si ds k z y := fun j hj => h.2 j (by omega)
    have nzy : ¬ Eq nx si ds (k + 1) z y := fun e => e (k + 1) (Nat.le_refl _) h.1
    obtain ⟨a, x, _, ea, ax, ra⟩ := rep_of (nx := nx) (si := si) (ds := ds) (k := k) hi
    -- one of both is no longer like x
    obtain ⟨v, iv, ev, vx, nvx⟩ : ∃ (v : S) (iv : Nat), ws[iv]? = some v ∧ Eq nx si ds k x v ∧ ¬ Eq nx si ds (k + 1) x v := by
      by_cases c : Eq nx si ds (k + 1) x z
      · exact ⟨y, i2, hi2, eq_trans ax zy, fun e => nzy (eq_trans (eq_symm c) e)⟩
      · exact ⟨z, i, hi, ax, c⟩
    obtain ⟨b, u, _, eb, bu, rb⟩ := rep_of (nx := nx) (si := si) (ds := ds) (k := k + 1) ev
    refine ⟨b, List.mem_range.mpr (List.getElem?_eq_some_iff.mp eb).1, rb, ?_⟩
    have xu : Eq nx si ds k x u := eq_trans vx (eq_symm (eq_less bu (Nat.le_succ _)))
    have nxu : x ≠ u := fun e => nvx (by rw [e]; exact bu)
    -- a stands ahead of b
    have ab : a < b := by
      rcases Nat.lt_trichotomy a b with c | c | c
      · exact c
      · subst c
        rw [ea] at eb
        exact absurd (Option.some.inj eb) nxu
      · rw [rep_iff] at ra
        exact absurd (eq_symm xu) (ra b u x c eb ea)
    rw [rep_not]
    exact fun f => f a x u ab ea eb xu
end
end Ap
set_option linter.all false
namespace Lo
/-! ### numbers in the sequence in which they are met -/
section
variable {S κ : Type} [DecidableEq κ]
def seen (f : S → κ) (ws : List S) : List κ := ws.foldl (fun acc z => if f z ∈ acc then acc else acc ++ [f z]) []
theorem seen_nil {f : S → κ} : seen f [] = [] := rfl
theorem seen_snoc {f : S → κ} {ws : List S} {z : S} : seen f (ws ++ [z]) = if f z ∈ seen f ws then seen f ws else seen f ws ++ [f z] := by
  unfold seen
  rw [List.foldl_append]
  rfl
theorem rev_ind {α : Type} {p : List α → Prop} (h0 : p []) (h1 : ∀ l a, p l → p (l ++ [a])) : ∀ l, p l := by
  intro l
  have : ∀ l : List α, p l.reverse := fun l => by
    induction l with
    | nil => exact h0
    | cons a l ih =>
      rw [List.reverse_cons]
      exact h1 _ _ ih
  have h := this l.reverse
  rw [List.reverse_reverse] at h
  exact h
theorem mem_seen0 {f : S → κ} {k : κ} : ∀ ws : List S, k ∈ seen f ws ↔ ∃ z ∈ ws, f z = k := by
  refine rev_ind ?_ fun ws a ih => ?_
  · rw [seen_nil]
    exact ⟨fun h => (List.not_mem_nil h).elim, fun ⟨_, h, _⟩ => (List.not_mem_nil h).elim⟩
  · rw [seen_snoc]
    by_cases c : f a ∈ seen f ws
    · rw [if_pos c, ih]
      refine ⟨fun ⟨z, hz, e⟩ => ⟨z, List.mem_append_left _ hz, e⟩, fun ⟨z, hz, e⟩ => ?_⟩
      rcases List.mem_append.mp hz with h | h
      · exact ⟨z, h, e⟩
      · rw [List.mem_singleton.mp h] at e
        exact ih.mp (e ▸ c)
    · rw [if_neg c, List.mem_append, ih]
      refine ⟨fun h => ?_, fun ⟨z, hz, e⟩ => ?_⟩
      · rcases h with ⟨z, hz, e⟩ | h
        · exact ⟨z, List.mem_append_left _ hz, e⟩
        · exact ⟨a, List.mem_append_right _ (List.mem_singleton.mpr rfl), (List.mem_singleton.mp h).symm⟩
      · rcases List.mem_append.mp hz with h | h
        · exact .inl ⟨z, h, e⟩
        · rw [List.mem_singleton.mp h] at e
          exact .inr (List.mem_singleton.mpr e.symm)
theorem mem_seen {f : S → κ} {k : κ} {ws : List S} : k ∈ seen f ws ↔ ∃ z ∈ ws, f z = k := mem_seen0 ws
theorem seen_more {f : S → κ} {ws : List S} : ∀ vs : List S, ∃ t, seen f (ws ++ vs) = seen f ws ++ t := by
  refine rev_ind ⟨[], by rw [List.append_nil, List.append_nil]⟩ fun vs a ⟨t, ih⟩ => ?_
  rw [← List.append_assoc, seen_snoc, ih]
  by_cases c : f a ∈ seen f ws ++ t
  · exact ⟨t, by rw [if_pos c]⟩
  · exact ⟨t ++ [f a], by rw [if_neg c, List.append_assoc]⟩
theorem seen_len0 {f : S → κ} : ∀ ws : List S, (seen f ws).length ≤ ws.length := by
  refine rev_ind (Nat.le_refl _) fun ws a ih => ?_
  rw [seen_snoc]
  by_cases c : f a ∈ seen f ws
  · rw [if_pos c, List.length_append]
    omega
  · rw [if_neg c, List.length_append, List.length_append]
    exact Nat.add_le_add_right ih _
theorem seen_len {f : S → κ} {ws : List S} : (seen f ws).length ≤ ws.length := seen_len0 ws
/-- the number of a thing -/
def num (f : S → κ) (ws : List S) (z : S) : Nat := (seen f ws).idxOf (f z)
theorem num_iff {f : S → κ} {ws : List S} {z y : S} (hz : z ∈ ws) (hy : y ∈ ws) : num f ws z = num f ws y ↔ f z = f y := by
  have mz : f z ∈ seen f ws := mem_seen.mpr ⟨z, hz, rfl⟩
  have my : f y ∈ seen f ws := mem_seen.mpr ⟨y, hy, rfl⟩
  refine ⟨fun h => ?_, fun h => by unfold num; rw [h]⟩
  have lz := List.idxOf_lt_length_of_mem mz
  have ly := List.idxOf_lt_length_of_mem my
  have e1 := List.getElem_idxOf lz
  have e2 := List.getElem_idxOf ly
  unfold num at h
  rw [← e1, ← e2]
  congr 1
theorem num_lt {f : S → κ} {ws : List S} {z : S} (hz : z ∈ ws) : num f ws z < (seen f ws).length := List.idxOf_lt_length_of_mem (mem_seen.mpr ⟨z, hz, rfl⟩)
theorem num_more {f : S → κ} {ws vs : List S} {z : S} (hz : z ∈ ws) : num f (ws ++ vs) z = num f ws z := by
  obtain ⟨t, e⟩ := seen_more (f := f) (ws := ws) vs
  unfold num
  rw [e, List.idxOf_append, if_pos (mem_seen.mpr ⟨z, hz, rfl⟩)]
theorem num_take {f : S → κ} {ws : List S} {i : Nat} {z : S} (hz : z ∈ ws.take i) : num f ws z = num f (ws.take i) z := by
  have e := num_more (f := f) (vs := ws.drop i) hz
  rw [List.take_append_drop] at e
  exact e
end
/-! ### how many there are -/
section
variable {S D V κ : Type} [DecidableEq S] [DecidableEq V] [DecidableEq κ] {nx : S → D → S} {si : S → V} {ds : List D} {h : S → κ} {ws : List S} {k : Nat}
theorem seen_lots (e : ∀ z ∈ ws, ∀ y ∈ ws, h z = h y ↔ Ap.Eq nx si ds k z y) : (seen h ws).length = Ap.lots nx si ds ws k := by
  have main : ∀ i, i ≤ ws.length → (seen h (ws.take i)).length = (List.range i).countP (Ap.rep nx si ds ws k) := by
    intro i
    induction i with
    | zero => intro _; rfl
    | succ i ih =>
      intro hi
      have ih := ih (by omega)
      have ei : ws[i]? = some (ws[i]'(by omega)) := List.getElem?_eq_getElem _
      generalize ws[i]'(by omega) = z at ei
      have tk : ws.take (i + 1) = ws.take i ++ [z] := by
        rw [List.take_add_one, ei]
        rfl
      have hz : z ∈ ws := List.mem_of_getElem? ei
      rw [tk, seen_snoc, List.range_succ, List.countP_append, ← ih]
      have one : (h z ∈ seen h (ws.take i)) ↔ Ap.rep nx si ds ws k i = false := by
        rw [mem_seen, Ap.rep_not]
        refine ⟨fun ⟨y, hy, e1⟩ g => ?_, fun g => ?_⟩
        · obtain ⟨j, hj, e2⟩ := List.mem_take_iff_getElem.mp hy
          have jl : j < i := by omega
          exact g j y z jl (by rw [List.getElem?_eq_getElem (by omega), e2]) ei ((e y (List.mem_of_mem_take hy) z hz).mp e1)
        · refine Classical.byContradiction fun n => g fun j x y hj e1 e2 q => ?_
          rw [ei] at e2
          cases Option.some.inj e2
          have hx : x ∈ ws := List.mem_of_getElem? e1
          exact n ⟨x, List.mem_take_iff_getElem.mpr ⟨j, by have := (List.getElem?_eq_some_iff.mp e1).1; omega, (List.getElem?_eq_some_iff.mp e1).2⟩, (e x hx z hz).mpr q⟩
      by_cases c : h z ∈ seen h (ws.take i)
      · rw [if_pos c, List.countP_cons, one.mp c]
        simp
      · rw [if_neg c, List.length_append, List.countP_cons]
        have : Ap.rep nx si ds ws k i = true := by
          cases r : Ap.rep nx si ds ws k i with
          | true => rfl
          | false => exact absurd (one.mpr r) c
        rw [this]
        simp
  have e := main ws.length (Nat.le_refl _)
  rw [List.take_length] at e
  exact e
/-- all are alone in their lots -/
theorem lots_all (nd : ws.Nodup) (full : Ap.lots nx si ds ws k = ws.length) {z y : S} (hz : z ∈ ws) (hy : y ∈ ws) (e : Ap.Eq nx si ds k z y) : z = y := by
  have all : ∀ i ∈ List.range ws.length, Ap.rep nx si ds ws k i = true := by
    refine List.countP_eq_length.mp ?_
    rw [List.length_range]
    exact full
  obtain ⟨i, hi⟩ := List.mem_iff_getElem?.mp hz
  obtain ⟨j, hj⟩ := List.mem_iff_getElem?.mp hy
  have il := (List.getElem?_eq_some_iff.mp hi).1
  have jl := (List.getElem?_eq_some_iff.mp hj).1
  have ri := Ap.rep_iff.mp (all i (List.mem_range.mpr il))
  have rj := Ap.rep_iff.mp (all j (List.mem_range.mpr jl))
  rcases Nat.lt_trichotomy i j with c | c | c
  · exact absurd e (rj i z y c hi hj)
  · rw [c, hj] at hi
    exact (Option.some.inj hi).symm
  · exact absurd (Ap.eq_symm e) (ri j y z c hj hi)
/-- one step further -/
theorem eq_succ {z y : S} : Ap.Eq nx si ds (k + 1) z y ↔ Ap.Eq nx si ds k z y ∧ ∀ d ∈ ds, Ap.Eq nx si ds k (nx z d) (nx y d) := by
  constructor
  · intro h
    exact ⟨fun j hj => h j (by omega), fun d hd j hj s => h (j + 1) (by omega) (Ap.sep_succ.mpr ⟨d, hd, s⟩)⟩
  · rintro ⟨h0, h1⟩ j hj s
    cases j with
    | zero => exact h0 0 (Nat.zero_le _) s
    | succ j =>
      obtain ⟨d, hd, s2⟩ := Ap.sep_succ.mp s
      exact h1 d hd j (by omega) s2
theorem eq_zero {z y : S} : Ap.Eq nx si ds 0 z y ↔ si z = si y := by
  constructor
  · intro h
    exact Classical.byContradiction fun n => h 0 (Nat.le_refl _) (Ap.sep_zero.mpr n)
  · intro e j hj s
    have : j = 0 := by omega
    subst this
    exact Ap.sep_zero.mp s e
/-- where no lots are parted any more, none are parted ever -/
theorem eq_still (cl : ∀ z ∈ ws, ∀ d ∈ ds, nx z d ∈ ws) (st : Ap.lots nx si ds ws (k + 1) ≤ Ap.lots nx si ds ws k) {z y : S} (hz : z ∈ ws) (hy : y ∈ ws) : Ap.Eq nx si ds (k + 1) z y ↔ ∀ j, ¬ Ap.Sep nx si ds z y j := by
  constructor
  · intro e j s
    obtain ⟨i, _, m⟩ := Ap.min_some s
    by_cases c : i ≤ k + 1
    · exact e i c m.1
    · obtain ⟨z2, hz2, y2, hy2, m2⟩ := Ap.min_next cl (m := k) hz hy (by omega) m
      have := Ap.lots_more (ws := ws) hz2 hy2 m2
      omega
  · exact fun h j _ => h j
theorem eq_alone (nd : ws.Nodup) (full : Ap.lots nx si ds ws k = ws.length) {z y : S} (hz : z ∈ ws) (hy : y ∈ ws) : Ap.Eq nx si ds k z y ↔ ∀ j, ¬ Ap.Sep nx si ds z y j := by
  constructor
  · intro e j s
    rw [lots_all nd full hz hy e] at s
    exact Ap.sep_self s
  · exact fun h j _ => h j
end
end Lo
set_option Elab.async false
set_option linter.all false
set_option maxRecDepth 100000
set_option maxHeartbeats 4000000
namespace Dk
open PySem PySem.Spec PyProof.Rows L2 Er
/-! ### setdefault by tuples; len(set(..)) of ints; tables of numbers -/
/-- each thing's place -/
def tabOf {κ : Type} (l : List κ) : List (κ × V) := l.mapIdx fun i k => (k, V.int ((i : Nat) : Int))
section
variable {κ : Type} [DecidableEq κ] {l : List κ} {k : κ} {v : V}
theorem tab_len : (tabOf l).length = l.length := by
  unfold tabOf
  rw [List.length_mapIdx]
theorem tab_snoc : tabOf (l ++ [k]) = tabOf l ++ [(k, V.int ((l.length : Nat) : Int))] := by
  unfold tabOf
  rw [List.mapIdx_concat]
theorem val_snoc {kvs : List (κ × V)} : valV (kvs ++ [(k, v)]) k = (valV kvs k).or (some v) := by
  unfold valV
  rw [List.find?_append, List.find?_cons_of_pos (by exact decide_eq_true rfl)]
  cases List.find? (fun kv => decide (kv.1 = k)) kvs <;> rfl
theorem val_snoc_ne {kvs : List (κ × V)} {j : κ} (n : j ≠ k) : valV (kvs ++ [(j, v)]) k = valV kvs k := by
  unfold valV
  rw [List.find?_append, List.find?_cons_of_neg (by simpa using n)]
  cases List.find? (fun kv => decide (kv.1 = k)) kvs <;> rfl
theorem tab_out0 : ∀ l : List κ, k ∉ l → valV (tabOf l) k = none := by
  refine Lo.rev_ind (fun _ => rfl) fun l a ih n => ?_
  rw [tab_snoc, val_snoc_ne (fun e => n (List.mem_append_right _ (List.mem_singleton.mpr e.symm)))]
  exact ih fun h => n (List.mem_append_left _ h)
theorem tab_out (n : k ∉ l) : valV (tabOf l) k = none := tab_out0 l n
theorem tab_in0 : ∀ l : List κ, k ∈ l → valV (tabOf l) k = some (V.int ((l.idxOf k : Nat) : Int)) := by
  refine Lo.rev_ind (fun h => (List.not_mem_nil h).elim) fun l a ih h => ?_
  rw [tab_snoc, List.idxOf_append]
  by_cases c : k ∈ l
  · rw [if_pos c]
    by_cases e : a = k
    · subst e
      rw [val_snoc, ih c]
      rfl
    · rw [val_snoc_ne e, ih c]
  · have e : k = a := List.mem_singleton.mp ((List.mem_append.mp h).resolve_left c)
    subst e
    rw [if_neg c, val_snoc, tab_out c]
    show some _ = some _
    congr 2
    simp
theorem tab_in (h : k ∈ l) : valV (tabOf l) k = some (V.int ((l.idxOf k : Nat) : Int)) := tab_in0 l h
theorem tab_put (n : k ∉ l) : putK (tabOf l) k (V.int ((l.length : Nat) : Int)) = tabOf (l ++ [k]) := by
  rw [tab_snoc]
  unfold putK
  rw [valV_any, tab_out n]
  rfl
end
/-- d.setdefault(y, z), d by tuples -/
def tDSetT (td ty tx : TE) : TE := fun σ H Q => td σ H fun x H1 => ∃ a, x = .ref a ∧ IsD H1 a ∧ ty σ H1 fun y H2 => tx σ H2 fun z H3 => ∃ (kvs : List (List Key × V)) (k : List Key) (b : Addr), y = .ref b ∧ H3 a = some (.dT kvs) ∧ H3 b = some (.tup (k.map kV)) ∧ kvs.length < sizeLine ∧
  (∀ v, valV kvs k = some v → Q v H3) ∧ (valV kvs k = none → Q z (upd H3 a (.dT (putK kvs k z))))
section
variable {X : Cx} {o e f : Expr} {td ty tx : TE} {apos cpos : Pos}
theorem pe_dsetT (hu : X.A.units + 1 < cLine) (ho : PE X o td) (he : PE X e ty) (hf : PE X f tx) (m : M2 X o "setdefault" apos e f cpos) : PE X (.Call (.Attribute o "setdefault" apos) [e, f] [] cpos) (tDSetT td ty tx) := by
  refine ⟨fun pins s σ H Q I h => wpAny_Call_method m.base m.few m.line PySem.F.plainAttrs_dict PySem.F.slot_dict_setdefault PySem.F.type_dict_setdefault (thn (ho.run pins s σ H _ I h) fun u s1 ⟨x, H1, I1, rx, a, ex, d, q1⟩ => ?_)⟩
  subst ex
  obtain rfl : u = Value.ref a := rx
  obtain ⟨t1, t2, _⟩ := isD_at I1 d
  refine ⟨t1, t2, ?_⟩
  rw [m.trees]
  refine Calls.callWith_builtin rfl (Calls.evalArgs_plain (Calls.spliced_cons (thn (he.run pins s1 σ H1 _ I1 q1) fun iv s2 ⟨y, H2, I2, ry, q2⟩ => Calls.spliced_cons (thn (hf.run pins s2 σ H2 _ I2 q2) fun fv s3 ⟨z, H3, I3, rz, kvs, k, b, ey, ea, eb, hl, q3, q4⟩ => Calls.spliced_nil ?_))))
  subst ey
  cases (show iv = Value.ref b from ry)
  obtain ⟨zz, hd, xs, rel, dd⟩ := dt_of I3.hok ea
  refine call_setdefault_heap (knd := tupleKind (mixKind X.prog X.w)) (tupleKind_room_in1 hu) (key_of I3.hok eb) hd dd (fun p hp => ?_) (fun hn h' dd' hs => ?_) (hsz := by rw [← Paired.length rel]; exact zz)
  · have r := rel.val k
    rw [hp] at r
    cases ev : valV kvs k with
    | none =>
      rw [ev] at r
      exact (show False from r).elim
    | some v =>
      rw [ev] at r
      exact ⟨v, H3, I3.tok _, r, q3 v ev⟩
  · have r := rel.val k
    rw [hn] at r
    cases ev : valV kvs k with
    | some v =>
      rw [ev] at r
      exact (show False from r).elim
    | none =>
      have hl2 : (putK kvs k z).length ≤ sizeLine := by
        have := length_putK kvs k z
        omega
      obtain ⟨q, es, ep, hq, h2, h3, h4, _, h5⟩ := dd'
      refine ⟨z, _, d_write (ob := .dT (putK kvs k z)) I3 (by rw [ea]; exact True.intro) hs ⟨q, hq⟩ ⟨hl2, hd, _, (rel.put k eb rz).keeps fun c ys ec => ?_, q, es, ep, hq, h2, h3, h4, h5⟩, rz, q4 ev⟩
      rw [upd_ne (ne_of ec ea (fun w => nomatch w))]
      exact ec
end
/-! ### len(set(xs)) of ints -/
theorem met_seen (ns : List Int) : ∀ i, i ≤ ns.length → firstMet (fun i => ns.getD i 0) i = Lo.seen id (ns.take i)
  | 0, _ => rfl
  | i + 1, hi => by
    have ei : ns[i]? = some (ns[i]'hi) := List.getElem?_eq_getElem _
    have ed : ns.getD i 0 = ns[i]'hi := by
      rw [List.getD_eq_getElem?_getD, ei]
      rfl
    have tk : ns.take (i + 1) = ns.take i ++ [ns[i]'hi] := by
      rw [List.take_add_one, ei]
      rfl
    rw [firstMet_succ, met_seen ns i (by omega), tk, Lo.seen_snoc, ed]
    unfold step_dedup
    by_cases c : ns[i]'hi ∈ Lo.seen id (ns.take i)
    · rw [if_pos (show id (ns[i]'hi) ∈ _ from c), if_pos (List.any_eq_true.mpr ⟨_, c, by simp⟩)]
    · rw [if_neg (show ¬ id (ns[i]'hi) ∈ _ from c), if_neg (fun h => by
        obtain ⟨x, hx, e⟩ := List.any_eq_true.mp h
        exact c ((by simpa using e : x = _) ▸ hx))]
      rfl
def tLenNums (K : PySem.W.Frag) (ta : TE) : TE := fun σ H Q => ta σ H fun x H1 => ∃ (l : Addr) (ns : List Int), x = .ref l ∧ SqL K H1 l (ns.map V.int) ∧ ns.length ≤ 1000 ∧ Q (.int ((Lo.seen id ns).length : Nat)) H1
theorem pe_lenNums {X : Cx} {a : Expr} {ta : TE} {p p2 q pos : Pos} (hc : X.calm = true) (hg : Gl X "len") (hm : X.mg "len" = none) (hg2 : Gl X "set") (hm2 : X.mg "set" = none) (ha : PE X a ta)
    (na : starEach [a] X.env = (false, eval a X.env) :: starEach [] X.env := by rfl) : PE X (.Call (.Name "len" p) [.Call (.Name "set" p2) [a] [] q] [] pos) (tLenNums X.K ta) := by
  refine ⟨fun pins s σ H Q I h => Call_ (ld_blt I hg hm PySem.boot_len ?_)⟩
  refine PyProof.Rows.callWith_builtin1 (PyProof.Rows.args_cons ?_ rfl) rfl rfl
  refine Call_ (ld_blt I hg2 hm2 PyProof.Rows.boot_set ?_)
  refine PyProof.Rows.callWith_type1 (PyProof.Rows.args_cons (thn (ha.run pins s σ H _ I h) fun v s1 ⟨x, H1, I1, r1, l, ns, ex, hq, few, q1⟩ => PyProof.Rows.args_nil ?_) na) na rfl
  subst ex
  cases r1
  obtain ⟨its, r, pl, _⟩ := I1.list hq
  have hn : its.toArray.size = ns.length := by rw [List.size_toArray, ← r.length, List.length_map]
  refine call_set_list (I1.ok.hd hc) pl.isList (ns := ns) (by simpa using RZ.intsAre_vals r) (by unfold scanBound; omega) fun h2 tk got keep => ?_
  refine PyProof.Rows.args_nil ?_
  rw [hn, met_seen ns ns.length (Nat.le_refl _), List.take_length] at got
  obtain ⟨o, es, ep, t, ho, hex, hd, _, _, _, hf, hn2⟩ := got
  have le := Lo.seen_len (f := id) (ws := ns)
  have I2 : L2.Inv X pins σ H1 { s1 with heap := h2, toks := tk } := I1.kept fun b o e => keep b o (Heap.lt_size e) e
  refine call_len_set ho hex hd hf (by rw [hn2] <;> omega) ⟨.int ((Lo.seen id ns).length : Nat), H1, I2.tok _, ⟨_, by rw [hn2]⟩, q1⟩
end Dk
set_option Elab.async false
set_option linter.all false
set_option maxRecDepth 100000
set_option maxHeartbeats 8000000
namespace Dk
open PySem PySem.Spec PyProof.Rows L2 Er LamX NdefX
open PySem.ErK (EC)
theorem has_putK {κ : Type} [DecidableEq κ] {kvs : List (κ × V)} {k : κ} {v : V} (j : κ) : (valV (putK kvs k v) j).isSome = true ↔ j = k ∨ (valV kvs j).isSome = true := by
  rw [valV_put]
  by_cases c : j = k
  · rw [if_pos c]
    simp [c]
  · rw [if_neg c]
    simp [c]
theorem nodup_leG {α : Type} [DecidableEq α] : ∀ {l m : List α}, l.Nodup → (∀ x ∈ l, x ∈ m) → l.length ≤ m.length
  | [], _, _, _ => Nat.zero_le _
  | x :: l, m, hn, hs => by
    obtain ⟨h1, h2⟩ := List.nodup_cons.mp hn
    have hx : x ∈ m := hs x List.mem_cons_self
    have ih := nodup_leG (l := l) (m := m.erase x) h2 fun y hy => (List.mem_erase_of_ne (fun e : y = x => h1 (by rw [← e]; exact hy))).2 (hs y (List.mem_cons_of_mem _ hy))
    have hp : 0 < m.length := List.length_pos_of_mem hx
    rw [List.length_erase_of_mem hx] at ih
    rw [List.length_cons]
    omega
abbrev St2 : Type := List Key
def pr (z y : Str) : St2 := [.inr z, .inr y]
def look (ns ls : List Str) (z : Str) : Str := ls.getD (ns.idxOf z) ⟨#[]⟩
theorem look_at {ns ls : List Str} {z : Str} (e : ls.length = ns.length) (hz : z ∈ ns) : valV (dkv ns (ls.map V.str)) (.inr z) = some (.str (look ns ls z)) := by
  have il := idx_lt hz
  rw [dkv_get (by rw [List.length_map, e]) hz, List.getElem?_map]
  unfold look
  rw [List.getD_eq_getElem?_getD, List.getElem?_eq_getElem (by omega)]
  rfl
def fdP (lk : Str → Str) : St2 → Bool
  | [.inr z, .inr y] => decide (lk z ≠ lk y)
  | _ => false
structure MvAt (H : Hp) (mo : Addr) (ns ds : List Str) (bs : List Addr) (nx : Str → Str → Str) : Prop where
  at_ : H mo = some (.dK (dkv ns (bs.map V.ref)))
  rows : Paired (fun b z => b ≠ mo ∧ H b = some (.dK (dkv ds ((ds.map (nx z)).map V.str)))) bs ns
  few : ns.length ≤ 9
  deeds : ds.length ≤ 4
  dnd : ds.Nodup
theorem MvAt.sm {H G : Hp} {mo : Addr} {ns ds : List Str} {bs : List Addr} {nx : Str → Str → Str} (m : MvAt H mo ns ds bs nx) (s : Sm H G) : MvAt G mo ns ds bs nx := ⟨s _ _ m.at_, pair_mono m.rows fun b _ z e => ⟨e.1, s _ _ e.2⟩, m.few, m.deeds, m.dnd⟩
theorem MvAt.row {H : Hp} {mo : Addr} {ns ds : List Str} {bs : List Addr} {nx : Str → Str → Str} (m : MvAt H mo ns ds bs nx) {z : Str} (hz : z ∈ ns) : ∃ b, valV (dkv ns (bs.map V.ref)) (.inr z) = some (.ref b) ∧ b ≠ mo ∧ H b = some (.dK (dkv ds ((ds.map (nx z)).map V.str))) := by
  have bl : bs.length = ns.length := paired_len m.rows
  have il := idx_lt hz
  have e1 : bs[ns.idxOf z]? = some (bs[ns.idxOf z]'(by omega)) := List.getElem?_eq_getElem _
  obtain ⟨z2, e2, e3⟩ := pair_at m.rows e1
  rw [List.getElem?_eq_getElem il, List.getElem_idxOf il] at e2
  cases Option.some.inj e2
  exact ⟨_, by rw [dkv_get (by rw [List.length_map, bl]) hz, List.getElem?_map, e1]; rfl, e3⟩
theorem row_at {ds : List Str} {f : Str → Str} {d : Str} (hd : d ∈ ds) : valV (dkv ds ((ds.map f).map V.str)) (.inr d) = some (.str (f d)) := by
  rw [look_at (by rw [List.length_map]) hd]
  unfold look
  have il := idx_lt hd
  rw [List.getD_eq_getElem?_getD, List.getElem?_map, List.getElem?_eq_getElem il, List.getElem_idxOf il]
  rfl
theorem Rd.sm {H G : Hp} {a : Addr} {u : HO} (r : Rd H a u) (m : Sm H G) : Rd G a u := by
  rcases r with h | ⟨o, h⟩
  · exact .inl (m _ _ h)
  · exact .inr ⟨o, m _ _ h⟩
def pairs (ns : List Str) : List St2 := ns.flatMap fun z => ns.map fun y => pr z y
theorem pairs_mem {ns : List Str} {k : St2} : k ∈ pairs ns ↔ ∃ z ∈ ns, ∃ y ∈ ns, k = pr z y := by
  unfold pairs
  rw [List.mem_flatMap]
  constructor
  · rintro ⟨z, hz, h⟩
    obtain ⟨y, hy, rfl⟩ := List.mem_map.mp h
    exact ⟨z, hz, y, hy, rfl⟩
  · rintro ⟨z, hz, y, hy, rfl⟩
    exact ⟨z, hz, List.mem_map.mpr ⟨y, hy, rfl⟩⟩
theorem flat_len {α β : Type} (f : α → List β) (m : Nat) : ∀ {l : List α}, (∀ x ∈ l, (f x).length ≤ m) → (l.flatMap f).length ≤ l.length * m
  | [], _ => Nat.zero_le _
  | x :: l, h => by
    have ih := flat_len f m (l := l) fun y hy => h y (List.mem_cons_of_mem _ hy)
    have hx := h x List.mem_cons_self
    rw [List.flatMap_cons, List.length_append, List.length_cons, Nat.succ_mul]
    omega
theorem pairs_few {ns : List Str} (h : ns.length ≤ 9) : (pairs ns).length ≤ 1000 := by
  have z := flat_len (fun z => ns.map fun y => pr z y) 9 (l := ns) fun x _ => by
    rw [List.length_map]
    exact h
  unfold pairs
  omega
/-! ### Desk.standings; desk_leads, desk_moves, desk_sights -/
def spStd (C : Addr) : Sp := fun vs H Q _ => ∃ (x dx st ld si : Addr), vs = [.ref x] ∧ H x = some (.ins C dx (fldsOf st ld si)) ∧ Q (.ref st) H
abbrev nSelf : List Str := ["self"]
theorem scStd : FnScope nSelf nSelf (defScope (meth 1)) := ⟨rfl, rfl, rfl, by decide +kernel, rfl, by decide +kernel, by decide +kernel⟩
/-- a dict comprehension over a dict's items -/
theorem dc_items {K : PySem.W.Frag} {d : Addr} {od : Obj} {kvs : List (Key × V)} {i j : Nat} {tk tv : TE} {σ : L2.St} {H1 : Hp} {Q : Addr → Hp → Prop} (w1 : ∀ v u, wipe ((((wipe σ [i, j]).set i (some v)).set j (some u))) [i, j] = wipe σ [i, j]) (Pv : Addr → Nat → Hp → Prop)
    (h0 : ∀ D, H1 D = none → Pv D 0 (upd H1 D (.dK []))) (hG : ∀ D n H, n ≤ kvs.length → Pv D n H → H d = some (.frz od (.dK kvs)))
    (hs : ∀ D n k v H H', H1 D = none → kvs[n]? = some (k, v) → Pv D n H → Sm H H' → tk (((wipe σ [i, j]).set i (some (kV k))).set j (some v)) H' fun y H4 => tv (((wipe σ [i, j]).set i (some (kV k))).set j (some v)) H4 fun z H5 => ∃ ks k2, y = kV k2 ∧ H5 D = some (.dK ks) ∧ ks.length < sizeLine ∧ Pv D (n + 1) (upd H5 D (.dK (putK ks k2 z))))
    (hd : ∀ D H, H1 D = none → Pv D kvs.length H → Q D H) : DcR (gTup K 2 (gCons (gName i) (gCons (gName j) gNil))) tk tv σ [i, j] H1 Q (Iti d od kvs) := by
  intro D nD
  have w := walk_items (d := d) (o := od) (kvs := kvs)
  refine ⟨fun n m H => m = kvs.length - n ∧ n ≤ kvs.length ∧ Pv D n H, ⟨kvs.length, rfl, Nat.zero_le _, h0 D nD⟩, ?_⟩
  rintro n m H ⟨rfl, hn, p⟩
  have q := hG D n H hn p
  by_cases lt : n < kvs.length
  · refine .inr ⟨w.goes n H lt q, Pv D (n + 1), fun H' p2 => ⟨kvs.length - (n + 1), by omega, rfl, lt, p2⟩, fun x H' y => ?_⟩
    obtain ⟨T, x1, x2, rfl, hT, rfl, e1, e2⟩ := w.yields n H x H' lt q y
    have ek : kvs[n]? = some (kvs[n]'lt) := List.getElem?_eq_getElem lt
    generalize kvs[n]'lt = kv at ek
    obtain ⟨k, v⟩ := kv
    have e1 : Option.map (fun kv : Key × V => kV kv.1) kvs[n]? = some x1 := e1
    have e2 : Option.map Prod.snd kvs[n]? = some x2 := e2
    rw [ek] at e1 e2
    have z1 : kV k = x1 := Option.some.inj (show some (kV k) = some x1 from e1)
    have z2 : v = x2 := Option.some.inj (show some v = some x2 from e2)
    subst z1 z2
    refine ⟨T, _, rfl, .inl (.inl upd_same), rfl, _, _, rfl, _, _, rfl, rfl, w1 _ _, ?_⟩
    unfold tYes
    dsimp only
    rw [if_pos rfl]
    exact hs D n k v H _ nD ek p (Sm.new hT)
  · have e : n = kvs.length := by omega
    subst e
    exact .inl ⟨w.stops H q, hd D H nD p⟩
def rDictD : List V → Hp → VK → Prop := fun xs H Q => ∃ (a : Addr) (kvs : List (Key × V)), xs = [.ref a] ∧ Rd H a (.dK kvs) ∧ ∀ p, H p = none → Q (.ref p) (upd H p (.dK kvs))
def spDl (K : PySem.W.Frag) (C : Addr) : Sp := fun vs H Q _ => ∃ (x : Addr) (ws ds : List Str) (tb : List (List Str)) (ls : List Str) (m : Nat), vs = [.ref x] ∧ DeskOb K C H x ws ds tb ls ∧ DkIs m ws ds tb ls ∧
  ∀ (q : Addr) (as : List Addr) H', Sm H H' → H q = none → H' q = some (.dK (dkv ds (as.map V.ref))) → Paired (fun a vs => a ≠ q ∧ H' a = some (.dK (dkv ws (vs.map V.str)))) as tb → Q (.ref q) H'
abbrev nDl : List Str := ["desk", "deed", "lead"]
theorem scDl : FnScope nDl ["desk"] (defScope (top 25)) := ⟨rfl, rfl, rfl, by decide +kernel, rfl, by decide +kernel, by decide +kernel⟩
/-- the dict of dicts that desk_moves tells -/
def spMv (K : PySem.W.Frag) (C : Addr) : Sp := fun vs H Q _ => ∃ (x : Addr) (ws ds : List Str) (tb : List (List Str)) (ls : List Str) (m : Nat), vs = [.ref x] ∧ DeskOb K C H x ws ds tb ls ∧ DkIs m ws ds tb ls ∧ m ≤ 9 ∧
  ∀ (q : Addr) (bs : List Addr) H', Sm H H' → H q = none → MvAt H' q ws ds bs (nxt ws ds tb) → Q (.ref q) H'
abbrev nMv : List Str := ["desk", "leads", "one", "deed"]
theorem scMv : FnScope nMv ["desk"] (defScope (top 26)) := ⟨rfl, rfl, rfl, by decide +kernel, rfl, by decide +kernel, by decide +kernel⟩
abbrev scMv1 : Scope := { kind := .function, names := [(".0", .local), ("one", .cell), ("leads", .cell)], isGenerator := false, isCoroutine := false }
def spSi (K : PySem.W.Frag) (C : Addr) : Sp := fun vs H Q _ => ∃ (x : Addr) (ws ds : List Str) (tb : List (List Str)) (ls : List Str) (m : Nat), vs = [.ref x] ∧ DeskOb K C H x ws ds tb ls ∧ DkIs m ws ds tb ls ∧ m ≤ 9 ∧
  ∀ (q : Addr) H', Sm H H' → H q = none → H' q = some (.dK (dkv ws (ls.map V.str))) → Q (.ref q) H'
abbrev nSi : List Str := ["desk", "standing"]
theorem scSi : FnScope nSi ["desk"] (defScope (top 27)) := ⟨rfl, rfl, rfl, by decide +kernel, rfl, by decide +kernel, by decide +kernel⟩
/-- Desk.sight of a standing -/
def spSight0 (K : PySem.W.Frag) (C : Addr) : Sp := fun vs H Q _ => ∃ (x : Addr) (z l : Str) (ws ds : List Str) (tb : List (List Str)) (ls : List Str), vs = [.ref x, .str z] ∧ DeskOb K C H x ws ds tb ls ∧ ls.length = ws.length ∧ z ∈ ws ∧ ls[ws.idxOf z]? = some l ∧ Q (.str l) H
section
variable {P : Program} {w : World} {K : PySem.W.Frag} {mg : Str → Option Value} {base : Heap} {f C fO fL fS pS gS : Addr} {fd dO dL dS dG : FuncData}
theorem ok_std (F : FunD K "standings" "Desk.standings" (defArgs (meth 1)) (defBody (meth 1)) (defScope (meth 1)) [] [] f fd) (hC : Cls K C) (n1 : NoAttr K C "_standings") : FnOk P w K mg base CX0 1 f fd nSelf (spStd C) := by
  refine F.ok (CX := CX0) scStd (fun vs H Q E h => ?_) (fun cdv A outer s H vs Q E hr h => ?_)
  · obtain ⟨x, dx, st, ld, si, rfl, _⟩ := h
    rfl
  · refine ⟨_, PSs.nox (pss_one (ps_ret (by exact (pe_fld (pv 0) rfl)))), ?_⟩
    obtain ⟨x, dx, st, ld, si, rfl, hx, q⟩ := h
    exact ⟨_, rfl, x, C, dx, _, _, rfl, hx, hC, n1, rfl, q⟩
theorem bStd (F : FunD K "standings" "Desk.standings" (defArgs (meth 1)) (defBody (meth 1)) (defScope (meth 1)) [] [] f fd) : Binds K fd nSelf [] := F.bindsN fun _ _ _ _ _ _ us hl => match us, hl with
  | [_], _ => rfl
theorem ok_sight0 (F : FunD K "sight" "Desk.sight" (defArgs (meth 5)) (defBody (meth 5)) (defScope (meth 5)) [] [] f fd) (hC : Cls K C) (n1 : NoAttr K C "_standings") (n3 : NoAttr K C "_sights")
    (GO : FnOk P w K mg base CX0 1 fO dO nOneOf (spOneOf K)) (FO : FnP K "is_one_of" (top 10) fO dO) (gO : mg "is_one_of" = some (.ref fO)) : FnOk P w K mg base CX0 2 f fd nSight (spSight0 K C) := by
  refine F.ok (CX := CX0) scSight (fun vs H Q E h => ?_) (fun cdv A outer s H vs Q E hr h => ?_)
  · obtain ⟨x, z, l, ws, ds, tb, ls, rfl, _⟩ := h
    rfl
  · refine ⟨_, PSs.nox (pss_cons (ps_if (pt_not (pt_val (by exact (pe_call GO hr rfl gO FO.kp (bOne FO) .nil pass0 (pa_cons (pv 1) (pa_cons (by exact (pe_fld (pv 0) rfl)) pa_nil)))))) (pss_one ps_never) pss_nil)
      (pss_one (ps_ret (by exact (pe_dget (hu_of hr) (by exact (pe_fld (pv 0) rfl)) (pv 1) (fun _ _ => rfl)))))), ?_⟩
    obtain ⟨x, z, l, ws, ds, tb, ls, rfl, ⟨dx, st, ld, si, as, hx, hst, hld, hsi, pr⟩, ll, hz, el, q⟩ := h
    refine ⟨_, rfl, _, rfl, x, C, dx, _, _, rfl, hx, hC, n1, rfl, .str z, st, rfl, .inl ⟨z, ws, rfl, .inr (.inl hst), _, rfl, ?_⟩⟩
    rw [decide_eq_true hz]
    refine iteF ⟨_, rfl, x, C, dx, _, _, rfl, hx, hC, n3, rfl, _, rfl, si, .str l, rfl, .inl ⟨_, .inr z, .inl hsi, rfl, ?_⟩, q⟩
    rw [dkv_get (by rw [List.length_map, ll]) hz, List.getElem?_map, el]
    rfl
theorem ok_dl (F : FnP K "desk_leads" (top 25) f fd) (hC : Cls K C) (n2 : NoAttr K C "_leads") (md : mg "dict" = none) : FnOk P w K mg base CX0 1 f fd ["desk"] (spDl K C) := by
  refine F.ok (CX := CX0) scDl (fun vs H Q E h => ?_) (fun cdv A outer s H vs Q E hr h => ?_)
  · obtain ⟨x, ws, ds, tb, ls, m, rfl, _⟩ := h
    rfl
  · refine ⟨_, PSs.nox (pss_one (ps_ret (pe_lock (by exact (pe_dc (own := [("deed", 1), ("lead", 2)]) (g := gTup K 2 (gCons (gName 1) (gCons (gName 2) gNil))) (tt := tYes) (tk := tVar 1) (tv := tCB rDictD (tCons (tVar 2) tNil)) rfl scDl.nd (pi_items (by exact (pe_fld (pv 0) rfl)))
      (blkOk_by (N := nDl) (sc := defScope (top 25)) (by decide +kernel)) (fun _ _ _ _ _ => by exact (pg_tup rfl (pgs_cons (pg_name (i := 1) scDl.nd rfl (Or.inl rfl)) (pgs_cons (pg_name (i := 2) scDl.nd rfl (Or.inl rfl)) pgs_nil)))) (fun _ _ _ _ _ => pts_nil) (fun _ _ _ _ _ => by exact (pv 1))
      (fun _ _ _ _ _ => by exact (pe_callTy call_dictD rfl md PyProof.Rows.boot_dict (pa_cons (by exact (pv 2)) pa_nil)))))))), ?_⟩
    obtain ⟨x, ws, ds, tb, ls, m, rfl, ⟨dx, st, ld, si, as, hx, hst, hld, hsi, pr⟩, is, q⟩ := h
    have al : as.length = ds.length := by rw [paired_len pr, is.rows]
    have d4 := is.dmost
    have kl : (dkv ds (as.map V.ref)).length = ds.length := dkv_len (by rw [List.length_map, al])
    refine ⟨ld, _, hld, True.intro, fun od => ?_⟩
    have lx : x ≠ ld := ne_of hx hld (fun z => nomatch z)
    have prL : Paired (fun a vs => a ≠ ld ∧ upd H ld (.frz od (.dK (dkv ds (as.map V.ref)))) a = some (.dK (dkv ws (vs.map V.str)))) as tb := paired_of (paired_len pr) fun j a vs e1 e2 => by
      obtain ⟨vs2, e3, e4⟩ := pair_at pr e1
      rw [e2] at e3
      have e5 := Option.some.inj e3
      subst e5
      have ne : a ≠ ld := fun z => by
        rw [z, hld] at e4
        exact dkv_ne is.some (is.row vs (List.mem_of_getElem? e2)).1 (HO.dK.inj (Option.some.inj e4)).symm
      exact ⟨ne, by rw [upd_ne ne]; exact e4⟩
    have xL : upd H ld (.frz od (.dK (dkv ds (as.map V.ref)))) x = some (.ins C dx (fldsOf st ld si)) := by
      rw [upd_ne lx]
      exact hx
    have dL : upd H ld (.frz od (.dK (dkv ds (as.map V.ref)))) ld = some (.frz od (.dK (dkv ds (as.map V.ref)))) := upd_same
    have unl : ∀ G, Sm (upd H ld (.frz od (.dK (dkv ds (as.map V.ref))))) G → Sm H (upd G ld (.dK (dkv ds (as.map V.ref)))) := fun G m => sm_unlock hld m
    generalize upd H ld (.frz od (.dK (dkv ds (as.map V.ref)))) = L at prL xL dL unl ⊢
    refine ⟨_, rfl, x, C, dx, _, _, rfl, xL, hC, n2, rfl, ld, od, _, rfl, dL, ?_⟩
    refine dc_items (fun _ _ => rfl) (fun D n G => ∃ es : List Addr, es.length = n ∧ G D = some (.dK (dkv (ds.take n) (es.map V.ref))) ∧ Paired (fun e vs => e ≠ D ∧ e ≠ ld ∧ G e = some (.dK (dkv ws (vs.map V.str)))) es (tb.take n) ∧ Sm L G)
      (fun D nD => ⟨[], rfl, upd_same, .nil, Sm.new nD⟩) (fun D n G _ ⟨_, _, _, _, m⟩ => m _ _ dL) (fun D n k v G G' nD ek p m => ?_) (fun D G nD p => ?_)
    · obtain ⟨es, el, eD, pe, mm⟩ := p
      obtain ⟨d, ed, rfl, ev⟩ := dkv_at ek
      obtain ⟨a, ea, rfl⟩ : ∃ a, as[n]? = some a ∧ v = .ref a := by
        rw [List.getElem?_map] at ev
        cases e : as[n]? with
        | none =>
          rw [e] at ev
          cases ev
        | some a =>
          rw [e] at ev
          exact ⟨a, rfl, (Option.some.inj ev).symm⟩
      obtain ⟨vs, et, an, ha⟩ := pair_at prL ea
      have m2 := mm.trans m
      refine ⟨_, rfl, _, rfl, a, _, rfl, .inl (m2 _ _ ha), fun e ne => ?_⟩
      have eD2 := m _ _ eD
      have De : D ≠ e := ne_of_none eD2 ne
      have m3 := Sm.new (o := .dK (dkv ws (vs.map V.str))) ne
      have il : n < ds.length := (List.getElem?_eq_some_iff.mp ed).1
      have tk : ds.take (n + 1) = ds.take n ++ [d] := by
        rw [List.take_add_one, ed]
        rfl
      have tt : tb.take (n + 1) = tb.take n ++ [vs] := by
        rw [List.take_add_one, et]
        rfl
      have l1 : es.length = (ds.take n).length := by
        rw [List.length_take]
        omega
      have eld : e ≠ ld := fun z => by
        rw [z, m2 _ _ dL] at ne
        cases ne
      refine ⟨_, .inr d, rfl, m3 _ _ eD2, by rw [dkv_len (by rw [List.length_map]; omega), List.length_take, sizeLine_eq]; omega, es ++ [e], by rw [List.length_append, el]; rfl, ?_, ?_, ?_⟩
      · rw [upd_same, put_dkv l1 (by rw [← tk]; exact is.dnd.sublist (List.take_sublist _ _)), tk]
      · rw [tt]
        refine pair_more (pair_mono pe fun b _ t eb => ⟨eb.1, eb.2.1, ?_⟩) ⟨Ne.symm De, eld, ?_⟩
        · rw [upd_ne eb.1]
          exact m3 _ _ (m _ _ eb.2.2)
        · rw [upd_ne (Ne.symm De)]
          exact upd_same
      · intro b o eb
        rw [upd_ne (ne_of_none eb nD)]
        exact m3 _ _ (m2 _ _ eb)
    · obtain ⟨es, el, eD, pe, mm⟩ := p
      rw [kl] at el eD pe
      rw [List.take_length] at eD
      rw [List.take_of_length_le (by rw [is.rows]; exact Nat.le_refl _)] at pe
      have Dl : D ≠ ld := fun z => by
        rw [z, dL] at nD
        cases nD
      refine ⟨mm _ _ dL, q D es _ (unl G mm) (none_of_sm (unl L (Sm.refl L)) (by rw [upd_ne Dl]; exact nD)) (by rw [upd_ne Dl]; exact eD) (pair_mono pe fun e _ vs h => ⟨h.1, by rw [upd_ne h.2.1]; exact h.2.2⟩)⟩
theorem bDl (F : FnP K "desk_leads" (top 25) f fd) : Binds K fd ["desk"] [] := F.bindsN fun _ _ _ _ _ _ us hl => match us, hl with
  | [_], _ => rfl
end

theorem put_dkvV {ds : List Str} {us : List V} {d : Str} {v : V} (e : us.length = ds.length) (nd : (ds ++ [d]).Nodup) : putK (dkv ds us) (.inr d) v = dkv (ds ++ [d]) (us ++ [v]) := by
  rw [put_new]
  · unfold dkv
    rw [List.map_append, List.zip_append (by rw [List.length_map, e])]
    rfl
  · rw [dkv_keys e.symm]
    intro z
    obtain ⟨x, hx, ex⟩ := List.mem_map.mp z
    have ex2 : x = d := Sum.inr.inj ex
    exact (List.nodup_append.mp nd).2.2 x hx d List.mem_cons_self ex2
/-- {k: e for k in d} -/
theorem dc_keysS {d : Addr} {od : Obj} {ds : List Str} {us : List V} {tv : TE} {fv : Str → V} {σ : L2.St} {i : Nat} {H1 : Hp} {Q : Addr → Hp → Prop} (hd : H1 d = some (.frz od (.dK (dkv ds us)))) (ul : us.length = ds.length) (nd : ds.Nodup) (hn : ds.length ≤ 1000)
    (w1 : ∀ v, wipe ((wipe σ [i]).set i (some v)) [i] = wipe σ [i]) (s1 : ∀ v, ((wipe σ [i]).set i (some v))[i]? = some (some v))
    (ev : ∀ (z : Str) (H2 : Hp) (Q : VK), z ∈ ds → Sm H1 H2 → Q (fv z) H2 → tv ((wipe σ [i]).set i (some (.str z))) H2 Q)
    (q : ∀ (D : Addr) (H2 : Hp), Sm H1 H2 → H1 D = none → H2 D = some (.dK (dkv ds (ds.map fv))) → Q D H2) : DcR (gName i) (tVar i) tv σ [i] H1 Q (Itk d od (dkv ds us)) := by
  have kl : (dkv ds us).length = ds.length := dkv_len ul
  refine dc_it walk_keys w1 (fun D j H => H D = some (.dK (dkv (ds.take j) ((ds.take j).map fv))) ∧ Sm H1 H) (fun D nD => ⟨upd_same, Sm.new nD⟩) (fun D j H _ p => p.2 _ _ hd) (fun D j x H H' nD hj p y => ?_) (fun D H nD p => ?_)
  · obtain ⟨ed, sm⟩ := p
    obtain ⟨rfl, k, v, ekv, rfl⟩ := y
    obtain ⟨z, ez, rfl, _⟩ := dkv_at ekv
    have tk : ds.take (j + 1) = ds.take j ++ [z] := by
      rw [List.take_add_one, ez]
      rfl
    refine ⟨_, s1 _, ev z _ _ (List.mem_of_getElem? ez) sm ⟨_, .inr z, rfl, ed, ?_, ?_, ?_⟩⟩
    · rw [dkv_len (by rw [List.length_map]), List.length_take, sizeLine_eq]
      omega
    · rw [upd_same, put_dkvV (by rw [List.length_map]) (by rw [← tk]; exact nd.sublist (List.take_sublist _ _)), tk, List.map_append]
      rfl
    · intro b o e
      rw [upd_ne (ne_of_none e nD)]
      exact sm _ _ e
  · obtain ⟨ed, sm⟩ := p
    rw [kl, List.take_length] at ed
    exact q D H sm nD ed
section
variable {P : Program} {w : World} {K : PySem.W.Frag} {mg : Str → Option Value} {base : Heap} {f C fO fL fS pS gS : Addr} {fd dO dL dS dG : FuncData}
theorem ok_mv (F : FnP K "desk_moves" (top 26) f fd) (hC : Cls K C) (PS_ : PropOf K C "standings" pS gS) (GG : FnOk P w K mg base CX0 1 gS dG nSelf (spStd C)) (bG : Binds K dG nSelf [])
    (GL : FnOk P w K mg base CX0 1 fL dL ["desk"] (spDl K C)) (FL : FnP K "desk_leads" (top 25) fL dL) (gL : mg "desk_leads" = some (.ref fL)) : FnOk P w K mg base CX0 3 f fd ["desk"] (spMv K C) := by
  refine F.ok (CX := CX0) scMv (fun vs H Q E h => ?_) (fun cdv A outer s H vs Q E hr h => ?_)
  · obtain ⟨x, ws, ds, tb, ls, m, rfl, _⟩ := h
    rfl
  · have hr1 := hr.mono (show 1 ≤ 2 by decide)
    refine ⟨_, PSs.nox (pss_cons (ps_set (i := 1) scMv.nd rfl (.inr rfl) (by exact (pe_call GL hr1 rfl gL FL.kp (bDl FL) .nil pass0 (pa_cons (pv 0) pa_nil))))
      (pss_one (ps_ret (by exact (pe_dc (own := [("one", 2)]) (g := gName 2) (tt := tYes) (tk := tVar 2) (tv := tLockE (tDc (iKeys (tVar 1)) (gName 3) tYes (tVar 3) (tDGet (tDGet (tVar 1) (tVar 3)) (tVar 2)) [3])) rfl scMv.nd (pi_seq (by exact (pe_prop (pv 0) hC PS_ GG hr bG .nil pass0 rfl)))
        (blkOk_by (N := nMv) (sc := defScope (top 26)) (by decide +kernel)) (fun _ _ _ _ _ => pg_name (i := 2) scMv.nd rfl (Or.inr rfl)) (fun _ _ _ _ _ => pts_nil) (fun _ _ _ _ _ => by exact (pv 2))
        (fun _ _ _ _ _ => by exact (pe_lock (by exact (pe_dc (own := [("deed", 3)]) (g := gName 3) (tt := tYes) (tk := tVar 3) (tv := tDGet (tDGet (tVar 1) (tVar 3)) (tVar 2)) rfl scMv.nd (pi_keys (by exact (pv 1)))
          (blkOk_by (N := nMv) (sc := scMv1) (by decide +kernel)) (fun _ _ _ _ _ => pg_name (i := 3) scMv.nd rfl (Or.inl rfl)) (fun _ _ _ _ _ => pts_nil) (fun _ _ _ _ _ => by exact (pv 3))
          (fun _ _ _ _ _ => by exact (pe_dget (hu_of hr) (by exact (pe_dget (hu_of hr) (by exact (pv 1)) (by exact (pv 3)) (fun _ _ => rfl))) (by exact (pv 2)) (fun _ _ => rfl)))))))))))), ?_⟩
    obtain ⟨x, ws, ds, tb, ls, m, rfl, ob, is, m9, q⟩ := h
    refine ⟨_, rfl, x, ws, ds, tb, ls, m, rfl, ob, is, fun lq as H1 m1 nq e1 pr1 => ?_⟩
    obtain ⟨dx, st, ld, si, as0, hx, hst, hld, hsi, _⟩ := ob.sm m1
    have al : as.length = ds.length := by rw [paired_len pr1, is.rows]
    have d4 := is.dmost
    have w9 := is.most
    refine ⟨_, rfl, x, dx, _, rfl, hx, x, dx, st, ld, si, rfl, hx, st, ws.map V.str, rfl, .inr ⟨hst, ?_⟩⟩
    refine dc_it walk_tup (fun _ => rfl) (fun D j G => ∃ bs : List Addr, bs.length = j ∧ G D = some (.dK (dkv (ws.take j) (bs.map V.ref))) ∧ Paired (fun b z => b ≠ D ∧ G b = some (.dK (dkv ds ((ds.map (nxt ws ds tb z)).map V.str)))) bs (ws.take j) ∧ Sm H1 G)
      (fun D nD => ⟨[], rfl, upd_same, .nil, Sm.new nD⟩) (fun D j G _ ⟨_, _, _, _, mm⟩ => SqT.sm hst mm) (fun D j x0 G G' nD hj p y => ?_) (fun D G nD p => ?_)
    · obtain ⟨bs, bl, eD, pb, mm⟩ := p
      obtain ⟨rfl, ex⟩ := y
      obtain ⟨z, ez, rfl⟩ : ∃ z, ws[j]? = some z ∧ x0 = .str z := by
        rw [List.getElem?_map] at ex
        cases e : ws[j]? with
        | none =>
          rw [e] at ex
          cases ex
        | some d =>
          rw [e] at ex
          exact ⟨d, rfl, (Option.some.inj ex).symm⟩
      have hz := List.mem_of_getElem? ez
      have eG := mm _ _ e1
      refine ⟨_, rfl, lq, _, eG, True.intro, fun od => ⟨_, rfl, lq, od, rfl, .inl ⟨_, upd_same, ?_⟩⟩⟩
      have prL : Paired (fun a vs => upd G' lq (.frz od (.dK (dkv ds (as.map V.ref)))) a = some (.dK (dkv ws (vs.map V.str)))) as tb := pair_mono pr1 fun a _ vs e => by
        rw [upd_ne e.1]
        exact mm _ _ e.2
      have lL : upd G' lq (.frz od (.dK (dkv ds (as.map V.ref)))) lq = some (.frz od (.dK (dkv ds (as.map V.ref)))) := upd_same
      have Dlq : D ≠ lq := fun z => by
        rw [z, e1] at nD
        cases nD
      have unl : ∀ G2, Sm (upd G' lq (.frz od (.dK (dkv ds (as.map V.ref))))) G2 → Sm G' (upd G2 lq (.dK (dkv ds (as.map V.ref)))) := fun G2 m => sm_unlock eG m
      generalize upd G' lq (.frz od (.dK (dkv ds (as.map V.ref)))) = L at prL lL unl ⊢
      refine dc_keysS (fv := fun d => .str (nxt ws ds tb z d)) lL (by rw [List.length_map, al]) is.dnd (by omega) (fun _ => rfl) (fun _ => rfl) (fun d G2 Q2 hd m2 q2 => ?_) (fun e G2 m2 ne ee => ?_)
      · obtain ⟨a, b1, b2, _⟩ := ob_step (pair_mono prL fun a _ vs e => m2 _ _ e) is hd hz
        exact ⟨_, rfl, _, rfl, lq, .ref a, rfl, .inl ⟨_, .inr d, .inr ⟨od, m2 _ _ lL⟩, rfl, b1.symm⟩, _, rfl, a, _, rfl, b2, q2⟩
      · have mu := unl G2 m2
        have eD2 := mu _ _ eD
        have elq : e ≠ lq := fun z => by
          rw [z, lL] at ne
          cases ne
        have ee2 : upd G2 lq (.dK (dkv ds (as.map V.ref))) e = some (.dK (dkv ds ((ds.map (nxt ws ds tb z)).map V.str))) := by
          rw [upd_ne elq, ee, List.map_map]
          rfl
        have neG : G' e = none := none_of_sm (unl L (Sm.refl L)) (by rw [upd_ne elq]; exact ne)
        have eDe : e ≠ D := fun z => by
          rw [z, eD] at neG
          cases neG
        refine ⟨m2 _ _ lL, ?_⟩
        generalize upd G2 lq (.dK (dkv ds (as.map V.ref))) = G3 at mu eD2 ee2 ⊢
        have jl : j < ws.length := (List.getElem?_eq_some_iff.mp ez).1
        have tk : ws.take (j + 1) = ws.take j ++ [z] := by
          rw [List.take_add_one, ez]
          rfl
        have l1 : bs.length = (ws.take j).length := by
          rw [List.length_take]
          omega
        refine ⟨_, .inr z, rfl, eD2, by rw [dkv_len (by rw [List.length_map]; omega), List.length_take, sizeLine_eq]; omega, bs ++ [e], by rw [List.length_append, bl]; rfl, ?_, ?_, ?_⟩
        · rw [upd_same, put_dkv l1 (by rw [← tk]; exact is.nd.sublist (List.take_sublist _ _)), tk]
        · rw [tk]
          refine pair_more (pair_mono pb fun b _ t eb => ⟨eb.1, ?_⟩) ⟨eDe, ?_⟩
          · rw [upd_ne eb.1]
            exact mu _ _ eb.2
          · rw [upd_ne eDe]
            exact ee2
        · intro b o eb
          rw [upd_ne (ne_of_none eb nD)]
          exact mu _ _ (mm _ _ eb)
    · obtain ⟨bs, bl, eD, pb, mm⟩ := p
      rw [List.length_map, List.take_length] at eD pb
      exact q D bs G (m1.trans mm) (none_of_sm m1 nD) ⟨eD, pb, by omega, d4, is.dnd⟩
theorem ok_si (F : FnP K "desk_sights" (top 27) f fd) (hC : Cls K C) (PS_ : PropOf K C "standings" pS gS) (GG : FnOk P w K mg base CX0 1 gS dG nSelf (spStd C)) (bG : Binds K dG nSelf [])
    (M : Meth K C "sight" fS) (GS : FnOk P w K mg base CX0 2 fS dS nSight (spSight0 K C)) (FS : FunD K "sight" "Desk.sight" (defArgs (meth 5)) (defBody (meth 5)) (defScope (meth 5)) [] [] fS dS) : FnOk P w K mg base CX0 3 f fd ["desk"] (spSi K C) := by
  refine F.ok (CX := CX0) scSi (fun vs H Q E h => ?_) (fun cdv A outer s H vs Q E hr h => ?_)
  · obtain ⟨x, ws, ds, tb, ls, m, rfl, _⟩ := h
    rfl
  · refine ⟨_, PSs.nox (pss_one (ps_ret (by exact (pe_dc (own := [("standing", 1)]) (g := gName 1) (tt := tYes) (tk := tVar 1) (tv := tMeth C "sight" (spSight0 K C) [] E0 (tVar 0) (tCons (tVar 1) tNil)) rfl scSi.nd (pi_seq (by exact (pe_prop (pv 0) hC PS_ GG hr bG .nil pass0 rfl)))
        (blkOk_by (N := nSi) (sc := defScope (top 27)) (by decide +kernel)) (fun _ _ _ _ _ => pg_name (i := 1) scSi.nd rfl (Or.inl rfl)) (fun _ _ _ _ _ => pts_nil) (fun _ _ _ _ _ => by exact (pv 1))
        (fun _ _ _ _ _ => by exact (pe_meth (by exact (pv 0)) hC M GS hr (bSight FS) .nil pass0 (pa_cons (by exact (pv 1)) pa_nil))))))), ?_⟩
    obtain ⟨x, ws, ds, tb, ls, m, rfl, ob, is, m9, q⟩ := h
    obtain ⟨dx, st, ld, si, as, hx, hst, hld, hsi, _⟩ := id ob
    have w9 := is.most
    refine ⟨_, rfl, x, dx, _, rfl, hx, x, dx, st, ld, si, rfl, hx, st, ws.map V.str, rfl, ?_⟩
    have z := dc_names (K := K) (a := st) (ws := ws) (i := 1) (σ := [some (.ref x), none]) (tv := tMeth C "sight" (spSight0 K C) [] E0 (tVar 0) (tCons (tVar 1) tNil)) (H1 := H) (fv := fun j => .str (ls.getD j ⟨#[]⟩)) (Q := fun D G => Q (.ref D) G) (.inr hst) is.nd (by omega) (fun _ => rfl) (fun _ => rfl) (fun j z G Q2 ez m2 q2 => ?_) (fun D G m2 nD eD => ?_)
    · rcases z with z | z
      · exact .inl z
      · exact .inr z
    · have jl : j < ls.length := by
        rw [is.looks]
        exact (List.getElem?_eq_some_iff.mp ez).1
      have el : ls[j]? = some (ls[j]'jl) := List.getElem?_eq_getElem jl
      rw [List.getD_eq_getElem?_getD, el] at q2
      exact ⟨_, rfl, x, dx, _, rfl, m2 _ _ hx, rfl, _, rfl, x, z, ls[j]'jl, ws, ds, tb, ls, rfl, ob.sm m2, is.looks, List.mem_of_getElem? ez, by rw [idx_of is.nd ez]; exact el, q2⟩
    · refine q D G m2 nD ?_
      rw [eD]
      congr 2
      refine congrArg (dkv ws) (List.ext_getElem (by rw [List.length_map, List.length_range, List.length_map, is.looks]) fun j h1 h2 => ?_)
      rw [List.length_map] at h2
      rw [List.getElem_map, List.getElem_range, List.getElem_map, List.getD_eq_getElem?_getD, List.getElem?_eq_getElem h2]
      rfl
theorem bMv (F : FnP K "desk_moves" (top 26) f fd) : Binds K fd ["desk"] [] := F.bindsN fun _ _ _ _ _ _ us hl => match us, hl with
  | [_], _ => rfl
theorem bSi (F : FnP K "desk_sights" (top 27) f fd) : Binds K fd ["desk"] [] := F.bindsN fun _ _ _ _ _ _ us hl => match us, hl with
  | [_], _ => rfl
end

/-! ### _law_apart -/
/-- for each standing a list of those to which the deeds lead -/
structure NxAt (H : Hp) (n : Addr) (ws ds : List Str) (bs : List Addr) (nx : Str → Str → Str) : Prop where
  at_ : H n = some (.dK (dkv ws (bs.map V.ref)))
  rows : Paired (fun b z => H b = some (.lst ((ds.map (nx z)).map V.str))) bs ws
theorem NxAt.sm {H G : Hp} {n : Addr} {ws ds : List Str} {bs : List Addr} {nx : Str → Str → Str} (h : NxAt H n ws ds bs nx) (m : Sm H G) : NxAt G n ws ds bs nx := ⟨m _ _ h.at_, pair_mono h.rows fun b _ z e => m _ _ e⟩
theorem NxAt.row {H : Hp} {n : Addr} {ws ds : List Str} {bs : List Addr} {nx : Str → Str → Str} (m : NxAt H n ws ds bs nx) {z : Str} (hz : z ∈ ws) : ∃ b, valV (dkv ws (bs.map V.ref)) (.inr z) = some (.ref b) ∧ H b = some (.lst ((ds.map (nx z)).map V.str)) := by
  have bl : bs.length = ws.length := paired_len m.rows
  have il := idx_lt hz
  have e1 : bs[ws.idxOf z]? = some (bs[ws.idxOf z]'(by omega)) := List.getElem?_eq_getElem _
  obtain ⟨z2, e2, e3⟩ := pair_at m.rows e1
  rw [List.getElem?_eq_getElem il, List.getElem_idxOf il] at e2
  cases Option.some.inj e2
  exact ⟨_, by rw [dkv_get (by rw [List.length_map, bl]) hz, List.getElem?_map, e1]; rfl, e3⟩
/-- what the table tells of the pairs that at most m deeds part -/
def FarTo (nx : Str → Str → Str) (lk : Str → Str) (ws ds : List Str) (m : Nat) (far : List (St2 × V)) : Prop := ∀ z ∈ ws, ∀ y ∈ ws, (∀ k, k ≤ m → Ap.Min nx lk ds z y k → valV far (pr z y) = some (.int k)) ∧ ((∀ k, k ≤ m → ¬ Ap.Min nx lk ds z y k) → valV far (pr z y) = none)
def FarAll (nx : Str → Str → Str) (lk : Str → Str) (ws ds : List Str) (far : List (St2 × V)) : Prop := ∀ z ∈ ws, ∀ y ∈ ws, (∀ k, Ap.Min nx lk ds z y k → valV far (pr z y) = some (.int k)) ∧ ((∀ k, ¬ Ap.Sep nx lk ds z y k) → valV far (pr z y) = none)
theorem pr_inj {z y z2 y2 : Str} (h : pr z y = pr z2 y2) : z = z2 ∧ y = y2 := by
  unfold pr at h
  have h1 := (List.cons.inj h).1
  have h2 := (List.cons.inj (List.cons.inj h).2).1
  exact ⟨Sum.inr.inj h1, Sum.inr.inj h2⟩
theorem some_of_far {nx : Str → Str → Str} {lk : Str → Str} {ws ds : List Str} {m : Nat} {far : List (St2 × V)} (F : FarTo nx lk ws ds m far) {z y : Str} (hz : z ∈ ws) (hy : y ∈ ws) (h : (valV far (pr z y)).isSome = true) : ∃ k, k ≤ m ∧ Ap.Min nx lk ds z y k := by
  refine Classical.byContradiction fun n => ?_
  rw [(F z hz y hy).2 fun k hk hm => n ⟨k, hk, hm⟩] at h
  cases h
theorem far_next {nx : Str → Str → Str} {lk : Str → Str} {ws ds : List Str} {m : Nat} {far : List (St2 × V)} (F : FarTo nx lk ws ds m far) (cl : ∀ z ∈ ws, ∀ d ∈ ds, nx z d ∈ ws) {z y : Str} (hz : z ∈ ws) (hy : y ∈ ws) (h : valV far (pr z y) = none) :
    (∃ d ∈ ds, (valV far (pr (nx z d) (nx y d))).isSome = true) ↔ Ap.Min nx lk ds z y (m + 1) := by
  constructor
  · rintro ⟨d, hd, e⟩
    obtain ⟨k, hk, mk⟩ := some_of_far F (cl z hz d hd) (cl y hy d hd) e
    obtain ⟨j, hj, mj⟩ := Ap.min_some (Ap.sep_succ.mpr ⟨d, hd, mk.1⟩)
    by_cases c : j ≤ m
    · rw [(F z hz y hy).1 j c mj] at h
      cases h
    · have e : j = m + 1 := by omega
      rw [e] at mj
      exact mj
  · intro hm
    obtain ⟨d, hd, m2⟩ := Ap.min_succ hm
    exact ⟨d, hd, by rw [(F _ (cl z hz d hd) _ (cl y hy d hd)).1 m (Nat.le_refl _) m2]; rfl⟩
theorem far_not {nx : Str → Str → Str} {lk : Str → Str} {ws ds : List Str} {m : Nat} {far : List (St2 × V)} (F : FarTo nx lk ws ds m far) {z y : Str} (hz : z ∈ ws) (hy : y ∈ ws) (h : (valV far (pr z y)).isSome = true) : ¬ Ap.Min nx lk ds z y (m + 1) := fun hm => by
  obtain ⟨k, hk, mk⟩ := some_of_far F hz hy h
  have := Ap.min_one hm mk
  omega
theorem dp_prs {K : PySem.W.Frag} {G : Hp} {ts : List Addr} {ps : List St2} (h : Paired (fun t (k : St2) => G t = some (.tup (k.map kV)) ∧ ∃ z y, k = pr z y ∧ IsWord z ∧ IsWord y) ts ps) : ∃ ds, DpAll K G (ts.map V.ref) ds ∧ PyData.canLayAll0 ds = true ∧ PyData.depthAll ds ≤ 2 ∧ ds.length = ps.length := by
  induction h with
  | nil => exact ⟨[], .nil, by simp [PyData.canLayAll0], by simp [PyData.depthAll], rfl⟩
  | @cons t k ts ps h _ ih =>
    obtain ⟨ds, i1, i2, i3, i4⟩ := ih
    obtain ⟨e, z, y, rfl, hz, hy⟩ := h
    have l := lay_strs (ws := [z, y]) fun x hx => by
      rcases List.mem_cons.mp hx with a | a
      · rw [a]
        exact hz
      · rw [List.mem_singleton.mp a]
        exact hy
    refine ⟨.tuple ([z, y].map PyData.str) :: ds, .cons (.tup (.inl (.inl e)) (dp_strs [z, y])) i1, ?_, ?_, by simp [i4]⟩
    · simp only [PyData.canLayAll0, PyData.canLay0, l.1, i2, Bool.and_true]
    · have := l.2
      simp only [PyData.depthAll, PyData.depth]
      omega
theorem shaped_two {ds : List PyData} (h1 : PyData.canLayAll0 ds = true) (h2 : PyData.depthAll ds ≤ 2) : SeqAt.shaped (.list ds) = true := by
  unfold SeqAt.shaped
  have c : (PyData.list ds).canLay0 = true := by simpa [PyData.canLay0] using h1
  rw [c, Bool.true_and]
  refine decide_eq_true ?_
  simp only [PyData.depth]
  omega
theorem shaped_nil : SeqAt.shaped (.list []) = true := shaped_two (by simp [PyData.canLayAll0]) (by simp [PyData.depthAll])
theorem pairs_take {ws : List Str} {i : Nat} {z : Str} (h : ws[i]? = some z) : pairs (ws.take (i + 1)) = pairs (ws.take (i + 1)) := rfl
/-- the pairs gone through: all of the first i, and of the next one the first j -/
def gone (ws : List Str) (i : Nat) : List St2 := (ws.take i).flatMap fun z => ws.map fun y => pr z y
theorem gone_next {ws : List Str} {i : Nat} {z : Str} (h : ws[i]? = some z) : gone ws (i + 1) = gone ws i ++ ws.map (pr z) := by
  unfold gone
  rw [List.take_add_one, h, List.flatMap_append]
  simp
theorem gone_all {ws : List Str} : gone ws ws.length = pairs ws := by
  unfold gone pairs
  rw [List.take_length]
def spApart (K : PySem.W.Frag) : Sp := fun vs H Q _ => ∃ (nm vi n : Addr) (ws ds ls : List Str) (bs : List Addr) (nx : Str → Str → Str), vs = [.ref nm, .ref vi, .ref n] ∧ SqL K H nm (ws.map V.str) ∧ 1 ≤ ws.length ∧ ws.length ≤ 9 ∧ ds.length ≤ 4 ∧ ws.Nodup ∧ (∀ z ∈ ws, IsWord z) ∧
  H vi = some (.dK (dkv ws (ls.map V.str))) ∧ ls.length = ws.length ∧ NxAt H n ws ds bs nx ∧ (∀ z ∈ ws, ∀ d ∈ ds, nx z d ∈ ws) ∧ ∀ (q : Addr) (far : List (St2 × V)) G, Sm H G → H q = none → G q = some (.dT far) → FarAll nx (look ws ls) ws ds far → Q (.ref q) G
abbrev nApart : List Str := ["_law_names_here", "_law_visible", "_law_nexts_here", "_law_far", "_law_one", "_law_other", "_law_many", "_law_more", "_law_pair", "_law_at"]
theorem scApart : FnScope nApart ["_law_names_here", "_law_visible", "_law_nexts_here"] (defScope (top 48)) := ⟨rfl, rfl, rfl, by decide +kernel, rfl, by decide +kernel, by decide +kernel⟩
section
variable {P : Program} {w : World} {K : PySem.W.Frag} {mg : Str → Option Value} {base : Heap} {f : Addr} {fd : FuncData}
open Classical in
theorem ok_apart (F : FnP K "_law_apart" (top 48) f fd) (ml : mg "len" = none) (mR : mg "range" = none) : FnOk P w K mg base CX0 1 f fd ["_law_names_here", "_law_visible", "_law_nexts_here"] (spApart K) := by
  refine F.ok (CX := CX0) scApart (fun vs H Q E h => ?_) (fun cdv A outer s H vs Q E hr h => ?_)
  · obtain ⟨nm, vi, n, ws, ds, ls, bs, nx, rfl, _⟩ := h
    rfl
  · refine ⟨_, PSs.nox (pss_cons (ps_set (i := 3) scApart.nd rfl (.inr rfl) pe_dnewT)
      (pss_cons (ps_for PassesOwn.never rfl (pi_list (pv 0)) (pg_name (i := 4) scApart.nd rfl (.inr rfl))
        (pss_one (ps_for PassesOwn.never rfl (pi_list (pv 0)) (pg_name (i := 5) scApart.nd rfl (.inr rfl))
          (pss_one (ps_if (pt_cmpR op_ne (by exact (pe_dget (hu_of hr) (pv 1) (pv 4) (fun _ _ => rfl))) (by exact (pe_dget (hu_of hr) (pv 1) (pv 5) (fun _ _ => rfl))) (nomark _))
            (pss_one (ps_dput (hu_of hr) (pv 3) (pe_tup (pa_cons (pv 4) (pa_cons (pv 5) pa_nil))) pe_int (by rfl))) pss_nil)))))
      (pss_cons (ps_for PassesOwn.never rfl (pi_range2 rfl mR (pa_cons pe_int (pa_cons (pe_op op_add (pe_callB call_len rfl ml boot_len (pa_cons (pv 0) pa_nil)) pe_int) pa_nil))) (pg_name (i := 6) scApart.nd rfl (.inl rfl))
        (pss_cons (ps_set (i := 7) scApart.nd rfl (.inl rfl) (pe_lst pa_nil))
        (pss_cons (ps_for PassesOwn.never rfl (pi_list (pv 0)) (pg_name (i := 4) scApart.nd rfl (.inr rfl))
          (pss_one (ps_for PassesOwn.never rfl (pi_list (pv 0)) (pg_name (i := 5) scApart.nd rfl (.inr rfl))
            (pss_one (ps_if (pt_cmp (pc_dnotin (hu_of hr) (pe_tup (pa_cons (pv 4) (pa_cons (pv 5) pa_nil))) (pv 3)))
              (pss_one (ps_if (pt_cmpR (op_neD hr.units) (by exact (pe_lc (own := [("_law_at", 9)]) (g := gName 9) (tt := tB (tDIn (tTup (tCons (tOp (rIxL K) (tDGet (tVar 2) (tVar 4)) (tVar 9)) (tCons (tOp (rIxL K) (tDGet (tVar 2) (tVar 5)) (tVar 9)) tNil))) (tVar 3))) (te := tVar 9) rfl scApart.nd
                  (pi_range1 rfl mR (pa_cons (pe_callB call_len rfl ml boot_len (pa_cons (by exact (pe_dget (hu_of hr) (pv 2) (pv 4) (fun _ _ => rfl))) pa_nil)) pa_nil))
                  (blkOk_by (N := nApart) (sc := defScope (top 48)) (by decide +kernel)) (fun _ _ _ _ _ => pg_name (i := 9) scApart.nd rfl (Or.inl rfl))
                  (fun _ _ _ _ _ => pts_one (by exact (pt_cmp (pc_din (hu_of hr) (by exact (pe_tup (pa_cons (by exact (pe_ix ix_list (by exact (pe_dget (hu_of hr) (by exact (pv 2)) (by exact (pv 4)) (fun _ _ => rfl))) (by exact (pv 9)) (fun _ _ => rfl))) (pa_cons (by exact (pe_ix ix_list (by exact (pe_dget (hu_of hr) (by exact (pv 2)) (by exact (pv 5)) (fun _ _ => rfl))) (by exact (pv 9)) (fun _ _ => rfl))) pa_nil)))) (by exact (pv 3))) (by rfl))))
                  (fun _ _ _ _ _ => by exact (pv 9)))) (pe_lst pa_nil) (nomark _))
                (pss_one (ps_expr (pe_bm PySem.F.plainAttrs_list PySem.F.slot_list_append PySem.F.type_list_append mt_append (pv 7) (pa_cons (pe_tup (pa_cons (pv 4) (pa_cons (pv 5) pa_nil))) pa_nil)))) pss_nil)) pss_nil)))))
        (pss_cons (ps_if (pt_cmpR (op_eqD hr.units) (pv 7) (pe_lst pa_nil) (nomark _)) (pss_one (ps_ret (pv 3))) pss_nil)
        (pss_one (ps_for PassesOwn.never rfl (pi_list (pv 7)) (pg_name (i := 8) scApart.nd rfl (.inl rfl)) (pss_one (ps_dput (hu_of hr) (pv 3) (pv 8) (pv 6) (by rfl))))))))) 
      (pss_one (ps_ret (pv 3)))))), ?_⟩
    obtain ⟨nm, vi, n, ws, ds, ls, bs, nx, rfl, hnm, w1, w9, d4, wnd, wword, hvi, ll, hnx, cl, q⟩ := h
    intro fo nfo
    have m0 := Sm.new (o := .dT []) nfo
    have sz : ∀ n : Nat, n ≤ 1000 → n ≤ sizeLine := fun n z => by
      rw [sizeLine_eq]
      omega
    have up : ∀ {G : Hp} {o : HO}, Sm H G → Sm H (upd G fo o) := fun {G o} m b u e => by
      rw [upd_ne (ne_of_none e nfo)]
      exact m _ _ e
    have word : ∀ {i : Nat} {v : V}, (ws.map V.str)[i]? = some v → ∃ z, ws[i]? = some z ∧ v = .str z := fun {i v} ex => by
      rw [List.getElem?_map] at ex
      cases e : ws[i]? with
      | none =>
        rw [e] at ex
        cases ex
      | some d =>
        rw [e] at ex
        exact ⟨d, rfl, (Option.some.inj ex).symm⟩
    have plen : (pairs ws).length ≤ 1000 := pairs_few w9
    have glen : ∀ i, (gone ws i).length ≤ 1000 := fun i => by
      unfold gone
      have z := flat_len (fun z => ws.map fun y => pr z y) 9 (l := ws.take i) fun x _ => by
        rw [List.length_map]
        exact w9
      rw [List.length_take] at z
      omega
    -- the first loops
    refine ⟨_, rfl, nm, rfl, ⟨_, SqL.sm hnm m0⟩, ?_⟩
    refine for_it (walk_list (xs := ws.map V.str)) (fun i σ G => ∃ (v4 v5 : Option V) (far : List (St2 × V)), σ = [some (.ref nm), some (.ref vi), some (.ref n), some (.ref fo), v4, v5, none, none, none, none] ∧ G fo = some (.dT far) ∧ far.length ≤ (gone ws i).length ∧
        (∀ k : St2, valV far k = if k ∈ gone ws i ∧ fdP (look ws ls) k = true then some (V.int 0) else none) ∧ Sm H G)
      ⟨none, none, [], rfl, upd_same, Nat.zero_le _, fun k => (by rw [valV_nil, if_neg (fun z => nomatch z.1)]), m0⟩ (fun i σ G _ ⟨_, _, _, _, _, _, _, m⟩ => SqL.sm hnm m) (fun i v σ G G' hi p yy => ?_) (fun σ G p => ?_)
    · obtain ⟨v4, v5, far, rfl, ef, fl, fv, m⟩ := p
      obtain ⟨rfl, ex⟩ := yy
      obtain ⟨z, ez, rfl⟩ := word ex
      have hz := List.mem_of_getElem? ez
      refine ⟨_, rfl, nm, rfl, ⟨_, SqL.sm hnm m⟩, ?_⟩
      refine for_it (walk_list (xs := ws.map V.str)) (fun j σ G => ∃ (v5 : Option V) (far : List (St2 × V)), σ = [some (.ref nm), some (.ref vi), some (.ref n), some (.ref fo), some (.str z), v5, none, none, none, none] ∧ G fo = some (.dT far) ∧ far.length ≤ (gone ws i).length + j ∧
          (∀ k : St2, valV far k = if k ∈ gone ws i ++ (ws.take j).map (pr z) ∧ fdP (look ws ls) k = true then some (V.int 0) else none) ∧ Sm H G)
        ⟨v5, far, rfl, ef, fl, fun k => by rw [fv k]; simp, m⟩ (fun j σ G _ ⟨_, _, _, _, _, _, m⟩ => SqL.sm hnm m) (fun j v σ G G' hj p yy => ?_) (fun σ G p => ?_)
      · obtain ⟨v5, far, rfl, ef, fl, fv, m⟩ := p
        obtain ⟨rfl, ex⟩ := yy
        obtain ⟨y, ey, rfl⟩ := word ex
        have hy := List.mem_of_getElem? ey
        have gi := glen i
        have jl : j < ws.length := (List.getElem?_eq_some_iff.mp ey).1
        have tk : gone ws i ++ (ws.take (j + 1)).map (pr z) = (gone ws i ++ (ws.take j).map (pr z)) ++ [pr z y] := by
          rw [List.take_add_one, ey, List.map_append, List.append_assoc]
          rfl
        refine ⟨_, rfl, _, rfl, vi, .str (look ws ls z), rfl, .inl ⟨_, .inr z, .inl (m _ _ hvi), rfl, (look_at ll hz).symm⟩, _, rfl, _, rfl, vi, .str (look ws ls y), rfl, .inl ⟨_, .inr y, .inl (m _ _ hvi), rfl, (look_at ll hy).symm⟩, rfl, _, rfl, ?_⟩
        by_cases c : look ws ls z = look ws ls y
        · rw [c, decide_eq_true rfl]
          refine iteF ⟨_, far, rfl, ef, by omega, fun k => ?_, m⟩
          rw [fv k, tk]
          congr 1
          rw [List.mem_append (t := [pr z y])]
          refine propext ⟨fun h => ⟨.inl h.1, h.2⟩, fun h => ⟨?_, h.2⟩⟩
          rcases h.1 with a | a
          · exact a
          · rw [List.mem_singleton.mp a] at h
            have := of_decide_eq_true (show decide (look ws ls z ≠ look ws ls y) = true from h.2)
            exact absurd c this
        · rw [decide_eq_false (fun x => c (V.str.inj x))]
          refine iteT ⟨_, rfl, _, rfl, _, rfl, sz _ (by show 2 ≤ 1000; decide), fun t nt => ?_⟩
          have mt := Sm.new (o := .tup [.str z, .str y]) nt
          refine ⟨fo, _, rfl, DPut.t (k := pr z y) (mt _ _ ef) upd_same (by rw [sizeLine_eq]; omega), _, _, rfl, upd_same, ?_, fun k => ?_, up (m.trans mt)⟩
          · exact Nat.le_trans (length_putK far (pr z y) (.int 0)) (by omega)
          · rw [valV_put, fv k, tk]
            by_cases e : k = pr z y
            · subst e
              rw [if_pos rfl, if_pos]
              exact ⟨List.mem_append_right _ (List.mem_singleton.mpr rfl), decide_eq_true c⟩
            · rw [if_neg e]
              congr 1
              rw [List.mem_append (t := [pr z y])]
              refine propext ⟨fun h => ⟨.inl h.1, h.2⟩, fun h => ⟨h.1.resolve_right fun a => e (List.mem_singleton.mp a), h.2⟩⟩
      · obtain ⟨v5, far, rfl, ef, fl, fv, m⟩ := p
        rw [List.length_map] at fl fv
        refine ⟨_, _, far, rfl, ef, ?_, fun k => ?_, m⟩
        · rw [gone_next ez, List.length_append, List.length_map]
          exact fl
        · rw [fv k, gone_next ez, List.take_length]
    · obtain ⟨v4, v5, far, rfl, ef, fl, fv, m⟩ := p
      rw [List.length_map] at fl fv
      rw [gone_all] at fl fv
      have F0 : FarTo nx (look ws ls) ws ds 0 far := fun z hz y hy => by
        have mem : pr z y ∈ pairs ws := pairs_mem.mpr ⟨z, hz, y, hy, rfl⟩
        refine ⟨fun k hk hm => ?_, fun h => ?_⟩
        · have e : k = 0 := by omega
          subst e
          rw [fv, if_pos ⟨mem, decide_eq_true (Ap.sep_zero.mp hm.1)⟩]
          rfl
        · rw [fv, if_neg]
          rintro ⟨_, c⟩
          have c2 : look ws ls z ≠ look ws ls y := of_decide_eq_true (show decide (look ws ls z ≠ look ws ls y) = true from c)
          exact h 0 (Nat.le_refl _) ⟨Ap.sep_zero.mpr c2, fun j hj => absurd hj (Nat.not_lt_zero _)⟩
      refine ⟨_, rfl, .ref nm, ws.length, rfl, .inl ⟨_, SqL.sm hnm m, by rw [List.length_map]⟩, _, _, rfl, rfl, _, _, rfl, ⟨by omega, by omega, by omega, by omega⟩, ?_⟩
      have en : (((ws.length : Nat) : Int) + 1 - 1).toNat = ws.length := by omega
      rw [en]
      refine for_range (lo := 1) (n := ws.length) (fun i σ G => ∃ (v4 v5 v6 v7 v8 : Option V) (far : List (St2 × V)), σ = [some (.ref nm), some (.ref vi), some (.ref n), some (.ref fo), v4, v5, v6, v7, v8, none] ∧ G fo = some (.dT far) ∧ far.length ≤ 1000 * (i + 1) ∧ FarTo nx (look ws ls) ws ds i far ∧ i + 1 ≤ Ap.lots nx (look ws ls) ds ws i ∧ Sm H G)
        ⟨v4, v5, none, none, none, far, rfl, ef, by omega, F0, Ap.lots_some w1, m⟩ (fun i σ G hi p => ?_) (fun σ G p => ?_)
      · clear fl fv F0 ef m v4 v5 far
        obtain ⟨v4, v5, v6, v7, v8, far, rfl, ef, fl, FT, lo, m⟩ := p
        refine ⟨Nat.zero_le _, fun mo nmo => ?_⟩
        have nmoH : H mo = none := none_of_sm m nmo
        have fmo : fo ≠ mo := ne_of_none ef nmo
        have mm := m.trans (Sm.new (o := .lst []) nmo)
        have efo : upd G mo (.lst []) fo = some (.dT far) := Sm.new nmo _ _ ef
        have emo : upd G mo (.lst []) mo = some (.lst []) := upd_same
        generalize upd G mo (.lst []) = G1 at mm efo emo ⊢
        clear nmo ef m
        have keepM : ∀ {G : Hp} {o : HO}, Sm H G → Sm H (upd G mo o) := fun {G o} m b u e => by
          rw [upd_ne (ne_of_none e nmoH)]
          exact m _ _ e
        refine ⟨_, rfl, nm, rfl, ⟨_, SqL.sm hnm mm⟩, ?_⟩
        refine for_it (walk_list (xs := ws.map V.str)) (fun a σ G => ∃ (v4 v5 : Option V) (ts : List Addr) (ps : List St2), σ = [some (.ref nm), some (.ref vi), some (.ref n), some (.ref fo), v4, v5, some (.int (1 + (i : Nat))), some (.ref mo), v8, none] ∧ G fo = some (.dT far) ∧ G mo = some (.lst (ts.map V.ref)) ∧
            Paired (fun t (k : St2) => G t = some (.tup (k.map kV)) ∧ ∃ z y, k = pr z y ∧ z ∈ ws ∧ y ∈ ws) ts ps ∧ ps.length ≤ (gone ws a).length ∧ (∀ z ∈ ws, ∀ y ∈ ws, pr z y ∈ ps ↔ pr z y ∈ gone ws a ∧ Ap.Min nx (look ws ls) ds z y (i + 1)) ∧ Sm H G)
          ⟨v4, v5, [], [], rfl, efo, emo, .nil, Nat.zero_le _, fun z _ y _ => ⟨(fun h => nomatch h), fun h => nomatch h.1⟩, mm⟩ (fun a σ G _ ⟨_, _, _, _, _, _, _, _, _, _, m⟩ => SqL.sm hnm m) (fun a v σ G G' ha p yy => ?_) (fun σ G p => ?_)
        · obtain ⟨v4, v5, ts, ps, rfl, efo, emo, pp, pl, pm, m⟩ := p
          obtain ⟨rfl, ex⟩ := yy
          obtain ⟨z, ez, rfl⟩ := word ex
          have hz := List.mem_of_getElem? ez
          refine ⟨_, rfl, nm, rfl, ⟨_, SqL.sm hnm m⟩, ?_⟩
          refine for_it (walk_list (xs := ws.map V.str)) (fun j σ G => ∃ (v5 : Option V) (ts : List Addr) (ps : List St2), σ = [some (.ref nm), some (.ref vi), some (.ref n), some (.ref fo), some (.str z), v5, some (.int (1 + (i : Nat))), some (.ref mo), v8, none] ∧ G fo = some (.dT far) ∧ G mo = some (.lst (ts.map V.ref)) ∧
              Paired (fun t (k : St2) => G t = some (.tup (k.map kV)) ∧ ∃ z y, k = pr z y ∧ z ∈ ws ∧ y ∈ ws) ts ps ∧ ps.length ≤ (gone ws a).length + j ∧ (∀ z2 ∈ ws, ∀ y2 ∈ ws, pr z2 y2 ∈ ps ↔ pr z2 y2 ∈ gone ws a ++ (ws.take j).map (pr z) ∧ Ap.Min nx (look ws ls) ds z2 y2 (i + 1)) ∧ Sm H G)
            ⟨v5, ts, ps, rfl, efo, emo, pp, pl, fun z2 h2 y2 h3 => by rw [pm z2 h2 y2 h3]; simp, m⟩ (fun j σ G _ ⟨_, _, _, _, _, _, _, _, _, m⟩ => SqL.sm hnm m) (fun j v σ G G' hj p yy => ?_) (fun σ G p => ?_)
          · clear pp pl pm efo emo m v5 ts ps ex
            obtain ⟨v5, ts, ps, rfl, efo, emo, pp, pl, pm, m⟩ := p
            obtain ⟨rfl, ex⟩ := yy
            obtain ⟨y, ey, rfl⟩ := word ex
            have hy := List.mem_of_getElem? ey
            have gi := glen a
            have jl : j < ws.length := (List.getElem?_eq_some_iff.mp ey).1
            have tl : ts.length = ps.length := paired_len pp
            have tk : gone ws a ++ (ws.take (j + 1)).map (pr z) = (gone ws a ++ (ws.take j).map (pr z)) ++ [pr z y] := by
              rw [List.take_add_one, ey, List.map_append, List.append_assoc]
              rfl
            -- what follows where the pair is left out
            have stay : ∀ G2, Sm G' G2 → ¬ Ap.Min nx (look ws ls) ds z y (i + 1) → ∃ (v5 : Option V) (ts : List Addr) (ps : List St2), [some (V.ref nm), some (.ref vi), some (.ref n), some (.ref fo), some (.str z), some (.str y), some (.int (1 + (i : Nat))), some (.ref mo), v8, none] = [some (.ref nm), some (.ref vi), some (.ref n), some (.ref fo), some (.str z), v5, some (.int (1 + (i : Nat))), some (.ref mo), v8, none] ∧ G2 fo = some (.dT far) ∧ G2 mo = some (.lst (ts.map V.ref)) ∧
                Paired (fun t (k : St2) => G2 t = some (.tup (k.map kV)) ∧ ∃ z y, k = pr z y ∧ z ∈ ws ∧ y ∈ ws) ts ps ∧ ps.length ≤ (gone ws a).length + (j + 1) ∧ (∀ z2 ∈ ws, ∀ y2 ∈ ws, pr z2 y2 ∈ ps ↔ pr z2 y2 ∈ gone ws a ++ (ws.take (j + 1)).map (pr z) ∧ Ap.Min nx (look ws ls) ds z2 y2 (i + 1)) ∧ Sm H G2 := fun G2 m2 no => by
              refine ⟨_, ts, ps, rfl, m2 _ _ efo, m2 _ _ emo, pair_mono pp fun t _ k e => ⟨m2 _ _ e.1, e.2⟩, by omega, fun z2 h2 y2 h3 => ?_, m.trans m2⟩
              rw [pm z2 h2 y2 h3, tk, List.mem_append (t := [pr z y])]
              refine ⟨fun h => ⟨.inl h.1, h.2⟩, fun h => ⟨h.1.resolve_right fun e => ?_, h.2⟩⟩
              obtain ⟨rfl, rfl⟩ := pr_inj (List.mem_singleton.mp e)
              exact no h.2
            refine ⟨_, rfl, _, rfl, sz _ (by show 2 ≤ 1000; decide), fun t nt => ⟨_, rfl, fo, _, rfl, DGet.t (k := pr z y) (Sm.new nt _ _ efo) upd_same, _, rfl, ?_⟩⟩
            have mt := Sm.new (o := .tup [.str z, .str y]) nt
            generalize upd G' t (.tup [.str z, .str y]) = G2 at mt ⊢
            cases ev : (valV far (pr z y)).isSome with
            | true => exact iteF (stay G2 mt (far_not FT hz hy ev))
            | false =>
              have vn : valV far (pr z y) = none := by
                cases e : valV far (pr z y) with
                | none => rfl
                | some x =>
                  rw [e] at ev
                  cases ev
              have next := far_next FT cl hz hy vn
              obtain ⟨b, vb, hb⟩ := hnx.row hz
              obtain ⟨b', vb', hb'⟩ := hnx.row hy
              have m2 := m.trans mt
              refine iteT ⟨_, rfl, _, rfl, n, .ref b, rfl, .inl ⟨_, .inr z, .inl (m2 _ _ hnx.at_), rfl, vb.symm⟩, .ref b, ds.length, rfl, .inl ⟨_, .inl (.inl (m2 _ _ hb)), by rw [List.length_map, List.length_map]⟩, _, rfl, by omega, by omega, fun D nD => ?_⟩
              have ed : (((ds.length : Nat) : Int)).toNat = ds.length := by omega
              rw [ed]
              refine lc_range (lo := 0) (n := ds.length) (fun c G3 => ∃ acc : List Int, G3 D = some (.lst (acc.map V.int)) ∧ acc.length ≤ c ∧ (acc ≠ [] ↔ ∃ d ∈ ds.take c, (valV far (pr (nx z d) (nx y d))).isSome = true) ∧ Sm G2 G3)
                ⟨[], upd_same, Nat.le_refl _, ⟨fun h => absurd rfl h, fun ⟨d, hd, _⟩ => nomatch hd⟩, Sm.new nD⟩ (fun c G3 hc p => ?_) (fun G3 p => ?_)
              · obtain ⟨acc, eD, al, ae, m3⟩ := p
                have edc : ds[c]? = some (ds[c]'hc) := List.getElem?_eq_getElem hc
                generalize ds[c]'hc = d at edc
                have m4 := m2.trans m3
                have e0 : (0 : Int) + ((c : Nat) : Int) = ((c : Nat) : Int) := Int.zero_add _
                rw [e0]
                have r1 : ((ds.map (nx z)).map V.str)[c]? = some (.str (nx z d)) := by
                  rw [List.getElem?_map, List.getElem?_map, edc]
                  rfl
                have r2 : ((ds.map (nx y)).map V.str)[c]? = some (.str (nx y d)) := by
                  rw [List.getElem?_map, List.getElem?_map, edc]
                  rfl
                have tkd : ds.take (c + 1) = ds.take c ++ [d] := by
                  rw [List.take_add_one, edc]
                  rfl
                refine ⟨rfl, _, rfl, _, rfl, n, .ref b, rfl, .inl ⟨_, .inr z, .inl (m4 _ _ hnx.at_), rfl, vb.symm⟩, _, rfl, b, _, c, _, rfl, rfl, .inl (.inl (m4 _ _ hb)), atI_nat r1, _, rfl, _, rfl, n, .ref b', rfl, .inl ⟨_, .inr y, .inl (m4 _ _ hnx.at_), rfl, vb'.symm⟩, _, rfl, b', _, c, _, rfl, rfl, .inl (.inl (m4 _ _ hb')), atI_nat r2, sz _ (by show 2 ≤ 1000; decide), fun u nu => ?_⟩
                have mu := Sm.new (o := .tup [.str (nx z d), .str (nx y d)]) nu
                refine ⟨_, rfl, fo, _, rfl, DGet.t (k := pr (nx z d) (nx y d)) (mu _ _ (m3 _ _ (mt _ _ efo))) upd_same, _, rfl, ?_⟩
                cases ev2 : (valV far (pr (nx z d) (nx y d))).isSome with
                | true =>
                  refine iteT ⟨_, rfl, _, mu _ _ eD, by rw [List.length_map, sizeLine_eq]; omega, acc ++ [((c : Nat) : Int)], ?_, by rw [List.length_append]; show acc.length + 1 ≤ c + 1; omega, ⟨fun _ => ⟨d, by rw [tkd]; exact List.mem_append_right _ (List.mem_singleton.mpr rfl), ev2⟩, fun _ => by simp⟩, fun b0 o e => ?_⟩
                  · rw [upd_same, List.map_append]
                    rfl
                  · rw [upd_ne (ne_of_none e nD)]
                    exact mu _ _ (m3 _ _ e)
                | false =>
                  refine iteF ⟨acc, mu _ _ eD, by omega, ?_, m3.trans mu⟩
                  rw [ae, tkd]
                  constructor
                  · rintro ⟨d2, h1, h2⟩
                    exact ⟨d2, List.mem_append_left _ h1, h2⟩
                  · rintro ⟨d2, h1, h2⟩
                    rcases List.mem_append.mp h1 with a | a
                    · exact ⟨d2, a, h2⟩
                    · rw [List.mem_singleton.mp a, ev2] at h2
                      cases h2
              · obtain ⟨acc, eD, al, ae, m3⟩ := p
                rw [List.take_length] at ae
                refine ⟨Nat.zero_le _, fun e2 ne2 => ?_⟩
                have m4 := m3.trans (Sm.new (o := .lst []) ne2)
                have eD2 := Sm.new (o := .lst []) ne2 _ _ eD
                obtain ⟨dd, h1, h2, h3, h4⟩ := fl_dp (K := K) (H := upd G3 e2 (.lst [])) (xs := acc.map V.int) fun x hx => by
                  obtain ⟨i0, _, rfl⟩ := List.mem_map.mp hx
                  exact ⟨_, .int i0⟩
                refine ⟨.list dd, .list [], .lst (.inl (.inl eD2)) h1, .lst (.inl (.inl upd_same)) .nil, shaped_of h2 h3, shaped_nil, _, rfl, ?_⟩
                rw [eqv_nil]
                rw [List.length_map] at h4
                generalize upd G3 e2 (.lst []) = G4 at m4 ⊢
                have mA := mt.trans m4
                cases acc with
                | nil =>
                  have dn : dd = [] := List.eq_nil_of_length_eq_zero h4
                  subst dn
                  exact iteF (stay G4 mA fun hm => absurd rfl (ae.mpr (next.mpr hm)))
                | cons i0 acc =>
                  have de : dd.isEmpty = false := by
                    cases dd with
                    | nil => cases h4
                    | cons _ _ => rfl
                  rw [de]
                  have hm := next.mp (ae.mp (by simp))
                  have emo4 := mA _ _ emo
                  refine iteT ⟨_, rfl, .inl ⟨rfl, _, .inl (.inl emo4)⟩, _, rfl, _, rfl, sz _ (by show 2 ≤ 1000; decide), fun t2 nt2 => ?_⟩
                  have m5 := mA.trans (Sm.new (o := .tup [.str z, .str y]) nt2)
                  have et2 : upd G4 t2 (.tup [.str z, .str y]) t2 = some (.tup ((pr z y).map kV)) := upd_same
                  generalize upd G4 t2 (.tup [.str z, .str y]) = G5 at m5 et2 ⊢
                  have emo5 := m5 _ _ emo
                  have tup : ∀ {c : Addr} {xs : List V}, G5 c = some (.tup xs) → upd G5 mo (.lst ((ts ++ [t2]).map V.ref)) c = some (.tup xs) := fun {c xs} e => by
                    rw [upd_ne (ne_of e emo5 (fun z => nomatch z))]
                    exact e
                  have em : ts.map V.ref ++ [V.ref t2] = (ts ++ [t2]).map V.ref := by rw [List.map_append]; rfl
                  refine ⟨mo, _, .ref t2, rfl, rfl, emo5, by rw [List.length_map, sizeLine_eq]; omega, ?_⟩
                  rw [em]
                  refine ⟨_, ts ++ [t2], ps ++ [pr z y], rfl, ?_, upd_same, pair_more (pair_mono pp fun t _ k e => ⟨tup (m5 _ _ e.1), e.2⟩) ⟨tup et2, z, y, rfl, hz, hy⟩, by rw [List.length_append]; show ps.length + 1 ≤ _; omega, fun z2 h2 y2 h3 => ?_, keepM (m.trans m5)⟩
                  · rw [upd_ne fmo]
                    exact m5 _ _ efo
                  · rw [List.mem_append, pm z2 h2 y2 h3, tk, List.mem_append (t := [pr z y])]
                    refine ⟨fun h => ?_, fun h => ?_⟩
                    · rcases h with h | h
                      · exact ⟨.inl h.1, h.2⟩
                      · obtain ⟨rfl, rfl⟩ := pr_inj (List.mem_singleton.mp h)
                        exact ⟨.inr h, hm⟩
                    · rcases h.1 with a | a
                      · exact .inl ⟨a, h.2⟩
                      · exact .inr a
          · obtain ⟨v5, ts, ps, rfl, efo, emo, pp, pl, pm, m⟩ := p
            rw [List.length_map] at pl pm
            refine ⟨_, _, ts, ps, rfl, efo, emo, pp, ?_, fun z2 h2 y2 h3 => ?_, m⟩
            · rw [gone_next ez, List.length_append, List.length_map]
              exact pl
            · rw [pm z2 h2 y2 h3, gone_next ez, List.take_length]
        · obtain ⟨v4, v5, ts, ps, rfl, efo, emo, pp, pl, pm, m⟩ := p
          rw [List.length_map] at pl pm
          rw [gone_all] at pl pm
          have tl : ts.length = ps.length := paired_len pp
          refine ⟨_, rfl, Nat.zero_le _, fun e2 ne2 => ?_⟩
          have me := Sm.new (o := .lst []) ne2
          have ppD : Paired (fun t (k : St2) => upd G e2 (.lst []) t = some (.tup (k.map kV)) ∧ ∃ z y, k = pr z y ∧ IsWord z ∧ IsWord y) ts ps := pair_mono pp fun t _ k ⟨e, z, y, e3, hz, hy⟩ => ⟨me _ _ e, z, y, e3, wword z hz, wword y hy⟩
          obtain ⟨dd, h1, h2, h3, h4⟩ := dp_prs (K := K) ppD
          have emo2 := me _ _ emo
          have efo2 := me _ _ efo
          have m2 := m.trans me
          have pp2 : Paired (fun t (k : St2) => upd G e2 (.lst []) t = some (.tup (k.map kV))) ts ps := pair_mono pp fun t _ k e => me _ _ e.1
          refine ⟨.list dd, .list [], .lst (.inl (.inl emo2)) h1, .lst (.inl (.inl upd_same)) .nil, shaped_two h2 h3, shaped_nil, _, rfl, ?_⟩
          rw [eqv_nil]
          generalize upd G e2 (.lst []) = G2 at emo2 efo2 m2 pp2 ⊢
          cases ps with
          | nil =>
            have dn : dd = [] := List.eq_nil_of_length_eq_zero h4
            subst dn
            have none_next : ∀ z ∈ ws, ∀ y ∈ ws, ¬ Ap.Min nx (look ws ls) ds z y (i + 1) := fun z hz y hy hm => nomatch (pm z hz y hy).mpr ⟨pairs_mem.mpr ⟨z, hz, y, hy, rfl⟩, hm⟩
            refine iteT ⟨_, rfl, q fo far G2 m2 nfo efo2 fun z hz y hy => ⟨fun k hm => ?_, fun h => (FT z hz y hy).2 fun k _ hm => h k hm.1⟩⟩
            by_cases c : k ≤ i
            · exact (FT z hz y hy).1 k c hm
            · obtain ⟨z2, hz2, y2, hy2, hm2⟩ := Ap.min_next cl hz hy (show i < k by omega) hm
              exact absurd hm2 (none_next z2 hz2 y2 hy2)
          | cons k0 ps =>
            have de : dd.isEmpty = false := by
              cases dd with
              | nil => cases h4
              | cons _ _ => rfl
            rw [de]
            refine iteF ?_
            refine ⟨_, rfl, mo, rfl, ⟨_, .inl (.inl emo2)⟩, ?_⟩
            refine for_it (walk_list (xs := ts.map V.ref)) (fun j σ G => ∃ (v8 : Option V) (far2 : List (St2 × V)), σ = [some (.ref nm), some (.ref vi), some (.ref n), some (.ref fo), v4, v5, some (.int (1 + (i : Nat))), some (.ref mo), v8, none] ∧ G fo = some (.dT far2) ∧ far2.length ≤ far.length + j ∧
                (∀ k : St2, valV far2 k = if k ∈ (k0 :: ps).take j then some (V.int (1 + (i : Nat))) else valV far k) ∧ G mo = some (.lst (ts.map V.ref)) ∧ Paired (fun t (k : St2) => G t = some (.tup (k.map kV))) ts (k0 :: ps) ∧ Sm H G)
              ⟨v8, far, rfl, efo2, Nat.le_refl _, fun k => by rw [List.take_zero, if_neg (List.not_mem_nil)], emo2, pp2, m2⟩ (fun j σ G _ ⟨_, _, _, _, _, _, e, _⟩ => .inl (.inl e)) (fun j v σ G G' hj p yy => ?_) (fun σ G p => ?_)
            · obtain ⟨v8, far2, rfl, ef2, fl2, fv2, emo3, pp3, m3⟩ := p
              obtain ⟨rfl, ex⟩ := yy
              obtain ⟨t, et, rfl⟩ : ∃ a, ts[j]? = some a ∧ v = .ref a := by
                rw [List.getElem?_map] at ex
                cases e : ts[j]? with
                | none =>
                  rw [e] at ex
                  cases ex
                | some a =>
                  rw [e] at ex
                  exact ⟨a, rfl, (Option.some.inj ex).symm⟩
              obtain ⟨k1, ek, et2⟩ := pair_at pp3 et
              have jl : j < (k0 :: ps).length := (List.getElem?_eq_some_iff.mp ek).1
              have tk : (k0 :: ps).take (j + 1) = (k0 :: ps).take j ++ [k1] := by
                rw [List.take_add_one, ek]
                rfl
              have big : far2.length < sizeLine := by
                rw [sizeLine_eq]
                omega
              refine ⟨_, rfl, _, rfl, _, rfl, fo, _, rfl, DPut.t ef2 et2 big, _, _, rfl, upd_same, Nat.le_trans (length_putK far2 k1 _) (by omega), fun k => ?_, ?_, pair_mono pp3 fun t _ k e => ?_, up m3⟩
              · rw [valV_put, fv2 k, tk]
                by_cases e : k = k1
                · rw [if_pos e, if_pos (List.mem_append_right _ (List.mem_singleton.mpr e))]
                · rw [if_neg e]
                  congr 1
                  rw [List.mem_append]
                  exact propext ⟨.inl, fun h => h.resolve_right fun a => e (List.mem_singleton.mp a)⟩
              · rw [upd_ne (Ne.symm fmo)]
                exact emo3
              · rw [upd_ne (ne_of e ef2 (fun z => nomatch z))]
                exact e
            · obtain ⟨v8, far2, rfl, ef2, fl2, fv2, emo3, pp3, m3⟩ := p
              rw [List.length_map, tl] at fl2 fv2
              rw [List.take_length] at fv2
              have hk0 : k0 ∈ k0 :: ps := List.mem_cons_self
              obtain ⟨t0, z0, y0, e0, hz0, hy0⟩ : ∃ (t0 : Addr) (z0 y0 : Str), k0 = pr z0 y0 ∧ z0 ∈ ws ∧ y0 ∈ ws := by
                cases ts with
                | nil => cases tl
                | cons t ts =>
                  obtain ⟨k, e, _, z, y, e2, hz, hy⟩ := pair_at (j := 0) pp rfl
                  cases Option.some.inj (show some k0 = some k from e)
                  exact ⟨t, z, y, e2, hz, hy⟩
              have hm0 : Ap.Min nx (look ws ls) ds z0 y0 (i + 1) := by
                rw [e0] at hk0
                have := (pm z0 hz0 y0 hy0).mp (by rw [e0]; exact List.mem_cons_self)
                exact this.2
              have lm := Ap.lots_more hz0 hy0 hm0
              refine ⟨v4, v5, _, _, _, far2, rfl, ef2, by omega, fun z hz y hy => ⟨fun k hk hm => ?_, fun h => ?_⟩, by omega, m3⟩
              · rw [fv2]
                have mem : pr z y ∈ pairs ws := pairs_mem.mpr ⟨z, hz, y, hy, rfl⟩
                by_cases c : k = i + 1
                · subst c
                  rw [if_pos ((pm z hz y hy).mpr ⟨mem, hm⟩)]
                  congr 2
                  omega
                · rw [if_neg fun h => c (Ap.min_one hm ((pm z hz y hy).mp h).2)]
                  exact (FT z hz y hy).1 k (by omega) hm
              · rw [fv2, if_neg fun h2 => h (i + 1) (Nat.le_refl _) ((pm z hz y hy).mp h2).2]
                exact (FT z hz y hy).2 fun k hk => h k (by omega)
      · obtain ⟨v4, v5, v6, v7, v8, far, rfl, ef, fl, FT, lo, m⟩ := p
        have := Ap.lots_le (nx := nx) (si := look ws ls) (ds := ds) (ws := ws) (k := ws.length)
        omega
end
end Dk
set_option Elab.async false
set_option linter.all false
set_option maxRecDepth 100000
set_option maxHeartbeats 8000000
namespace Dk
open PySem PySem.Spec PyProof.Rows L2 Er LamX NdefX
/-! ### numbered -/
/-- the numbers of standings, by what is seen of them -/
def nums {κ : Type} [DecidableEq κ] (f : Str → κ) (ws : List Str) : List V := ws.map fun z => V.int ((Lo.num f ws z : Nat) : Int)
theorem nums_len {κ : Type} [DecidableEq κ] {f : Str → κ} {ws : List Str} : (nums f ws).length = ws.length := by
  unfold nums
  rw [List.length_map]
theorem nums_snoc {κ : Type} [DecidableEq κ] {f : Str → κ} {ws : List Str} {z : Str} : nums f (ws ++ [z]) = nums f ws ++ [V.int ((Lo.num f (ws ++ [z]) z : Nat) : Int)] := by
  unfold nums
  rw [List.map_append]
  congr 1
  exact List.map_congr_left fun y hy => by rw [Lo.num_more hy]
theorem num_new {κ : Type} [DecidableEq κ] {f : Str → κ} {ws : List Str} {z : Str} (n : f z ∉ Lo.seen f ws) : Lo.num f (ws ++ [z]) z = (Lo.seen f ws).length := by
  unfold Lo.num
  rw [Lo.seen_snoc, if_neg n, List.idxOf_append, if_neg n]
  simp
theorem num_old {κ : Type} [DecidableEq κ] {f : Str → κ} {ws : List Str} {z : Str} (h : f z ∈ Lo.seen f ws) : Lo.num f (ws ++ [z]) z = (Lo.seen f ws).idxOf (f z) := by
  unfold Lo.num
  rw [Lo.seen_snoc, if_pos h]
abbrev nNu : List Str := ["nodes", "signs", "numbers", "lots", "node"]
theorem scNu : FnScope nNu ["nodes", "signs"] (defScope (top 15)) := ⟨rfl, rfl, rfl, by decide +kernel, rfl, by decide +kernel, by decide +kernel⟩
/-- by texts or numbers -/
def spNum1 (K : PySem.W.Frag) : Sp := fun vs H Q _ => ∃ (n sg : Addr) (ws : List Str) (kvs : List (Key × V)) (f : Str → Key), vs = [.ref n, .ref sg] ∧ SqT K H n (ws.map V.str) ∧ ws.length ≤ 1000 ∧ ws.Nodup ∧ H sg = some (.dK kvs) ∧ (∀ z ∈ ws, valV kvs (.inr z) = some (kV (f z))) ∧
  ∀ (q : Addr) G, Sm H G → H q = none → G q = some (.dK (dkv ws (nums f ws))) → Q (.ref q) G
/-- by tuples -/
def spNum2 (K : PySem.W.Frag) : Sp := fun vs H Q _ => ∃ (n sg : Addr) (ws : List Str) (kvs : List (Key × V)) (f : Str → List Key), vs = [.ref n, .ref sg] ∧ SqT K H n (ws.map V.str) ∧ ws.length ≤ 1000 ∧ ws.Nodup ∧ H sg = some (.dK kvs) ∧ (∀ z ∈ ws, ∃ b, valV kvs (.inr z) = some (.ref b) ∧ H b = some (.tup ((f z).map kV))) ∧
  ∀ (q : Addr) G, Sm H G → H q = none → G q = some (.dK (dkv ws (nums f ws))) → Q (.ref q) G
section
variable {P : Program} {w : World} {K : PySem.W.Frag} {mg : Str → Option Value} {base : Heap} {f : Addr} {fd : FuncData}
theorem bNu (F : FnP K "numbered" (top 15) f fd) : Binds K fd ["nodes", "signs"] [] := F.bindsN fun _ _ _ _ _ _ us hl => match us, hl with
  | [_, _], _ => rfl
theorem ok_num1 (F : FnP K "numbered" (top 15) f fd) (ml : mg "len" = none) : FnOk P w K mg base CX0 1 f fd ["nodes", "signs"] (spNum1 K) := by
  refine F.ok (CX := CX0) scNu (fun vs H Q E h => ?_) (fun cdv A outer s H vs Q E hr h => ?_)
  · obtain ⟨n, sg, ws, kvs, f, rfl, _⟩ := h
    rfl
  · refine ⟨_, PSs.nox (pss_cons (ps_set (i := 2) scNu.nd rfl (.inl rfl) pe_dnewK)
      (pss_cons (ps_set (i := 3) scNu.nd rfl (.inl rfl) pe_dnewK)
      (pss_cons (ps_for PassesOwn.never rfl (pi_seq (pv 0)) (pg_name (i := 4) scNu.nd rfl (.inl rfl))
        (pss_one (ps_dput (hu_of hr) (pv 3) (pv 4) (by exact (pe_dsetd (pv 2) (by exact (pe_dget (hu_of hr) (pv 1) (pv 4) (fun _ _ => rfl))) (pe_callB call_lenD rfl ml boot_len (pa_cons (pv 2) pa_nil)) ⟨rfl, rfl, rfl, rfl⟩)) (by rfl))))
      (pss_one (ps_ret (pv 3)))))), ?_⟩
    obtain ⟨n, sg, ws, kvs, f, rfl, hn, w1000, nd, hsg, hf, q⟩ := h
    refine fun nu nnu => fun lo nlo => ?_
    have m0 := Sm.trans (Sm.new (o := .dK []) nnu) (Sm.new (o := .dK []) nlo)
    have enu := Sm.new (o := .dK []) nlo _ _ (upd_same (H := H) (a := nu) (o := .dK []))
    have elo := upd_same (H := upd H nu (.dK [])) (a := lo) (o := .dK [])
    have nlo2 : H lo = none := none_of_sm (Sm.new nnu) nlo
    have ne : nu ≠ lo := fun z => by
      rw [← z, upd_same] at nlo
      cases nlo
    generalize upd (upd H nu (.dK [])) lo (.dK []) = H1 at m0 enu elo ⊢
    refine ⟨_, rfl, n, ws.map V.str, rfl, .inr ⟨SqT.sm hn m0, ?_⟩⟩
    refine for_it walk_tup (fun i σ G => ∃ v4 : Option V, σ = [some (.ref n), some (.ref sg), some (.ref nu), some (.ref lo), v4] ∧ G nu = some (.dK (tabOf (Lo.seen f (ws.take i)))) ∧ G lo = some (.dK (dkv (ws.take i) (nums f (ws.take i)))) ∧ Sm H G)
      ⟨none, rfl, enu, elo, m0⟩ (fun i σ G _ ⟨_, _, _, _, m⟩ => SqT.sm hn m) (fun i v σ G G' hi p yy => ?_) (fun σ G p => ?_)
    · obtain ⟨v4, rfl, eN, eL, m⟩ := p
      obtain ⟨rfl, ex⟩ := yy
      obtain ⟨z, ez, rfl⟩ : ∃ z, ws[i]? = some z ∧ v = .str z := by
        rw [List.getElem?_map] at ex
        cases e : ws[i]? with
        | none =>
          rw [e] at ex
          cases ex
        | some d =>
          rw [e] at ex
          exact ⟨d, rfl, (Option.some.inj ex).symm⟩
      have hz := List.mem_of_getElem? ez
      have il := (List.getElem?_eq_some_iff.mp ez).1
      have tk : ws.take (i + 1) = ws.take i ++ [z] := by
        rw [List.take_add_one, ez]
        rfl
      have ndt : (ws.take i ++ [z]).Nodup := by
        rw [← tk]
        exact nd.sublist (List.take_sublist _ _)
      have tl : (ws.take i).length = i := by
        rw [List.length_take]
        omega
      have sl := Lo.seen_len (f := f) (ws := ws.take i)
      have big : (dkv (ws.take i) (nums f (ws.take i))).length < sizeLine := by
        rw [dkv_len nums_len, tl, sizeLine_eq]
        omega
      have keep : ∀ {o o2 : HO}, Sm H (upd (upd G' nu o) lo o2) := fun {o o2} b ob e => by
        rw [upd_ne (fun z => by rw [z, nlo2] at e; cases e), upd_ne (fun z => by rw [z, nnu] at e; cases e)]
        exact m _ _ e
      refine ⟨_, rfl, nu, rfl, .inl ⟨_, .inl eN⟩, _, rfl, _, rfl, sg, kV (f z), rfl, .inl ⟨_, .inr z, .inl (m _ _ hsg), rfl, (hf z hz).symm⟩, _, rfl, nu, _, rfl, eN, _, f z, eN, rfl, ?_, fun v hv => ?_, fun hv => ?_⟩
      · rw [tab_len, sizeLine_eq]
        omega
      · have c : f z ∈ Lo.seen f (ws.take i) := Classical.byContradiction fun n => by
          rw [tab_out n] at hv
          cases hv
        rw [tab_in c] at hv
        cases Option.some.inj hv
        refine ⟨_, rfl, _, rfl, lo, _, rfl, .k (k := .inr z) eL big, _, rfl, ?_, ?_, fun b ob e => ?_⟩
        · rw [upd_ne ne, tk, Lo.seen_snoc, if_pos c]
          exact eN
        · rw [upd_same, put_dkvV nums_len ndt, tk, nums_snoc, num_old c]
        · rw [upd_ne (fun z => by rw [z, nlo2] at e; cases e)]
          exact m _ _ e
      · have c : f z ∉ Lo.seen f (ws.take i) := fun c => by
          rw [tab_in c] at hv
          cases hv
        have ev : V.int (((tabOf (Lo.seen f (ws.take i))).length : Nat) : Int) = V.int (((Lo.seen f (ws.take i)).length : Nat) : Int) := by rw [tab_len]
        rw [ev, tab_put c]
        refine ⟨_, rfl, _, rfl, lo, _, rfl, .k (k := .inr z) (by rw [upd_ne (Ne.symm ne)]; exact eL) big, _, rfl, ?_, ?_, keep⟩
        · rw [upd_ne ne, upd_same, tk, Lo.seen_snoc, if_neg c]
        · rw [upd_same, put_dkvV nums_len ndt, tk, nums_snoc, num_new c]
    · obtain ⟨v4, rfl, eN, eL, m⟩ := p
      rw [List.length_map, List.take_length] at eL
      exact ⟨_, rfl, q lo G m nlo2 eL⟩
theorem ok_num2 (F : FnP K "numbered" (top 15) f fd) (ml : mg "len" = none) : FnOk P w K mg base CX0 1 f fd ["nodes", "signs"] (spNum2 K) := by
  refine F.ok (CX := CX0) scNu (fun vs H Q E h => ?_) (fun cdv A outer s H vs Q E hr h => ?_)
  · obtain ⟨n, sg, ws, kvs, f, rfl, _⟩ := h
    rfl
  · refine ⟨_, PSs.nox (pss_cons (ps_set (i := 2) scNu.nd rfl (.inl rfl) pe_dnewT)
      (pss_cons (ps_set (i := 3) scNu.nd rfl (.inl rfl) pe_dnewK)
      (pss_cons (ps_for PassesOwn.never rfl (pi_seq (pv 0)) (pg_name (i := 4) scNu.nd rfl (.inl rfl))
        (pss_one (ps_dput (hu_of hr) (pv 3) (pv 4) (by exact (pe_dsetT (hu_of hr) (pv 2) (by exact (pe_dget (hu_of hr) (pv 1) (pv 4) (fun _ _ => rfl))) (pe_callB call_len_dT rfl ml boot_len (pa_cons (pv 2) pa_nil)) ⟨rfl, rfl, rfl, rfl⟩)) (by rfl))))
      (pss_one (ps_ret (pv 3)))))), ?_⟩
    obtain ⟨n, sg, ws, kvs, f, rfl, hn, w1000, nd, hsg, hf, q⟩ := h
    refine fun nu nnu => fun lo nlo => ?_
    have m0 := Sm.trans (Sm.new (o := .dT []) nnu) (Sm.new (o := .dK []) nlo)
    have enu := Sm.new (o := .dK []) nlo _ _ (upd_same (H := H) (a := nu) (o := .dT []))
    have elo := upd_same (H := upd H nu (.dT [])) (a := lo) (o := .dK [])
    have nlo2 : H lo = none := none_of_sm (Sm.new nnu) nlo
    have ne : nu ≠ lo := fun z => by
      rw [← z, upd_same] at nlo
      cases nlo
    generalize upd (upd H nu (.dT [])) lo (.dK []) = H1 at m0 enu elo ⊢
    refine ⟨_, rfl, n, ws.map V.str, rfl, .inr ⟨SqT.sm hn m0, ?_⟩⟩
    refine for_it walk_tup (fun i σ G => ∃ v4 : Option V, σ = [some (.ref n), some (.ref sg), some (.ref nu), some (.ref lo), v4] ∧ G nu = some (.dT (tabOf (Lo.seen f (ws.take i)))) ∧ G lo = some (.dK (dkv (ws.take i) (nums f (ws.take i)))) ∧ Sm H G)
      ⟨none, rfl, enu, elo, m0⟩ (fun i σ G _ ⟨_, _, _, _, m⟩ => SqT.sm hn m) (fun i v σ G G' hi p yy => ?_) (fun σ G p => ?_)
    · obtain ⟨v4, rfl, eN, eL, m⟩ := p
      obtain ⟨rfl, ex⟩ := yy
      obtain ⟨z, ez, rfl⟩ : ∃ z, ws[i]? = some z ∧ v = .str z := by
        rw [List.getElem?_map] at ex
        cases e : ws[i]? with
        | none =>
          rw [e] at ex
          cases ex
        | some d =>
          rw [e] at ex
          exact ⟨d, rfl, (Option.some.inj ex).symm⟩
      have hz := List.mem_of_getElem? ez
      have il := (List.getElem?_eq_some_iff.mp ez).1
      have tk : ws.take (i + 1) = ws.take i ++ [z] := by
        rw [List.take_add_one, ez]
        rfl
      have ndt : (ws.take i ++ [z]).Nodup := by
        rw [← tk]
        exact nd.sublist (List.take_sublist _ _)
      have tl : (ws.take i).length = i := by
        rw [List.length_take]
        omega
      have sl := Lo.seen_len (f := f) (ws := ws.take i)
      have big : (dkv (ws.take i) (nums f (ws.take i))).length < sizeLine := by
        rw [dkv_len nums_len, tl, sizeLine_eq]
        omega
      have keep : ∀ {o o2 : HO}, Sm H (upd (upd G' nu o) lo o2) := fun {o o2} b ob e => by
        rw [upd_ne (fun z => by rw [z, nlo2] at e; cases e), upd_ne (fun z => by rw [z, nnu] at e; cases e)]
        exact m _ _ e
      obtain ⟨b, vb, hb⟩ := hf z hz
      refine ⟨_, rfl, nu, rfl, .inr ⟨_, .inl eN⟩, _, rfl, _, rfl, sg, .ref b, rfl, .inl ⟨_, .inr z, .inl (m _ _ hsg), rfl, vb.symm⟩, _, rfl, nu, _, rfl, eN, _, f z, b, rfl, eN, m _ _ hb, ?_, fun v hv => ?_, fun hv => ?_⟩
      · rw [tab_len, sizeLine_eq]
        omega
      · have c : f z ∈ Lo.seen f (ws.take i) := Classical.byContradiction fun n => by
          rw [tab_out n] at hv
          cases hv
        rw [tab_in c] at hv
        cases Option.some.inj hv
        refine ⟨_, rfl, _, rfl, lo, _, rfl, .k (k := .inr z) eL big, _, rfl, ?_, ?_, fun b ob e => ?_⟩
        · rw [upd_ne ne, tk, Lo.seen_snoc, if_pos c]
          exact eN
        · rw [upd_same, put_dkvV nums_len ndt, tk, nums_snoc, num_old c]
        · rw [upd_ne (fun z => by rw [z, nlo2] at e; cases e)]
          exact m _ _ e
      · have c : f z ∉ Lo.seen f (ws.take i) := fun c => by
          rw [tab_in c] at hv
          cases hv
        have ev : V.int (((tabOf (Lo.seen f (ws.take i))).length : Nat) : Int) = V.int (((Lo.seen f (ws.take i)).length : Nat) : Int) := by rw [tab_len]
        rw [ev, tab_put c]
        refine ⟨_, rfl, _, rfl, lo, _, rfl, .k (k := .inr z) (by rw [upd_ne (Ne.symm ne)]; exact eL) big, _, rfl, ?_, ?_, keep⟩
        · rw [upd_ne ne, upd_same, tk, Lo.seen_snoc, if_neg c]
        · rw [upd_same, put_dkvV nums_len ndt, tk, nums_snoc, num_new c]
    · obtain ⟨v4, rfl, eN, eL, m⟩ := p
      rw [List.length_map, List.take_length] at eL
      exact ⟨_, rfl, q lo G m nlo2 eL⟩
end
end Dk
set_option Elab.async false
set_option linter.all false
set_option maxRecDepth 100000
set_option maxHeartbeats 8000000
namespace Dk
open PySem PySem.Spec PyProof.Rows L2 Er LamX NdefX
/-! ### count_lots, lot_numbers -/
/-- standings and their numbers -/
def numO (ws : List Str) (nu : Str → Nat) : HO := .dK (dkv ws (ws.map fun z => V.int ((nu z : Nat) : Int)))
def many (ws : List Str) (nu : Str → Nat) : Nat := (Lo.seen (fun z => ((nu z : Nat) : Int)) ws).length
theorem seen_map {S κ : Type} [DecidableEq κ] {h : S → κ} {ws : List S} : Lo.seen id (ws.map h) = Lo.seen h ws := by
  unfold Lo.seen
  rw [List.foldl_map]
  rfl
def spCl : Sp := fun vs H Q _ => ∃ (l : Addr) (ws : List Str) (nu : Str → Nat), vs = [.ref l] ∧ H l = some (numO ws nu) ∧ ws.length ≤ 1000 ∧ ∀ G, Sm H G → Q (.int (many ws nu : Nat)) G
abbrev nCl : List Str := ["lots"]
theorem scCl : FnScope nCl nCl (defScope (top 17)) := ⟨rfl, rfl, rfl, by decide +kernel, rfl, by decide +kernel, by decide +kernel⟩
/-- tuple(xs), xs a list that stands: a new one -/
def rTupO (K : PySem.W.Frag) : List V → Hp → VK → Prop := fun vs H Q => ∃ (a : Addr) (xs : List V), vs = [.ref a] ∧ H a = some (.lst xs) ∧ ∀ t, H t = none → Q (.ref t) (upd H t (.tup xs))
theorem call_tupO {X : Cx} : CallR X (.type "tuple") (rTupO X.K) := by
  intro pins s σ H vs us Q I r h
  obtain ⟨a, xs, e, ha, q⟩ := h
  exact call_tuple_of pins s σ H vs us Q I r ⟨a, xs, e, .inl ⟨.inl (.inl ha), q⟩⟩
abbrev nLn : List Str := ["nodes", "signs", "moves", "behind", "lots", "many", "node", "one"]
theorem scLn : FnScope nLn ["nodes", "signs", "moves"] (defScope (top 16)) := ⟨rfl, rfl, rfl, by decide +kernel, rfl, by decide +kernel, by decide +kernel⟩
abbrev scLn1 : Scope := { kind := .function, names := [(".0", .local), ("node", .local), ("tuple", .globalImplicit), ("behind", .cell), ("lots", .cell)], isGenerator := false, isCoroutine := false }
/-- for each standing it and those to which the deeds lead -/
structure BeAt (H : Hp) (be : Addr) (ws ds : List Str) (cs : List Addr) (nx : Str → Str → Str) : Prop where
  at_ : H be = some (.dK (dkv ws (cs.map V.ref)))
  rows : Paired (fun c z => H c = some (.lst ((z :: ds.map (nx z)).map V.str))) cs ws
theorem BeAt.sm {H G : Hp} {be : Addr} {ws ds : List Str} {cs : List Addr} {nx : Str → Str → Str} (h : BeAt H be ws ds cs nx) (m : Sm H G) : BeAt G be ws ds cs nx := ⟨m _ _ h.at_, pair_mono h.rows fun b _ z e => m _ _ e⟩
theorem BeAt.row {H : Hp} {be : Addr} {ws ds : List Str} {cs : List Addr} {nx : Str → Str → Str} (m : BeAt H be ws ds cs nx) {z : Str} (hz : z ∈ ws) : ∃ c, valV (dkv ws (cs.map V.ref)) (.inr z) = some (.ref c) ∧ H c = some (.lst ((z :: ds.map (nx z)).map V.str)) := by
  have bl : cs.length = ws.length := paired_len m.rows
  have il := idx_lt hz
  have e1 : cs[ws.idxOf z]? = some (cs[ws.idxOf z]'(by omega)) := List.getElem?_eq_getElem _
  obtain ⟨z2, e2, e3⟩ := pair_at m.rows e1
  rw [List.getElem?_eq_getElem il, List.getElem_idxOf il] at e2
  cases Option.some.inj e2
  exact ⟨_, by rw [dkv_get (by rw [List.length_map, bl]) hz, List.getElem?_map, e1]; rfl, e3⟩
theorem num_at {ws : List Str} {nu : Str → Nat} {z : Str} (hz : z ∈ ws) : valV (dkv ws (ws.map fun z => V.int ((nu z : Nat) : Int))) (.inr z) = some (.int ((nu z : Nat) : Int)) := by
  have il := idx_lt hz
  rw [dkv_get (by rw [List.length_map]) hz, List.getElem?_map, List.getElem?_eq_getElem il, List.getElem_idxOf il]
  rfl
/-- numbers are the same just where no row parts two -/
def Alk (nx : Str → Str → Str) (lk : Str → Str) (ds ws : List Str) (nu : Str → Nat) : Prop := ∀ z ∈ ws, ∀ y ∈ ws, nu z = nu y ↔ ∀ k, ¬ Ap.Sep nx lk ds z y k
theorem many_lots {nx : Str → Str → Str} {lk : Str → Str} {ds ws : List Str} {nu : Str → Nat} {k : Nat} (h : ∀ z ∈ ws, ∀ y ∈ ws, nu z = nu y ↔ Ap.Eq nx lk ds k z y) : many ws nu = Ap.lots nx lk ds ws k :=
  Lo.seen_lots fun z hz y hy => ⟨fun e => (h z hz y hy).mp (by omega), fun e => by rw [(h z hz y hy).mpr e]⟩
/-- what a standing and those behind it have for numbers -/
def behind (nx : Str → Str → Str) (ds : List Str) (nu : Str → Nat) (z : Str) : List Key := (z :: ds.map (nx z)).map fun y => .inl ((nu y : Nat) : Int)
theorem behind_iff {nx : Str → Str → Str} {ds : List Str} {nu : Str → Nat} {z y : Str} : behind nx ds nu z = behind nx ds nu y ↔ nu z = nu y ∧ ∀ d ∈ ds, nu (nx z d) = nu (nx y d) := by
  unfold behind
  rw [List.map_cons, List.map_cons, List.map_map, List.map_map]
  constructor
  · intro h
    have h1 := (List.cons.inj h).1
    have h2 := (List.cons.inj h).2
    have e1 : ((nu z : Nat) : Int) = ((nu y : Nat) : Int) := Sum.inl.inj h1
    refine ⟨by omega, fun d hd => ?_⟩
    have h3 := List.map_inj_left.mp h2 d hd
    have e2 : ((nu (nx z d) : Nat) : Int) = ((nu (nx y d) : Nat) : Int) := Sum.inl.inj h3
    omega
  · rintro ⟨h1, h2⟩
    rw [h1]
    congr 1
    exact List.map_congr_left fun d hd => by
      show (Sum.inl ((nu (nx z d) : Nat) : Int) : Key) = Sum.inl ((nu (nx y d) : Nat) : Int)
      rw [h2 d hd]
def spLn (K : PySem.W.Frag) : Sp := fun vs H Q _ => ∃ (n sg mo : Addr) (ws ds ls : List Str) (bs : List Addr) (nx : Str → Str → Str), vs = [.ref n, .ref sg, .ref mo] ∧ SqT K H n (ws.map V.str) ∧ 1 ≤ ws.length ∧ ws.length ≤ 9 ∧ ds.length ≤ 4 ∧ ws.Nodup ∧
  H sg = some (.dK (dkv ws (ls.map V.str))) ∧ ls.length = ws.length ∧ MvAt H mo ws ds bs nx ∧ (∀ z ∈ ws, ∀ d ∈ ds, nx z d ∈ ws) ∧ ∀ (q : Addr) (nu : Str → Nat) G, Sm H G → H q = none → G q = some (numO ws nu) → Alk nx (look ws ls) ds ws nu → Q (.ref q) G
section
variable {P : Program} {w : World} {K : PySem.W.Frag} {mg : Str → Option Value} {base : Heap} {f fN fC : Addr} {fd dN dC : FuncData}
theorem bCl (F : FnP K "count_lots" (top 17) f fd) : Binds K fd nCl [] := F.bindsN fun _ _ _ _ _ _ us hl => match us, hl with
  | [_], _ => rfl
theorem bLn (F : FnP K "lot_numbers" (top 16) f fd) : Binds K fd ["nodes", "signs", "moves"] [] := F.bindsN fun _ _ _ _ _ _ us hl => match us, hl with
  | [_, _, _], _ => rfl
theorem ok_cl (F : FnP K "count_lots" (top 17) f fd) (ml : mg "len" = none) (mS : mg "set" = none) (mL : mg "list" = none) : FnOk P w K mg base CX0 1 f fd nCl spCl := by
  refine F.ok (CX := CX0) scCl (fun vs H Q E h => ?_) (fun cdv A outer s H vs Q E hr h => ?_)
  · obtain ⟨l, ws, nu, rfl, _⟩ := h
    rfl
  · refine ⟨_, PSs.nox (pss_one (ps_ret (by exact (pe_lenNums rfl rfl ml rfl mS (pe_listVals rfl rfl mL (pv 0)))))), ?_⟩
    obtain ⟨l, ws, nu, rfl, hl, few, q⟩ := h
    refine ⟨_, rfl, l, _, rfl, hl, fun p np => ⟨p, ws.map fun z => ((nu z : Nat) : Int), rfl, .inl (.inl ?_), by rw [List.length_map]; exact few, ?_⟩⟩
    · rw [upd_same, show (dkv ws (ws.map fun z => V.int ((nu z : Nat) : Int))).map (·.2) = ws.map fun z => V.int ((nu z : Nat) : Int) from List.map_snd_zip (by rw [List.length_map, List.length_map]; exact Nat.le_refl _), List.map_map]
      rfl
    · rw [seen_map]
      exact q _ (Sm.new np)
theorem ok_ln (F : FnP K "lot_numbers" (top 16) f fd) (ml : mg "len" = none) (mL : mg "list" = none) (mT : mg "tuple" = none)
    (GN : FnOk P w K mg base CX0 1 fN dN ["nodes", "signs"] (spNum1 K)) (GN2 : FnOk P w K mg base CX0 1 fN dN ["nodes", "signs"] (spNum2 K)) (FN : FnP K "numbered" (top 15) fN dN) (gN : mg "numbered" = some (.ref fN))
    (GC : FnOk P w K mg base CX0 1 fC dC nCl spCl) (FC : FnP K "count_lots" (top 17) fC dC) (gC : mg "count_lots" = some (.ref fC)) : FnOk P w K mg base CX0 2 f fd ["nodes", "signs", "moves"] (spLn K) := by
  refine F.ok (CX := CX0) scLn (fun vs H Q E h => ?_) (fun cdv A outer s H vs Q E hr h => ?_)
  · obtain ⟨n, sg, mo, ws, ds, ls, bs, nx, rfl, _⟩ := h
    rfl
  · refine ⟨_, PSs.nox (pss_cons (ps_set (i := 3) scLn.nd rfl (.inr rfl) (by exact (pe_dc (own := [("node", 6)]) (g := gName 6) (tt := tYes) (tk := tVar 6) (tv := tOp rCat (tLst (tCons (tVar 6) tNil)) (tListVals (tDGet (tVar 2) (tVar 6)))) rfl scLn.nd (pi_seq (pv 0)) (blkOk_by (N := nLn) (sc := defScope (top 16)) (by decide +kernel)) (fun _ _ _ _ _ => pg_name (i := 6) scLn.nd rfl (Or.inl rfl)) (fun _ _ _ _ _ => pts_nil) (fun _ _ _ _ _ => (by exact (pv 6))) (fun _ _ _ _ _ => by exact (pe_op op_cat (pe_lst (pa_cons (by exact (pv 6)) pa_nil)) (by exact (pe_listVals rfl rfl mL (by exact (pe_dget (hu_of hr) (by exact (pv 2)) (by exact (pv 6)) (fun _ _ => rfl))))))))))
      (pss_cons (ps_set (i := 4) scLn.nd rfl (.inr rfl) (by exact (pe_call GN hr rfl gN FN.kp (bNu FN) .nil pass0 (pa_cons (pv 0) (pa_cons (pv 1) pa_nil)))))
      (pss_cons (ps_set (i := 5) scLn.nd rfl (.inl rfl) pe_int)
      (pss_cons (ps_while PassesOwn.never (pt_chain op_lt op_lt (pv 5) (by exact (pe_call GC hr rfl gC FC.kp (bCl FC) .nil pass0 (pa_cons (pv 4) pa_nil))) (pe_callB call_len rfl ml boot_len (pa_cons (pv 0) pa_nil))) (pss_cons (ps_set (i := 5) scLn.nd rfl (.inl rfl) (by exact (pe_call GC hr rfl gC FC.kp (bCl FC) .nil pass0 (pa_cons (pv 4) pa_nil))))
      (pss_one (ps_set (i := 4) scLn.nd rfl (.inr rfl) (by exact (pe_call GN2 hr rfl gN FN.kp (bNu FN) .nil pass0 (pa_cons (pv 0) (pa_cons (by exact (pe_dc (own := [("node", 6)]) (g := gName 6) (tt := tYes) (tk := tVar 6) (tv := tCB (rTupO K) (tCons (tLc (iList K (tDGet (tVar 3) (tVar 6))) (gName 7) tYes (tDGet (tVar 4) (tVar 7)) [7]) tNil)) rfl scLn.nd (pi_seq (pv 0)) (blkOk_by (N := nLn) (sc := defScope (top 16)) (by decide +kernel)) (fun _ _ _ _ _ => pg_name (i := 6) scLn.nd rfl (Or.inl rfl)) (fun _ _ _ _ _ => pts_nil) (fun _ _ _ _ _ => (by exact (pv 6))) (fun _ _ _ _ _ => by exact (pe_callTy call_tupO rfl mT PyProof.Rows.boot_tuple (pa_cons (by exact (pe_lc (own := [("one", 7)]) (g := gName 7) (tt := tYes) (te := tDGet (tVar 4) (tVar 7)) rfl scLn.nd (pi_list (by exact (pe_dget (hu_of hr) (by exact (pv 3)) (by exact (pv 6)) (fun _ _ => rfl)))) (blkOk_by (N := nLn) (sc := scLn1) (by decide +kernel)) (fun _ _ _ _ _ => pg_name (i := 7) scLn.nd rfl (Or.inl rfl)) (fun _ _ _ _ _ => pts_nil) (fun _ _ _ _ _ => (by exact (pe_dget (hu_of hr) (by exact (pv 4)) (by exact (pv 7)) (fun _ _ => rfl)))))) pa_nil))))) pa_nil))))))))
      (pss_one (ps_ret (pv 4))))))), ?_⟩
    obtain ⟨n, sg, mo, ws, ds, ls, bs, nx, rfl, hn, w1, w9, d4, nd, hsg, ll, hmo, cl, q⟩ := h
    have sz : ∀ n : Nat, n ≤ 1000 → n ≤ sizeLine := fun n z => by
      rw [sizeLine_eq]
      omega
    have str_of : ∀ {i : Nat} {x : V}, (ws.map V.str)[i]? = some x → ∃ z, ws[i]? = some z ∧ x = .str z := fun {i x} ex => by
      rw [List.getElem?_map] at ex
      cases e : ws[i]? with
      | none =>
        rw [e] at ex
        cases ex
      | some d =>
        rw [e] at ex
        exact ⟨d, rfl, (Option.some.inj ex).symm⟩
    -- those behind each
    refine ⟨_, rfl, n, ws.map V.str, rfl, .inr ⟨hn, ?_⟩⟩
    refine dc_it walk_tup (fun _ => rfl) (fun D j G => ∃ cs : List Addr, cs.length = j ∧ G D = some (.dK (dkv (ws.take j) (cs.map V.ref))) ∧ Paired (fun c z => c ≠ D ∧ G c = some (.lst ((z :: ds.map (nx z)).map V.str))) cs (ws.take j) ∧ Sm H G)
      (fun D nD => ⟨[], rfl, upd_same, .nil, Sm.new nD⟩) (fun D j G _ ⟨_, _, _, _, mm⟩ => SqT.sm hn mm) (fun D j x0 G G' nD hj p y => ?_) (fun be G nD p => ?_)
    · obtain ⟨cs, cl1, eD, pc, mm⟩ := p
      obtain ⟨rfl, ex⟩ := y
      obtain ⟨z, ez, rfl⟩ := str_of ex
      have hz := List.mem_of_getElem? ez
      have jl : j < ws.length := (List.getElem?_eq_some_iff.mp ez).1
      have tk : ws.take (j + 1) = ws.take j ++ [z] := by
        rw [List.take_add_one, ez]
        rfl
      have l1 : cs.length = (ws.take j).length := by
        rw [List.length_take]
        omega
      obtain ⟨b, vb, _, hb⟩ := (hmo.sm mm).row hz
      refine ⟨_, rfl, _, rfl, sz _ (by show 1 ≤ 1000; decide), fun l1 nl1 => ?_⟩
      have m1 := Sm.new (o := .lst [.str z]) nl1
      refine ⟨_, rfl, _, rfl, mo, .ref b, rfl, .inl ⟨_, .inr z, .inl (m1 _ _ (mm _ _ hmo.at_)), rfl, vb.symm⟩, b, _, rfl, m1 _ _ hb, fun l2 nl2 => ?_⟩
      have es : (dkv ds ((ds.map (nx z)).map V.str)).map (·.2) = (ds.map (nx z)).map V.str := List.map_snd_zip (by rw [List.length_map, List.length_map, List.length_map]; exact Nat.le_refl _)
      rw [es]
      have m2 := Sm.new (o := .lst ((ds.map (nx z)).map V.str)) nl2
      have e1 := m2 _ _ (upd_same (H := G') (a := l1) (o := .lst [.str z]))
      have e2 := upd_same (H := upd G' l1 (.lst [.str z])) (a := l2) (o := .lst ((ds.map (nx z)).map V.str))
      have m3 := m1.trans m2
      generalize upd (upd G' l1 (.lst [.str z])) l2 (.lst ((ds.map (nx z)).map V.str)) = G2 at m3 e1 e2 ⊢
      refine ⟨l1, l2, _, _, rfl, rfl, e1, e2, sz _ (by rw [List.length_map, List.length_map]; show 1 + ds.length ≤ 1000; omega), fun c nc => ?_⟩
      have m4 := Sm.new (o := .lst ([.str z] ++ (ds.map (nx z)).map V.str)) nc
      have ec : upd G2 c (.lst ([.str z] ++ (ds.map (nx z)).map V.str)) c = some (.lst ((z :: ds.map (nx z)).map V.str)) := upd_same
      have cD : c ≠ D := fun e => by
        rw [e, m3 _ _ eD] at nc
        cases nc
      have m5 := m3.trans m4
      generalize upd G2 c (.lst ([.str z] ++ (ds.map (nx z)).map V.str)) = G3 at ec m5 ⊢
      refine ⟨_, .inr z, rfl, m5 _ _ eD, by rw [dkv_len (by rw [List.length_map]; omega), List.length_take, sizeLine_eq]; omega, cs ++ [c], by rw [List.length_append, cl1]; rfl, ?_, ?_, fun b0 o e => ?_⟩
      · rw [upd_same, put_dkv (by omega) (by rw [← tk]; exact nd.sublist (List.take_sublist _ _)), tk]
      · rw [tk]
        refine pair_more (pair_mono pc fun b _ t eb => ⟨eb.1, ?_⟩) ⟨cD, ?_⟩
        · rw [upd_ne eb.1]
          exact m5 _ _ eb.2
        · rw [upd_ne cD]
          exact ec
      · rw [upd_ne (ne_of_none e nD)]
        exact m5 _ _ (mm _ _ e)
    · obtain ⟨cs, cl1, eD, pc, mm⟩ := p
      rw [List.length_map, List.take_length] at eD pc
      have hB : BeAt G be ws ds cs nx := ⟨eD, pair_mono pc fun c _ z e => e.2⟩
      clear eD pc nD
      -- first numbers
      refine ⟨_, rfl, _, rfl, n, sg, ws, _, fun z => .inr (look ws ls z), rfl, SqT.sm hn mm, by omega, nd, mm _ _ hsg, fun z hz => look_at ll hz, fun l0 G0 m0 nl0 el0 => ?_⟩
      have hB := hB.sm m0
      have mH := mm.trans m0
      have nl0 : H l0 = none := none_of_sm mm nl0
      have first : ∀ z ∈ ws, ∀ y ∈ ws, Lo.num (fun z => (.inr (look ws ls z) : Key)) ws z = Lo.num (fun z => (.inr (look ws ls z) : Key)) ws y ↔ Ap.Eq nx (look ws ls) ds 0 z y := fun z hz y hy => by
        rw [Lo.num_iff hz hy, Lo.eq_zero]
        exact ⟨fun e => Sum.inr.inj e, fun e => by rw [e]⟩
      have el0 : G0 l0 = some (numO ws (Lo.num (fun z => (.inr (look ws ls z) : Key)) ws)) := el0
      generalize Lo.num (fun z => (.inr (look ws ls z) : Key)) ws = nu0 at first el0
      clear m0 mm
      refine ⟨fun m σ G => ∃ (lo : Addr) (mn k : Nat) (nu : Str → Nat) (v6 v7 : Option V), σ = [some (.ref n), some (.ref sg), some (.ref mo), some (.ref be), some (.ref lo), some (.int (mn : Nat)), v6, v7] ∧ m = ws.length - mn ∧ G lo = some (numO ws nu) ∧ (∀ z ∈ ws, ∀ y ∈ ws, nu z = nu y ↔ Ap.Eq nx (look ws ls) ds k z y) ∧
        ((mn = 0 ∧ k = 0) ∨ ∃ j, k = j + 1 ∧ mn = Ap.lots nx (look ws ls) ds ws j) ∧ H lo = none ∧ BeAt G be ws ds cs nx ∧ Sm H G, ⟨_, l0, 0, 0, nu0, none, none, rfl, rfl, el0, first, .inl ⟨rfl, rfl⟩, nl0, hB, mH⟩, ?_⟩
      clear first el0 nl0 hB mH
      rintro m σ G ⟨lo, mn, k, nu, v6, v7, rfl, rfl, elo, hnu, hk, nlo, hB, mG⟩
      have ml : many ws nu = Ap.lots nx (look ws ls) ds ws k := many_lots hnu
      have done : ∀ G2, Sm G G2 → Alk nx (look ws ls) ds ws nu → Q (.ref lo) G2 := fun G2 m2 h => q lo nu G2 (mG.trans m2) nlo (m2 _ _ elo) h
      refine ⟨_, rfl, _, rfl, lo, ws, nu, rfl, elo, by omega, fun G1 m1 => ⟨_, _, rfl, rfl, _, rfl, ?_⟩⟩
      by_cases c : ((mn : Nat) : Int) < ((many ws nu : Nat) : Int)
      · rw [decide_eq_true c]
        refine iteT ⟨_, rfl, .ref n, ws.length, rfl, .inr ⟨_, SqT.sm hn (mG.trans m1), by rw [List.length_map]⟩, _, _, rfl, rfl, _, rfl, ?_⟩
        by_cases c2 : ((many ws nu : Nat) : Int) < ((ws.length : Nat) : Int)
        · rw [decide_eq_true c2]
          refine iteT ⟨fun σ' G' => ∃ (lo2 : Addr) (nu2 : Str → Nat) (v6 v7 : Option V), σ' = [some (.ref n), some (.ref sg), some (.ref mo), some (.ref be), some (.ref lo2), some (.int (many ws nu : Nat)), v6, v7] ∧ G' lo2 = some (numO ws nu2) ∧ (∀ z ∈ ws, ∀ y ∈ ws, nu2 z = nu2 y ↔ Ap.Eq nx (look ws ls) ds (k + 1) z y) ∧ H lo2 = none ∧ BeAt G' be ws ds cs nx ∧ Sm H G',
            fun σ' G' ⟨lo2, nu2, v6, v7, h1, h2, h3, h4, h5, h6⟩ => ⟨ws.length - many ws nu, by omega, lo2, many ws nu, k + 1, nu2, v6, v7, h1, rfl, h2, h3, .inr ⟨k, rfl, ml⟩, h4, h5, h6⟩, ?_⟩
          refine ⟨_, rfl, lo, ws, nu, rfl, m1 _ _ elo, by omega, fun G2 m2 => ?_⟩
          have mA := mG.trans (m1.trans m2)
          have hB2 := hB.sm (m1.trans m2)
          have elo2 := m2 _ _ (m1 _ _ elo)
          -- the tuples
          refine ⟨_, rfl, _, rfl, n, ws.map V.str, rfl, .inr ⟨SqT.sm hn mA, ?_⟩⟩
          refine dc_it walk_tup (fun _ => rfl) (fun D j G => ∃ ts : List Addr, ts.length = j ∧ G D = some (.dK (dkv (ws.take j) (ts.map V.ref))) ∧ Paired (fun t z => t ≠ D ∧ G t = some (.tup ((behind nx ds nu z).map kV))) ts (ws.take j) ∧ Sm G2 G)
            (fun D nD => ⟨[], rfl, upd_same, .nil, Sm.new nD⟩) (fun D j G _ ⟨_, _, _, _, mm⟩ => SqT.sm hn (mA.trans mm)) (fun D j x0 G G' nD hj p y => ?_) (fun D G3 nD p => ?_)
          · obtain ⟨ts, tl, eD, pt, mm⟩ := p
            obtain ⟨rfl, ex⟩ := y
            obtain ⟨z, ez, rfl⟩ := str_of ex
            have hz := List.mem_of_getElem? ez
            have jl : j < ws.length := (List.getElem?_eq_some_iff.mp ez).1
            have tk : ws.take (j + 1) = ws.take j ++ [z] := by
              rw [List.take_add_one, ez]
              rfl
            obtain ⟨c, vc, hc⟩ := (hB2.sm mm).row hz
            refine ⟨_, rfl, _, rfl, _, rfl, be, .ref c, rfl, .inl ⟨_, .inr z, .inl (mm _ _ hB2.at_), rfl, vc.symm⟩, c, rfl, ⟨_, .inl (.inl hc)⟩, fun E nE => ?_⟩
            have inw : ∀ y ∈ z :: ds.map (nx z), y ∈ ws := fun y hy => by
              rcases List.mem_cons.mp hy with e | e
              · rw [e]
                exact hz
              · obtain ⟨d, hd, rfl⟩ := List.mem_map.mp e
                exact cl z hz d hd
            have few : (z :: ds.map (nx z)).length ≤ 5 := by
              rw [List.length_cons, List.length_map]
              omega
            generalize eL : z :: ds.map (nx z) = L at hc inw few
            refine lc_list (xs := L.map V.str) (fun i G3 => G3 E = some (.lst ((L.take i).map fun y => V.int ((nu y : Nat) : Int))) ∧ Sm G' G3) ⟨upd_same, Sm.new nE⟩ (fun i G3 _ p => .inl (.inl (p.2 _ _ hc))) (fun i x G3 ex p => ?_) (fun G3 p => ?_)
            · obtain ⟨eE, m3⟩ := p
              obtain ⟨y, ey, rfl⟩ : ∃ y, L[i]? = some y ∧ x = .str y := by
                rw [List.getElem?_map] at ex
                cases e : L[i]? with
                | none =>
                  rw [e] at ex
                  cases ex
                | some d =>
                  rw [e] at ex
                  exact ⟨d, rfl, (Option.some.inj ex).symm⟩
              have il := (List.getElem?_eq_some_iff.mp ey).1
              have tk2 : L.take (i + 1) = L.take i ++ [y] := by
                rw [List.take_add_one, ey]
                rfl
              refine ⟨rfl, ?_⟩
              unfold tYes
              dsimp only
              rw [if_pos rfl]
              refine ⟨_, rfl, _, rfl, lo, .int ((nu y : Nat) : Int), rfl, .inl ⟨_, .inr y, .inl (m3 _ _ (mm _ _ elo2)), rfl, (num_at (inw y (List.mem_of_getElem? ey))).symm⟩, _, eE, by rw [List.length_map, List.length_take, sizeLine_eq]; omega, ?_, fun b0 o e => ?_⟩
              · rw [upd_same, tk2, List.map_append]
                rfl
              · rw [upd_ne (ne_of_none e nE)]
                exact m3 _ _ e
            · obtain ⟨eE, m3⟩ := p
              rw [List.length_map, List.take_length] at eE
              refine ⟨E, _, rfl, eE, fun t nt => ?_⟩
              have m4 := m3.trans (Sm.new (o := .tup (L.map fun y => V.int ((nu y : Nat) : Int))) nt)
              have et : upd G3 t (.tup (L.map fun y => V.int ((nu y : Nat) : Int))) t = some (.tup ((behind nx ds nu z).map kV)) := by
                rw [upd_same]
                unfold behind
                rw [eL, List.map_map]
                rfl
              have tD : t ≠ D := fun e => by
                rw [e, m3 _ _ eD] at nt
                cases nt
              generalize upd G3 t (.tup (L.map fun y => V.int ((nu y : Nat) : Int))) = G4 at m4 et ⊢
              refine ⟨_, .inr z, rfl, m4 _ _ eD, by rw [dkv_len (by rw [List.length_map, List.length_take]; omega), List.length_take, sizeLine_eq]; omega, ts ++ [t], by rw [List.length_append, tl]; rfl, ?_, ?_, fun b0 o e => ?_⟩
              · rw [upd_same, put_dkv (by rw [List.length_take]; omega) (by rw [← tk]; exact nd.sublist (List.take_sublist _ _)), tk]
              · rw [tk]
                refine pair_more (pair_mono pt fun b _ t2 eb => ⟨eb.1, ?_⟩) ⟨tD, ?_⟩
                · rw [upd_ne eb.1]
                  exact m4 _ _ eb.2
                · rw [upd_ne tD]
                  exact et
              · rw [upd_ne (ne_of_none e nD)]
                exact m4 _ _ (mm _ _ e)
          · obtain ⟨ts, tl, eD, pt, mm⟩ := p
            rw [List.length_map, List.take_length] at eD pt
            refine ⟨n, D, ws, _, behind nx ds nu, rfl, SqT.sm hn (mA.trans mm), by omega, nd, eD, fun z hz => ?_, fun l2 G4 m4 nl2 el2 => ?_⟩
            · have il := idx_lt hz
              have tl2 : ts.length = ws.length := paired_len pt
              have e1 : ts[ws.idxOf z]? = some (ts[ws.idxOf z]'(by omega)) := List.getElem?_eq_getElem _
              obtain ⟨z2, e2, e3⟩ := pair_at pt e1
              rw [List.getElem?_eq_getElem il, List.getElem_idxOf il] at e2
              cases Option.some.inj e2
              exact ⟨_, by rw [dkv_get (by rw [List.length_map, tl2]) hz, List.getElem?_map, e1]; rfl, e3.2⟩
            · refine ⟨l2, Lo.num (behind nx ds nu) ws, _, _, rfl, el2, fun z hz y hy => ?_, none_of_sm (mA.trans mm) nl2, hB2.sm (mm.trans m4), mA.trans (mm.trans m4)⟩
              rw [Lo.num_iff hz hy, behind_iff, Lo.eq_succ, hnu z hz y hy]
              exact ⟨fun h => ⟨h.1, fun d hd => (hnu _ (cl z hz d hd) _ (cl y hy d hd)).mp (h.2 d hd)⟩, fun h => ⟨h.1, fun d hd => (hnu _ (cl z hz d hd) _ (cl y hy d hd)).mpr (h.2 d hd)⟩⟩
        · rw [decide_eq_false c2]
          have le := Ap.lots_le (nx := nx) (si := look ws ls) (ds := ds) (ws := ws) (k := k)
          exact iteF ⟨_, rfl, done G1 m1 fun z hz y hy => (hnu z hz y hy).trans (Lo.eq_alone nd (by omega) hz hy)⟩
      · rw [decide_eq_false c]
        refine iteF ⟨_, rfl, iteF ⟨_, rfl, done G1 m1 fun z hz y hy => ?_⟩⟩
        rcases hk with ⟨h1, h2⟩ | ⟨j, h1, h2⟩
        · have := Ap.lots_some (nx := nx) (si := look ws ls) (ds := ds) (ws := ws) (k := k) w1
          omega
        · subst h1
          exact (hnu z hz y hy).trans (Lo.eq_still cl (by omega) hz hy)
end
end Dk
set_option Elab.async false
set_option linter.all false
set_option maxRecDepth 100000
set_option maxHeartbeats 8000000
namespace Dk
open PySem PySem.Spec PyProof.Rows L2 Er LamX NdefX
/-! ### desk_lots; Desk.lead of what can be led; Desk.deeds -/
def spLots (K : PySem.W.Frag) (C : Addr) : Sp := fun vs H Q _ => ∃ (x : Addr) (ws ds : List Str) (tb : List (List Str)) (ls : List Str) (m : Nat), vs = [.ref x] ∧ DeskOb K C H x ws ds tb ls ∧ DkIs m ws ds tb ls ∧ m ≤ 9 ∧
  ∀ (q : Addr) (nu : Str → Nat) G, Sm H G → H q = none → G q = some (numO ws nu) → Alk (nxt ws ds tb) (look ws ls) ds ws nu → Q (.ref q) G
abbrev nDo : List Str := ["desk"]
theorem scDo : FnScope nDo nDo (defScope (top 30)) := ⟨rfl, rfl, rfl, by decide +kernel, rfl, by decide +kernel, by decide +kernel⟩
/-- a desk, its leads held by a walk or not -/
def DeskR (K : PySem.W.Frag) (C : Addr) (H : Hp) (x : Addr) (ws ds : List Str) (tb : List (List Str)) : Prop := ∃ (dx st ld si : Addr) (as : List Addr), H x = some (.ins C dx (fldsOf st ld si)) ∧ SqT K H st (ws.map V.str) ∧ Rd H ld (.dK (dkv ds (as.map V.ref))) ∧
  Paired (fun a vs => H a = some (.dK (dkv ws (vs.map V.str)))) as tb
theorem DeskOb.r {K : PySem.W.Frag} {C : Addr} {H : Hp} {x : Addr} {ws ds : List Str} {tb : List (List Str)} {ls : List Str} (h : DeskOb K C H x ws ds tb ls) : DeskR K C H x ws ds tb := by
  obtain ⟨dx, st, ld, si, as, hx, hst, hld, _, pr⟩ := h
  exact ⟨dx, st, ld, si, as, hx, hst, .inl hld, pr⟩
theorem DeskR.sm {K : PySem.W.Frag} {C : Addr} {H G : Hp} {x : Addr} {ws ds : List Str} {tb : List (List Str)} (h : DeskR K C H x ws ds tb) (m : Sm H G) : DeskR K C G x ws ds tb := by
  obtain ⟨dx, st, ld, si, as, hx, hst, hld, pr⟩ := h
  exact ⟨dx, st, ld, si, as, m _ _ hx, SqT.sm hst m, Rd.sm hld m, pair_mono pr fun a _ vs e => m _ _ e⟩
def spLead0 (K : PySem.W.Frag) (C : Addr) : Sp := fun vs H Q _ => ∃ (x r : Addr) (z : Str) (row ws ds : List Str) (tb : List (List Str)) (ls : List Str) (m : Nat), vs = [.ref x, .str z, .ref r] ∧ DeskR K C H x ws ds tb ∧ DkIs m ws ds tb ls ∧ SqL K H r (row.map V.str) ∧ row.length ≤ 1000 ∧ z ∈ ws ∧ (∀ d ∈ row, d ∈ ds) ∧
  ∀ H', Sm H H' → ledBy ws ds tb z row ∈ ws → Q (.str (ledBy ws ds tb z row)) H'
def spDds (K : PySem.W.Frag) (C : Addr) : Sp := fun vs H Q _ => ∃ (x : Addr) (ws ds : List Str) (tb : List (List Str)) (ls : List Str), vs = [.ref x] ∧ DeskOb K C H x ws ds tb ls ∧ tb.length = ds.length ∧ ∀ q G, Sm H G → H q = none → G q = some (.tup (ds.map V.str)) → Q (.ref q) G
theorem scDds : FnScope nSelf nSelf (defScope (meth 2)) := ⟨rfl, rfl, rfl, by decide +kernel, rfl, by decide +kernel, by decide +kernel⟩
section
variable {P : Program} {w : World} {K : PySem.W.Frag} {mg : Str → Option Value} {base : Heap} {f C fO fN fS fM pS gS : Addr} {fd dO dN dS dM dG : FuncData}
theorem bDo (F : FnP K "desk_lots" (top 30) f fd) : Binds K fd nDo [] := F.bindsN fun _ _ _ _ _ _ us hl => match us, hl with
  | [_], _ => rfl
theorem bLead0 (F : FunD K "lead" "Desk.lead" (defArgs (meth 4)) (defBody (meth 4)) (defScope (meth 4)) [] [] f fd) : Binds K fd ["self", "standing", "row"] [] := F.bindsN fun _ _ _ _ _ _ us hl => match us, hl with
  | [_, _, _], _ => rfl
theorem bDds (F : FunD K "deeds" "Desk.deeds" (defArgs (meth 2)) (defBody (meth 2)) (defScope (meth 2)) [] [] f fd) : Binds K fd nSelf [] := F.bindsN fun _ _ _ _ _ _ us hl => match us, hl with
  | [_], _ => rfl
theorem ok_lots (F : FnP K "desk_lots" (top 30) f fd) (hC : Cls K C) (PS_ : PropOf K C "standings" pS gS) (GG : FnOk P w K mg base CX0 1 gS dG nSelf (spStd C)) (bG : Binds K dG nSelf [])
    (GN : FnOk P w K mg base CX0 2 fN dN ["nodes", "signs", "moves"] (spLn K)) (FN : FnP K "lot_numbers" (top 16) fN dN) (gN : mg "lot_numbers" = some (.ref fN))
    (GS : FnOk P w K mg base CX0 3 fS dS ["desk"] (spSi K C)) (FS : FnP K "desk_sights" (top 27) fS dS) (gSi : mg "desk_sights" = some (.ref fS)) (GM : FnOk P w K mg base CX0 3 fM dM ["desk"] (spMv K C)) (FM : FnP K "desk_moves" (top 26) fM dM) (gM : mg "desk_moves" = some (.ref fM)) :
    FnOk P w K mg base CX0 4 f fd nDo (spLots K C) := by
  refine F.ok (CX := CX0) scDo (fun vs H Q E h => ?_) (fun cdv A outer s H vs Q E hr h => ?_)
  · obtain ⟨x, ws, ds, tb, ls, m, rfl, _⟩ := h
    rfl
  · have hr1 := hr.mono (show 1 ≤ 3 by decide)
    have hr2 := hr.mono (show 2 ≤ 3 by decide)
    refine ⟨_, PSs.nox (pss_one (ps_ret (by exact (pe_call GN hr2 rfl gN FN.kp (bLn FN) .nil pass0 (pa_cons (by exact (pe_prop (pv 0) hC PS_ GG hr2 bG .nil pass0 rfl)) (pa_cons (by exact (pe_call GS hr rfl gSi FS.kp (bSi FS) .nil pass0 (pa_cons (pv 0) pa_nil))) (pa_cons (by exact (pe_call GM hr rfl gM FM.kp (bMv FM) .nil pass0 (pa_cons (pv 0) pa_nil))) pa_nil))))))), ?_⟩
    obtain ⟨x, ws, ds, tb, ls, m, rfl, ob, is, m9, q⟩ := h
    obtain ⟨dx, st, ld, si, as0, hx, hst, hld, hsi, pr⟩ := id ob
    refine ⟨_, rfl, x, dx, _, rfl, hx, x, dx, st, ld, si, rfl, hx, _, rfl, x, ws, ds, tb, ls, m, rfl, ob, is, m9, fun sg G1 m1 nsg esg => ⟨_, rfl, x, ws, ds, tb, ls, m, rfl, ob.sm m1, is, m9, fun mo bs G2 m2 nmo hmo => ?_⟩⟩
    have mA := m1.trans m2
    refine ⟨st, sg, mo, ws, ds, ls, bs, nxt ws ds tb, rfl, SqT.sm hst mA, is.some, Nat.le_trans is.most m9, is.dmost, is.nd, m2 _ _ esg, is.looks, hmo, fun z hz d hd => ?_, fun q0 nu G m3 nq eq al => q q0 nu G (mA.trans m3) (none_of_sm mA nq) eq al⟩
    obtain ⟨_, _, _, h⟩ := ob_step pr is hd hz
    exact h
theorem ok_lead0 (F : FunD K "lead" "Desk.lead" (defArgs (meth 4)) (defBody (meth 4)) (defScope (meth 4)) [] [] f fd) (hC : Cls K C) (n1 : NoAttr K C "_standings") (n2 : NoAttr K C "_leads")
    (me : mg "enumerate" = none) (GO : FnOk P w K mg base CX0 1 fO dO nOneOf (spOneOf K)) (FO : FnP K "is_one_of" (top 10) fO dO) (gO : mg "is_one_of" = some (.ref fO)) : FnOk P w K mg base CX0 2 f fd ["self", "standing", "row"] (spLead0 K C) := by
  refine F.ok (CX := CX0) scLeadD (fun vs H Q E h => ?_) (fun cdv A outer s H vs Q E hr h => ?_)
  · obtain ⟨x, r, z, row, ws, ds, tb, ls, m, rfl, _⟩ := h
    rfl
  · refine ⟨_, PSs.nox (pss_cons (ps_if (pt_not (pt_val (by exact (pe_call GO hr rfl gO FO.kp (bOne FO) .nil pass0 (pa_cons (pv 1) (pa_cons (by exact (pe_fld (pv 0) rfl)) pa_nil)))))) (pss_one ps_never) pss_nil)
      (pss_cons (ps_for PassesOwn.never rfl (pi_enum rfl me (pa_cons (pv 2) pa_nil)) (pg_tup rfl (pgs_cons (pg_name (i := 3) scLeadD.nd rfl (.inl rfl)) (pgs_cons (pg_name (i := 4) scLeadD.nd rfl (.inl rfl)) pgs_nil)))
        (pss_cons (ps_if (pt_not (pt_val (by exact (pe_call GO hr rfl gO FO.kp (bOne FO) .nil pass0 (pa_cons (pv 4) (pa_cons (by exact (pe_fld (pv 0) rfl)) pa_nil)))))) (pss_one ps_never) pss_nil)
          (pss_one (ps_set (i := 1) scLeadD.nd rfl (.inl rfl) (by exact (pe_dget (hu_of hr) (by exact (pe_dget (hu_of hr) (by exact (pe_fld (pv 0) rfl)) (by exact (pv 4)) (fun _ _ => rfl))) (by exact (pv 1)) (fun _ _ => rfl)))))))
      (pss_one (ps_ret (pv 1))))), ?_⟩
    obtain ⟨x, r, z, row, ws, ds, tb, ls, m, rfl, ⟨dx, st, ld, si, as, hx, hst, hld, pr⟩, is, hr0, xl, hz, hrow, q⟩ := h
    refine ⟨_, rfl, _, rfl, x, C, dx, _, _, rfl, hx, hC, n1, rfl, .str z, st, rfl, ?_⟩
    refine .inl ⟨z, ws, rfl, .inr (.inl hst), _, rfl, ?_⟩
    rw [decide_eq_true hz]
    refine iteF ⟨_, rfl, r, row.map V.str, rfl, hr0, ?_⟩
    have al : as.length = ds.length := by rw [paired_len pr, is.rows]
    refine for_it (walk_enum (xs := row.map V.str)) (fun i σ G => ∃ (v3 v4 : Option V), σ = [some (.ref x), some (.str (ledBy ws ds tb z (row.take i))), some (.ref r), v3, v4] ∧ ledBy ws ds tb z (row.take i) ∈ ws ∧ Sm H G) ⟨none, none, rfl, hz, Sm.refl _⟩ (fun i σ G _ p => ?_) (fun i y σ G G' hi p yy => ?_) (fun σ G p => ?_)
    · obtain ⟨_, _, _, _, mm⟩ := p
      exact SqL.sm hr0 mm
    · obtain ⟨v3, v4, rfl, hin, mm⟩ := p
      obtain ⟨T, x1, x2, rfl, hT, rfl, e1, e2⟩ := yy
      have e1 := Option.some.inj e1
      subst e1
      have m2 := mm.trans (Sm.new (o := .tup [.int (i : Nat), x2]) hT)
      obtain ⟨d, ed, rfl⟩ : ∃ d, row[i]? = some d ∧ x2 = .str d := by
        have e3 : (row.map V.str)[i]? = some x2 := e2
        rw [List.getElem?_map] at e3
        cases e4 : row[i]? with
        | none =>
          rw [e4] at e3
          cases e3
        | some d =>
          rw [e4] at e3
          exact ⟨d, rfl, (Option.some.inj e3).symm⟩
      refine ⟨T, _, rfl, .inl (.inl upd_same), rfl, _, _, rfl, _, _, rfl, rfl, ?_⟩
      generalize upd G T (.tup [.int (i : Nat), .str d]) = G2 at m2 ⊢
      have hd := hrow d (List.mem_of_getElem? ed)
      refine ⟨_, rfl, _, rfl, x, C, dx, _, _, rfl, m2 _ _ hx, hC, n2, rfl, .str d, ld, rfl, .inl ⟨d, ds, rfl, .inr (.inr ⟨as.map V.ref, Rd.sm hld m2, by rw [List.length_map, al]⟩), _, rfl, ?_⟩⟩
      rw [decide_eq_true hd]
      have pr2 : Paired (fun a vs => G2 a = some (.dK (dkv ws (vs.map V.str)))) as tb := pair_mono pr fun a _ vs e => m2 _ _ e
      obtain ⟨a, b1, b2, b3⟩ := ob_step pr2 is hd hin
      refine iteF ⟨_, rfl, x, C, dx, _, _, rfl, m2 _ _ hx, hC, n2, rfl, _, rfl, ld, .ref a, rfl, .inl ⟨_, .inr d, Rd.sm hld m2, rfl, b1.symm⟩, _, rfl, a, _, rfl, b2, some (.int (i : Nat)), some (.str d), ?_, ?_, m2⟩
      · rw [led_more ed]
        rfl
      · rw [led_more ed]
        exact b3
    · obtain ⟨v3, v4, rfl, hin, mm⟩ := p
      rw [List.length_map, List.take_length] at hin
      rw [List.length_map, List.take_length]
      exact ⟨_, rfl, q G mm hin⟩
theorem ok_dds (F : FunD K "deeds" "Desk.deeds" (defArgs (meth 2)) (defBody (meth 2)) (defScope (meth 2)) [] [] f fd) (hC : Cls K C) (n2 : NoAttr K C "_leads") (mT : mg "tuple" = none) : FnOk P w K mg base CX0 1 f fd nSelf (spDds K C) := by
  refine F.ok (CX := CX0) scDds (fun vs H Q E h => ?_) (fun cdv A outer s H vs Q E hr h => ?_)
  · obtain ⟨x, ws, ds, tb, ls, rfl, _⟩ := h
    rfl
  · refine ⟨_, PSs.nox (pss_one (ps_ret (by exact (pe_callTy (call_tup_dK rfl) rfl mT PyProof.Rows.boot_tuple (pa_cons (by exact (pe_fld (pv 0) rfl)) pa_nil))))), ?_⟩
    obtain ⟨x, ws, ds, tb, ls, rfl, ⟨dx, st, ld, si, as, hx, hst, hld, hsi, pr⟩, tl, q⟩ := h
    have al : as.length = ds.length := by rw [paired_len pr, tl]
    refine ⟨_, rfl, x, C, dx, _, _, rfl, hx, hC, n2, rfl, ld, _, rfl, hld, fun p np => ?_⟩
    rw [keys_dkv (by rw [List.length_map, al])]
    exact q p _ (Sm.new np) np upd_same
end
end Dk
set_option linter.all false
namespace Lo
/-! ### the first of each lot -/
section
variable {S : Type} {r r2 : S → S → Bool} {cs : List S}
def hds (r : S → S → Bool) (cs : List S) : List S := cs.foldl (fun acc z => if acc.any (fun y => r y z) = true then acc else acc ++ [z]) []
theorem hds_snoc {z : S} : hds r (cs ++ [z]) = if (hds r cs).any (fun y => r y z) = true then hds r cs else hds r cs ++ [z] := by
  unfold hds
  rw [List.foldl_append]
  rfl
theorem hds_sub0 : ∀ cs : List S, ∀ z ∈ hds r cs, z ∈ cs := by
  refine rev_ind (fun z h => h) fun cs a ih z h => ?_
  rw [hds_snoc] at h
  by_cases c : (hds r cs).any (fun y => r y a) = true
  · rw [if_pos c] at h
    exact List.mem_append_left _ (ih z h)
  · rw [if_neg c] at h
    rcases List.mem_append.mp h with h | h
    · exact List.mem_append_left _ (ih z h)
    · exact List.mem_append_right _ h
theorem hds_sub {z : S} (h : z ∈ hds r cs) : z ∈ cs := hds_sub0 cs z h
theorem hds_len0 : ∀ cs : List S, (hds r cs).length ≤ cs.length := by
  refine rev_ind (Nat.le_refl _) fun cs a ih => ?_
  rw [hds_snoc]
  by_cases c : (hds r cs).any (fun y => r y a) = true
  · rw [if_pos c, List.length_append]
    omega
  · rw [if_neg c, List.length_append, List.length_append]
    exact Nat.add_le_add_right ih _
theorem hds_len : (hds r cs).length ≤ cs.length := hds_len0 cs
theorem hds_cover0 (rf : ∀ z, r z z = true) : ∀ cs : List S, ∀ z ∈ cs, ∃ y ∈ hds r cs, r y z = true := by
  refine rev_ind (fun z h => (List.not_mem_nil h).elim) fun cs a ih z h => ?_
  rw [hds_snoc]
  by_cases c : (hds r cs).any (fun y => r y a) = true
  · rw [if_pos c]
    rcases List.mem_append.mp h with h | h
    · exact ih z h
    · rw [List.mem_singleton.mp h]
      obtain ⟨y, hy, e⟩ := List.any_eq_true.mp c
      exact ⟨y, hy, e⟩
  · rw [if_neg c]
    rcases List.mem_append.mp h with h | h
    · obtain ⟨y, hy, e⟩ := ih z h
      exact ⟨y, List.mem_append_left _ hy, e⟩
    · rw [List.mem_singleton.mp h]
      exact ⟨a, List.mem_append_right _ (List.mem_singleton.mpr rfl), rf a⟩
theorem hds_cover (rf : ∀ z, r z z = true) {z : S} (h : z ∈ cs) : ∃ y ∈ hds r cs, r y z = true := hds_cover0 rf cs z h
theorem hds_apart0 : ∀ cs : List S, (hds r cs).Pairwise fun y z => r y z = false := by
  refine rev_ind List.Pairwise.nil fun cs a ih => ?_
  rw [hds_snoc]
  by_cases c : (hds r cs).any (fun y => r y a) = true
  · rw [if_pos c]
    exact ih
  · rw [if_neg c]
    refine List.pairwise_append.mpr ⟨ih, List.pairwise_singleton _ _, fun y hy z hz => ?_⟩
    rw [List.mem_singleton.mp hz]
    cases e : r y a with
    | false => rfl
    | true => exact absurd (List.any_eq_true.mpr ⟨y, hy, e⟩) c
theorem pair_or {l : List S} (p : l.Pairwise fun y z => r y z = false) : ∀ y ∈ l, ∀ z ∈ l, y = z ∨ r y z = false ∨ r z y = false := by
  induction p with
  | nil => exact fun y h => (List.not_mem_nil h).elim
  | @cons a l h t ih =>
    intro y hy z hz
    rcases List.mem_cons.mp hy with e | hy
    · rcases List.mem_cons.mp hz with e2 | hz
      · exact .inl (e.trans e2.symm)
      · rw [e]
        exact .inr (.inl (h z hz))
    · rcases List.mem_cons.mp hz with e2 | hz
      · rw [e2]
        exact .inr (.inr (h y hy))
      · exact ih y hy z hz
theorem hds_one (sy : ∀ y z, r y z = true → r z y = true) {y z : S} (hy : y ∈ hds r cs) (hz : z ∈ hds r cs) (e : r y z = true) : y = z := by
  rcases pair_or (hds_apart0 cs) y hy z hz with h | h | h
  · exact h
  · rw [e] at h
    cases h
  · rw [sy _ _ e] at h
    cases h
theorem hds_nodup (rf : ∀ z, r z z = true) : (hds r cs).Nodup := by
  refine List.Pairwise.imp (fun {y z} h e => ?_) (hds_apart0 (r := r) cs)
  rw [e, rf] at h
  cases h
/-- where none are alike -/
theorem hds_all0 : ∀ cs : List S, cs.Pairwise (fun y z => r y z = false) → hds r cs = cs := by
  refine rev_ind (fun _ => rfl) fun cs a ih h => ?_
  obtain ⟨h1, _, h2⟩ := List.pairwise_append.mp h
  rw [hds_snoc, ih h1, if_neg fun c => ?_]
  obtain ⟨y, hy, e⟩ := List.any_eq_true.mp c
  have := h2 y hy a (List.mem_singleton.mpr rfl)
  rw [this] at e
  cases e
theorem hds_again : hds r (hds r cs) = hds r cs := hds_all0 _ (hds_apart0 cs)
theorem hds_congr0 : ∀ cs : List S, (∀ y ∈ cs, ∀ z ∈ cs, r y z = r2 y z) → hds r cs = hds r2 cs := by
  refine rev_ind (fun _ => rfl) fun cs a ih h => ?_
  have e := ih fun y hy z hz => h y (List.mem_append_left _ hy) z (List.mem_append_left _ hz)
  have e2 : ((hds r2 cs).any fun y => r y a) = (hds r2 cs).any fun y => r2 y a := by
    rw [Bool.eq_iff_iff, List.any_eq_true, List.any_eq_true]
    refine ⟨fun ⟨y, hy, q⟩ => ⟨y, hy, ?_⟩, fun ⟨y, hy, q⟩ => ⟨y, hy, ?_⟩⟩
    · rw [← h y (List.mem_append_left _ (hds_sub hy)) a (List.mem_append_right _ (List.mem_singleton.mpr rfl))]
      exact q
    · rw [h y (List.mem_append_left _ (hds_sub hy)) a (List.mem_append_right _ (List.mem_singleton.mpr rfl))]
      exact q
  rw [hds_snoc, hds_snoc, e, e2]
theorem hds_congr (h : ∀ y ∈ cs, ∀ z ∈ cs, r y z = r2 y z) : hds r cs = hds r2 cs := hds_congr0 cs h
theorem hds_first0 {c : S} : ∀ cs : List S, (hds r (c :: cs))[0]? = some c := by
  refine rev_ind rfl fun cs a ih => ?_
  rw [← List.cons_append, hds_snoc]
  by_cases q : (hds r (c :: cs)).any (fun y => r y a) = true
  · rw [if_pos q]
    exact ih
  · rw [if_neg q, List.getElem?_append_left (List.getElem?_eq_some_iff.mp ih).1]
    exact ih
theorem hds_first {c : S} (h : cs[0]? = some c) : (hds r cs)[0]? = some c := by
  cases cs with
  | nil => cases h
  | cons d cs =>
    rw [← Option.some.inj h]
    exact hds_first0 cs
/-- the first that is like one -/
def rp (r : S → S → Bool) (hs : List S) (t : S) : S := (hs.find? fun y => r y t).getD t
theorem rp_at {hs : List S} {t : S} (h : ∃ y ∈ hs, r y t = true) : hs.find? (fun y => r y t) = some (rp r hs t) ∧ rp r hs t ∈ hs ∧ r (rp r hs t) t = true := by
  obtain ⟨y, hy, e⟩ := h
  unfold rp
  cases q : hs.find? (fun y => r y t) with
  | none => exact absurd e (List.find?_eq_none.mp q y hy)
  | some x => exact ⟨rfl, List.mem_of_find?_eq_some q, List.find?_some (p := fun y => r y t) q⟩
end
end Lo
set_option Elab.async false
set_option linter.all false
set_option maxRecDepth 100000
set_option maxHeartbeats 4000000
namespace Dk
open PySem PySem.Spec PyProof.Rows L2 Er LamX NdefX
/-! ### the smallest desk: what it is -/
open Classical in
/-- no row parts two -/
noncomputable def al (nx : Str → Str → Str) (lk : Str → Str) (ds : List Str) (y z : Str) : Bool := decide (∀ k, ¬ Ap.Sep nx lk ds y z k)
section
variable {nx : Str → Str → Str} {lk : Str → Str} {ds cs : List Str}
open Classical in
theorem al_iff {y z : Str} : al nx lk ds y z = true ↔ ∀ k, ¬ Ap.Sep nx lk ds y z k := by
  unfold al
  exact decide_eq_true_iff
theorem al_refl (z : Str) : al nx lk ds z z = true := al_iff.mpr fun _ => Ap.sep_self
theorem al_symm (y z : Str) (h : al nx lk ds y z = true) : al nx lk ds z y = true := al_iff.mpr fun k s => al_iff.mp h k (Ap.sep_symm s)
theorem al_trans {y z x : Str} (h : al nx lk ds y z = true) (g : al nx lk ds z x = true) : al nx lk ds y x = true := al_iff.mpr fun k s => by
  rcases Ap.sep_trans (x := z) s with a | a
  · exact al_iff.mp h k a
  · exact al_iff.mp g k a
theorem al_on {y z d : Str} (h : al nx lk ds y z = true) (hd : d ∈ ds) : al nx lk ds (nx y d) (nx z d) = true := al_iff.mpr fun k s => al_iff.mp h (k + 1) (Ap.sep_succ.mpr ⟨d, hd, s⟩)
theorem al_look {y z : Str} (h : al nx lk ds y z = true) : lk y = lk z := Classical.byContradiction fun n => al_iff.mp h 0 (Ap.sep_zero.mpr n)
/-- its standings -/
noncomputable def lHs (nx : Str → Str → Str) (lk : Str → Str) (ds cs : List Str) : List Str := Lo.hds (al nx lk ds) cs
/-- the one like it -/
noncomputable def lRp (nx : Str → Str → Str) (lk : Str → Str) (ds cs : List Str) (z : Str) : Str := Lo.rp (al nx lk ds) (lHs nx lk ds cs) z
noncomputable def lNx (nx : Str → Str → Str) (lk : Str → Str) (ds cs : List Str) (z d : Str) : Str := lRp nx lk ds cs (nx z d)
theorem lRp_at {t : Str} (h : t ∈ cs) : lRp nx lk ds cs t ∈ lHs nx lk ds cs ∧ al nx lk ds (lRp nx lk ds cs t) t = true := (Lo.rp_at (Lo.hds_cover al_refl h)).2
theorem lRp_one {t y : Str} (h : t ∈ cs) (hy : y ∈ lHs nx lk ds cs) (e : al nx lk ds y t = true) : lRp nx lk ds cs t = y := by
  obtain ⟨h1, h2⟩ := lRp_at (nx := nx) (lk := lk) (ds := ds) h
  exact Lo.hds_one al_symm h1 hy (al_trans h2 (al_symm _ _ e))
theorem lHs_sub {z : Str} (h : z ∈ lHs nx lk ds cs) : z ∈ cs := Lo.hds_sub h
/-- led in the smallest desk, and in the desk -/
theorem led_like (cl : ∀ z ∈ cs, ∀ d ∈ ds, nx z d ∈ cs) : ∀ (row : List Str) {z y : Str}, z ∈ lHs nx lk ds cs → y ∈ cs → al nx lk ds z y = true → (∀ d ∈ row, d ∈ ds) →
    Ap.led (lNx nx lk ds cs) z row ∈ lHs nx lk ds cs ∧ Ap.led nx y row ∈ cs ∧ al nx lk ds (Ap.led (lNx nx lk ds cs) z row) (Ap.led nx y row) = true
  | [], z, y, hz, hy, h, _ => ⟨hz, hy, h⟩
  | d :: row, z, y, hz, hy, h, hr => by
    have hd := hr d List.mem_cons_self
    have zc := cl z (lHs_sub hz) d hd
    obtain ⟨h1, h2⟩ := lRp_at (nx := nx) (lk := lk) (ds := ds) zc
    exact led_like cl row h1 (cl y hy d hd) (al_trans h2 (al_on h hd)) fun x hx => hr x (List.mem_cons_of_mem _ hx)
theorem sep_like (cl : ∀ z ∈ cs, ∀ d ∈ ds, nx z d ∈ cs) {z y : Str} (hz : z ∈ lHs nx lk ds cs) (hy : y ∈ lHs nx lk ds cs) {k : Nat} : Ap.Sep (lNx nx lk ds cs) lk ds z y k ↔ Ap.Sep nx lk ds z y k := by
  constructor
  · rintro ⟨row, e, h1, h2⟩
    obtain ⟨_, _, a⟩ := led_like cl row hz (lHs_sub hz) (al_refl z) h1
    obtain ⟨_, _, b⟩ := led_like cl row hy (lHs_sub hy) (al_refl y) h1
    exact ⟨row, e, h1, by rw [← al_look a, ← al_look b]; exact h2⟩
  · rintro ⟨row, e, h1, h2⟩
    obtain ⟨_, _, a⟩ := led_like cl row hz (lHs_sub hz) (al_refl z) h1
    obtain ⟨_, _, b⟩ := led_like cl row hy (lHs_sub hy) (al_refl y) h1
    exact ⟨row, e, h1, by rw [al_look a, al_look b]; exact h2⟩
end
/-! ### tables -/
def tbL (hs ds : List Str) (g : Str → Str → Str) : List (List Str) := ds.map fun d => hs.map fun z => g z d
theorem look_map {hs : List Str} {g : Str → Str} {z : Str} (hz : z ∈ hs) : look hs (hs.map g) z = g z := by
  unfold look
  have il := idx_lt hz
  rw [List.getD_eq_getElem?_getD, List.getElem?_map, List.getElem?_eq_getElem il, List.getElem_idxOf il]
  rfl
theorem nxt_tbL {hs ds : List Str} {g : Str → Str → Str} {z d : Str} (hz : z ∈ hs) (hd : d ∈ ds) : nxt hs ds (tbL hs ds g) z d = g z d := by
  unfold nxt tbL
  have il := idx_lt hd
  rw [List.getD_eq_getElem?_getD (l := ds.map _), List.getElem?_map, List.getElem?_eq_getElem il, List.getElem_idxOf il]
  exact look_map hz
theorem tbL_congr {hs ds : List Str} {g g2 : Str → Str → Str} (h : ∀ z ∈ hs, ∀ d ∈ ds, g z d = g2 z d) : tbL hs ds g = tbL hs ds g2 := List.map_congr_left fun d hd => List.map_congr_left fun z hz => h z hz d hd
/-- a desk told by its own functions -/
theorem tb_nxt {m : Nat} {ws ds : List Str} {tb : List (List Str)} {ls : List Str} (is : DkIs m ws ds tb ls) : tb = tbL ws ds (nxt ws ds tb) := by
  show tb = ds.map fun d => ws.map fun z => nxt ws ds tb z d
  refine List.ext_getElem (by rw [List.length_map, is.rows]) fun i h1 h2 => ?_
  rw [List.getElem_map]
  have r := is.row _ (List.getElem_mem h1)
  have dl : i < ds.length := by rw [← is.rows]; exact h1
  have ei : ds.idxOf (ds[i]'dl) = i := idx_of is.dnd (List.getElem?_eq_getElem dl)
  have at_ : ∀ j (h3 : j < (tb[i]'h1).length) (wl : j < ws.length), nxt ws ds tb (ws[j]'wl) (ds[i]'dl) = (tb[i]'h1)[j]'h3 := fun j h3 wl => by
    have ej : ws.idxOf (ws[j]'wl) = j := idx_of is.nd (List.getElem?_eq_getElem wl)
    unfold nxt
    rw [ei, ej, List.getD_eq_getElem?_getD (l := tb), List.getElem?_eq_getElem h1]
    show (tb[i]'h1).getD j _ = _
    rw [List.getD_eq_getElem?_getD, List.getElem?_eq_getElem h3]
    rfl
  refine List.ext_getElem (by rw [List.length_map, r.1]) fun j h3 h4 => ?_
  rw [List.getElem_map]
  exact (at_ j h3 (by rw [← r.1]; exact h3)).symm
theorem ls_look {m : Nat} {ws ds : List Str} {tb : List (List Str)} {ls : List Str} (is : DkIs m ws ds tb ls) : ls = ws.map (look ws ls) := by
  have at_ : ∀ j (h3 : j < ls.length) (wl : j < ws.length), look ws ls (ws[j]'wl) = ls[j]'h3 := fun j h3 wl => by
    have ej : ws.idxOf (ws[j]'wl) = j := idx_of is.nd (List.getElem?_eq_getElem wl)
    unfold look
    rw [ej, List.getD_eq_getElem?_getD, List.getElem?_eq_getElem h3]
    rfl
  refine List.ext_getElem (by rw [List.length_map, is.looks]) fun j h3 h4 => ?_
  rw [List.getElem_map]
  exact (at_ j h3 (by rw [← is.looks]; exact h3)).symm
section
variable {m : Nat} {ws ds cs : List Str} {tb : List (List Str)} {ls : List Str}
/-- the smallest desk of those that can come -/
noncomputable def sHs (ws ds : List Str) (tb : List (List Str)) (ls cs : List Str) : List Str := lHs (nxt ws ds tb) (look ws ls) ds cs
noncomputable def sTb (ws ds : List Str) (tb : List (List Str)) (ls cs : List Str) : List (List Str) := tbL (sHs ws ds tb ls cs) ds (lNx (nxt ws ds tb) (look ws ls) ds cs)
noncomputable def sLs (ws ds : List Str) (tb : List (List Str)) (ls cs : List Str) : List Str := (sHs ws ds tb ls cs).map (look ws ls)
theorem s_nxt {z d : Str} (hz : z ∈ sHs ws ds tb ls cs) (hd : d ∈ ds) : nxt (sHs ws ds tb ls cs) ds (sTb ws ds tb ls cs) z d = lNx (nxt ws ds tb) (look ws ls) ds cs z d := nxt_tbL hz hd
theorem s_look {z : Str} (hz : z ∈ sHs ws ds tb ls cs) : look (sHs ws ds tb ls cs) (sLs ws ds tb ls cs) z = look ws ls z := look_map hz
theorem look_in {z : Str} (is : DkIs m ws ds tb ls) (hz : z ∈ ws) : look ws ls z ∈ ls := by
  have il := idx_lt hz
  unfold look
  rw [List.getD_eq_getElem?_getD, List.getElem?_eq_getElem (by rw [is.looks]; exact il)]
  exact List.getElem_mem _
theorem s_is (is : DkIs m ws ds tb ls) (sub : ∀ z ∈ cs, z ∈ ws) (some_ : 1 ≤ cs.length) (few : cs.length ≤ ws.length) (cl : ∀ z ∈ cs, ∀ d ∈ ds, nxt ws ds tb z d ∈ cs) : DkIs m (sHs ws ds tb ls cs) ds (sTb ws ds tb ls cs) (sLs ws ds tb ls cs) where
  some := by
    obtain ⟨c, ec⟩ : ∃ c, cs[0]? = some c := ⟨cs[0]'(by omega), List.getElem?_eq_getElem (by omega)⟩
    have := (List.getElem?_eq_some_iff.mp (Lo.hds_first (r := al (nxt ws ds tb) (look ws ls) ds) ec)).1
    exact this
  most := Nat.le_trans (Lo.hds_len) (Nat.le_trans few is.most)
  nd := Lo.hds_nodup al_refl
  word := fun z hz => is.word z (sub z (lHs_sub hz))
  dsome := is.dsome
  dmost := is.dmost
  dnd := is.dnd
  dword := is.dword
  rows := by
    unfold sTb tbL
    rw [List.length_map]
  row := fun vs hv => by
    unfold sTb tbL at hv
    obtain ⟨d, hd, rfl⟩ := List.mem_map.mp hv
    refine ⟨List.length_map _, fun z hz => ?_⟩
    obtain ⟨y, hy, rfl⟩ := List.mem_map.mp hz
    exact (lRp_at (cl y (lHs_sub hy) d hd)).1
  looks := List.length_map _
  look := fun z hz => by
    obtain ⟨y, hy, rfl⟩ := List.mem_map.mp hz
    exact is.look _ (look_in is (sub y (lHs_sub hy)))
/-- rows part just what they parted -/
theorem sep_congr {nx nx2 : Str → Str → Str} {lk lk2 : Str → Str} {hs : List Str} (cl : ∀ z ∈ hs, ∀ d ∈ ds, nx z d ∈ hs) (e : ∀ z ∈ hs, ∀ d ∈ ds, nx z d = nx2 z d) (e2 : ∀ z ∈ hs, lk z = lk2 z) {z y : Str} (hz : z ∈ hs) (hy : y ∈ hs) {k : Nat} : Ap.Sep nx lk ds z y k ↔ Ap.Sep nx2 lk2 ds z y k := by
  have led : ∀ (row : List Str) {z : Str}, z ∈ hs → (∀ d ∈ row, d ∈ ds) → Ap.led nx z row = Ap.led nx2 z row ∧ Ap.led nx z row ∈ hs := by
    intro row
    induction row with
    | nil => exact fun hz _ => ⟨rfl, hz⟩
    | cons d row ih =>
      intro z hz hr
      have hd := hr d List.mem_cons_self
      have r := ih (cl z hz d hd) fun x hx => hr x (List.mem_cons_of_mem _ hx)
      refine ⟨?_, r.2⟩
      show Ap.led nx (nx z d) row = Ap.led nx2 (nx2 z d) row
      rw [r.1, e z hz d hd]
  constructor
  · rintro ⟨row, q, h1, h2⟩
    obtain ⟨a, a2⟩ := led row hz h1
    obtain ⟨b, b2⟩ := led row hy h1
    exact ⟨row, q, h1, by rw [← a, ← b, ← e2 _ a2, ← e2 _ b2]; exact h2⟩
  · rintro ⟨row, q, h1, h2⟩
    obtain ⟨a, a2⟩ := led row hz h1
    obtain ⟨b, b2⟩ := led row hy h1
    exact ⟨row, q, h1, by rw [e2 _ a2, e2 _ b2, a, b]; exact h2⟩
theorem s_in (cl : ∀ z ∈ cs, ∀ d ∈ ds, nxt ws ds tb z d ∈ cs) {z d : Str} (hz : z ∈ sHs ws ds tb ls cs) (hd : d ∈ ds) : nxt (sHs ws ds tb ls cs) ds (sTb ws ds tb ls cs) z d ∈ sHs ws ds tb ls cs := by
  rw [s_nxt hz hd]
  exact (lRp_at (cl z (lHs_sub hz) d hd)).1
theorem s_al (cl : ∀ z ∈ cs, ∀ d ∈ ds, nxt ws ds tb z d ∈ cs) {z y : Str} (hz : z ∈ sHs ws ds tb ls cs) (hy : y ∈ sHs ws ds tb ls cs) :
    al (nxt (sHs ws ds tb ls cs) ds (sTb ws ds tb ls cs)) (look (sHs ws ds tb ls cs) (sLs ws ds tb ls cs)) ds z y = al (nxt ws ds tb) (look ws ls) ds z y := by
  rw [Bool.eq_iff_iff, al_iff, al_iff]
  have h : ∀ k, Ap.Sep (nxt (sHs ws ds tb ls cs) ds (sTb ws ds tb ls cs)) (look (sHs ws ds tb ls cs) (sLs ws ds tb ls cs)) ds z y k ↔ Ap.Sep (nxt ws ds tb) (look ws ls) ds z y k := fun k =>
    (sep_congr (fun z hz d hd => s_in cl hz hd) (fun z hz d hd => s_nxt hz hd) (fun z hz => s_look hz) hz hy).trans (sep_like cl hz hy)
  exact ⟨fun g k s => g k ((h k).mpr s), fun g k s => g k ((h k).mp s)⟩
/-- a smallest desk is its own smallest one -/
theorem s_hs (cl : ∀ z ∈ cs, ∀ d ∈ ds, nxt ws ds tb z d ∈ cs) : sHs (sHs ws ds tb ls cs) ds (sTb ws ds tb ls cs) (sLs ws ds tb ls cs) (sHs ws ds tb ls cs) = sHs ws ds tb ls cs :=
  (Lo.hds_congr fun y hy z hz => s_al cl hy hz).trans Lo.hds_again
theorem s_tb (cl : ∀ z ∈ cs, ∀ d ∈ ds, nxt ws ds tb z d ∈ cs) : sTb (sHs ws ds tb ls cs) ds (sTb ws ds tb ls cs) (sLs ws ds tb ls cs) (sHs ws ds tb ls cs) = sTb ws ds tb ls cs := by
  refine (congrArg (fun hs => tbL hs ds (lNx (nxt (sHs ws ds tb ls cs) ds (sTb ws ds tb ls cs)) (look (sHs ws ds tb ls cs) (sLs ws ds tb ls cs)) ds (sHs ws ds tb ls cs))) (s_hs cl)).trans ?_
  refine tbL_congr fun z hz d hd => ?_
  have e : lHs (nxt (sHs ws ds tb ls cs) ds (sTb ws ds tb ls cs)) (look (sHs ws ds tb ls cs) (sLs ws ds tb ls cs)) ds (sHs ws ds tb ls cs) = sHs ws ds tb ls cs := s_hs cl
  have i := s_in (ls := ls) cl hz hd
  show lRp _ _ _ _ _ = _
  rw [lRp_one i (by rw [e]; exact i) (al_refl _), s_nxt hz hd]
theorem s_ls (cl : ∀ z ∈ cs, ∀ d ∈ ds, nxt ws ds tb z d ∈ cs) : sLs (sHs ws ds tb ls cs) ds (sTb ws ds tb ls cs) (sLs ws ds tb ls cs) (sHs ws ds tb ls cs) = sLs ws ds tb ls cs := by
  refine (congrArg (fun hs => hs.map (look (sHs ws ds tb ls cs) (sLs ws ds tb ls cs))) (s_hs cl)).trans ?_
  exact List.map_congr_left fun z hz => s_look hz
end
end Dk
set_option Elab.async false
set_option linter.all false
set_option maxRecDepth 100000
set_option maxHeartbeats 4000000
namespace Dk
open PySem PySem.Spec PyProof.Rows L2 Er LamX NdefX
/-! ### name = {k: e for ..} on one line, the name a local -/
section
variable {X : Cx} {i : Nat} {y : Str} {py : Pos} {kx vx tg iter : Expr} {ifs : List Expr} {scope : Scope} {own : List (Str × Nat)} {pos spos : Pos} {wi : TI} {g : TG} {tt : TT} {tk tv : TE}
/-- read in a comprehension's own block -/
abbrev InBlk (X : Cx) (scope : Scope) (p : Cx → Prop) : Prop := ∀ (s : Shared) (H : Hp) (C : Addr) (cl : List (Str × Addr)) (fp : List Addr), p (X.blk s H scope (compEnvC scope cl C X.env) fp)
theorem ps_setDc (hc : X.calm = true) (hN : X.N.Nodup) (hy : X.N[i]? = some y) (hyl : X.env.scope.names.lookup y = some .local) (hsw : swapsWith (.DictComp kx vx [⟨tg, iter, ifs, 0⟩] scope pos) (some (.Name y py)) spos.line X.env = pure true)
    (hi : PI X tg iter wi) (ok : BlkOk X.N X.env.scope scope own) (hg : InBlk X scope fun B => PG B tg g) (ht : InBlk X scope fun B => PTs B ifs tt) (hk : InBlk X scope fun B => PE B kx tk) (he : InBlk X scope fun B => PE B vx tv) (hs : ∀ x, foldedSetIterable iter X.env x = pure x := by intro _; rfl) :
    PS X (.Assign [.Name y py] (.DictComp kx vx [⟨tg, iter, ifs, 0⟩] scope pos) spos) (tAsg (tDc wi g tt tk tv (own.map (·.2))) (gName i)) := by
  refine ⟨fun ps s σ H D I h => ?_⟩
  rw [exec_Assign_Name_used _ _ _ _ hsw]
  refine wpAny_bind (wpAny_standAt (wpAny_bind ?_))
  show wpAny _ X.A (do let _ ← comprehension (.DictComp kx vx [⟨tg, iter, ifs, 0⟩] scope pos) scope X.env (firstIterPos [⟨tg, iter, ifs, 0⟩] pos) newDict false (eval iter X.env) (some (assign (.Name y py) X.env))) _ _ s
  have h : tDc wi g tt tk tv (own.map (·.2)) σ H (fun x H1 => gName i x σ H1 D.nx) := h
  refine wpAny_bind (thn (dc_core (Qf := fun _ s2 => SP X ps D .next s2) hc hN I hi ok hg ht hk he hs h fun L C s2 m H2 I2 q hn ⟨f0, f1, _, f3, f4, f5⟩ => ?_) fun _ _ hq => wpAny_pure (wpAny_pure hq))
  refine (show wpAny _ _ (assign (.Name y py) X.env (.ref L)) _ _ _ from wpAny_assign_Name (store_ok2 (v := V.ref L) I2 hN hy (.inl hyl) rfl (fun s3 I3 ⟨a, sb, ha⟩ => ⟨m, hn.sameBut sb ?_, fun h3 sb3 => ⟨_, H2, I3.turned (t' := s3.toks) (fun b o hb e => (sb3.2 b hb).trans e) f0 f1 f3 f4 f5, q⟩⟩) (.inr hyl)))
  rcases ha with z | z
  · exact z ▸ f1
  · exact fun e => f4 y a z e.symm
theorem sw_dict {gs : List Comprehension} {l : Nat} {env : Env} (hk : env.scope.kind = .function) (hy : env.scope.names.lookup y = some .local) (hl : (py.line == pos.line) = true) (ha : (scope.names.any fun (n, k) => n == y && (k == .local || k == .cell)) = false) :
    swapsWith (.DictComp kx vx gs scope pos) (some (.Name y py)) l env = pure true := by
  have h1 : env.kindOf y = some .local := hy
  have h2 : env.blockKind = .function := by
    unfold Env.blockKind
    rw [hk]
    rfl
  unfold swapsWith
  simp only [h2, h1, ha, Expr.pos, hl]
  rfl
end
end Dk
set_option Elab.async false
set_option linter.all false
set_option maxRecDepth 100000
set_option maxHeartbeats 8000000
/-! {k: e for .. in .. for .. in ..}: a dict comprehension with two clauses -/
namespace Dc2
open PySem PySem.Spec PyProof.Rows L2
abbrev DC (kx vx ta ia tb ib : Expr) (ca cb : List Expr) (sc : Scope) (ps : Pos) : Expr := .DictComp kx vx [⟨ta, ia, ca, 0⟩, ⟨tb, ib, cb, 0⟩] sc ps
theorem turn_a (kx vx ta ia tb ib : Expr) (ca cb : List Expr) (sc : Scope) (ps : Pos) (w d : Value) (en : Env) : compTurn (DC kx vx ta ia tb ib ca cb sc ps) 0 w d en = (do
      standAt ia.pos
      match ← pyNext w with
      | none => pure (.done .next)
      | some got =>
        letOwnedTupleGo ta w got
        assign ta en got
        let mut fine := true
        for cond in ca do
          if fine then fine ← isTrue cond en (eval cond en)
        if fine then
          let src ← eval ib en
          standAt ib.pos
          let src ← foldedSetIterable ib en src
          let _ ← runOwn (.compStart (DC kx vx ta ia tb ib ca cb sc ps) 1 (← holding [src] (pyIter src)) d en) en
        again (.compLoop (DC kx vx ta ia tb ib ca cb sc ps) 0 w d en)) := by rfl
theorem turn_b (kx vx ta ia tb ib : Expr) (ca cb : List Expr) (sc : Scope) (ps : Pos) (w : Value) (D : Addr) (en : Env) : compTurn (DC kx vx ta ia tb ib ca cb sc ps) 1 w (.ref D) en = (do
      standAt ib.pos
      match ← pyNext w with
      | none => pure (.done .next)
      | some got =>
        letOwnedTupleGo tb w got
        assign tb en got
        let mut fine := true
        for cond in cb do
          if fine then fine ← isTrue cond en (eval cond en)
        if fine then
          (do
            let key ← eval kx en
            let val ← holding [key] (eval vx en)
            standAt { kx.pos with endLine := vx.pos.endLine, endCol := vx.pos.endCol }
            holding [key, val] (dictSet D key val))
        again (.compLoop (DC kx vx ta ia tb ib ca cb sc ps) 1 w (.ref D) en)) := by rfl
section
variable {P : Program} {W : World} {A : Around} {R : Result → Shared → Prop} {s : Shared} {kx vx ta ia tb ib : Expr} {ca cb : List Expr} {sc : Scope} {ps : Pos} {w d : Value} {D : Addr} {en : Env}
/-- what flies out is noted -/
abbrev Fl (P : Program) (W : World) (A : Around) (en : Env) (R : Result → Shared → Prop) : Value → Shared → Prop := notedBy (model P W) A en fun e s2 => R (.error e) s2
/-- a clause's store and tests -/
abbrev Hd (P : Program) (W : World) (A : Around) (en : Env) (R : Result → Shared → Prop) (tg : Expr) (cs : List Expr) (w : Value) (K : Bool → Shared → Prop) : Value → Shared → Prop := fun got s1 =>
  wpAny (model P W) A (letOwnedTupleGo tg w got) (fun _ s2 => wpAny (model P W) A (assign tg en got) (fun _ s3 =>
    wpAny (model P W) A (forIn cs true fun c r => if r = true then do let ok ← isTrue c en (eval c en); pure (ForInStep.yield ok) else pure (ForInStep.yield r)) K (Fl P W A en R) s3) (Fl P W A en R) s2) (Fl P W A en R) s1
theorem loop_a (hs : ∀ x, foldedSetIterable ib en x = pure x) (J : Nat → Shared → Prop)
    (turn : ∀ n s, J n s → wpAny (model P W) A (pyNext w) (fun r s1 => match r with
      | none => R (.ok .next) s1
      | some got => Hd P W A en R ta ca w (fun ok s4 => if ok = true then wpAny (model P W) A (eval ib en) (fun x s5 => wpAny (model P W) A (pyIter x) (fun w2 s6 =>
            codeAny (model P W) A (.compStart (DC kx vx ta ia tb ib ca cb sc ps) 1 w2 d en) (fun r s7 => match r with
              | .ok _ => ∃ m, m < n ∧ J m s7
              | .error _ => False) s6) (Fl P W A en R) s5) (Fl P W A en R) s4
          else ∃ m, m < n ∧ J m s4) got s1) (Fl P W A en R) s) (n : Nat) (h : J n s) :
    codeAny (model P W) A (.compLoop (DC kx vx ta ia tb ib ca cb sc ps) 0 w d en) R s := by
  refine codeAny_loop rfl J (fun n s j => ?_) n h
  show wpAny _ A ((compTurn (DC kx vx ta ia tb ib ca cb sc ps) 0 w d en).onRaise (fun e => do noteFrame e en; theTreesLotGoes e)) _ _ s
  refine wpAny_noted ?_
  rw [turn_a]
  refine wpAny_bind (wpAny_standAt (wpAny_bind (wpAny_mono (turn n s j) (fun r s1 q1 => ?_) fun _ _ z => z)))
  cases r with
  | none => exact wpAny_pure q1
  | some got =>
    refine wpAny_bind (wpAny_mono q1 (fun _ s2 q2 => wpAny_bind (wpAny_mono q2 (fun _ s3 q3 => wpAny_bind (wpAny_mono q3 (fun ok s4 q4 => ?_) fun _ _ z => z)) fun _ _ z => z)) fun _ _ z => z)
    cases ok with
    | false => exact wpAny_pure ⟨rfl, q4⟩
    | true =>
      refine wpAny_bind (wpAny_mono q4 (fun x s5 q5 => ?_) fun _ _ z => z)
      refine wpAny_bind (wpAny_standAt (wpAny_bind (wpAny_of_eq (hs x) (wpAny_bind (wpAny_holding (wpAny_mono q5 (fun w2 s6 q6 => ?_) fun _ _ z => z))))))
      refine wpAny_bind (wpAny_runOwn ?_)
      rw [Around.mark_none]
      refine codeAny_mono q6 fun r s7 q7 => ?_
      cases r with
      | error e => exact q7.elim
      | ok f =>
        first
          | exact wpAny_pure ⟨rfl, q7⟩
          | exact wpAny_bind (wpAny_pure (wpAny_pure ⟨rfl, q7⟩))
theorem loop_b (J : Nat → Shared → Prop)
    (turn : ∀ n s, J n s → wpAny (model P W) A (pyNext w) (fun r s1 => match r with
      | none => R (.ok .next) s1
      | some got => Hd P W A en R tb cb w (fun ok s4 => if ok = true then wpAny (model P W) A (eval kx en) (fun key s5 => wpAny (model P W) A (eval vx en) (fun val s6 =>
            wpAny (model P W) A (dictSet D key val) (fun _ s7 => ∃ m, m < n ∧ J m s7) (Fl P W A en R) s6) (Fl P W A en R) s5) (Fl P W A en R) s4
          else ∃ m, m < n ∧ J m s4) got s1) (Fl P W A en R) s) (n : Nat) (h : J n s) :
    codeAny (model P W) A (.compLoop (DC kx vx ta ia tb ib ca cb sc ps) 1 w (.ref D) en) R s := by
  refine codeAny_loop rfl J (fun n s j => ?_) n h
  show wpAny _ A ((compTurn (DC kx vx ta ia tb ib ca cb sc ps) 1 w (.ref D) en).onRaise (fun e => do noteFrame e en; theTreesLotGoes e)) _ _ s
  refine wpAny_noted ?_
  rw [turn_b]
  refine wpAny_bind (wpAny_standAt (wpAny_bind (wpAny_mono (turn n s j) (fun r s1 q1 => ?_) fun _ _ z => z)))
  cases r with
  | none => exact wpAny_pure q1
  | some got =>
    refine wpAny_bind (wpAny_mono q1 (fun _ s2 q2 => wpAny_bind (wpAny_mono q2 (fun _ s3 q3 => wpAny_bind (wpAny_mono q3 (fun ok s4 q4 => ?_) fun _ _ z => z)) fun _ _ z => z)) fun _ _ z => z)
    cases ok with
    | false => exact wpAny_pure ⟨rfl, q4⟩
    | true => exact wpAny_bind (wpAny_bind (wpAny_mono q4 (fun key s5 q5 => wpAny_bind (wpAny_holding (wpAny_mono q5 (fun val s6 q6 => wpAny_bind (wpAny_standAt (wpAny_holding (wpAny_mono q6 (fun _ s7 q7 => wpAny_pure ⟨rfl, q7⟩) fun _ _ z => z)))) fun _ _ z => z))) fun _ _ z => z))
theorem start_b (h0 : codeAny (model P W) A (.compLoop (DC kx vx ta ia tb ib ca cb sc ps) 1 w d en) R s)
    (h : wpAny (model P W) A (pyIter w) (fun w2 s2 => codeAny (model P W) A (.compLoop (DC kx vx ta ia tb ib ca cb sc ps) 1 w2 d en) R s2) (Fl P W A en R) s) :
    codeAny (model P W) A (.compStart (DC kx vx ta ia tb ib ca cb sc ps) 1 w d en) R s := by
  refine codeAny_of_tree ?_
  show wpAny _ _ ((compStart (DC kx vx ta ia tb ib ca cb sc ps) 1 w d en).onRaise (fun e => do noteFrame e en; standAt theWindowsPlace)) _ _ s
  refine wpAny_notedAt ?_
  unfold compStart
  show wpAny _ _ (ask >>= _) _ _ s
  refine wpAny_bind (wpAny_askSetting (wpAny_ite ?_))
  split
  · first
      | exact wpAny_bind (wpAny_pure (wpAny_pure ⟨rfl, h0⟩))
      | exact wpAny_pure ⟨rfl, h0⟩
  · refine wpAny_bind (wpAny_rule ?_)
    show wpAny _ _ (standAt ib.pos >>= _) _ _ s
    exact wpAny_bind (wpAny_standAt (wpAny_bind (wpAny_mono h (fun w2 s2 z => wpAny_pure ⟨rfl, z⟩) fun _ _ z => z)))
end
/-! ### the reading -/
section
variable {X : Cx}
/-- for one thing of the first clause: the second clause's own walk, behind which Nx holds -/
abbrev Inn (wb : TI) (gb : TG) (tb : TT) (tk tv : TE) (vb : List Nat) (D : Addr) (σ : L2.St) (H : Hp) (Nx : Hp → Prop) : Prop := wb σ H fun J H4 => ∃ U : Nat → Nat → Hp → Prop, (∃ m, U 0 m H4) ∧ ∀ j k G, U j k G →
  (J.stop j G ∧ Nx G) ∨ (J.go j G ∧ ∃ Ny : Hp → Prop, (∀ G2, Ny G2 → ∃ k2, k2 < k ∧ U (j + 1) k2 G2) ∧ ∀ x G2, J.yld j G x G2 → gb x (wipe σ vb) G2 fun σ3 H5 => wipe σ3 vb = wipe σ vb ∧ tb σ3 H5 fun b H6 =>
    if b = true then tk σ3 H6 fun y H7 => tv σ3 H7 fun z H8 => ∃ kvs k, y = kV k ∧ H8 D = some (.dK kvs) ∧ kvs.length < sizeLine ∧ Ny (upd H8 D (.dK (putK kvs k z))) else Ny H6)
abbrev Outr (ga : TG) (ta : TT) (wb : TI) (gb : TG) (tb : TT) (tk tv : TE) (va vb : List Nat) (D : Addr) (σ : L2.St) (H1 : Hp) (Q : VK) (J : It) : Prop := ∃ U : Nat → Nat → Hp → Prop, (∃ m, U 0 m (upd H1 D (.dK []))) ∧ ∀ i m H, U i m H →
  (J.stop i H ∧ Q (.ref D) H) ∨ (J.go i H ∧ ∃ Nx : Hp → Prop, (∀ H2, Nx H2 → ∃ m2, m2 < m ∧ U (i + 1) m2 H2) ∧ ∀ x H2, J.yld i H x H2 → ga x (wipe σ va) H2 fun σ2 H3 => wipe σ2 va = wipe σ va ∧ ta σ2 H3 fun b H4 =>
    if b = true then Inn wb gb tb tk tv vb D σ2 H4 Nx else Nx H4)
/-- va: the names of the whole, vb: those of the second clause's target -/
def tDc2 (wa : TI) (ga : TG) (ta : TT) (wb : TI) (gb : TG) (tb : TT) (tk tv : TE) (va vb : List Nat) : TE := fun σ H Q => wa σ H fun J H1 => ∀ D, H1 D = none → Outr ga ta wb gb tb tk tv va vb D σ H1 Q J
abbrev Blk (X : Cx) (sc : Scope) (p : Cx → Prop) : Prop := ∀ (s : Shared) (H : Hp) (C : Addr) (cl : List (Str × Addr)) (fp : List Addr), p (X.blk s H sc (compEnvC sc cl C X.env) fp)
theorem core {pins : List (Addr × Obj)} {s : Shared} {σ : L2.St} {H : Hp} {Q : VK} {kx vx ea ia eb ib : Expr} {ca cb : List Expr} {sc : Scope} {own : List (Str × Nat)} {vb : List Nat} {ps ps2 : Pos} {wa wb : TI} {ga gb : TG} {ta tb : TT} {tk tv : TE} {use : Option (Value → Sem Unit)} {Qf : Value → Shared → Prop}
    (hc : X.calm = true) (hN : X.N.Nodup) (I : Inv X pins σ H s) (hi : PI X ea ia wa) (ok : BlkOk X.N X.env.scope sc own) (hv : ∀ i ∈ vb, i ∈ own.map (·.2)) (hga : Blk X sc fun B => PG B ea ga) (hta : Blk X sc fun B => PTs B ca ta)
    (hib : Blk X sc fun B => PI B eb ib wb) (hgb : Blk X sc fun B => PG B eb gb) (htb : Blk X sc fun B => PTs B cb tb) (hk : Blk X sc fun B => PE B kx tk) (he : Blk X sc fun B => PE B vx tv) (hs : ∀ x, foldedSetIterable ia X.env x = pure x) (hs2 : ∀ en x, foldedSetIterable ib en x = pure x)
    (h : tDc2 wa ga ta wb gb tb tk tv (own.map (·.2)) vb σ H Q)
    (fin : ∀ D C s2 m H2, Inv X pins σ H2 s2 → Q (.ref D) H2 → s2.heap.Ns C m → FpOk X pins H2 C → compPost (model X.prog X.w) X.A X.xe use Qf (.ref D) C (.ok .next) s2) :
    wpAny (model X.prog X.w) X.A (comprehension (DC kx vx ea ia eb ib ca cb sc ps) sc X.env ps2 newDict false (eval ia X.env) use) Qf X.xe s := by
  have fr : ∀ y ∈ sc.names, y.2 = .free → ∃ c, X.env.cells.lookup y.1 = some c := fun y hy e => by
    rcases ok.free y hy e with z | z
    · exact I.ok.has _ (.inl z)
    · exact I.ok.has _ (.inr z)
  refine wpAny_comprehension_free (use := use) rfl hs (closure_ok fr) ok.kind (fun y hy e => by rw [ok.uniq y hy, e]) (thn (hi.run pins s σ H _ I h) fun xv s1 q1 => thn q1 fun iv s2 q2 => ?_)
  obtain ⟨it, fp, tn, J, H2, rfl, I2, T, st2, f2, q⟩ := q2
  refine wpAny_newObj_type (newEnv_comp ?_)
  have nD : H2 s2.heap.objs.size = none := I2.hok.fresh (Nat.le_refl _)
  obtain ⟨U, ⟨m0, u0⟩, turn⟩ := q _ nD
  have I3 : Inv X pins σ (upd H2 s2.heap.objs.size (.dK [])) { s2 with heap := s2.heap.push { cls := .type "dict", data := .dict #[] } } :=
    I2.laid (t' := s2.toks) (fun b o e => Heap.get?_push_of_some _ e) (Nat.le_refl _) (dk_empty s2.heap I2.big)
  have z3 : (s2.heap.push ({ cls := .type "dict", data := .dict #[] } : Obj)).objs.size = s2.heap.objs.size + 1 := Heap.size_push _ _
  have k3 : ∀ b o, s2.heap.get? b = some o → (s2.heap.push ({ cls := .type "dict", data := .dict #[] } : Obj)).get? b = some o := fun b o e => Heap.get?_push_of_some _ e
  generalize hD : s2.heap.objs.size = D at nD turn u0 I3 z3 ⊢
  generalize hs3 : ({ s2 with heap := s2.heap.push { cls := .type "dict", data := .dict #[] } } : Shared) = s3 at I3 ⊢
  have e3 : s3.heap = s2.heap.push { cls := .type "dict", data := .dict #[] } := by rw [← hs3]
  have f3 : ∀ b ∈ fp, FpOk X pins (upd H2 D (.dK [])) b ∧ b < s3.heap.objs.size := fun b hb => by
    obtain ⟨o, eo, _⟩ := T.obj _ _ st2 b hb
    have lt : b < D := hD ▸ Heap.lt_size eo
    refine ⟨⟨?_, (f2 b hb).2⟩, by rw [e3, z3]; exact Nat.lt_succ_of_lt lt⟩
    rw [upd_ne (Nat.ne_of_lt lt)]
    exact (f2 b hb).1
  have st3 : tn 0 s3.heap := T.keep _ _ _ st2 fun b _ o e => by
    rw [e3]
    exact k3 b o e
  have I4 := block_start I3 ok hN f3
  have pga := hga s3 (upd H2 D (.dK [])) s3.heap.objs.size (cellsFrom (s3.heap.objs.size + 1) sc.names (cloFrom X.env.cells sc.names [])) fp
  have pta := hta s3 (upd H2 D (.dK [])) s3.heap.objs.size (cellsFrom (s3.heap.objs.size + 1) sc.names (cloFrom X.env.cells sc.names [])) fp
  have pib := hib s3 (upd H2 D (.dK [])) s3.heap.objs.size (cellsFrom (s3.heap.objs.size + 1) sc.names (cloFrom X.env.cells sc.names [])) fp
  have pgb := hgb s3 (upd H2 D (.dK [])) s3.heap.objs.size (cellsFrom (s3.heap.objs.size + 1) sc.names (cloFrom X.env.cells sc.names [])) fp
  have ptb := htb s3 (upd H2 D (.dK [])) s3.heap.objs.size (cellsFrom (s3.heap.objs.size + 1) sc.names (cloFrom X.env.cells sc.names [])) fp
  have pk := hk s3 (upd H2 D (.dK [])) s3.heap.objs.size (cellsFrom (s3.heap.objs.size + 1) sc.names (cloFrom X.env.cells sc.names [])) fp
  have pe := he s3 (upd H2 D (.dK [])) s3.heap.objs.size (cellsFrom (s3.heap.objs.size + 1) sc.names (cloFrom X.env.cells sc.names [])) fp
  show codeAny _ _ (.compStart (DC kx vx ea ia eb ib ca cb sc ps) 0 (.ref it) (.ref D) (compEnvC sc (cellsFrom (s3.heap.objs.size + 1) sc.names (cloFrom X.env.cells sc.names [])) s3.heap.objs.size X.env))
    (compPost (model X.prog X.w) X.A X.xe use Qf (.ref D) s3.heap.objs.size) { s3 with heap := pushCells (s3.heap.push { cls := .type "dict", data := .dict #[] }) sc.names }
  generalize hce : compEnvC sc (cellsFrom (s3.heap.objs.size + 1) sc.names (cloFrom X.env.cells sc.names [])) s3.heap.objs.size X.env = ce at I4 pga pta pib pgb ptb pk pe ⊢
  have cL : ce.locals = s3.heap.objs.size := by rw [← hce]; rfl
  have nfp : ∀ b ∈ fp, (upd H2 D (.dK [])) b = none := fun b hb => (f3 b hb).1.1
  generalize upd H2 D (.dK []) = H3 at I3 I4 pga pta pib pgb ptb pk pe u0 nfp f3
  generalize hs4 : ({ s3 with heap := pushCells (s3.heap.push { cls := .type "dict", data := .dict #[] }) sc.names } : Shared) = s4 at I4 ⊢
  have st4 : tn 0 s4.heap := T.keep _ _ _ st3 fun b _ o e => by
    rw [← hs4]
    exact pushCells_keeps _ _ _ _ (Heap.get?_push_of_some _ e)
  have at_ : ∀ {σ2 : L2.St} {Hx : Hp} {sx : Shared}, Inv (X.blk s3 H3 sc ce fp) [] σ2 Hx sx → (∀ b ∈ fp, Hx b = none) → ∀ b ∈ fp, FpOk (X.blk s3 H3 sc ce fp) [] Hx b := fun {σ2 Hx sx} Ix nx b hb =>
    ⟨nx b hb, (Ix.ok.exf b hb).1, Ix.ok.exfs b hb, .inl hb, fun x c e => (Ix.ok.exf b hb).2 x c e, fun p hp => nomatch (show p ∈ ([] : List (Addr × Obj)) from hp)⟩
  refine codeAny_compStart_dict ?lp (T.self X.A 0 _ _ _ st4 ?lp)
  refine loop_a (hs2 ce) (fun n sx => ∃ i Hx, Inv (X.blk s3 H3 sc ce fp) [] (wipe σ (own.map (·.2))) Hx sx ∧ tn i sx.heap ∧ (∀ b ∈ fp, Hx b = none) ∧ U i n Hx) ?_ m0 ⟨0, H3, I4, st4, nfp, u0⟩
  rintro n s5 ⟨i, H5, I5, st5, n5, u5⟩
  rcases turn i n H5 u5 with ⟨stop, done⟩ | ⟨go, Nx, hNx, step⟩
  · refine thnF (T.done (X.blk s3 H3 sc ce fp) rfl rfl rfl hc i [] s5 _ H5 (fun _ _ => False) I5 (at_ I5 n5) st5 stop) fun r s6 ⟨er, I6⟩ => ?_
    subst er
    have I7 : Inv X pins σ H5 s6 := I3.call' (ch := fp) I6.os I6.base I6.hok I6.bare fun b hb => ⟨(f3 b hb).1.2.2.2.1, (f3 b hb).1.2.1, (f3 b hb).1.2.2.2.2.1, (f3 b hb).1.2.2.2.2.2⟩
    have nC : H5 s3.heap.objs.size = none := cL ▸ (show H5 ce.locals = none from I6.free)
    obtain ⟨m, hm, _⟩ := I6.loc
    exact fin D s3.heap.objs.size s6 m H5 I7 done (cL ▸ (show s6.heap.Ns ce.locals m from hm)) (I3.fpOk (Nat.le_refl _) nC)
  · refine thnF (T.item (X.blk s3 H3 sc ce fp) rfl rfl rfl hc i [] s5 _ H5 (fun _ _ => False) I5 (at_ I5 n5) st5 go) fun r s6 ⟨u, er, h6⟩ => ?_
    subst er
    refine thnF h6 fun _ s7 ⟨x, H7, I7, r7, y7, st7, n7⟩ => ?_
    refine thnF (pga.run _ s7 _ H7 x u _ (I7.pinned (at_ I7 n7) (T.obj _ _ st7)) r7 (step x H7 y7)) fun _ s8 ⟨σ8, H8, I8, w8, q8⟩ => ?_
    refine thnF (pta.run _ s8 σ8 H8 _ I8 q8) fun b s9 ⟨H9, I9, q9⟩ => ?_
    have back : ∀ {σx : L2.St} {sx : Shared} {Hx : Hp}, Inv (X.blk s3 H3 sc ce fp) ([] ++ pinsAt fp s7.heap) σx Hx sx → (wipe σ (own.map (·.2))).length = σx.length → (∀ (j : Nat) v, (wipe σ (own.map (·.2)))[j]? = some (some v) → σx[j]? = some (some v)) → Nx Hx →
        ∃ m, m < n ∧ ∃ i Hx, Inv (X.blk s3 H3 sc ce fp) [] (wipe σ (own.map (·.2))) Hx sx ∧ tn i sx.heap ∧ (∀ b ∈ fp, Hx b = none) ∧ U i m Hx := fun {σx sx Hx} Ix hl hw nx => by
      obtain ⟨m2, lt2, u2⟩ := hNx Hx nx
      have pin : ∀ b ∈ fp, ∀ o, s7.heap.get? b = some o → sx.heap.get? b = some o ∧ Hx b = none := fun b hb o e =>
        ⟨(Ix.pin (b, o) (List.mem_append_right _ (List.mem_append_right _ (mem_pinsAt hb e)))).1, (Ix.pin (b, o) (List.mem_append_right _ (List.mem_append_right _ (mem_pinsAt hb e)))).2.1⟩
      refine ⟨m2, lt2, i + 1, Hx, (Ix.unpinned (pins := [])).weak hl hw, T.keep _ _ _ st7 fun b hb o e => (pin b hb o e).1, fun b hb => ?_, u2⟩
      obtain ⟨o, e, _⟩ := T.obj _ _ st7 b hb
      exact (pin b hb o e).2
    have l8 : (wipe σ (own.map (·.2))).length = σ8.length := by rw [← w8, wipe_length]
    have v8 : ∀ (j : Nat) v, (wipe σ (own.map (·.2)))[j]? = some (some v) → σ8[j]? = some (some v) := fun j v e => (wipe_some (w8.symm ▸ e)).1
    have v9 : ∀ (j : Nat) v, (wipe σ (own.map (·.2)))[j]? = some (some v) → (wipe σ8 vb)[j]? = some (some v) := fun j v e => by
      obtain ⟨e1, e2⟩ := wipe_some (w8.symm ▸ e)
      rw [wipe_out fun z => e2 (hv j z)]
      exact e1
    cases b with
    | false =>
      rw [if_neg (by decide)] at q9 ⊢
      exact back I9 l8 v8 q9
    | true =>
      rw [if_pos rfl] at q9 ⊢
      refine thnF (pib.run _ s9 σ8 H9 _ I9 q9) fun xv s10 hx => thnF hx fun iv s11 h11 => ?_
      obtain ⟨it2, fp2, tn2, J2, H11, rfl, I11, T2, st11, f11, U2, ⟨m1, u1⟩, turn2⟩ := h11
      have at2 : ∀ {Hx : Hp}, (∀ b ∈ fp2, Hx b = none) → ∀ b ∈ fp2, FpOk (X.blk s3 H3 sc ce fp) ([] ++ pinsAt fp s7.heap) Hx b := fun nx b hb => ⟨nx b hb, (f11 b hb).2⟩
      have inner : codeAny (model X.prog X.w) X.A (.compLoop (DC kx vx ea ia eb ib ca cb sc ps) 1 (.ref it2) (.ref D) ce) (fun r sx => match r with
          | .ok _ => ∃ m, m < n ∧ ∃ i Hx, Inv (X.blk s3 H3 sc ce fp) [] (wipe σ (own.map (·.2))) Hx sx ∧ tn i sx.heap ∧ (∀ b ∈ fp, Hx b = none) ∧ U i m Hx
          | .error _ => False) s11 := by
        refine loop_b (fun k sx => ∃ j Hx, Inv (X.blk s3 H3 sc ce fp) ([] ++ pinsAt fp s7.heap) (wipe σ8 vb) Hx sx ∧ tn2 j sx.heap ∧ (∀ b ∈ fp2, Hx b = none) ∧ U2 j k Hx) ?_ m1 ⟨0, H11, I11.weak (wipe_length _ _) (fun j v e => (wipe_some e).1), st11, fun b hb => (f11 b hb).1, u1⟩
        rintro k s12 ⟨j, H12, I12, st12, n12, u12⟩
        rcases turn2 j k H12 u12 with ⟨stop2, nx2⟩ | ⟨go2, Ny, hNy, step2⟩
        · refine thnF (T2.done (X.blk s3 H3 sc ce fp) rfl rfl rfl hc j _ s12 (wipe σ8 vb) H12 (fun _ _ => False) I12 (at2 n12) st12 stop2) fun r s13 ⟨er, I13⟩ => ?_
          subst er
          exact back I13 (l8.trans (wipe_length σ8 vb).symm) v9 nx2
        · refine thnF (T2.item (X.blk s3 H3 sc ce fp) rfl rfl rfl hc j _ s12 (wipe σ8 vb) H12 (fun _ _ => False) I12 (at2 n12) st12 go2) fun r s13 ⟨u2, er, h13⟩ => ?_
          subst er
          refine thnF h13 fun _ s14 ⟨x2, H14, I14, r14, y14, st14, n14⟩ => ?_
          refine thnF (pgb.run _ s14 (wipe σ8 vb) H14 x2 u2 _ (I14.pinned (at2 n14) (T2.obj _ _ st14)) r14 (step2 x2 H14 y14)) fun _ s15 ⟨σ15, H15, I15, w15, q15⟩ => ?_
          refine thnF (ptb.run _ s15 σ15 H15 _ I15 q15) fun b2 s16 ⟨H16, I16, q16⟩ => ?_
          have back2 : ∀ {sx : Shared} {Hx : Hp}, Inv (X.blk s3 H3 sc ce fp) (([] ++ pinsAt fp s7.heap) ++ pinsAt fp2 s14.heap) σ15 Hx sx → Ny Hx → ∃ m, m < k ∧ ∃ j Hx, Inv (X.blk s3 H3 sc ce fp) ([] ++ pinsAt fp s7.heap) (wipe σ8 vb) Hx sx ∧ tn2 j sx.heap ∧ (∀ b ∈ fp2, Hx b = none) ∧ U2 j m Hx := fun {sx Hx} Ix nx => by
            obtain ⟨m3, lt3, u3⟩ := hNy Hx nx
            have pin : ∀ b ∈ fp2, ∀ o, s14.heap.get? b = some o → sx.heap.get? b = some o ∧ Hx b = none := fun b hb o e =>
              ⟨(Ix.pin (b, o) (List.mem_append_right _ (List.mem_append_right _ (mem_pinsAt hb e)))).1, (Ix.pin (b, o) (List.mem_append_right _ (List.mem_append_right _ (mem_pinsAt hb e)))).2.1⟩
            refine ⟨m3, lt3, j + 1, Hx, Ix.unpinned.weak (by rw [← w15, wipe_length]) (fun j v e => (wipe_some (w15.symm ▸ e)).1), T2.keep _ _ _ st14 fun b hb o e => (pin b hb o e).1, fun b hb => ?_, u3⟩
            obtain ⟨o, e, _⟩ := T2.obj _ _ st14 b hb
            exact (pin b hb o e).2
          cases b2 with
          | false =>
            rw [if_neg (by decide)] at q16 ⊢
            exact back2 I16 q16
          | true =>
            rw [if_pos rfl] at q16 ⊢
            refine thnF (pk.run _ s16 σ15 H16 _ I16 q16) fun z s17 ⟨yk, H17, I17, r17, q17⟩ => ?_
            refine thnF (pe.run _ s17 σ15 H17 _ I17 q17) fun z2 s18 ⟨yv, H18, I18, r18, kvs, kk, ek, hD18, hz18, nx⟩ => ?_
            subst ek
            exact d_dictSet (X := X.blk s3 H3 sc ce fp) I18 hD18 hz18 r17 r18 fun s19 I19 => back2 I19 nx
      exact start_b inner (T2.self X.A 0 _ _ _ st11 inner)
theorem ps_setDc2 {i : Nat} {y : Str} {py : Pos} {kx vx ea ia eb ib : Expr} {ca cb : List Expr} {sc : Scope} {own : List (Str × Nat)} {vb : List Nat} {ps sp : Pos} {wa wb : TI} {ga gb : TG} {ta tb : TT} {tk tv : TE}
    (hc : X.calm = true) (hN : X.N.Nodup) (hy : X.N[i]? = some y) (hyl : X.env.scope.names.lookup y = some .local) (hsw : swapsWith (DC kx vx ea ia eb ib ca cb sc ps) (some (.Name y py)) sp.line X.env = pure true)
    (hi : PI X ea ia wa) (ok : BlkOk X.N X.env.scope sc own) (hv : ∀ i ∈ vb, i ∈ own.map (·.2)) (hga : Blk X sc fun B => PG B ea ga) (hta : Blk X sc fun B => PTs B ca ta)
    (hib : Blk X sc fun B => PI B eb ib wb) (hgb : Blk X sc fun B => PG B eb gb) (htb : Blk X sc fun B => PTs B cb tb) (hk : Blk X sc fun B => PE B kx tk) (he : Blk X sc fun B => PE B vx tv) (hs : ∀ x, foldedSetIterable ia X.env x = pure x := by intro _; rfl) (hs2 : ∀ en x, foldedSetIterable ib en x = pure x := by intro _ _; rfl) :
    PS X (.Assign [.Name y py] (DC kx vx ea ia eb ib ca cb sc ps) sp) (tAsg (tDc2 wa ga ta wb gb tb tk tv (own.map (·.2)) vb) (gName i)) := by
  refine ⟨fun pins s σ H D I h => ?_⟩
  rw [exec_Assign_Name_used _ _ _ _ hsw]
  refine wpAny_bind (wpAny_standAt (wpAny_bind ?_))
  show wpAny _ X.A (do let _ ← comprehension (DC kx vx ea ia eb ib ca cb sc ps) sc X.env (firstIterPos [⟨ea, ia, ca, 0⟩, ⟨eb, ib, cb, 0⟩] ps) newDict false (eval ia X.env) (some (assign (.Name y py) X.env))) _ _ s
  have h : tDc2 wa ga ta wb gb tb tk tv (own.map (·.2)) vb σ H (fun x H1 => gName i x σ H1 D.nx) := h
  refine wpAny_bind (thn (core (Qf := fun _ s2 => SP X pins D .next s2) hc hN I hi ok hv hga hta hib hgb htb hk he hs hs2 h fun L C s2 m H2 I2 q hn ⟨f0, f1, _, f3, f4, f5⟩ => ?_) fun _ _ hq => wpAny_pure (wpAny_pure hq))
  refine (show wpAny _ _ (assign (.Name y py) X.env (.ref L)) _ _ _ from wpAny_assign_Name (store_ok2 (v := V.ref L) I2 hN hy (.inl hyl) rfl (fun s3 I3 ⟨a, sb, ha⟩ => ⟨m, hn.sameBut sb ?_, fun h3 sb3 => ⟨_, H2, I3.turned (t' := s3.toks) (fun b o hb e => (sb3.2 b hb).trans e) f0 f1 f3 f4 f5, q⟩⟩) (.inr hyl)))
  rcases ha with z | z
  · exact z ▸ f1
  · exact fun e => f4 y a z e.symm
/-- as a value -/
theorem pe_dc2 {kx vx ea ia eb ib : Expr} {ca cb : List Expr} {sc : Scope} {own : List (Str × Nat)} {vb : List Nat} {ps : Pos} {wa wb : TI} {ga gb : TG} {ta tb : TT} {tk tv : TE}
    (hc : X.calm = true) (hN : X.N.Nodup) (hi : PI X ea ia wa) (ok : BlkOk X.N X.env.scope sc own) (hv : ∀ i ∈ vb, i ∈ own.map (·.2)) (hga : Blk X sc fun B => PG B ea ga) (hta : Blk X sc fun B => PTs B ca ta)
    (hib : Blk X sc fun B => PI B eb ib wb) (hgb : Blk X sc fun B => PG B eb gb) (htb : Blk X sc fun B => PTs B cb tb) (hk : Blk X sc fun B => PE B kx tk) (he : Blk X sc fun B => PE B vx tv) (hs : ∀ x, foldedSetIterable ia X.env x = pure x := by intro _; rfl) (hs2 : ∀ en x, foldedSetIterable ib en x = pure x := by intro _ _; rfl) :
    PE X (DC kx vx ea ia eb ib ca cb sc ps) (tDc2 wa ga ta wb gb tb tk tv (own.map (·.2)) vb) := by
  refine ⟨fun pins s σ H Q I h => ?_⟩
  show wpAny _ _ (eval (.DictComp kx vx [⟨ea, ia, ca, 0⟩, ⟨eb, ib, cb, 0⟩] sc ps) X.env) _ _ _
  rw [arm_eval_DictComp]
  refine core hc hN I hi ok hv hga hta hib hgb htb hk he hs hs2 h fun D C s2 m H2 I2 q hn ⟨f0, f1, _, f3, f4, f5⟩ => ⟨m, hn, fun h3 sb => ?_⟩
  exact ⟨.ref D, H2, I2.turned (t' := s2.toks) (fun b o hb e => (sb.2 b hb).trans e) f0 f1 f3 f4 f5, rfl, q⟩
end
/-! ### walks -/
theorem walk_W {J : It} {n : Nat} {G : Hp → Prop} {Y : Nat → Hp → V → Hp → Prop} (w : Walk J n G Y) {H0 : Hp} {Fin : Hp → Prop} {Body : (Hp → Prop) → V → Hp → Prop} (Pv : Nat → Hp → Prop) (h0 : Pv 0 H0) (hG : ∀ i H, i ≤ n → Pv i H → G H)
    (hs : ∀ i x H H2, i < n → Pv i H → Y i H x H2 → Body (Pv (i + 1)) x H2) (hd : ∀ H, Pv n H → Fin H) :
    ∃ U : Nat → Nat → Hp → Prop, (∃ m, U 0 m H0) ∧ ∀ i m H, U i m H → (J.stop i H ∧ Fin H) ∨ (J.go i H ∧ ∃ Nx : Hp → Prop, (∀ H2, Nx H2 → ∃ m2, m2 < m ∧ U (i + 1) m2 H2) ∧ ∀ x H2, J.yld i H x H2 → Body Nx x H2) := by
  refine ⟨fun i m H => m = n - i ∧ i ≤ n ∧ Pv i H, ⟨n, rfl, Nat.zero_le _, h0⟩, ?_⟩
  rintro i m H ⟨rfl, hi, p⟩
  have g := hG i H hi p
  by_cases c : i < n
  · exact .inr ⟨w.goes i H c g, Pv (i + 1), fun H2 p2 => ⟨n - (i + 1), by omega, rfl, c, p2⟩, fun x H2 y => hs i x H H2 c p (w.yields i H x H2 c g y)⟩
  · have e : i = n := by omega
    subst e
    exact .inl ⟨w.stops H g, hd H p⟩
end Dc2
set_option linter.all false
namespace Bf
/-! ### the breadth-first going through -/
section
variable {T L : Type} [DecidableEq T]
/-- a row leads from one to another -/
inductive Led (mv : T → List (L × T)) (s : T) : List L → T → Prop
  | here : Led mv s [] s
  | on {r : List L} {t u : T} {l : L} (h : Led mv s r t) (hm : (l, u) ∈ mv t) : Led mv s (r ++ [l]) u
/-- what is met so far: q; how far it is looked at: i -/
structure Bfs (mv : T → List (L × T)) (fd : T → Bool) (s : T) (q : List (T × List L)) (i : Nat) : Prop where
  nd : (q.map (·.1)).Nodup
  first : q[0]? = some (s, [])
  led : ∀ p ∈ q, Led mv s p.2 p.1
  mono : ∀ (a b : Nat) (x y : T × List L), a ≤ b → q[a]? = some x → q[b]? = some y → x.2.length ≤ y.2.length
  lim : ∀ (a b : Nat) (x y : T × List L), i ≤ a → q[a]? = some x → q[b]? = some y → y.2.length ≤ x.2.length + 1
  done : ∀ (a : Nat) (x : T × List L), a < i → q[a]? = some x → fd x.1 = false ∧ ∀ (l : L) (u : T), (l, u) ∈ mv x.1 → ∃ (b : Nat) (y : T × List L), q[b]? = some y ∧ y.1 = u ∧ y.2.length ≤ x.2.length + 1
  le : i ≤ q.length
  short : ∀ (a : Nat) (x : T × List L), q[a]? = some x → x.2.length ≤ a
theorem Bfs.start {mv : T → List (L × T)} {fd : T → Bool} {s : T} : Bfs mv fd s [(s, [])] 0 := by
  have one : ∀ (b : Nat) (y : T × List L), [(s, ([] : List L))][b]? = some y → y = (s, []) := fun b y e => by
    cases b with
    | zero => exact (Option.some.inj e).symm
    | succ b => cases e
  refine ⟨by simp, rfl, fun p hp => ?_, fun a b x y _ e1 e2 => ?_, fun a b x y _ e1 e2 => ?_, fun a x h => absurd h (Nat.not_lt_zero _), Nat.zero_le _, fun a x e => ?_⟩
  · rw [List.mem_singleton.mp hp]
    exact .here
  · rw [one _ _ e1, one _ _ e2]
    exact Nat.le_refl _
  · rw [one _ _ e1, one _ _ e2]
    exact Nat.zero_le _
  · rw [one _ _ e]
    exact Nat.zero_le _
/-- one more is met, from the one that is looked at -/
theorem Bfs.more {mv : T → List (L × T)} {fd : T → Bool} {s t u : T} {r : List L} {l : L} {q : List (T × List L)} {i : Nat} (B : Bfs mv fd s q i) (ei : q[i]? = some (t, r)) (hm : (l, u) ∈ mv t) (nu : u ∉ q.map (·.1)) : Bfs mv fd s (q ++ [(u, r ++ [l])]) i := by
  have il : i < q.length := (List.getElem?_eq_some_iff.mp ei).1
  have at_ : ∀ (b : Nat) (y : T × List L), (q ++ [(u, r ++ [l])])[b]? = some y → q[b]? = some y ∨ (b = q.length ∧ y = (u, r ++ [l])) := fun b y e => by
    by_cases c : b < q.length
    · rw [List.getElem?_append_left c] at e
      exact .inl e
    · rw [List.getElem?_append_right (by omega)] at e
      by_cases d : b - q.length = 0
      · rw [d] at e
        exact .inr ⟨by omega, (Option.some.inj e).symm⟩
      · rw [List.getElem?_eq_none (by simp; omega)] at e
        cases e
  have keep : ∀ {b : Nat} {y : T × List L}, q[b]? = some y → (q ++ [(u, r ++ [l])])[b]? = some y := fun {b y} e => by
    rw [List.getElem?_append_left (List.getElem?_eq_some_iff.mp e).1]
    exact e
  have len : (r ++ [l]).length = r.length + 1 := by simp
  refine ⟨?_, keep B.first, fun p hp => ?_, fun a b x y ab e1 e2 => ?_, fun a b x y ia e1 e2 => ?_, fun a x h e => ?_, by rw [List.length_append]; have := B.le; omega, fun a x e => ?_⟩
  · rw [List.map_append]
    refine List.nodup_append.mpr ⟨B.nd, by simp, fun a ha b hb e => nu ?_⟩
    have hb : b = u := by simpa using hb
    rw [← hb, ← e]
    exact ha
  · rcases List.mem_append.mp hp with h | h
    · exact B.led p h
    · rw [List.mem_singleton.mp h]
      exact .on (B.led _ (List.mem_of_getElem? ei)) hm
  · rcases at_ _ _ e1 with h1 | ⟨h1, rfl⟩ <;> rcases at_ _ _ e2 with h2 | ⟨h2, rfl⟩
    · exact B.mono a b x y ab h1 h2
    · rw [len]
      exact B.lim i a _ x (Nat.le_refl _) ei h1
    · have := (List.getElem?_eq_some_iff.mp h2).1
      omega
    · exact Nat.le_refl _
  · rcases at_ _ _ e1 with h1 | ⟨h1, rfl⟩ <;> rcases at_ _ _ e2 with h2 | ⟨h2, rfl⟩
    · exact B.lim a b x y ia h1 h2
    · rw [len]
      have := B.mono i a _ x ia ei h1
      exact Nat.succ_le_succ this
    · rw [len]
      exact Nat.le_succ_of_le (B.lim i b _ y (Nat.le_refl _) ei h2)
    · omega
  · rcases at_ _ _ e with h1 | ⟨h1, _⟩
    · obtain ⟨f, d⟩ := B.done a x h h1
      exact ⟨f, fun l' u' hm' => by
        obtain ⟨b, y, e3, e4, e5⟩ := d l' u' hm'
        exact ⟨b, y, keep e3, e4, e5⟩⟩
    · omega
  · rcases at_ _ _ e with h1 | ⟨h1, rfl⟩
    · exact B.short a x h1
    · rw [len, h1]
      have := B.short i _ ei
      exact Nat.succ_le_of_lt (Nat.lt_of_le_of_lt this il)
/-- one is looked at -/
theorem Bfs.next {mv : T → List (L × T)} {fd : T → Bool} {s t : T} {r : List L} {q : List (T × List L)} {i : Nat} (B : Bfs mv fd s q i) (ei : q[i]? = some (t, r)) (hf : fd t = false)
    (all : ∀ (l : L) (u : T), (l, u) ∈ mv t → ∃ (b : Nat) (y : T × List L), q[b]? = some y ∧ y.1 = u ∧ y.2.length ≤ r.length + 1) : Bfs mv fd s q (i + 1) := by
  have il : i < q.length := (List.getElem?_eq_some_iff.mp ei).1
  refine ⟨B.nd, B.first, B.led, B.mono, fun a b x y ia e1 e2 => B.lim a b x y (by omega) e1 e2, fun a x h e => ?_, il, B.short⟩
  by_cases c : a < i
  · exact B.done a x c e
  · have z : a = i := by omega
    subst z
    rw [ei] at e
    cases Option.some.inj e
    exact ⟨hf, all⟩
theorem Bfs.near {mv : T → List (L × T)} {fd : T → Bool} {s : T} {q : List (T × List L)} {i : Nat} (B : Bfs mv fd s q i) {r : List L} {t : T} (h : Led mv s r t) :
    (∃ (b : Nat) (y : T × List L), q[b]? = some y ∧ y.1 = t ∧ y.2.length ≤ r.length) ∨ ∃ (b : Nat) (y : T × List L), i ≤ b ∧ q[b]? = some y ∧ y.2.length ≤ r.length := by
  induction h with
  | here => exact .inl ⟨0, _, B.first, rfl, Nat.zero_le _⟩
  | @on r t u l h hm ih =>
    have len : (r ++ [l]).length = r.length + 1 := by simp
    rcases ih with ⟨b, y, e1, e2, e3⟩ | ⟨b, y, e1, e2, e3⟩
    · by_cases c : b < i
      · subst e2
        obtain ⟨b2, y2, z1, z2, z3⟩ := (B.done b y c e1).2 l u hm
        exact .inl ⟨b2, y2, z1, z2, by omega⟩
      · exact .inr ⟨b, y, by omega, e1, by omega⟩
    · exact .inr ⟨b, y, e1, e2, by omega⟩
theorem Bfs.least {mv : T → List (L × T)} {fd : T → Bool} {s : T} {q : List (T × List L)} {i : Nat} (B : Bfs mv fd s q i) {t : T} {r : List L} (ei : q[i]? = some (t, r)) {r2 : List L} {t2 : T} (h : Led mv s r2 t2) (f2 : fd t2 = true) : r.length ≤ r2.length := by
  rcases B.near h with ⟨b, y, e1, e2, e3⟩ | ⟨b, y, e1, e2, e3⟩
  · by_cases c : b < i
    · have := (B.done b y c e1).1
      rw [e2, f2] at this
      cases this
    · exact Nat.le_trans (B.mono i b _ y (by omega) ei e1) e3
  · exact Nat.le_trans (B.mono i b _ y e1 ei e2) e3
theorem Bfs.never {mv : T → List (L × T)} {fd : T → Bool} {s : T} {q : List (T × List L)} (B : Bfs mv fd s q q.length) {r2 : List L} {t2 : T} (h : Led mv s r2 t2) : fd t2 = false := by
  rcases B.near h with ⟨b, y, e1, e2, e3⟩ | ⟨b, y, e1, e2, e3⟩
  · have := (B.done b y (List.getElem?_eq_some_iff.mp e1).1 e1).1
    rw [e2] at this
    exact this
  · have := (List.getElem?_eq_some_iff.mp e2).1
    omega
end
end Bf
set_option Elab.async false
set_option linter.all false
set_option maxRecDepth 100000
set_option maxHeartbeats 8000000
namespace Dk
open PySem PySem.Spec PyProof.Rows L2 Er LamX NdefX Bf
/-! ### gathered, lots -/
theorem numD_at {ws : List Str} {nu : Str → Nat} {z : Str} (hz : z ∈ ws) : valV (dkv ws (ws.map fun z => V.int ((nu z : Nat) : Int))) (.inr z) = some (.int ((nu z : Nat) : Int)) := by
  rw [dkv_get (by rw [List.length_map]) hz, List.getElem?_map, List.getElem?_eq_getElem (List.idxOf_lt_length_of_mem hz), List.getElem_idxOf]
  rfl
theorem seen_nd {f : Str → Nat} : ∀ ws : List Str, (Lo.seen f ws).Nodup := by
  refine Lo.rev_ind .nil fun ws a ih => ?_
  rw [Lo.seen_snoc]
  by_cases c : f a ∈ Lo.seen f ws
  · rw [if_pos c]
    exact ih
  · rw [if_neg c]
    refine List.nodup_append.mpr ⟨ih, by simp, fun x hx y hy e => c ?_⟩
    rw [← List.mem_singleton.mp hy, ← e]
    exact hx
/-- numbers as keys, each with its list -/
def tbK (ks : List Nat) (at_ : Nat → Addr) : List (Key × V) := ks.map fun k => (.inl ((k : Nat) : Int), .ref (at_ k))
theorem tbK_get {at_ : Nat → Addr} {k : Nat} : ∀ {ks : List Nat}, k ∈ ks → valV (tbK ks at_) (.inl ((k : Nat) : Int)) = some (.ref (at_ k))
  | [], h => nomatch h
  | j :: ks, h => by
    by_cases c : j = k
    · subst c
      exact valV_pos rfl
    · refine (valV_neg (fun e => c ?_)).trans (tbK_get (ks := ks) ?_)
      · have e2 : ((j : Nat) : Int) = k := Sum.inl.inj e
        omega
      · rcases List.mem_cons.mp h with q | q
        · exact absurd q.symm c
        · exact q
theorem tbK_any {at_ : Nat → Addr} {k : Nat} {ks : List Nat} : ((tbK ks at_).any fun kv => decide (kv.1 = (.inl ((k : Nat) : Int) : Key))) = decide (k ∈ ks) := by
  rw [Bool.eq_iff_iff, List.any_eq_true, decide_eq_true_iff]
  constructor
  · rintro ⟨p, hp, e⟩
    obtain ⟨j, hj, rfl⟩ := List.mem_map.mp hp
    have e2 : ((j : Nat) : Int) = k := Sum.inl.inj (of_decide_eq_true e)
    have : j = k := by omega
    exact this ▸ hj
  · exact fun h => ⟨_, List.mem_map.mpr ⟨k, h, rfl⟩, decide_eq_true rfl⟩
theorem tbK_put {at_ : Nat → Addr} {k : Nat} {a : Addr} {ks : List Nat} : putK (tbK ks at_) (.inl ((k : Nat) : Int)) (.ref a) = tbK (if k ∈ ks then ks else ks ++ [k]) (fun j => if j = k then a else at_ j) := by
  unfold putK
  rw [tbK_any]
  by_cases c : k ∈ ks
  · rw [if_pos c, if_pos (decide_eq_true c)]
    unfold tbK
    rw [List.map_map]
    refine List.map_congr_left fun j _ => ?_
    by_cases d : j = k
    · subst d
      show (if (Sum.inl ((j : Nat) : Int) : Key) = .inl ((j : Nat) : Int) then _ else _) = _
      rw [if_pos rfl]
      dsimp only
      rw [if_pos rfl]
    · show (if (Sum.inl ((j : Nat) : Int) : Key) = .inl ((k : Nat) : Int) then _ else _) = _
      rw [if_neg fun e => d (by have e2 : ((j : Nat) : Int) = k := Sum.inl.inj e; omega)]
      dsimp only
      rw [if_neg d]
  · rw [if_neg c, if_neg (by rw [decide_eq_false c]; decide)]
    unfold tbK
    rw [List.map_append]
    congr 1
    · refine List.map_congr_left fun j hj => ?_
      dsimp only
      rw [if_neg fun e : j = k => c (e ▸ hj)]
    · dsimp only [List.map]
      rw [if_pos rfl]
theorem tbK_len {at_ : Nat → Addr} {ks : List Nat} : (tbK ks at_).length = ks.length := List.length_map _
/-- the lots, in the sequence in which they are met -/
def grp (nu : Str → Nat) (ws : List Str) : List (List Str) := (Lo.seen nu ws).map fun k => ws.filter fun z => decide (nu z = k)
/-- the table, filled with some parts -/
structure TbG (H G : Hp) (t : Addr) (ks : List Nat) (at_ : Nat → Addr) (part : Nat → List Str) : Prop where
  tab : G t = some (.dK (tbK ks at_))
  has : ∀ k ∈ ks, G (at_ k) = some (.lst ((part k).map V.str))
  new : ∀ k ∈ ks, H (at_ k) = none
  ne : ∀ k ∈ ks, ∀ j ∈ ks, at_ k = at_ j → k = j
  nt : H t = none
  sm : Sm H G
def spGa (K : PySem.W.Frag) : Sp := fun vs H Q _ => ∃ (n lo : Addr) (ws : List Str) (nu : Str → Nat), vs = [.ref n, .ref lo] ∧ SqT K H n (ws.map V.str) ∧ ws.length ≤ 9 ∧ H lo = some (numO ws nu) ∧
  ∀ (q : Addr) (as : List Addr) G, Sm H G → H q = none → (q :: as).Nodup → G q = some (.lst (as.map V.ref)) → Paired (fun a g => H a = none ∧ G a = some (.lst (g.map V.str))) as (grp nu ws) → Q (.ref q) G
abbrev nGa : List Str := ["nodes", "lots", "table", "node"]
theorem scGa : FnScope nGa ["nodes", "lots"] (defScope (top 18)) := ⟨rfl, rfl, rfl, by decide +kernel, rfl, by decide +kernel, by decide +kernel⟩
section
variable {P : Program} {w : World} {K : PySem.W.Frag} {mg : Str → Option Value} {base : Heap} {f : Addr} {fd : FuncData}
theorem bGa (F : FnP K "gathered" (top 18) f fd) : Binds K fd ["nodes", "lots"] [] := F.bindsN fun _ _ _ _ _ _ us hl => match us, hl with
  | [_, _], _ => rfl
theorem ok_ga (F : FnP K "gathered" (top 18) f fd) (mL : mg "list" = none) : FnOk P w K mg base CX0 1 f fd ["nodes", "lots"] (spGa K) := by
  refine F.ok (CX := CX0) scGa (fun vs H Q E h => ?_) (fun cdv A outer s H vs Q E hr h => ?_)
  · obtain ⟨n, lo, ws, nu, rfl, _⟩ := h
    rfl
  · refine ⟨_, PSs.nox (pss_cons (by exact (ps_setDc (i := 2) (own := [("node", 3)]) (g := gName 3) (tt := tYes) (tk := tDGet (tVar 1) (tVar 3)) (tv := tLst tNil) rfl scGa.nd rfl rfl (sw_dict rfl rfl rfl (by decide +kernel)) (pi_seq (by exact (pv 0)))
        (blkOk_by (N := nGa) (sc := defScope (top 18)) (by decide +kernel)) (fun _ _ _ _ _ => pg_name (i := 3) scGa.nd rfl (Or.inl rfl)) (fun _ _ _ _ _ => pts_nil) (fun _ _ _ _ _ => by exact (pe_dget (hu_of hr) (by exact (pv 1)) (by exact (pv 3)) (fun _ _ => rfl))) (fun _ _ _ _ _ => by exact (pe_lst pa_nil))))
      (pss_cons (ps_for PassesOwn.never rfl (pi_seq (pv 0)) (pg_name (i := 3) scGa.nd rfl (.inl rfl))
        (pss_one (ps_expr (pe_bm PySem.F.plainAttrs_list PySem.F.slot_list_append PySem.F.type_list_append mt_append (by exact (pe_dget (hu_of hr) (pv 2) (by exact (pe_dget (hu_of hr) (pv 1) (pv 3) (fun _ _ => rfl))) (fun _ _ => rfl))) (pa_cons (pv 3) pa_nil)))))
      (pss_one (ps_ret (pe_listVals rfl rfl mL (pv 2)))))), ?_⟩
    obtain ⟨n, lo, ws, nu, rfl, hn, w9, hlo, q⟩ := h
    have sz : ∀ n : Nat, n ≤ 1000 → n ≤ sizeLine := fun n z => by
      rw [sizeLine_eq]
      omega
    have str_of : ∀ {i : Nat} {x : V}, (ws.map V.str)[i]? = some x → ∃ z, ws[i]? = some z ∧ x = .str z := fun {i x} ex => by
      rw [List.getElem?_map] at ex
      cases e : ws[i]? with
      | none =>
        rw [e] at ex
        cases ex
      | some d =>
        rw [e] at ex
        exact ⟨d, rfl, (Option.some.inj ex).symm⟩
    have tk : ∀ {i : Nat} {z : Str}, ws[i]? = some z → ws.take (i + 1) = ws.take i ++ [z] := fun {i z} e => by
      rw [List.take_add_one, e]
      rfl
    have seen9 : ∀ i, (Lo.seen nu (ws.take i)).length ≤ 9 := fun i => by
      have a := Lo.seen_len (f := nu) (ws := ws.take i)
      rw [List.length_take] at a
      omega
    refine ⟨_, rfl, n, ws.map V.str, rfl, .inr ⟨hn, ?_⟩⟩
    refine dc_it (walk_tup (xs := ws.map V.str)) (fun v => rfl) (fun D i G => ∃ at_ : Nat → Addr, TbG H G D (Lo.seen nu (ws.take i)) at_ (fun _ => [])) (fun D nD => ⟨fun _ => 0, ⟨upd_same, (fun k h => nomatch h), (fun k h => nomatch h), (fun k h => nomatch h), nD, Sm.new nD⟩⟩)
      (fun D i G _ ⟨_, p⟩ => SqT.sm hn p.sm) (fun D i x G G' nD hi ⟨at_, p⟩ yy => ?_) (fun D G nD ⟨at_, p⟩ => ?_)
    · obtain ⟨rfl, ex⟩ := yy
      obtain ⟨z, ez, rfl⟩ := str_of ex
      have hz := List.mem_of_getElem? ez
      refine ⟨_, rfl, _, rfl, lo, .int ((nu z : Nat) : Int), rfl, .inl ⟨_, .inr z, .inl (p.sm _ _ hlo), rfl, (numD_at hz).symm⟩, Nat.zero_le _, fun a na => ?_⟩
      have na : G' a = none := na
      have aD : a ≠ D := fun e => by
        rw [e, p.tab] at na
        cases na
      have old : ∀ k ∈ Lo.seen nu (ws.take i), at_ k ≠ a := fun k hk e => by
        rw [← e, p.has k hk] at na
        cases na
      refine ⟨tbK (Lo.seen nu (ws.take i)) at_, .inl ((nu z : Nat) : Int), rfl, by rw [upd_ne (Ne.symm aD)]; exact p.tab, by rw [tbK_len, sizeLine_eq]; have := seen9 i; omega, fun j => if j = nu z then a else at_ j, ?_⟩
      have inn : ∀ k, k ∈ Lo.seen nu (ws.take (i + 1)) → k = nu z ∨ (k ≠ nu z ∧ k ∈ Lo.seen nu (ws.take i)) := fun k hk => by
        by_cases c : k = nu z
        · exact .inl c
        · refine .inr ⟨c, ?_⟩
          rw [tk ez, Lo.seen_snoc] at hk
          by_cases d : nu z ∈ Lo.seen nu (ws.take i)
          · rw [if_pos d] at hk
            exact hk
          · rw [if_neg d] at hk
            rcases List.mem_append.mp hk with q | q
            · exact q
            · exact absurd (List.mem_singleton.mp q) c
      refine ⟨?_, fun k hk => ?_, fun k hk => ?_, fun k hk j hj e => ?_, nD, fun b o e => ?_⟩
      · rw [upd_same, tbK_put, tk ez, Lo.seen_snoc]
      · rcases inn k hk with rfl | ⟨c, h⟩
        · rw [if_pos rfl, upd_ne aD, upd_same]
          rfl
        · rw [if_neg c, upd_ne (ne_of (p.has k h) p.tab (fun z => nomatch z)), upd_ne (old k h)]
          exact p.has k h
      · rcases inn k hk with rfl | ⟨c, h⟩
        · rw [if_pos rfl]
          exact none_of_sm p.sm na
        · rw [if_neg c]
          exact p.new k h
      · rcases inn k hk with rfl | ⟨c, h⟩ <;> rcases inn j hj with rfl | ⟨d, g⟩
        · rfl
        · rw [if_pos rfl, if_neg d] at e
          exact absurd e.symm (old j g)
        · rw [if_neg c, if_pos rfl] at e
          exact absurd e (old k h)
        · rw [if_neg c, if_neg d] at e
          exact p.ne k h j g e
      · rw [upd_ne (ne_of_none e nD), upd_ne (ne_of_none (p.sm _ _ e) na)]
        exact p.sm _ _ e
    · rw [List.length_map, List.take_length] at p
      -- each one to its lot
      refine ⟨_, rfl, n, ws.map V.str, rfl, .inr ⟨SqT.sm hn p.sm, ?_⟩⟩
      refine for_it walk_tup (fun i σ G => ∃ v3 : Option V, σ = [some (.ref n), some (.ref lo), some (.ref D), v3] ∧ TbG H G D (Lo.seen nu ws) at_ (fun k => (ws.take i).filter fun z => decide (nu z = k)))
        ⟨none, rfl, p⟩ (fun i σ G _ ⟨_, _, p⟩ => SqT.sm hn p.sm) (fun i v σ G G' hi p yy => ?_) (fun σ G p => ?_)
      · obtain ⟨v3, rfl, p⟩ := p
        obtain ⟨rfl, ex⟩ := yy
        obtain ⟨z, ez, rfl⟩ := str_of ex
        have hz := List.mem_of_getElem? ez
        have hs : nu z ∈ Lo.seen nu ws := Lo.mem_seen.mpr ⟨z, hz, rfl⟩
        have il := (List.getElem?_eq_some_iff.mp ez).1
        refine ⟨_, rfl, _, rfl, _, rfl, lo, .int ((nu z : Nat) : Int), rfl, .inl ⟨_, .inr z, .inl (p.sm _ _ hlo), rfl, (numD_at hz).symm⟩, D, .ref (at_ (nu z)), rfl, .inl ⟨_, .inl ((nu z : Nat) : Int), .inl p.tab, rfl, (tbK_get hs).symm⟩, .inl ⟨rfl, _, .inl (.inl (p.has _ hs))⟩, ?_⟩
        refine ⟨_, rfl, at_ (nu z), _, .str z, rfl, rfl, p.has _ hs, ?_, ?_⟩
        · rw [List.length_map, sizeLine_eq]
          have h1 := List.length_filter_le (fun y => decide (nu y = nu z)) (ws.take i)
          rw [List.length_take] at h1
          omega
        refine ⟨_, rfl, ?_, fun k hk => ?_, p.new, p.ne, p.nt, fun b o e => ?_⟩
        · rw [upd_ne (ne_of p.tab (p.has _ hs) (fun z => nomatch z))]
          exact p.tab
        · rw [tk ez, List.filter_append]
          by_cases c : k = nu z
          · rw [c, upd_same, show [z].filter (fun y => decide (nu y = nu z)) = [z] by simp, List.map_append]
            rfl
          · rw [show [z].filter (fun y => decide (nu y = k)) = [] by simp [Ne.symm c], List.append_nil, upd_ne fun e => c (p.ne k hk _ hs e)]
            exact p.has k hk
        · rw [upd_ne fun e2 => by rw [e2, p.new _ hs] at e; cases e]
          exact p.sm _ _ e
      · obtain ⟨v3, rfl, p⟩ := p
        rw [List.length_map, List.take_length] at p
        refine ⟨_, rfl, D, _, rfl, p.tab, fun qq nqq => ?_⟩
        have e2 : (tbK (Lo.seen nu ws) at_).map (·.2) = ((Lo.seen nu ws).map at_).map V.ref := by
          unfold tbK
          rw [List.map_map, List.map_map]
          rfl
        rw [e2]
        have mq := Sm.new (o := .lst (((Lo.seen nu ws).map at_).map V.ref)) nqq
        refine q qq _ _ (Sm.trans p.sm mq) (none_of_sm p.sm nqq) (List.nodup_cons.mpr ⟨fun h => ?_, ?_⟩) upd_same ?_
        · obtain ⟨k, hk, e⟩ := List.mem_map.mp h
          rw [← e, p.has k hk] at nqq
          cases nqq
        · refine (List.pairwise_map.mpr ?_)
          exact (seen_nd (f := nu) ws).imp_of_mem fun {x y} hx hy h e => h (p.ne x hx y hy e)
        · unfold grp
          refine paired_of (by rw [List.length_map, List.length_map]) fun j a g e1 e3 => ?_
          rw [List.getElem?_map] at e1 e3
          cases ek : (Lo.seen nu ws)[j]? with
          | none =>
            rw [ek] at e1
            cases e1
          | some k =>
            rw [ek] at e1 e3
            have hk := List.mem_of_getElem? ek
            cases Option.some.inj e1
            cases Option.some.inj e3
            exact ⟨p.new k hk, mq _ _ (p.has k hk)⟩
end
end Dk
set_option Elab.async false
set_option linter.all false
set_option maxRecDepth 100000
set_option maxHeartbeats 8000000
namespace Dk
open PySem PySem.Spec PyProof.Rows L2 Er LamX NdefX Bf
/-! ### lots; keeps_together -/
def spLo (K : PySem.W.Frag) (C : Addr) : Sp := fun vs H Q _ => ∃ (x : Addr) (ws ds : List Str) (tb : List (List Str)) (ls : List Str) (m : Nat), vs = [.ref x] ∧ DeskOb K C H x ws ds tb ls ∧ DkIs m ws ds tb ls ∧ m ≤ 9 ∧
  ∀ (q : Addr) (as : List Addr) (nu : Str → Nat) G, Sm H G → H q = none → (q :: as).Nodup → G q = some (.lst (as.map V.ref)) → Paired (fun a g => H a = none ∧ G a = some (.lst (g.map V.str))) as (grp nu ws) → Alk (nxt ws ds tb) (look ws ls) ds ws nu → Q (.ref q) G
abbrev nLo : List Str := ["desk"]
theorem scLo : FnScope nLo ["desk"] (defScope (top 29)) := ⟨rfl, rfl, rfl, by decide +kernel, rfl, by decide +kernel, by decide +kernel⟩
/-- a standing's sight and the numbers of those behind it -/
def sgD (nx : Str → Str → Str) (lk : Str → Str) (ds : List Str) (pl : Str → Nat) (z : Str) : List PyData := .str (lk z) :: ds.map fun d => .int ((pl (nx z d) : Nat) : Int)
def sgV (nx : Str → Str → Str) (lk : Str → Str) (ds : List Str) (pl : Str → Nat) (z : Str) : List V := .str (lk z) :: ds.map fun d => .int ((pl (nx z d) : Nat) : Int)
/-- together: one sight, and each deed leads them into one lot -/
def Tog (nx : Str → Str → Str) (lk : Str → Str) (ds : List Str) (pl : Str → Nat) (z y : Str) : Prop := lk z = lk y ∧ ∀ d ∈ ds, pl (nx z d) = pl (nx y d)
theorem eqv_ints {f g : Str → Nat} : ∀ {ds : List Str}, PyData.eqvAll (ds.map fun d => PyData.int ((f d : Nat) : Int)) (ds.map fun d => PyData.int ((g d : Nat) : Int)) = true ↔ ∀ d ∈ ds, f d = g d
  | [] => by simp [PyData.eqvAll]
  | d :: ds => by
    have ih := eqv_ints (f := f) (g := g) (ds := ds)
    simp only [List.map_cons, PyData.eqvAll, PyData.eqv, Bool.and_eq_true, ih, List.mem_cons, forall_eq_or_imp]
    refine and_congr_left fun _ => ?_
    simp
    omega
theorem eqv_sgD {nx : Str → Str → Str} {lk : Str → Str} {ds : List Str} {pl : Str → Nat} {z y : Str} : PyData.eqv (.list (sgD nx lk ds pl z)) (.list (sgD nx lk ds pl y)) = true ↔ Tog nx lk ds pl z y := by
  unfold sgD Tog
  rw [← eqv_ints (f := fun d => pl (nx z d)) (g := fun d => pl (nx y d))]
  simp only [PyData.eqv, PyData.eqvAll, Bool.and_eq_true]
  simp
theorem lay_ints {f : Str → Nat} : ∀ {ds : List Str}, PyData.canLayAll0 (ds.map fun d => PyData.int ((f d : Nat) : Int)) = true ∧ PyData.depthAll (ds.map fun d => PyData.int ((f d : Nat) : Int)) ≤ 1
  | [] => ⟨by simp [PyData.canLayAll0], by simp [PyData.depthAll]⟩
  | d :: ds => by
    have ih := lay_ints (f := f) (ds := ds)
    exact ⟨by simp [PyData.canLayAll0, PyData.canLay0, ih.1], by simp only [List.map_cons, PyData.depthAll, PyData.depth]; omega⟩
theorem shaped_sgD {nx : Str → Str → Str} {lk : Str → Str} {ds : List Str} {pl : Str → Nat} {z : Str} (h : IsWord (lk z)) : SeqAt.shaped (.list (sgD nx lk ds pl z)) = true := by
  have q := lay_ints (f := fun d => pl (nx z d)) (ds := ds)
  unfold sgD
  refine shaped_of ?_ ?_
  · simp [PyData.canLayAll0, PyData.canLay0, q.1, h.ok]
  · simp only [PyData.depthAll, PyData.depth]
    omega
theorem dp_sg {K : PySem.W.Frag} {G : Hp} {nx : Str → Str → Str} {lk : Str → Str} {ds : List Str} {pl : Str → Nat} {z : Str} : DpAll K G (sgV nx lk ds pl z) (sgD nx lk ds pl z) := by
  refine .cons (.str _) ?_
  have : ∀ l : List Str, DpAll K G (l.map fun d => V.int ((pl (nx z d) : Nat) : Int)) (l.map fun d => PyData.int ((pl (nx z d) : Nat) : Int)) := fun l => by
    induction l with
    | nil => exact .nil
    | cons d l ih => exact .cons (.int _) ih
  exact this ds
theorem look_at0 {ns ls : List Str} {z : Str} (e : ls.length = ns.length) (hz : z ∈ ns) : ls[ns.idxOf z]? = some (look ns ls z) := by
  have il := List.idxOf_lt_length_of_mem hz
  unfold look
  rw [List.getD_eq_getElem?_getD, List.getElem?_eq_getElem (by omega)]
  rfl
theorem pair_snoc {α β : Type} {F : α → β → Prop} {a : α} {b : β} : ∀ {l : List α} {m : List β}, Paired F l m → F a b → Paired F (l ++ [a]) (m ++ [b])
  | _, _, .nil, h => .cons h .nil
  | _, _, .cons f p, h => .cons f (pair_snoc p h)
theorem look_word {ns ls : List Str} {z : Str} (e : ls.length = ns.length) (hz : z ∈ ns) (h : ∀ y ∈ ls, IsWord y) : IsWord (look ns ls z) := h _ (List.mem_of_getElem? (look_at0 e hz))
def spKt (K : PySem.W.Frag) (C : Addr) : Sp := fun vs H Q _ => ∃ (x l po : Addr) (g fl ws ds : List Str) (tb : List (List Str)) (ls : List Str) (pl : Str → Nat) (m : Nat), vs = [.ref x, .ref l, .ref po] ∧ DeskOb K C H x ws ds tb ls ∧ DkIs m ws ds tb ls ∧ m ≤ 9 ∧ H l = some (.lst (g.map V.str)) ∧
  1 ≤ g.length ∧ g.length ≤ 9 ∧ (∀ z ∈ g, z ∈ ws) ∧ H po = some (numO fl pl) ∧ (∀ z ∈ ws, z ∈ fl) ∧
  ∀ (g0 : Str) (b : Bool) G, g[0]? = some g0 → Sm H G → (b = true ↔ ∀ z ∈ g, Tog (nxt ws ds tb) (look ws ls) ds pl z g0) → Q (.bl b) G
abbrev nKt : List Str := ["desk", "lot", "places", "signs", "standing", "deed", "sign"]
theorem scKt : FnScope nKt ["desk", "lot", "places"] (defScope (top 33)) := ⟨rfl, rfl, rfl, by decide +kernel, rfl, by decide +kernel, by decide +kernel⟩
abbrev scKt1 : Scope := { kind := .function, names := [(".0", .local), ("standing", .cell), ("desk", .cell), ("places", .cell)], isGenerator := false, isCoroutine := false }
section
variable {P : Program} {w : World} {K : PySem.W.Frag} {mg : Str → Option Value} {base : Heap} {f C fO fG fL fS pS gS pD gD : Addr} {fd dO dG dL dS dStd dD : FuncData}
theorem bLo (F : FnP K "lots" (top 29) f fd) : Binds K fd nLo [] := F.bindsN fun _ _ _ _ _ _ us hl => match us, hl with
  | [_], _ => rfl
theorem ok_lo (F : FnP K "lots" (top 29) f fd) (hC : Cls K C) (PS_ : PropOf K C "standings" pS gS) (GS : FnOk P w K mg base CX0 1 gS dStd nSelf (spStd C)) (bS : Binds K dStd nSelf [])
    (GO : FnOk P w K mg base CX0 4 fO dO nDo (spLots K C)) (FO : FnP K "desk_lots" (top 30) fO dO) (gO : mg "desk_lots" = some (.ref fO))
    (GG : FnOk P w K mg base CX0 1 fG dG ["nodes", "lots"] (spGa K)) (FG : FnP K "gathered" (top 18) fG dG) (gG : mg "gathered" = some (.ref fG)) : FnOk P w K mg base CX0 5 f fd nLo (spLo K C) := by
  refine F.ok (CX := CX0) scLo (fun vs H Q E h => ?_) (fun cdv A outer s H vs Q E hr h => ?_)
  · obtain ⟨x, ws, ds, tb, ls, m, rfl, _⟩ := h
    rfl
  · have hr2 := hr.mono (show 2 ≤ 4 by decide)
    have hr1 := hr.mono (show 1 ≤ 4 by decide)
    refine ⟨_, PSs.nox (pss_one (ps_ret (by exact (pe_call GG hr1 rfl gG FG.kp (bGa FG) .nil pass0 (pa_cons (by exact (pe_prop (pv 0) hC PS_ GS hr2 bS .nil pass0 rfl)) (pa_cons (by exact (pe_call GO hr rfl gO FO.kp (bDo FO) .nil pass0 (pa_cons (pv 0) pa_nil))) pa_nil)))))), ?_⟩
    obtain ⟨x, ws, ds, tb, ls, m, rfl, ob, is, m9, q⟩ := h
    obtain ⟨dx, st, ld, si, as0, hx, hst, _⟩ := id ob
    refine ⟨_, rfl, x, dx, _, rfl, hx, x, dx, st, ld, si, rfl, hx, _, rfl, x, ws, ds, tb, ls, m, rfl, ob, is, m9, fun lo nu G1 m1 nlo elo alk => ⟨st, lo, ws, nu, rfl, SqT.sm hst m1, Nat.le_trans is.most m9, elo, fun qq as G2 m2 nq nd eq pr => ?_⟩⟩
    exact q qq as nu G2 (Sm.trans m1 m2) (none_of_sm m1 nq) nd eq (pair_mono pr fun a _ g e => ⟨none_of_sm m1 e.1, e.2⟩) alk
theorem bKt (F : FnP K "keeps_together" (top 33) f fd) : Binds K fd ["desk", "lot", "places"] [] := F.bindsN fun _ _ _ _ _ _ us hl => match us, hl with
  | [_, _, _], _ => rfl
theorem ok_kt (F : FnP K "keeps_together" (top 33) f fd) (ma : mg "all" = none) (hC : Cls K C) (PD : PropOf K C "deeds" pD gD) (GD : FnOk P w K mg base CX0 1 gD dD nSelf (spDds K C)) (bD_ : Binds K dD nSelf [])
    (ML : Meth K C "lead" fL) (GL : FnOk P w K mg base CX0 2 fL dL ["self", "standing", "row"] (spLead0 K C)) (FL : FunD K "lead" "Desk.lead" (defArgs (meth 4)) (defBody (meth 4)) (defScope (meth 4)) [] [] fL dL)
    (MS : Meth K C "sight" fS) (GS : FnOk P w K mg base CX0 2 fS dS nSight (spSight0 K C)) (FS : FunD K "sight" "Desk.sight" (defArgs (meth 5)) (defBody (meth 5)) (defScope (meth 5)) [] [] fS dS) : FnOk P w K mg base CX0 3 f fd ["desk", "lot", "places"] (spKt K C) := by
  refine F.ok (CX := CX0) scKt (fun vs H Q E h => ?_) (fun cdv A outer s H vs Q E hr h => ?_)
  · obtain ⟨x, l, po, g, fl, ws, ds, tb, ls, pl, m, rfl, _⟩ := h
    rfl
  · refine ⟨_, PSs.nox (pss_cons (ps_set (i := 3) scKt.nd rfl (.inr rfl) (by exact (pe_lc (own := [("standing", 4)]) (g := gName 4) (tt := tYes)
        (te := tOp rCat (tLst (tCons (tMeth C "sight" (spSight0 K C) [] E0 (tVar 0) (tCons (tVar 4) tNil)) tNil)) (tLc (iSeq K (tProp C (spDds K C) [] E0 (tVar 0))) (gName 5) tYes (tDGet (tVar 2) (tMeth C "lead" (spLead0 K C) [] E0 (tVar 0) (tCons (tVar 4) (tCons (tLst (tCons (tVar 5) tNil)) tNil)))) [5])) rfl scKt.nd (pi_list (pv 1))
        (blkOk_by (N := nKt) (sc := defScope (top 33)) (by decide +kernel)) (fun _ _ _ _ _ => pg_name (i := 4) scKt.nd rfl (Or.inr rfl)) (fun _ _ _ _ _ => pts_nil)
        (fun _ _ _ _ _ => by exact (pe_op op_cat (by exact (pe_lst (pa_cons (by exact (pe_meth (by exact (pv 0)) hC MS GS hr (bSight FS) .nil pass0 (pa_cons (by exact (pv 4)) pa_nil))) pa_nil)))
          (by exact (pe_lc (own := [("deed", 5)]) (g := gName 5) (tt := tYes) (te := tDGet (tVar 2) (tMeth C "lead" (spLead0 K C) [] E0 (tVar 0) (tCons (tVar 4) (tCons (tLst (tCons (tVar 5) tNil)) tNil)))) rfl scKt.nd (pi_seq (by exact (pe_prop (by exact (pv 0)) hC PD GD hr bD_ .nil pass0 rfl)))
            (blkOk_by (N := nKt) (sc := scKt1) (by decide +kernel)) (fun _ _ _ _ _ => pg_name (i := 5) scKt.nd rfl (Or.inl rfl)) (fun _ _ _ _ _ => pts_nil)
            (fun _ _ _ _ _ => by exact (pe_dget (hu_of hr) (by exact (pv 2)) (by exact (pe_meth (by exact (pv 0)) hC ML GL hr (bLead0 FL) .nil pass0 (pa_cons (by exact (pv 4)) (pa_cons (by exact (pe_lst (pa_cons (by exact (pv 5)) pa_nil))) pa_nil)))) (fun _ _ => rfl)))))))))) 
      (pss_one (ps_ret (by exact (pe_callB (cr_all rfl) rfl ma PyProof.Rows.boot_all (pa_cons (by exact (pe_lc (own := [("sign", 6)]) (g := gName 6) (tt := tYes) (te := tOp (rEqD K) (tVar 6) (tOp (rIxL K) (tVar 3) (tC (.int 0)))) rfl scKt.nd (pi_list (pv 3))
        (blkOk_by (N := nKt) (sc := defScope (top 33)) (by decide +kernel)) (fun _ _ _ _ _ => pg_name (i := 6) scKt.nd rfl (Or.inl rfl)) (fun _ _ _ _ _ => pts_nil) (fun _ _ _ _ _ => by exact (pe_cmpR (op_eqD hr.units) (by exact (pv 6)) (by exact (pe_ix ix_list (by exact (pv 3)) pe_int (fun _ _ => rfl))) (nomark _))))) pa_nil)))))), ?_⟩
    obtain ⟨x, l, po, g, fl, ws, ds, tb, ls, pl, m, rfl, ob, is, m9, hl, g1, gl, gsub, hpo, all, q⟩ := h
    have sz : ∀ n : Nat, n ≤ 1000 → n ≤ sizeLine := fun n z => by
      rw [sizeLine_eq]
      omega
    have d4 := is.dmost
    refine ⟨_, rfl, l, rfl, ⟨_, .inl (.inl hl)⟩, fun D nD => ?_⟩
    refine lc_it (walk_list (xs := g.map V.str)) (fun j G => ∃ as : List Addr, G D = some (.lst (as.map V.ref)) ∧ as.length = j ∧ Paired (fun a z => G a = some (.lst (sgV (nxt ws ds tb) (look ws ls) ds pl z))) as (g.take j) ∧ Sm H G) ⟨[], upd_same, rfl, by rw [List.take_zero]; exact .nil, Sm.new nD⟩
      (fun j G _ ⟨_, _, _, _, mm⟩ => .inl (.inl (mm _ _ hl))) (fun j v G G' hj pp yy => ?_) (fun G pp => ?_)
    · obtain ⟨as, eD, al, pr, mm⟩ := pp
      obtain ⟨rfl, ex⟩ := yy
      obtain ⟨z, ez, rfl⟩ : ∃ z, g[j]? = some z ∧ v = .str z := by
        rw [List.getElem?_map] at ex
        cases e : g[j]? with
        | none =>
          rw [e] at ex
          cases ex
        | some d =>
          rw [e] at ex
          exact ⟨d, rfl, (Option.some.inj ex).symm⟩
      have hz := gsub z (List.mem_of_getElem? ez)
      have ob1 := ob.sm mm
      obtain ⟨dx, st, ld, si, as0, hx, _⟩ := id ob1
      refine ⟨rfl, _, rfl, x, dx, _, rfl, hx, rfl, _, rfl, x, z, look ws ls z, ws, ds, tb, ls, rfl, ob1, is.looks, hz, look_at0 is.looks hz, sz _ (by show 1 ≤ 1000; decide), fun a1 na1 => ?_⟩
      have m1 := Sm.new (o := .lst [V.str (look ws ls z)]) na1
      have e1 : upd G' a1 (.lst [V.str (look ws ls z)]) a1 = some (.lst [V.str (look ws ls z)]) := upd_same
      generalize upd G' a1 (.lst [V.str (look ws ls z)]) = G1 at m1 e1 ⊢
      refine ⟨_, rfl, x, dx, _, rfl, m1 _ _ hx, x, ws, ds, tb, ls, rfl, ob1.sm m1, is.rows, fun dq G2 m2 ndq edq => ⟨dq, ds.map V.str, rfl, .inr ⟨.inl (.inl edq), ?_⟩⟩⟩
      have m02 := Sm.trans mm (Sm.trans m1 m2)
      refine lc_map (walk_tup (xs := ds.map V.str)) (fv := fun i => .int ((pl (nxt ws ds tb z (ds.getD i ⟨#[]⟩)) : Nat) : Int)) (by rw [List.length_map]; omega) (fun G5 m5 => .inl (.inl (m5 _ _ edq))) (fun _ => rfl) (fun i G5 x G6 _ yy => by rw [yy.1]; exact Sm.refl _) (fun i v G5 G6 Q3 hi s5 yy s6 qq => ?_) (fun D2 G5 m5 nD2 eD2 => ?_)
      · obtain ⟨rfl, ex⟩ := yy
        obtain ⟨d, ed, rfl⟩ : ∃ d, ds[i]? = some d ∧ v = .str d := by
          rw [List.getElem?_map] at ex
          cases e : ds[i]? with
          | none =>
            rw [e] at ex
            cases ex
          | some d =>
            rw [e] at ex
            exact ⟨d, rfl, (Option.some.inj ex).symm⟩
        have hd := List.mem_of_getElem? ed
        have m06 := Sm.trans m02 s6
        obtain ⟨dx2, _, _, _, _, hx2, _⟩ := id (ob.sm m06)
        refine ⟨_, rfl, _, rfl, x, dx2, _, rfl, hx2, rfl, _, rfl, _, rfl, sz _ (by show 1 ≤ 1000; decide), fun r nr => ?_⟩
        have m7 := Sm.new (o := .lst [V.str d]) nr
        refine ⟨x, r, z, [d], ws, ds, tb, ls, m, rfl, ((ob.sm m06).sm m7).r, is, .inl (.inl upd_same), by show 1 ≤ 1000; decide, hz, (fun y hy => by rw [List.mem_singleton.mp hy]; exact hd), fun G8 m8 mem => ?_⟩
        have mem : nxt ws ds tb z d ∈ ws := mem
        have z3 := qq G8 (Sm.trans m7 m8)
        rw [List.getD_eq_getElem?_getD, ed] at z3
        refine ⟨po, .int ((pl (nxt ws ds tb z d) : Nat) : Int), rfl, .inl ⟨_, .inr (nxt ws ds tb z d), .inl ((Sm.trans m06 (Sm.trans m7 m8)) _ _ hpo), rfl, (num_at (all _ mem)).symm⟩, z3⟩
      · have range : (List.range (ds.map V.str).length).map (fun i => V.int ((pl (nxt ws ds tb z (ds.getD i ⟨#[]⟩)) : Nat) : Int)) = ds.map fun d => V.int ((pl (nxt ws ds tb z d) : Nat) : Int) := by
          refine List.ext_getElem (by simp) fun i h1 h2 => ?_
          rw [List.length_map, List.length_range, List.length_map] at h1
          simp only [List.getElem_map, List.getElem_range]
          rw [List.getD_eq_getElem?_getD, List.getElem?_eq_getElem h1]
          rfl
        rw [range] at eD2
        refine ⟨a1, D2, _, _, rfl, rfl, m5 _ _ (m2 _ _ e1), eD2, ?_, fun p np => ?_⟩
        · rw [List.length_map, sizeLine_eq]
          show 1 + ds.length ≤ _
          omega
        have m9' := Sm.trans m1 (Sm.trans m2 (Sm.trans m5 (Sm.new (o := .lst ([V.str (look ws ls z)] ++ ds.map fun d => V.int ((pl (nxt ws ds tb z d) : Nat) : Int))) np)))
        have pD : D ≠ p := ne_of_none (m5 _ _ (m2 _ _ (m1 _ _ eD))) np
        refine ⟨as.map V.ref, m9' _ _ eD, by rw [List.length_map, al, sizeLine_eq]; rw [List.length_map] at hj; omega, as ++ [p], ?_, by rw [List.length_append, al]; rfl, ?_, fun b o e => ?_⟩
        · rw [upd_same, List.map_append]
          rfl
        · rw [List.take_add_one, ez]
          refine pair_snoc (pair_mono pr fun a ha y e => ?_) ?_
          · rw [upd_ne fun z => ?_]
            · exact m9' _ _ e
            · rw [z, eD] at e
              cases as with
              | nil => cases ha
              | cons a0 as => exact nomatch (HO.lst.inj (Option.some.inj e))
          · rw [upd_ne (Ne.symm pD), upd_same]
            rfl
        · rw [upd_ne (ne_of_none e nD)]
          exact m9' _ _ (mm _ _ e)
    · obtain ⟨as, eD, al, pr, mm⟩ := pp
      rw [List.length_map] at al
      rw [List.length_map, List.take_length] at pr
      refine ⟨_, rfl, D, rfl, ⟨_, .inl (.inl eD)⟩, ?_⟩
      have e0 : g[0]? = some (g[0]'(by omega)) := List.getElem?_eq_getElem _
      generalize g[0]'(by omega) = g0 at e0
      have as_at : ∀ {i : Nat} {z : Str}, g[i]? = some z → ∃ a, as[i]? = some a ∧ G a = some (.lst (sgV (nxt ws ds tb) (look ws ls) ds pl z)) := fun {i z} e => by
        have il := (List.getElem?_eq_some_iff.mp e).1
        have ea : as[i]? = some (as[i]'(by omega)) := List.getElem?_eq_getElem _
        obtain ⟨z2, e2, h⟩ := pair_at pr ea
        rw [e] at e2
        cases Option.some.inj e2
        exact ⟨_, ea, h⟩
      refine lc_map (walk_list (xs := as.map V.ref)) (fv := fun i => .bl (PyData.eqv (.list (sgD (nxt ws ds tb) (look ws ls) ds pl (g.getD i ⟨#[]⟩))) (.list (sgD (nxt ws ds tb) (look ws ls) ds pl g0)))) (by rw [List.length_map]; omega) (fun G5 m5 => .inl (.inl (m5 _ _ eD))) (fun _ => rfl) (fun i G5 x G6 _ yy => by rw [yy.1]; exact Sm.refl _) (fun i v G5 G6 Q3 hi s5 yy s6 qq => ?_) (fun D2 G5 m5 nD2 eD2 => ?_)
      · obtain ⟨rfl, ex⟩ := yy
        rw [List.length_map] at hi
        have ez : g[i]? = some (g[i]'(by omega)) := List.getElem?_eq_getElem _
        generalize g[i]'(by omega) = z at ez
        obtain ⟨a, ea, ha⟩ := as_at ez
        obtain ⟨a0, ea0, ha0⟩ := as_at e0
        rw [List.getElem?_map, ea] at ex
        cases Option.some.inj ex
        have z3 := qq G6 (Sm.refl _)
        rw [List.getD_eq_getElem?_getD, ez] at z3
        refine ⟨_, rfl, _, rfl, D, _, 0, .ref a0, rfl, rfl, .inl (.inl (s6 _ _ eD)), atI_nat (j := 0) (by rw [List.getElem?_map, ea0]; rfl), .list (sgD (nxt ws ds tb) (look ws ls) ds pl z), .list (sgD (nxt ws ds tb) (look ws ls) ds pl g0), .lst (.inl (.inl (s6 _ _ ha))) dp_sg, .lst (.inl (.inl (s6 _ _ ha0))) dp_sg,
          shaped_sgD (look_word is.looks (gsub z (List.mem_of_getElem? ez)) is.look), shaped_sgD (look_word is.looks (gsub g0 (List.mem_of_getElem? e0)) is.look), z3⟩
      · refine ⟨D2, (List.range as.length).map fun i => PyData.eqv (.list (sgD (nxt ws ds tb) (look ws ls) ds pl (g.getD i ⟨#[]⟩))) (.list (sgD (nxt ws ds tb) (look ws ls) ds pl g0)), rfl, .inl (.inl (by rw [eD2, List.map_map, List.length_map]; rfl)), ?_⟩
        refine q g0 _ G5 e0 (Sm.trans mm m5) ?_
        rw [List.all_eq_true]
        constructor
        · intro h z hz
          obtain ⟨i, hi, ei⟩ := List.mem_iff_getElem.mp hz
          have := h _ (List.mem_map.mpr ⟨i, List.mem_range.mpr (by omega), rfl⟩)
          rw [List.getD_eq_getElem?_getD, List.getElem?_eq_getElem hi, ei] at this
          exact eqv_sgD.mp this
        · intro h b hb
          obtain ⟨i, hi, rfl⟩ := List.mem_map.mp hb
          have hi := List.mem_range.mp hi
          rw [List.getD_eq_getElem?_getD, List.getElem?_eq_getElem (by omega)]
          exact eqv_sgD.mpr (h _ (List.getElem_mem _))
end
end Dk
set_option Elab.async false
set_option linter.all false
set_option maxRecDepth 100000
set_option maxHeartbeats 8000000
namespace Dk
open PySem PySem.Spec PyProof.Rows L2 Er LamX NdefX Bf Dc2
/-! ### is_parting of a list of lists -/
theorem str_atL {ws : List Str} {i : Nat} {x : V} (ex : (ws.map V.str)[i]? = some x) : ∃ z, ws[i]? = some z ∧ x = .str z := by
  rw [List.getElem?_map] at ex
  cases e : ws[i]? with
  | none =>
    rw [e] at ex
    cases ex
  | some d =>
    rw [e] at ex
    exact ⟨d, rfl, (Option.some.inj ex).symm⟩
theorem ref_atL {as : List Addr} {i : Nat} {x : V} (ex : (as.map V.ref)[i]? = some x) : ∃ a, as[i]? = some a ∧ x = .ref a := by
  rw [List.getElem?_map] at ex
  cases e : as[i]? with
  | none =>
    rw [e] at ex
    cases ex
  | some d =>
    rw [e] at ex
    exact ⟨d, rfl, (Option.some.inj ex).symm⟩
/-- some lists hold just the standings -/
structure Ptn (ws : List Str) (Gs : List (List Str)) : Prop where
  few : ws.length ≤ 9
  nd : ws.Nodup
  some : ∀ g ∈ Gs, 1 ≤ g.length
  len : Gs.flatten.length = ws.length
  has : ∀ z ∈ ws, z ∈ Gs.flatten
theorem nodup_of_len {ws fl : List Str} (nd : ws.Nodup) (len : fl.length = ws.length) (has : ∀ z ∈ ws, z ∈ fl) : fl.Nodup := by
  rw [List.nodup_iff_count]
  intro a
  refine Classical.byContradiction fun c => ?_
  have c2 : 2 ≤ fl.count a := by omega
  have ha : a ∈ fl := List.count_pos_iff.mp (by omega)
  have sub : ∀ z ∈ ws, z ∈ fl.erase a := fun z hz => by
    by_cases e : z = a
    · subst e
      refine List.count_pos_iff.mp ?_
      rw [List.count_erase_self]
      omega
    · exact (List.mem_erase_of_ne e).mpr (has z hz)
  have := nodup_le nd sub
  rw [List.length_erase_of_mem ha] at this
  have := List.length_pos_of_mem ha
  omega
theorem sub_of_len {ws fl : List Str} (nd : ws.Nodup) (len : fl.length = ws.length) (has : ∀ z ∈ ws, z ∈ fl) : ∀ z ∈ fl, z ∈ ws := fun z hz => by
  refine Classical.byContradiction fun c => ?_
  have sub : ∀ y ∈ ws, y ∈ fl.erase z := fun y hy => (List.mem_erase_of_ne (fun e : y = z => c (e ▸ hy))).mpr (has y hy)
  have := nodup_le nd sub
  rw [List.length_erase_of_mem hz] at this
  have := List.length_pos_of_mem hz
  omega
theorem Ptn.fnd {ws : List Str} {Gs : List (List Str)} (h : Ptn ws Gs) : Gs.flatten.Nodup := nodup_of_len h.nd h.len h.has
theorem Ptn.sub {ws : List Str} {Gs : List (List Str)} (h : Ptn ws Gs) : ∀ z ∈ Gs.flatten, z ∈ ws := sub_of_len h.nd h.len h.has
theorem len_flat {Gs : List (List Str)} (h : ∀ g ∈ Gs, 1 ≤ g.length) : Gs.length ≤ Gs.flatten.length := by
  induction Gs with
  | nil => exact Nat.zero_le _
  | cons g Gs ih =>
    have := ih fun x hx => h x (List.mem_cons_of_mem _ hx)
    have := h g List.mem_cons_self
    rw [List.flatten_cons, List.length_append, List.length_cons]
    omega
theorem len_in {Gs : List (List Str)} {g : List Str} (h : g ∈ Gs) : g.length ≤ Gs.flatten.length := by
  induction Gs with
  | nil => nomatch h
  | cons x Gs ih =>
    rw [List.flatten_cons, List.length_append]
    rcases List.mem_cons.mp h with q | q
    · rw [q]
      omega
    · have := ih q
      omega
theorem Ptn.many {ws : List Str} {Gs : List (List Str)} (h : Ptn ws Gs) : Gs.length ≤ 9 := by
  have := len_flat h.some
  have := h.len
  have := h.few
  omega
theorem Ptn.each {ws : List Str} {Gs : List (List Str)} (h : Ptn ws Gs) {g : List Str} (hg : g ∈ Gs) : g.length ≤ 9 := by
  have := len_in hg
  have := h.len
  have := h.few
  omega
theorem take_flat {Gs : List (List Str)} {i : Nat} {g : List Str} (e : Gs[i]? = some g) : (Gs.take (i + 1)).flatten = (Gs.take i).flatten ++ g := by
  rw [List.take_add_one, e, List.flatten_append]
  show _ = _
  simp
theorem flat_le {Gs : List (List Str)} {i : Nat} : (Gs.take i).flatten.length ≤ Gs.flatten.length := by
  have e : Gs.flatten = (Gs.take i).flatten ++ (Gs.drop i).flatten := by rw [← List.flatten_append, List.take_append_drop]
  rw [e, List.length_append]
  omega
def spIp (K : PySem.W.Frag) : Sp := fun vs H Q _ => ∃ (st q : Addr) (as : List Addr) (ws : List Str) (Gs : List (List Str)), vs = [.ref st, .ref q] ∧ SqT K H st (ws.map V.str) ∧ H q = some (.lst (as.map V.ref)) ∧ Paired (fun a g => H a = some (.lst (g.map V.str))) as Gs ∧ Ptn ws Gs ∧ ∀ G, Sm H G → Q (.bl true) G
/-- len of a list or a tuple -/
abbrev rLn (K : PySem.W.Frag) : List V → Hp → VK → Prop := fun xs G R => ∃ x n, xs = [x] ∧ LenV K x G n ∧ R (.int n) G
abbrev nIp : List Str := ["standings", "value", "entries", "lot", "entry", "one"]
theorem scIp : FnScope nIp ["standings", "value"] (defScope (top 32)) := ⟨rfl, rfl, rfl, by decide +kernel, rfl, by decide +kernel, by decide +kernel⟩
section
variable {P : Program} {w : World} {K : PySem.W.Frag} {mg : Str → Option Value} {base : Heap} {f : Addr} {fd : FuncData}
theorem bIp (F : FnP K "is_parting" (top 32) f fd) : Binds K fd ["standings", "value"] [] := F.bindsN fun _ _ _ _ _ _ us hl => match us, hl with
  | [_, _], _ => rfl
theorem ok_ip (F : FnP K "is_parting" (top 32) f fd) (mi : mg "isinstance" = none) (mL : mg "list" = none) (ml : mg "len" = none) (ma : mg "all" = none) : FnOk P w K mg base CX0 1 f fd ["standings", "value"] (spIp K) := by
  refine F.ok (CX := CX0) scIp (fun vs H Q E h => ?_) (fun cdv A outer s H vs Q E hr h => ?_)
  · obtain ⟨st, q, as, ws, Gs, rfl, _⟩ := h
    rfl
  · refine ⟨_, PSs.nox (pss_cons (ps_if (pt_not (pt_val (by exact (pe_callB call_isi rfl mi PyProof.Rows.boot_isinstance (pa_cons (pv 1) (pa_cons (pe_bltn (v := .ty "list") rfl mL (by decide +kernel) rfl) pa_nil)))))) (pss_one (ps_ret pe_bl)) pss_nil)
      (pss_cons (ps_if (pt_not (pt_val (by exact (pe_callB (cr_all rfl) rfl ma PyProof.Rows.boot_all (pa_cons (by exact (pe_lc (own := [("lot", 3)]) (g := gName 3) (tt := tYes) (te := tAndV (tCB (rIsi K) (tCons (tVar 3) (tCons (tC (.ty "list")) tNil))) (tOp (rI0 fun i j => .bl (decide (j < i))) (tCB (rLn K) (tCons (tVar 3) tNil)) (tC (.int 0)))) rfl scIp.nd (pi_list (pv 1))
          (blkOk_by (N := nIp) (sc := defScope (top 32)) (by decide +kernel)) (fun _ _ _ _ _ => pg_name (i := 3) scIp.nd rfl (Or.inl rfl)) (fun _ _ _ _ _ => pts_nil)
          (fun _ _ _ _ _ => by exact (pe_and (by exact (pe_callB call_isi rfl mi PyProof.Rows.boot_isinstance (pa_cons (by exact (pv 3)) (pa_cons (pe_bltn (v := .ty "list") rfl mL (by decide +kernel) rfl) pa_nil)))) (pe_one (by exact (pe_cmpR op_gt (by exact (pe_callB call_len rfl ml boot_len (pa_cons (by exact (pv 3)) pa_nil))) pe_int (nomark _))))))) ) pa_nil))))) (pss_one (ps_ret pe_bl)) pss_nil)
      (pss_cons (ps_set (i := 2) scIp.nd rfl (.inr rfl) (by exact (pe_lc2 (own := [("lot", 3), ("entry", 4)]) (vs1 := [4]) (wi1 := iList K (tVar 3)) (g := gName 3) (tt := tYes) (g1 := gName 4) (tt1 := tYes) (te := tVar 4) rfl scIp.nd (pi_list (pv 1)) (blkOk_by (N := nIp) (sc := defScope (top 32)) (by decide +kernel)) (by decide)
          (fun _ _ _ _ _ => pg_name (i := 3) scIp.nd rfl (Or.inl rfl)) (fun _ _ _ _ _ => pts_nil) (fun _ _ _ _ _ => by exact (pi_list (by exact (pv 3)))) (fun _ _ _ _ _ => pg_name (i := 4) scIp.nd rfl (Or.inl rfl)) (fun _ _ _ _ _ => pts_nil) (fun _ _ _ _ _ => by exact (pv 4)))))
      (pss_one (ps_ret (by exact (pe_and (by exact (pe_cmpR op_eq (by exact (pe_callB call_len rfl ml boot_len (pa_cons (pv 2) pa_nil))) (by exact (pe_callB call_len rfl ml boot_len (pa_cons (pv 0) pa_nil))) (nomark _)))
        (pe_one (by exact (pe_callB (cr_all rfl) rfl ma PyProof.Rows.boot_all (pa_cons (by exact (pe_lc (own := [("one", 5)]) (g := gName 5) (tt := tYes) (te := tOp (rIn K false) (tVar 5) (tVar 2)) rfl scIp.nd (pi_seq (pv 0))
          (blkOk_by (N := nIp) (sc := defScope (top 32)) (by decide +kernel)) (fun _ _ _ _ _ => pg_name (i := 5) scIp.nd rfl (Or.inl rfl)) (fun _ _ _ _ _ => pts_nil) (fun _ _ _ _ _ => by exact (pe_cmpR op_in_seq (by exact (pv 5)) (by exact (pv 2)) rfl)))) pa_nil))))))))))), ?_⟩
    obtain ⟨st, q, as, ws, Gs, rfl, hst, hq, pr, pt, fin⟩ := h
    have sz : ∀ n : Nat, n ≤ 1000 → n ≤ sizeLine := fun n z => by
      rw [sizeLine_eq]
      omega
    have gm := pt.many
    have al := paired_len pr
    have w9 := pt.few
    have grp_at : ∀ {i : Nat} {a : Addr}, as[i]? = some a → ∃ g, Gs[i]? = some g ∧ H a = some (.lst (g.map V.str)) := fun e => pair_at pr e
    refine ⟨_, rfl, .ref q, .ty "list", _, _, true, rfl, .ty "list", .base (.lst hq), kit_ty (by decide +kernel), _, rfl, ?_⟩
    refine iteF ⟨_, rfl, q, rfl, ⟨_, .inl (.inl hq)⟩, ?_⟩
    refine lc_map (walk_list (xs := as.map V.ref)) (fv := fun _ => .bl true) (by rw [List.length_map]; omega) (fun G5 m5 => .inl (.inl (m5 _ _ hq))) (fun _ => rfl) (fun i G5 x G6 _ yy => by rw [yy.1]; exact Sm.refl _) (fun i v G5 G6 Q3 hi s5 yy s6 qq => ?_) (fun D1 G1 m1 nD1 eD1 => ?_)
    · obtain ⟨rfl, ex⟩ := yy
      obtain ⟨a, ea, rfl⟩ := ref_atL ex
      obtain ⟨g, eg, ha⟩ := grp_at ea
      have g1 := pt.some g (List.mem_of_getElem? eg)
      have z3 := qq G6 (Sm.refl _)
      refine ⟨_, rfl, .ref a, .ty "list", _, _, true, rfl, .ty "list", .base (.lst (s6 _ _ ha)), kit_ty (by decide +kernel), ?_⟩
      refine ⟨_, rfl, iteT ⟨_, rfl, .ref a, g.length, rfl, .inl ⟨_, .inl (.inl (s6 _ _ ha)), by rw [List.length_map]⟩, _, _, rfl, rfl, ?_⟩⟩
      show Q3 (.bl (decide ((0 : Int) < ((g.length : Nat) : Int)))) G6
      rw [decide_eq_true (show (0 : Int) < ((g.length : Nat) : Int) by omega)]
      exact z3
    · refine ⟨D1, (List.range as.length).map fun _ => true, rfl, .inl (.inl (by rw [eD1, List.map_map, List.length_map]; rfl)), _, rfl, ?_⟩
      rw [show ((List.range as.length).map fun _ => true).all id = true by simp]
      refine iteF ⟨_, rfl, q, rfl, ⟨_, .inl (.inl (m1 _ _ hq))⟩, fun D nD => ?_⟩
      refine walk_W (walk_list (xs := as.map V.ref)) (fun i G => G D = some (.lst ((Gs.take i).flatten.map V.str)) ∧ Sm G1 G) ⟨upd_same, Sm.new nD⟩ (fun i G _ p => .inl (.inl (p.2 _ _ (m1 _ _ hq)))) (fun i v G G' hi p yy => ?_) (fun G p => ?_)
      · obtain ⟨eD, mG⟩ := p
        obtain ⟨rfl, ex⟩ := yy
        obtain ⟨a, ea, rfl⟩ := ref_atL ex
        obtain ⟨g, eg, ha⟩ := grp_at ea
        have m0 := Sm.trans m1 mG
        refine ⟨rfl, ?_⟩
        unfold tYes
        dsimp only
        rw [if_pos rfl]
        refine ⟨_, rfl, a, rfl, ⟨_, .inl (.inl (m0 _ _ ha))⟩, ?_⟩
        refine walk_W (walk_list (xs := g.map V.str)) (fun j G2 => G2 D = some (.lst (((Gs.take i).flatten ++ g.take j).map V.str)) ∧ Sm G1 G2) ⟨by rw [List.take_zero, List.append_nil]; exact eD, mG⟩ (fun j G2 _ p => .inl (.inl (p.2 _ _ (m1 _ _ ha)))) (fun j v G2 G3 hj p yy => ?_) (fun G2 p => ?_)
        · obtain ⟨eD2, mG2⟩ := p
          obtain ⟨rfl, ex⟩ := yy
          obtain ⟨z, ez, rfl⟩ := str_atL ex
          refine ⟨rfl, ?_⟩
          dsimp only
          rw [if_pos rfl]
          refine ⟨_, rfl, _, eD2, ?_, ?_, fun b o e => ?_⟩
          · have h1 := flat_le (Gs := Gs) (i := i)
            have h2 := pt.len
            have h3 := pt.each (List.mem_of_getElem? eg)
            rw [List.length_map, List.length_append, List.length_take, sizeLine_eq]
            omega
          · rw [upd_same, List.take_add_one, ez, ← List.append_assoc, List.map_append (l₁ := (Gs.take i).flatten ++ g.take j)]
            rfl
          · rw [upd_ne (ne_of_none e nD)]
            exact mG2 _ _ e
        · obtain ⟨eD2, mG2⟩ := p
          rw [List.length_map, List.take_length, ← take_flat eg] at eD2
          exact ⟨eD2, mG2⟩
      · obtain ⟨eD, mG⟩ := p
        rw [List.length_map, al, List.take_length] at eD
        have m0 := Sm.trans m1 mG
        refine ⟨_, rfl, .ref D, Gs.flatten.length, rfl, .inl ⟨_, .inl (.inl eD), by rw [List.length_map]⟩, _, rfl, .ref st, ws.length, rfl, .inr ⟨_, SqT.sm hst m0, by rw [List.length_map]⟩, rfl, ?_⟩
        rw [decide_eq_true (show V.int ((Gs.flatten.length : Nat) : Int) = V.int ((ws.length : Nat) : Int) by rw [pt.len])]
        refine ⟨_, rfl, iteT ⟨_, rfl, st, ws.map V.str, rfl, .inr ⟨SqT.sm hst m0, ?_⟩⟩⟩
        refine lc_map (walk_tup (xs := ws.map V.str)) (fv := fun _ => .bl true) (by rw [List.length_map]; omega) (fun G5 m5 => SqT.sm hst (Sm.trans m0 m5)) (fun _ => rfl) (fun i G5 x G6 _ yy => by rw [yy.1]; exact Sm.refl _) (fun i v G5 G6 Q3 hi s5 yy s6 qq => ?_) (fun D2 G5 m5 nD2 eD2 => ?_)
        · obtain ⟨rfl, ex⟩ := yy
          obtain ⟨z, ez, rfl⟩ := str_atL ex
          have z3 := qq G6 (Sm.refl _)
          refine ⟨_, rfl, _, rfl, D, Gs.flatten.map V.str, rfl, .inl (.inl (.inl (s6 _ _ eD))), rfl, flat_strs _, ?_⟩
          rw [if_neg (by decide), in_strs, decide_eq_true (pt.has z (List.mem_of_getElem? ez))]
          exact z3
        · refine ⟨D2, (List.range ws.length).map fun _ => true, rfl, .inl (.inl (by rw [eD2, List.map_map, List.length_map]; rfl)), ?_⟩
          rw [show ((List.range ws.length).map fun _ => true).all id = true by simp]
          exact fin G5 (Sm.trans m0 m5)
end
end Dk
set_option Elab.async false
set_option linter.all false
set_option maxRecDepth 100000
set_option maxHeartbeats 8000000
namespace Dk
open PySem PySem.Spec PyProof.Rows L2 Er LamX NdefX Bf Dc2
/-! ### is_likeness of a list of lists -/
/-- the number of a standing's lot -/
def plc (Gs : List (List Str)) (z : Str) : Nat := Gs.findIdx fun g => decide (z ∈ g)
theorem plc_at {Gs : List (List Str)} (nd : Gs.flatten.Nodup) {i : Nat} {g : List Str} {z : Str} (e : Gs[i]? = some g) (hz : z ∈ g) : plc Gs z = i := by
  have il := (List.getElem?_eq_some_iff.mp e).1
  have eg := (List.getElem?_eq_some_iff.mp e).2
  unfold plc
  refine (List.findIdx_eq il).mpr ⟨by rw [eg]; exact decide_eq_true hz, fun j hj => ?_⟩
  refine decide_eq_false fun h => ?_
  have q := (List.pairwise_flatten.mp nd).2
  have := List.pairwise_iff_getElem.mp q j i (by omega) il hj z h z (by rw [eg]; exact hz)
  exact this rfl
def spIl (K : PySem.W.Frag) (C : Addr) : Sp := fun vs H Q _ => ∃ (x q : Addr) (as : List Addr) (ws : List Str) (Gs : List (List Str)) (ds : List Str) (tb : List (List Str)) (ls : List Str) (m : Nat), vs = [.ref x, .ref q] ∧ DeskOb K C H x ws ds tb ls ∧ DkIs m ws ds tb ls ∧ m ≤ 9 ∧ H q = some (.lst (as.map V.ref)) ∧ Paired (fun a g => H a = some (.lst (g.map V.str))) as Gs ∧ Ptn ws Gs ∧
  ∀ (b : Bool) G, Sm H G → (b = true ↔ ∀ g ∈ Gs, ∀ g0, g[0]? = some g0 → ∀ z ∈ g, Tog (nxt ws ds tb) (look ws ls) ds (plc Gs) z g0) → Q (.bl b) G
abbrev nIl : List Str := ["desk", "value", "places", "number", "lot", "standing"]
theorem scIl : FnScope nIl ["desk", "value"] (defScope (top 31)) := ⟨rfl, rfl, rfl, by decide +kernel, rfl, by decide +kernel, by decide +kernel⟩
section
variable {P : Program} {w : World} {K : PySem.W.Frag} {mg : Str → Option Value} {base : Heap} {f C fI fT pS gS : Addr} {fd dI dT dStd : FuncData}
theorem bIl (F : FnP K "is_likeness" (top 31) f fd) : Binds K fd ["desk", "value"] [] := F.bindsN fun _ _ _ _ _ _ us hl => match us, hl with
  | [_, _], _ => rfl
theorem ok_il (F : FnP K "is_likeness" (top 31) f fd) (me : mg "enumerate" = none) (ma : mg "all" = none) (hC : Cls K C) (PS_ : PropOf K C "standings" pS gS) (GS : FnOk P w K mg base CX0 1 gS dStd nSelf (spStd C)) (bS : Binds K dStd nSelf [])
    (GI : FnOk P w K mg base CX0 1 fI dI ["standings", "value"] (spIp K)) (FI : FnP K "is_parting" (top 32) fI dI) (gI : mg "is_parting" = some (.ref fI))
    (GT : FnOk P w K mg base CX0 3 fT dT ["desk", "lot", "places"] (spKt K C)) (FT : FnP K "keeps_together" (top 33) fT dT) (gT : mg "keeps_together" = some (.ref fT)) : FnOk P w K mg base CX0 4 f fd ["desk", "value"] (spIl K C) := by
  refine F.ok (CX := CX0) scIl (fun vs H Q E h => ?_) (fun cdv A outer s H vs Q E hr h => ?_)
  · obtain ⟨x, q, as, ws, Gs, ds, tb, ls, m, rfl, _⟩ := h
    rfl
  · have hr2 := hr.mono (show 2 ≤ 3 by decide)
    have hr1 := hr.mono (show 1 ≤ 3 by decide)
    refine ⟨_, PSs.nox (pss_cons (ps_if (pt_not (pt_val (by exact (pe_call GI hr1 rfl gI FI.kp (bIp FI) .nil pass0 (pa_cons (by exact (pe_prop (pv 0) hC PS_ GS hr2 bS .nil pass0 rfl)) (pa_cons (pv 1) pa_nil)))))) (pss_one (ps_ret pe_bl)) pss_nil)
      (pss_cons (ps_set (i := 2) scIl.nd rfl (.inr rfl) (by exact (pe_dc2 (own := [("number", 3), ("lot", 4), ("standing", 5)]) (vb := [5]) (ga := gTup K 2 (gCons (gName 3) (gCons (gName 4) gNil))) (ta := tYes) (wb := iList K (tVar 4)) (gb := gName 5) (tb := tYes) (tk := tVar 5) (tv := tVar 3) rfl scIl.nd (pi_enum rfl me (pa_cons (pv 1) pa_nil))
        (blkOk_by (N := nIl) (sc := defScope (top 31)) (by decide +kernel)) (by decide) (fun _ _ _ _ _ => by exact (pg_tup rfl (pgs_cons (pg_name (i := 3) scIl.nd rfl (Or.inl rfl)) (pgs_cons (pg_name (i := 4) scIl.nd rfl (Or.inl rfl)) pgs_nil)))) (fun _ _ _ _ _ => pts_nil)
        (fun _ _ _ _ _ => by exact (pi_list (by exact (pv 4)))) (fun _ _ _ _ _ => pg_name (i := 5) scIl.nd rfl (Or.inl rfl)) (fun _ _ _ _ _ => pts_nil) (fun _ _ _ _ _ => by exact (pv 5)) (fun _ _ _ _ _ => by exact (pv 3)))))
      (pss_one (ps_ret (by exact (pe_callB (cr_all rfl) rfl ma PyProof.Rows.boot_all (pa_cons (by exact (pe_lc (own := [("lot", 4)]) (g := gName 4) (tt := tYes) (te := tCall (spKt K C) [] E0 (tCons (tVar 0) (tCons (tVar 4) (tCons (tVar 2) tNil)))) rfl scIl.nd (pi_list (pv 1))
        (blkOk_by (N := nIl) (sc := defScope (top 31)) (by decide +kernel)) (fun _ _ _ _ _ => pg_name (i := 4) scIl.nd rfl (Or.inl rfl)) (fun _ _ _ _ _ => pts_nil)
        (fun _ _ _ _ _ => by exact (pe_call GT hr rfl gT FT.kp (bKt FT) .nil pass0 (pa_cons (by exact (pv 0)) (pa_cons (by exact (pv 4)) (pa_cons (by exact (pv 2)) pa_nil))))))) pa_nil))))))), ?_⟩
    obtain ⟨x, q, as, ws, Gs, ds, tb, ls, m, rfl, ob, is, m9, hq, pr, pt, fin⟩ := h
    have sz : ∀ n : Nat, n ≤ 1000 → n ≤ sizeLine := fun n z => by
      rw [sizeLine_eq]
      omega
    have gm := pt.many
    have al := paired_len pr
    have w9 := pt.few
    have fnd := pt.fnd
    have grp_at : ∀ {i : Nat} {a : Addr}, as[i]? = some a → ∃ g, Gs[i]? = some g ∧ H a = some (.lst (g.map V.str)) := fun e => pair_at pr e
    obtain ⟨dx, st, ld, si, as0, hx, hst, _⟩ := id ob
    refine ⟨_, rfl, x, dx, _, rfl, hx, x, dx, st, ld, si, rfl, hx, _, rfl, st, q, as, ws, Gs, rfl, hst, hq, pr, pt, fun G1 m1 => ⟨_, rfl, iteF ?_⟩⟩
    refine ⟨_, rfl, q, _, rfl, .inl (.inl (m1 _ _ hq)), fun D nD => ?_⟩
    refine walk_W (walk_enum (xs := as.map V.ref)) (fun i G => G D = some (numO (Gs.take i).flatten (plc Gs)) ∧ Sm G1 G) ⟨upd_same, Sm.new nD⟩ (fun i G _ p => .inl (.inl (p.2 _ _ (m1 _ _ hq)))) (fun i v G G' hi p yy => ?_) (fun G p => ?_)
    · obtain ⟨eD, mG⟩ := p
      obtain ⟨T, z1, z2, rfl, nT, rfl, f1, f2⟩ := yy
      cases Option.some.inj f1
      obtain ⟨a, ea, rfl⟩ := ref_atL (show (as.map V.ref)[i]? = some z2 from f2)
      obtain ⟨g, eg, ha⟩ := grp_at ea
      have mT := Sm.new (o := .tup [.int ((i : Nat) : Int), .ref a]) nT
      have eT : upd G T (.tup [.int ((i : Nat) : Int), .ref a]) T = some (.tup [.int ((i : Nat) : Int), .ref a]) := upd_same
      have eD := mT _ _ eD
      have mG := Sm.trans mG mT
      generalize upd G T (.tup [.int ((i : Nat) : Int), .ref a]) = G2 at eT eD mG ⊢
      have m0 := Sm.trans m1 mG
      refine ⟨T, _, rfl, .inl (.inl eT), rfl, _, _, rfl, _, _, rfl, rfl, rfl, ?_⟩
      unfold tYes
      dsimp only
      rw [if_pos rfl]
      refine ⟨_, rfl, a, rfl, ⟨_, .inl (.inl (m0 _ _ ha))⟩, ?_⟩
      have fte : Gs.flatten = (Gs.take (i + 1)).flatten ++ (Gs.drop (i + 1)).flatten := by rw [← List.flatten_append, List.take_append_drop]
      have ndt : ((Gs.take i).flatten ++ g).Nodup := by
        rw [← take_flat eg]
        rw [fte] at fnd
        exact (List.nodup_append.mp fnd).1
      refine walk_W (walk_list (xs := g.map V.str)) (fun j G3 => G3 D = some (numO ((Gs.take i).flatten ++ g.take j) (plc Gs)) ∧ Sm G1 G3) ⟨by rw [List.take_zero, List.append_nil]; exact eD, mG⟩ (fun j G3 _ p => .inl (.inl (p.2 _ _ (m1 _ _ ha)))) (fun j v G3 G4 hj p yy => ?_) (fun G3 p => ?_)
      · obtain ⟨eD3, mG3⟩ := p
        obtain ⟨rfl, ex⟩ := yy
        obtain ⟨z, ez, rfl⟩ := str_atL ex
        have hz := List.mem_of_getElem? ez
        refine ⟨rfl, ?_⟩
        dsimp only
        rw [if_pos rfl]
        have tk : g.take (j + 1) = g.take j ++ [z] := by
          rw [List.take_add_one, ez]
          rfl
        refine ⟨_, rfl, _, rfl, _, .inr z, rfl, eD3, ?_, ?_, fun b o e => ?_⟩
        · have h1 := flat_le (Gs := Gs) (i := i)
          have h2 := pt.len
          have h3 := pt.each (List.mem_of_getElem? eg)
          rw [dkv_len (by rw [List.length_map]), List.length_append, List.length_take, sizeLine_eq]
          omega
        · rw [upd_same, tk, ← List.append_assoc]
          unfold numO
          rw [put_dkvV (by rw [List.length_map]) ?_, List.map_append (l₁ := (Gs.take i).flatten ++ g.take j)]
          · show _ = some (HO.dK (dkv _ (_ ++ [V.int ((plc Gs z : Nat) : Int)])))
            rw [plc_at fnd eg hz]
          · rw [List.append_assoc, ← tk]
            exact ndt.sublist (List.Sublist.append (List.Sublist.refl _) (List.take_sublist _ _))
        · rw [upd_ne (ne_of_none e nD)]
          exact mG3 _ _ e
      · obtain ⟨eD3, mG3⟩ := p
        rw [List.length_map, List.take_length, ← take_flat eg] at eD3
        exact ⟨eD3, mG3⟩
    · obtain ⟨eD, mG⟩ := p
      rw [List.length_map, al, List.take_length] at eD
      have m0 := Sm.trans m1 mG
      refine ⟨_, rfl, q, rfl, ⟨_, .inl (.inl (m0 _ _ hq))⟩, ?_⟩
      -- what is told of each lot
      refine fun D2 nD2 => ?_
      refine lc_it (walk_list (xs := as.map V.ref)) (vs := [4]) (fun i G3 => ∃ bs : List Bool, G3 D2 = some (.lst (bs.map V.bl)) ∧ bs.length = i ∧ ((∀ b ∈ bs, b = true) ↔ ∀ g ∈ Gs.take i, ∀ g0, g[0]? = some g0 → ∀ z ∈ g, Tog (nxt ws ds tb) (look ws ls) ds (plc Gs) z g0) ∧ Sm G G3)
        ⟨[], upd_same, rfl, ⟨(fun _ g hg => absurd hg (by rw [List.take_zero]; exact List.not_mem_nil)), (fun _ b hb => absurd hb List.not_mem_nil)⟩, Sm.new nD2⟩ (fun i G3 _ ⟨_, _, _, _, mm⟩ => .inl (.inl (mm _ _ (m0 _ _ hq)))) (fun i v G3 G4 hi pp yy => ?_) (fun G3 pp => ?_)
      · obtain ⟨bs, eB, bl, iff, mm⟩ := pp
        obtain ⟨rfl, ex⟩ := yy
        obtain ⟨a, ea, rfl⟩ := ref_atL ex
        obtain ⟨g, eg, ha⟩ := grp_at ea
        have hg := List.mem_of_getElem? eg
        have m4 := Sm.trans m0 mm
        refine ⟨rfl, _, rfl, _, rfl, _, rfl, x, a, D, g, Gs.flatten, ws, ds, tb, ls, plc Gs, m, rfl, ob.sm m4, is, m9, m4 _ _ ha, pt.some g hg, pt.each hg, (fun z hz => pt.sub z (List.mem_flatten.mpr ⟨g, hg, hz⟩)), mm _ _ eD, pt.has, fun g0 b G5 e0 m5 hb => ?_⟩
        refine ⟨_, m5 _ _ eB, by rw [List.length_map, bl, sizeLine_eq]; rw [List.length_map] at hi; omega, bs ++ [b], by rw [upd_same, List.map_append]; rfl, by rw [List.length_append, bl]; rfl, ?_, fun c o e => ?_⟩
        · rw [List.take_add_one, eg]
          constructor
          · intro h g2 hg2
            rcases List.mem_append.mp hg2 with z | z
            · exact iff.mp (fun b hb => h b (List.mem_append_left _ hb)) g2 z
            · have : g2 = g := by simpa using z
              subst this
              intro g1 e1
              rw [e0] at e1
              cases Option.some.inj e1
              exact hb.mp (h b (List.mem_append_right _ (List.mem_singleton.mpr rfl)))
          · intro h b2 hb2
            rcases List.mem_append.mp hb2 with z | z
            · exact iff.mpr (fun g2 hg2 => h g2 (List.mem_append_left _ hg2)) b2 z
            · rw [List.mem_singleton.mp z]
              exact hb.mpr (h g (List.mem_append_right _ (by simp)) g0 e0)
        · rw [upd_ne (ne_of_none e nD2)]
          exact m5 _ _ (mm _ _ e)
      · obtain ⟨bs, eB, bl, iff, mm⟩ := pp
        rw [List.length_map, al, List.take_length] at iff
        refine ⟨D2, bs, rfl, .inl (.inl eB), ?_⟩
        refine fin _ G3 (Sm.trans m0 mm) ?_
        rw [List.all_eq_true]
        exact iff
end
end Dk
set_option Elab.async false
set_option linter.all false
set_option maxRecDepth 100000
set_option maxHeartbeats 8000000
namespace Dk
open PySem PySem.Spec PyProof.Rows L2 Er LamX NdefX
/-! ### _law_groups -/
theorem far_al {nx : Str → Str → Str} {lk : Str → Str} {ws ds : List Str} {far : List (St2 × V)} (F : FarAll nx lk ws ds far) {z y : Str} (hz : z ∈ ws) (hy : y ∈ ws) : (valV far (pr z y)).isSome = !al nx lk ds z y := by
  cases a : al nx lk ds z y with
  | true =>
    rw [(F z hz y hy).2 (al_iff.mp a)]
    rfl
  | false =>
    have n : ¬ ∀ k, ¬ Ap.Sep nx lk ds z y k := fun h => by
      rw [al_iff.mpr h] at a
      cases a
    obtain ⟨k, s⟩ : ∃ k, Ap.Sep nx lk ds z y k := Classical.byContradiction fun h => n fun k s => h ⟨k, s⟩
    obtain ⟨j, _, m⟩ := Ap.min_some s
    rw [(F z hz y hy).1 j m]
    rfl
/-- lots of texts, as data -/
theorem dp_lots {K : PySem.W.Frag} {G : Hp} {es : List Addr} {ls : List (List Str)} (h : Paired (fun e (l : List Str) => G e = some (.lst (l.map V.str)) ∧ ∀ z ∈ l, IsWord z) es ls) : ∃ ds, DpAll K G (es.map V.ref) ds ∧ PyData.canLayAll0 ds = true ∧ PyData.depthAll ds ≤ 2 ∧ ds.length = es.length := by
  induction h with
  | nil => exact ⟨[], .nil, by simp [PyData.canLayAll0], by simp [PyData.depthAll], rfl⟩
  | @cons e l es ls h _ ih =>
    obtain ⟨ds, i1, i2, i3, i4⟩ := ih
    obtain ⟨q1, q2⟩ := h
    have l1 := lay_strs q2
    refine ⟨.list (l.map PyData.str) :: ds, .cons (.lst (.inl (.inl q1)) (dp_strs l)) i1, ?_, ?_, by simp [i4]⟩
    · simp only [PyData.canLayAll0, PyData.canLay0, l1.1, i2, Bool.and_true]
    · have := l1.2
      simp only [PyData.depthAll, PyData.depth]
      omega
/-- a lot with its first one -/
def LotAt (H G : Hp) (i : Nat) (e : Addr) (h : Str) : Prop := H e = none ∧ ∃ rest : List Str, G e = some (.lst ((h :: rest).map V.str)) ∧ rest.length ≤ i ∧ ∀ z ∈ h :: rest, IsWord z
theorem LotAt.sm {H G G2 : Hp} {i j : Nat} {e : Addr} {h : Str} (l : LotAt H G i e h) (m : Sm G G2) (ij : i ≤ j) : LotAt H G2 j e h := by
  obtain ⟨n, rest, e1, e2, e3⟩ := l
  exact ⟨n, rest, m _ _ e1, by omega, e3⟩
def spGr (K : PySem.W.Frag) : Sp := fun vs H Q _ => ∃ (nl fa : Addr) (cs ws ds : List Str) (nx : Str → Str → Str) (lk : Str → Str) (far : List (St2 × V)), vs = [.ref nl, .ref fa] ∧ SqL K H nl (cs.map V.str) ∧ cs.length ≤ 9 ∧ (∀ z ∈ cs, z ∈ ws) ∧ (∀ z ∈ ws, IsWord z) ∧ H fa = some (.dT far) ∧ FarAll nx lk ws ds far ∧
  ∀ (q : Addr) (es : List Addr) G, Sm H G → H q = none → G q = some (.lst (es.map V.ref)) → Paired (LotAt H G 9) es (lHs nx lk ds cs) → Q (.ref q) G
abbrev nGr : List Str := ["_law_names_here", "_law_far", "_law_found", "_law_one", "_law_near", "_law_lot"]
theorem scGr : FnScope nGr ["_law_names_here", "_law_far"] (defScope (top 49)) := ⟨rfl, rfl, rfl, by decide +kernel, rfl, by decide +kernel, by decide +kernel⟩
section
variable {P : Program} {w : World} {K : PySem.W.Frag} {mg : Str → Option Value} {base : Heap} {f : Addr} {fd : FuncData}
theorem bGr (F : FnP K "_law_groups" (top 49) f fd) : Binds K fd ["_law_names_here", "_law_far"] [] := F.bindsN fun _ _ _ _ _ _ us hl => match us, hl with
  | [_, _], _ => rfl
theorem ok_gr (F : FnP K "_law_groups" (top 49) f fd) : FnOk P w K mg base CX0 1 f fd ["_law_names_here", "_law_far"] (spGr K) := by
  refine F.ok (CX := CX0) scGr (fun vs H Q E h => ?_) (fun cdv A outer s H vs Q E hr h => ?_)
  · obtain ⟨nl, fa, cs, ws, ds, nx, lk, far, rfl, _⟩ := h
    rfl
  · refine ⟨_, PSs.nox (pss_cons (ps_set (i := 2) scGr.nd rfl (.inl rfl) (pe_lst pa_nil))
      (pss_cons (ps_for PassesOwn.never rfl (pi_list (pv 0)) (pg_name (i := 3) scGr.nd rfl (.inr rfl))
        (pss_cons (by exact (ps_setLc (i := 4) (own := [("_law_lot", 5)]) (g := gName 5) (tt := tB (tDNotIn (tTup (tCons (tOp (rIxL K) (tVar 5) (tC (.int 0))) (tCons (tVar 3) tNil))) (tVar 1))) (te := tVar 5) rfl scGr.nd rfl rfl (sw_true rfl rfl rfl (by decide +kernel)) (pi_list (pv 2))
          (blkOk_by (N := nGr) (sc := defScope (top 49)) (by decide +kernel)) (fun _ _ _ _ _ => pg_name (i := 5) scGr.nd rfl (Or.inl rfl))
          (fun _ _ _ _ _ => pts_one (by exact (pt_cmp (pc_dnotin (hu_of hr) (by exact (pe_tup (pa_cons (by exact (pe_ix ix_list (by exact (pv 5)) pe_int (fun _ _ => rfl))) (pa_cons (by exact (pv 3)) pa_nil)))) (by exact (pv 1))) (by rfl)))) (fun _ _ _ _ _ => by exact (pv 5))))
        (pss_one (ps_if (pt_cmpR (op_eqD hr.units) (pv 4) (pe_lst pa_nil) (nomark _))
          (pss_one (ps_expr (pe_bm PySem.F.plainAttrs_list PySem.F.slot_list_append PySem.F.type_list_append mt_append (pv 2) (pa_cons (pe_lst (pa_cons (pv 3) pa_nil)) pa_nil))))
          (pss_one (ps_expr (pe_bm PySem.F.plainAttrs_list PySem.F.slot_list_append PySem.F.type_list_append mt_append (by exact (pe_ix ix_list (pv 4) pe_int (fun _ _ => rfl))) (pa_cons (pv 3) pa_nil))))))))
      (pss_one (ps_ret (pv 2))))), ?_⟩
    obtain ⟨nl, fa, cs, ws, ds, nx, lk, far, rfl, hnl, c9, sub, word, hfa, FA, q⟩ := h
    have sz : ∀ n : Nat, n ≤ 1000 → n ≤ sizeLine := fun n z => by
      rw [sizeLine_eq]
      omega
    refine ⟨sz _ (by show 0 ≤ 1000; decide), fun fo nfo => ?_⟩
    have m0 := Sm.new (o := .lst []) nfo
    have efo0 := upd_same (H := H) (a := fo) (o := .lst [])
    generalize upd H fo (.lst []) = H1 at m0 efo0 ⊢
    refine ⟨_, rfl, nl, rfl, ⟨_, SqL.sm hnl m0⟩, ?_⟩
    refine for_it (walk_list (xs := cs.map V.str)) (fun i σ G => ∃ (v3 v4 v5 : Option V) (es : List Addr), σ = [some (.ref nl), some (.ref fa), some (.ref fo), v3, v4, v5] ∧ G fo = some (.lst (es.map V.ref)) ∧ Paired (fun e h => e ≠ fo ∧ LotAt H G i e h) es (lHs nx lk ds (cs.take i)) ∧ Sm H G)
      ⟨none, none, none, [], rfl, efo0, .nil, m0⟩ (fun i σ G _ ⟨_, _, _, _, _, _, _, m⟩ => SqL.sm hnl m) (fun i v σ G G' hi p yy => ?_) (fun σ G p => ?_)
    · obtain ⟨v3, v4, v5, es, rfl, ef, pe, m⟩ := p
      obtain ⟨rfl, ex⟩ := yy
      obtain ⟨z, ez, rfl⟩ : ∃ z, cs[i]? = some z ∧ v = .str z := by
        rw [List.getElem?_map] at ex
        cases e : cs[i]? with
        | none =>
          rw [e] at ex
          cases ex
        | some d =>
          rw [e] at ex
          exact ⟨d, rfl, (Option.some.inj ex).symm⟩
      have hz := sub z (List.mem_of_getElem? ez)
      have il := (List.getElem?_eq_some_iff.mp ez).1
      have tk : cs.take (i + 1) = cs.take i ++ [z] := by
        rw [List.take_add_one, ez]
        rfl
      have hin : ∀ y ∈ lHs nx lk ds (cs.take i), y ∈ ws := fun y hy => sub y (List.mem_of_mem_take (lHs_sub hy))
      have hl : (lHs nx lk ds (cs.take i)).length ≤ i := by
        have := Lo.hds_len (r := al nx lk ds) (cs := cs.take i)
        rw [List.length_take] at this
        unfold lHs
        omega
      have el : es.length = (lHs nx lk ds (cs.take i)).length := paired_len pe
      refine ⟨_, rfl, fo, rfl, ⟨_, .inl (.inl ef)⟩, fun D nD => ?_⟩
      refine lc_list (xs := es.map V.ref) (fun j G2 => ∃ acc : List Addr, G2 D = some (.lst (acc.map V.ref)) ∧ acc.length ≤ j ∧ (∀ e ∈ acc, ∃ h ∈ lHs nx lk ds (cs.take i), al nx lk ds h z = true ∧ e ≠ fo ∧ LotAt H G2 i e h) ∧ (acc = [] ↔ ∀ h ∈ (lHs nx lk ds (cs.take i)).take j, al nx lk ds h z = false) ∧ Sm G' G2)
        ⟨[], upd_same, Nat.le_refl _, (fun e he => (List.not_mem_nil he).elim), ⟨fun _ h hh => (List.not_mem_nil hh).elim, fun _ => rfl⟩, Sm.new nD⟩ (fun j G2 _ p => by obtain ⟨_, _, _, _, _, mm⟩ := p; exact .inl (.inl (mm _ _ ef))) (fun j x G2 ex p => ?_) (fun G2 p => ?_)
      · obtain ⟨acc, eD, al_, ha, he, mm⟩ := p
        obtain ⟨e, ee, rfl⟩ : ∃ e, es[j]? = some e ∧ x = .ref e := by
          rw [List.getElem?_map] at ex
          cases e : es[j]? with
          | none =>
            rw [e] at ex
            cases ex
          | some d =>
            rw [e] at ex
            exact ⟨d, rfl, (Option.some.inj ex).symm⟩
        obtain ⟨h, eh, efo, lh⟩ := pair_at pe ee
        have hh := List.mem_of_getElem? eh
        have jl := (List.getElem?_eq_some_iff.mp eh).1
        have tk2 : (lHs nx lk ds (cs.take i)).take (j + 1) = (lHs nx lk ds (cs.take i)).take j ++ [h] := by
          rw [List.take_add_one, eh]
          rfl
        obtain ⟨ne, rest, e1, e2, e3⟩ := id lh
        refine ⟨rfl, _, rfl, e, _, 0, .str h, rfl, rfl, .inl (.inl (mm _ _ e1)), atI_nat (j := 0) rfl, _, rfl, sz _ (by show 2 ≤ 1000; decide), fun t nt => ?_⟩
        have mt := Sm.new (o := .tup [.str h, .str z]) nt
        refine ⟨_, rfl, fa, _, rfl, DGet.t (k := pr h z) (mt _ _ (mm _ _ (m _ _ hfa))) upd_same, _, rfl, ?_⟩
        rw [far_al FA (hin h hh) hz, Bool.not_not]
        generalize upd G2 t (.tup [.str h, .str z]) = G3 at mt ⊢
        cases a : al nx lk ds h z with
        | true =>
          refine iteT ⟨_, rfl, _, mt _ _ eD, by rw [List.length_map, sizeLine_eq]; omega, acc ++ [e], by rw [upd_same, List.map_append]; rfl, by rw [List.length_append]; show acc.length + 1 ≤ j + 1; omega, fun e0 h0 => ?_, ⟨fun w => absurd w (by simp), fun w => ?_⟩, fun b o eb => ?_⟩
          · have nD2 : ∀ {e0 : Addr} {o : HO}, G' e0 = some o → e0 ≠ D := fun {e0 o} eb => ne_of_none eb nD
            rcases List.mem_append.mp h0 with h0 | h0
            · obtain ⟨h2, q1, q2, q3, q4, rest2, q5, q6, q7⟩ := ha e0 h0
              refine ⟨h2, q1, q2, q3, q4, rest2, ?_, q6, q7⟩
              have : e0 ≠ D := fun w => by
                rw [w, eD] at q5
                cases acc with
                | nil => exact nomatch HO.lst.inj (Option.some.inj q5)
                | cons a acc => exact nomatch (List.cons.inj (HO.lst.inj (Option.some.inj q5))).1
              rw [upd_ne this]
              exact mt _ _ q5
            · rw [List.mem_singleton.mp h0]
              refine ⟨h, hh, a, efo, ne, rest, ?_, e2, e3⟩
              rw [upd_ne (nD2 e1)]
              exact mt _ _ (mm _ _ e1)
          · have := w h (by rw [tk2]; exact List.mem_append_right _ (List.mem_singleton.mpr rfl))
            rw [a] at this
            cases this
          · rw [upd_ne (ne_of_none eb nD)]
            exact mt _ _ (mm _ _ eb)
        | false =>
          refine iteF ⟨acc, mt _ _ eD, by omega, fun e0 h0 => ?_, ?_, mm.trans mt⟩
          · obtain ⟨h2, q1, q2, q3, q4⟩ := ha e0 h0
            exact ⟨h2, q1, q2, q3, q4.sm mt (Nat.le_refl _)⟩
          · rw [he, tk2]
            refine ⟨fun w h2 hh2 => ?_, fun w h2 hh2 => w h2 (List.mem_append_left _ hh2)⟩
            rcases List.mem_append.mp hh2 with b | b
            · exact w h2 b
            · rw [List.mem_singleton.mp b]
              exact a
      · obtain ⟨acc, eD, al_, ha, he, mm⟩ := p
        rw [List.length_map] at al_ he
        rw [el, List.take_length] at he
        have Ds : H D = none := none_of_sm m nD
        have Dfo : D ≠ fo := fun w => by
          rw [w, ef] at nD
          cases nD
        refine ⟨_, rfl, sz _ (by show 0 ≤ 1000; decide), fun e2 ne2 => ?_⟩
        have me := Sm.new (o := .lst []) ne2
        have lots : ∃ ls : List (List Str), Paired (fun e (l : List Str) => upd G2 e2 (.lst []) e = some (.lst (l.map V.str)) ∧ ∀ z ∈ l, IsWord z) acc ls := by
          clear he eD al_
          induction acc with
          | nil => exact ⟨[], .nil⟩
          | cons e acc ih =>
            obtain ⟨ls, pl⟩ := ih fun e0 h0 => ha e0 (List.mem_cons_of_mem _ h0)
            obtain ⟨h2, _, _, _, _, rest2, q5, _, q7⟩ := ha e List.mem_cons_self
            exact ⟨(h2 :: rest2) :: ls, .cons ⟨me _ _ q5, q7⟩ pl⟩
        obtain ⟨ls, pl⟩ := lots
        obtain ⟨dd, d1, d2, d3, d4⟩ := dp_lots (K := K) pl
        refine ⟨.list dd, .list [], .lst (.inl (.inl (me _ _ eD))) d1, .lst (.inl (.inl upd_same)) .nil, shaped_two d2 d3, shaped_nil, _, rfl, ?_⟩
        rw [eqv_nil]
        have mB := mm.trans me
        have eDB := me _ _ eD
        have haB : ∀ e ∈ acc, ∃ h ∈ lHs nx lk ds (cs.take i), al nx lk ds h z = true ∧ e ≠ fo ∧ LotAt H (upd G2 e2 (.lst [])) i e h := fun e0 h0 => by
          obtain ⟨h2, q1, q2, q3, q4⟩ := ha e0 h0
          exact ⟨h2, q1, q2, q3, q4.sm me (Nat.le_refl _)⟩
        generalize upd G2 e2 (.lst []) = G3 at mB eDB haB ⊢
        have efB := mB _ _ ef
        have mA := m.trans mB
        cases acc with
        | nil =>
          have dn : dd = [] := List.eq_nil_of_length_eq_zero d4
          subst dn
          have none_ := he.mp rfl
          have hds1 : lHs nx lk ds (cs.take (i + 1)) = lHs nx lk ds (cs.take i) ++ [z] := by
            rw [tk]
            unfold lHs
            rw [Lo.hds_snoc, if_neg]
            intro c
            obtain ⟨h, hh, a⟩ := List.any_eq_true.mp c
            rw [none_ h hh] at a
            cases a
          refine iteT ⟨_, rfl, .inl ⟨rfl, _, .inl (.inl efB)⟩, _, rfl, sz _ (by show 1 ≤ 1000; decide), fun l1 nl1 => ?_⟩
          have ml := Sm.new (o := .lst [.str z]) nl1
          have l1fo : l1 ≠ fo := fun w => by
            rw [w, efB] at nl1
            cases nl1
          refine ⟨fo, _, .ref l1, rfl, rfl, ml _ _ efB, by rw [List.length_map, sizeLine_eq]; omega, ?_⟩
          refine ⟨_, _, _, es ++ [l1], rfl, by rw [upd_same, List.map_append]; rfl, ?_, fun b o eb => ?_⟩
          · rw [hds1]
            refine pair_more (pair_mono pe fun e _ h q => ⟨q.1, q.2.1, ?_⟩) ⟨l1fo, none_of_sm mA nl1, [], ?_, Nat.zero_le _, fun y hy => ?_⟩
            · obtain ⟨_, rest, q1, q2, q3⟩ := q.2
              refine ⟨rest, ?_, by omega, q3⟩
              rw [upd_ne q.1]
              exact ml _ _ (mB _ _ q1)
            · rw [upd_ne l1fo]
              exact upd_same
            · rw [List.mem_singleton.mp hy]
              exact word z hz
          · rw [upd_ne (ne_of_none eb nfo)]
            exact ml _ _ (mA _ _ eb)
        | cons e acc =>
          have de : dd.isEmpty = false := by
            cases dd with
            | nil => cases d4
            | cons _ _ => rfl
          rw [de]
          obtain ⟨h, hh, a, efo, ne, rest, q1, q2, q3⟩ := haB e List.mem_cons_self
          have hds1 : lHs nx lk ds (cs.take (i + 1)) = lHs nx lk ds (cs.take i) := by
            rw [tk]
            unfold lHs
            rw [Lo.hds_snoc]
            exact if_pos (List.any_eq_true.mpr ⟨h, hh, a⟩)
          refine iteF ⟨_, rfl, D, _, 0, .ref e, rfl, rfl, .inl (.inl eDB), atI_nat (j := 0) rfl, .inl ⟨rfl, _, .inl (.inl q1)⟩, _, rfl, e, _, .str z, rfl, rfl, q1, by rw [List.length_map, sizeLine_eq]; show rest.length + 1 < _; omega, ?_⟩
          have em : (h :: rest).map V.str ++ [V.str z] = (h :: (rest ++ [z])).map V.str := by
            rw [List.map_cons, List.map_cons, List.map_append]
            rfl
          rw [em]
          refine ⟨_, _, _, es, rfl, by rw [upd_ne (Ne.symm efo)]; exact efB, ?_, fun b o eb => ?_⟩
          · rw [hds1]
            refine pair_mono pe fun e0 _ h0 w => ⟨w.1, w.2.1, ?_⟩
            obtain ⟨_, rest0, w1, w2, w3⟩ := w.2
            by_cases c : e0 = e
            · subst c
              have := mB _ _ w1
              rw [q1] at this
              have same := HO.lst.inj (Option.some.inj this)
              have h1 : h = h0 := V.str.inj (List.cons.inj same).1
              subst h1
              refine ⟨rest ++ [z], upd_same, by rw [List.length_append]; show rest.length + 1 ≤ i + 1; omega, fun y hy => ?_⟩
              rcases List.mem_cons.mp hy with b | b
              · rw [b]
                exact q3 _ List.mem_cons_self
              · rcases List.mem_append.mp b with b | b
                · exact q3 _ (List.mem_cons_of_mem _ b)
                · rw [List.mem_singleton.mp b]
                  exact word z hz
            · refine ⟨rest0, ?_, by omega, w3⟩
              rw [upd_ne c]
              exact mB _ _ w1
          · rw [upd_ne (ne_of_none eb ne)]
            exact mA _ _ eb
    · obtain ⟨v3, v4, v5, es, rfl, ef, pe, m⟩ := p
      rw [List.length_map, List.take_length] at pe
      refine ⟨_, rfl, q fo es G m nfo ef (pair_mono pe fun e _ h w => ⟨w.2.1, ?_⟩)⟩
      obtain ⟨_, rest, w1, w2, w3⟩ := w.2
      exact ⟨rest, w1, by omega, w3⟩
end
end Dk
set_option Elab.async false
set_option linter.all false
set_option maxRecDepth 100000
set_option maxHeartbeats 4000000
namespace InY
/-! ### x in l, where l holds one object with its own == -/
open PySem PySem.SeqAt
open AutoSeq1 (wpAny_loadPart')
open MeetsSeq MeetsSeq2 MeetsSeq3 SeqRoads2
section
variable {prog : Program} {w : World} {A : Around} {R : Result → Shared → Prop}
theorem contains1 {l : Addr} {y x : Value} {items : Array Value} {n : Nat} {dd : Option Addr} {sl : Array (Option Value)} {s : Shared} (hi : items[0]? = some y) (hl : s.heap.get? l = some { cls := .type "list", dict := dd, data := .seq items n, slots := sl })
    (he : wpAny (model prog w) A.in1 (eqBool y x) (fun r s' => r = false ∧ (∃ (items2 : Array Value) (n2 : Nat) (dd2 : Option Addr) (sl2 : Array (Option Value)), items2[1]? = none ∧ s'.heap.get? l = some { cls := .type "list", dict := dd2, data := .seq items2 n2, slots := sl2 }) ∧ R (.ok (.ret (.bool false))) s') (fun e s' => R (.error e) s') s) :
    wpAny (model prog w) A.in1 (Builtin.«list.__contains__» ⟨[.ref l, x], []⟩) (GQ.FinOf prog w A R) (fun e s' => R (.error e) s') s := by
  obtain ⟨hp, g, d, tk, os⟩ := s
  wp_walk using wpAny_loadPart' hl
  refine ⟨plainId_quiet plain_contains_loop _, codeAny_builtin entry_contains_loop ?_⟩
  rw [Around.under_plainId plain_contains_loop _]
  wp_walk using wpAny_loadPart' hl
  rw [show ((0 : Int)).toNat = 0 from rfl, hi]
  refine wpAny_bind (wpAny_mono he (fun r s2 q => ?_) fun _ _ z => z)
  obtain ⟨rfl, ⟨items2, n2, dd2, sl2, hi2, hl2⟩, q⟩ := q
  obtain ⟨hp2, g2, d2, tk2, os2⟩ := s2
  wp_walk
  refine ⟨plainId_quiet plain_contains_loop _, codeAny_builtin entry_contains_loop ?_⟩
  rw [Around.under_plainId plain_contains_loop _]
  wp_walk using wpAny_loadPart' hl2
  rw [show ((0 + 1 : Int)).toNat = 1 from rfl, hi2]
  wp_walk
  exact q
end
end InY
namespace L2
open PySem PySem.Spec PyProof.Rows
section
variable {X : Cx} {CX : CXT} {n : Nat} {C f : Addr} {fd : FuncData} {ps : List Str} {sp : Sp} {E : XK}
theorem rc_insS (F : FnOk X.prog X.w X.K X.mg X.base CX n f fd ps sp) (hs : PySem.W.findIn X.K (.ref C) "__eq__" = some (some (.ref f))) (hf : PySem.W.isFn X.K (.ref f) = true) (hb : Binds X.K fd ps []) (hx : Passes CX X E)
    (N : PySem.W.notFirst X.K C (.type "str") = true) {A : Around} (sb : Sub X n A) {pins : List (Addr × Obj)} {s : Shared} {σ : L2.St} {H : Hp} (I : Inv X pins σ H s) {a dx : Addr} {fs : List (Str × V)} {z : Str} {t : Nat} (ha : H a = some (.ins C dx fs)) {Q : VK}
    (h : sp [.ref a, .str z] H Q E) : wpAny (model X.prog X.w) A (richCompare .Eq (.ref a) (.str z t)) (EP X pins σ Q) X.xe s := by
  obtain ⟨mA, J, _⟩ := ins_get I.hok ha
  obtain ⟨od, J, _⟩ := J.look
  obtain ⟨m, hF⟩ := I.fr
  refine PySem.W.cmp_K (op := .Eq) sb.room.units0 hF I.ok.mod.kin J (PySem.W.Looks.of_pure rfl) N hs hf ?_
  have e0 : Env0 X.prog X.w X.K X.mg X.base A X.stack s H := by
    have e := I.env0
    exact ⟨by rw [sb.fr]; exact e.frames, e.mod, e.bs, e.bsz, e.funs, e.frf, e.hok, e.bare⟩
  have hl := F.len _ _ _ _ h
  have r2 : Vals [V.ref a, V.str z] [Value.ref a, Value.str z t] := .cons rfl (.cons ⟨t, rfl⟩ .nil)
  refine wpAny_call (codeAny_mono (F.run A X.stack s H ⟨[.ref a, .str z t], []⟩ [.ref a, .str z t] [.ref a, .str z] _ E sb.room e0 (by
    have := hb s [.ref a, .str z t] I.kIn (by simpa using hl)
    simpa using this) r2 h) fun r s' hq => ?_)
  cases r with
  | error e => exact hx pins σ H s e s' I hq
  | ok fl =>
    cases fl with
    | ret u' =>
      obtain ⟨z', H', I', rz, qz⟩ := I.after hq
      exact SlX.cmpback rz ⟨z', H', I', rz, qz⟩
    | next => exact False.elim hq
    | brk => exact False.elim hq
    | cont => exact False.elim hq
/-- a text in a list that holds one object -/
def rInY (C : Addr) (sp : Sp) (E : XK) : R2 := fun x y H Q => ∃ (z : Str) (l a dx : Addr) (fs : List (Str × V)), x = .str z ∧ y = .ref l ∧ H l = some (.lst [.ref a]) ∧ H a = some (.ins C dx fs) ∧
  sp [.ref a, .str z] H (fun v H' => v = .bl false ∧ H' l = some (.lst [.ref a]) ∧ Q (.bl false) H') E
theorem op_inY (F : FnOk X.prog X.w X.K X.mg X.base CX n f fd ps sp) (hs : PySem.W.findIn X.K (.ref C) "__eq__" = some (some (.ref f))) (hf : PySem.W.isFn X.K (.ref f) = true) (hb : Binds X.K fd ps []) (hr : Room (n + 1) X.A) (hx : Passes CX X E)
    (N : PySem.W.notFirst X.K C (.type "str") = true) : OpR X (compareOp .In) (rInY C sp E) := by
  intro pins s σ H x y v u Q I rx ry h
  obtain ⟨z, l, a, dx, fs, rfl, rfl, hl, ha, h⟩ := h
  obtain ⟨t, rfl⟩ := rx
  cases (show u = Value.ref l from ry)
  obtain ⟨_, its, k, r, ho⟩ := (show ObjOk X.prog X.w H s.heap l (.lst [.ref a]) from I.hok l _ hl)
  cases r with
  | cons r0 rt =>
    cases rt
    cases r0
    have hT : s.TypeIs (.ref l) "list" := ⟨_, ho, rfl⟩
    show wpAny (model X.prog X.w) X.A (do return .bool (← contains (.ref l) (.str z t))) (EP X pins σ Q) X.xe s
    refine wpAny_bind (PySem.wpAny_contains_slot hT PySem.F.slot_list_contains (wpAny_mono (GQ.call_here (Q := fun v s' => v = .bool false ∧ EP X pins σ Q (.bool false) s') PySem.F.slot_list_contains hT PySem.F.entry_list_contains (PySem.F.args_list_contains_2 _ _) ?_) (fun v s' hv => ?_) fun _ _ e => e))
    · refine InY.contains1 rfl ho ?_
      have sb : Sub X n X.A.in1 := ⟨hr.in1, rfl⟩
      unfold eqBool
      refine wpAny_holding ?_
      refine wpAny_ite_split (fun hab => absurd (eq_of_beq hab) (fun e => nomatch e)) (fun _ => ?_)
      refine wpAny_bind (wpAny_mono (rc_insS F hs hf hb hx N sb I ha h) (fun v s' hv => ?_) fun _ _ x => x)
      obtain ⟨z', H', I', rz, rfl, hl', q⟩ := hv
      cases (show v = Value.bool false from rz)
      obtain ⟨_, its', k', r', ho'⟩ := (show ObjOk X.prog X.w H' s'.heap l (.lst [.ref a]) from I'.hok l _ hl')
      cases r' with
      | cons r0' rt' =>
        cases rt'
        exact wpAny_truthy_bool ⟨rfl, ⟨_, _, _, _, rfl, ho'⟩, rfl, ⟨.bl false, H', I', rfl, q⟩⟩
    · obtain ⟨rfl, hq⟩ := hv
      exact wpAny_truthy_bool (wpAny_pure hq)
end
end L2
set_option Elab.async false
set_option linter.all false
set_option maxRecDepth 100000
set_option maxHeartbeats 8000000
namespace Dk
open PySem PySem.Spec PyProof.Rows L2 Er LamX NdefX Bf Dc2
/-! ### is_parting, of anything -/
mutual
theorem dp_sm {K : PySem.W.Frag} {H H2 : Hp} (m : Sm H H2) : ∀ {v : V} {d : PyData}, Dp K H v d → Dp K H2 v d
  | _, _, .non => .non
  | _, _, .bl b => .bl b
  | _, _, .int i => .int i
  | _, _, .str x => .str x
  | _, _, .lst h a => .lst (SqL.sm h m) (dpAll_sm m a)
  | _, _, .tup h a => .tup (SqT.sm h m) (dpAll_sm m a)
theorem dpAll_sm {K : PySem.W.Frag} {H H2 : Hp} (m : Sm H H2) : ∀ {v : List V} {d : List PyData}, DpAll K H v d → DpAll K H2 v d
  | _, _, .nil => .nil
  | _, _, .cons a b => .cons (dp_sm m a) (dpAll_sm m b)
end
/-- a value that is no list, of a type that is known -/
def NotL (K : PySem.W.Frag) (H : Hp) (x : V) : Prop := ∃ t, TyX K H x t ∧ PySem.W.kitOne K t (.type "list") = some false
theorem NotL.sm {K : PySem.W.Frag} {H H2 : Hp} {x : V} (h : NotL K H x) (m : Sm H H2) : NotL K H2 x := by
  obtain ⟨t, a, b⟩ := h
  exact ⟨t, tyx_sm a m, b⟩
/-- a lot: a list of things, or no list -/
def LotV (K : PySem.W.Frag) (H : Hp) (x : V) (o : Option (List V)) : Prop := match o with
  | none => NotL K H x
  | some es => es.length ≤ 40 ∧ ∃ a, x = .ref a ∧ H a = some (.lst es)
theorem LotV.sm {K : PySem.W.Frag} {H H2 : Hp} {x : V} {o : Option (List V)} (h : LotV K H x o) (m : Sm H H2) : LotV K H2 x o := by
  cases o with
  | none => exact NotL.sm h m
  | some es =>
    obtain ⟨n, a, e, ha⟩ := h
    exact ⟨n, a, e, m _ _ ha⟩
/-- what stands in the lots: data, or one desk alone -/
def EntOk (K : PySem.W.Frag) (C : Addr) (H : Hp) (fl : List V) : Prop := (∃ ds, DpAll K H fl ds ∧ SeqAt.shaped (.list ds) = true) ∨
  ∃ (a : Addr) (ws ds : List Str) (tb : List (List Str)) (ls : List Str) (m : Nat), fl = [.ref a] ∧ DeskOb K C H a ws ds tb ls ∧ DkIs m ws ds tb ls
theorem EntOk.sm {K : PySem.W.Frag} {C : Addr} {H H2 : Hp} {fl : List V} (h : EntOk K C H fl) (m : Sm H H2) : EntOk K C H2 fl := by
  rcases h with ⟨ds, a, b⟩ | ⟨a, ws, ds, tb, ls, n, e, ob, is⟩
  · exact .inl ⟨ds, dpAll_sm m a, b⟩
  · exact .inr ⟨a, ws, ds, tb, ls, n, e, ob.sm m, is⟩
def isS (z : Str) : V → Bool
  | .str y => decide (y = z)
  | _ => false
def entsOf (its : List (Option (List V))) : List V := (its.map fun o => o.getD []).flatten
def lotB : Option (List V) → Bool
  | some (_ :: _) => true
  | _ => false
/-- what parts into lots -/
def partB (ws : List Str) (its : List (Option (List V))) : Bool := its.all lotB && (decide ((entsOf its).length = ws.length) && ws.all fun z => (entsOf its).any (isS z))
theorem any_dp {K : PySem.W.Frag} {H : Hp} {z : Str} : ∀ {xs : List V} {ds : List PyData}, DpAll K H xs ds → (ds.any fun d => PyData.eqv d (.str z)) = xs.any (isS z)
  | _, _, .nil => rfl
  | _, _, .cons a b => by
    rw [List.any_cons, List.any_cons, any_dp b]
    congr 1
    cases a with
    | str x =>
      show (x == z) = decide (x = z)
      rfl
    | _ => rfl
theorem shaped_word {z : Str} (h : IsWord z) : SeqAt.shaped (.str z) = true := by
  show (PyData.canLay0 (.str z) && decide (PyData.depth (.str z) ≤ 64)) = true
  simp [PyData.canLay0, PyData.depth, h.ok]
theorem all_rangeG {α : Type} {d : α} {p : α → Bool} {xs : List α} : ((List.range xs.length).map fun j => p (xs.getD j d)).all id = xs.all p := by
  rw [Bool.eq_iff_iff, List.all_eq_true, List.all_eq_true]
  constructor
  · intro h z hz
    obtain ⟨j, hj, rfl⟩ := List.mem_iff_getElem.mp hz
    have := h _ (List.mem_map.mpr ⟨j, List.mem_range.mpr hj, rfl⟩)
    rw [List.getD_eq_getElem?_getD, List.getElem?_eq_getElem hj] at this
    exact this
  · intro h b hb
    obtain ⟨j, hj, rfl⟩ := List.mem_map.mp hb
    have hj := List.mem_range.mp hj
    rw [List.getD_eq_getElem?_getD, List.getElem?_eq_getElem hj]
    exact h _ (List.getElem_mem hj)
theorem ents_take {its : List (Option (List V))} {i : Nat} {es : List V} (e : its[i]? = some (some es)) : entsOf (its.take (i + 1)) = entsOf (its.take i) ++ es := by
  unfold entsOf
  rw [List.take_add_one, e, List.map_append, List.flatten_append]
  show _ ++ ([es].flatten) = _
  rw [List.flatten_singleton]
theorem ents_len {its : List (Option (List V))} (h : ∀ o ∈ its, ∀ es, o = some es → es.length ≤ 40) : (entsOf its).length ≤ 40 * its.length := by
  induction its with
  | nil => exact Nat.zero_le _
  | cons o t ih =>
    have a := ih (fun o ho => h o (List.mem_cons_of_mem _ ho))
    have b : (o.getD []).length ≤ 40 := by
      cases o with
      | none => exact Nat.zero_le _
      | some es => exact h _ List.mem_cons_self es rfl
    show ((o.getD []) ++ entsOf t).length ≤ _
    rw [List.length_append, List.length_cons]
    omega
def rIn2 (K : PySem.W.Frag) (C : Addr) (sp : Sp) (E : XK) : R2 := fun x y H Q => rInD K x y H Q ∨ rInY C sp E x y H Q
theorem op_in2 {X : Cx} {CX : CXT} {n : Nat} {C f : Addr} {fd : FuncData} {ps : List Str} {sp : Sp} {E : XK} (F : FnOk X.prog X.w X.K X.mg X.base CX n f fd ps sp) (hs : PySem.W.findIn X.K (.ref C) "__eq__" = some (some (.ref f))) (hf : PySem.W.isFn X.K (.ref f) = true) (hb : Binds X.K fd ps []) (hr : Room (n + 1) X.A) (hx : Passes CX X E)
    (N : PySem.W.notFirst X.K C (.type "str") = true) : OpR X (compareOp .In) (rIn2 X.K C sp E) := by
  intro pins s σ H x y v u Q I rx ry h
  rcases h with h | h
  · exact op_inD (by have := hr.un; omega) pins s σ H x y v u Q I rx ry h
  · exact op_inY F hs hf hb hr hx N pins s σ H x y v u Q I rx ry h
def spIpA (K : PySem.W.Frag) (C : Addr) : Sp := fun vs H Q _ => ∃ (st : Addr) (v : V) (ws : List Str), vs = [.ref st, v] ∧ SqT K H st (ws.map V.str) ∧ ws.length ≤ 9 ∧ (∀ z ∈ ws, IsWord z) ∧
  ((NotL K H v ∧ ∀ G, Sm H G → Q (.bl false) G) ∨
   ∃ (q : Addr) (xs : List V) (its : List (Option (List V))), v = .ref q ∧ H q = some (.lst xs) ∧ Paired (LotV K H) xs its ∧ xs.length ≤ 20 ∧ EntOk K C H (entsOf its) ∧ ∀ G, Sm H G → Q (.bl (partB ws its)) G)
section
variable {P : Program} {w : World} {K : PySem.W.Frag} {mg : Str → Option Value} {base : Heap} {f C fE : Addr} {fd dE : FuncData}
theorem ok_ipA (F : FnP K "is_parting" (top 32) f fd) (mi : mg "isinstance" = none) (mL : mg "list" = none) (ml : mg "len" = none) (ma : mg "all" = none)
    (GE : FnOk P w K mg base CX0 1 fE dE nEq (spEqK K C)) (eE : PySem.W.findIn K (.ref C) "__eq__" = some (some (.ref fE))) (iE : PySem.W.isFn K (.ref fE) = true) (bE : Binds K dE nEq []) (N : PySem.W.notFirst K C (.type "str") = true) (kS : PySem.W.kitOne K (.type "str") (.ref C) = some false) : FnOk P w K mg base CX0 3 f fd ["standings", "value"] (spIpA K C) := by
  refine F.ok (CX := CX0) scIp (fun vs H Q E h => ?_) (fun cdv A outer s H vs Q E hr h => ?_)
  · obtain ⟨st, q, ws, rfl, _⟩ := h
    rfl
  · refine ⟨_, PSs.nox (pss_cons (ps_if (pt_not (pt_val (by exact (pe_callB call_isi rfl mi PyProof.Rows.boot_isinstance (pa_cons (pv 1) (pa_cons (pe_bltn (v := .ty "list") rfl mL (by decide +kernel) rfl) pa_nil)))))) (pss_one (ps_ret pe_bl)) pss_nil)
      (pss_cons (ps_if (pt_not (pt_val (by exact (pe_callB (cr_all rfl) rfl ma PyProof.Rows.boot_all (pa_cons (by exact (pe_lc (own := [("lot", 3)]) (g := gName 3) (tt := tYes) (te := tAndV (tCB (rIsi K) (tCons (tVar 3) (tCons (tC (.ty "list")) tNil))) (tOp (rI0 fun i j => .bl (decide (j < i))) (tCB (rLn K) (tCons (tVar 3) tNil)) (tC (.int 0)))) rfl scIp.nd (pi_list (pv 1))
          (blkOk_by (N := nIp) (sc := defScope (top 32)) (by decide +kernel)) (fun _ _ _ _ _ => pg_name (i := 3) scIp.nd rfl (Or.inl rfl)) (fun _ _ _ _ _ => pts_nil)
          (fun _ _ _ _ _ => by exact (pe_and (by exact (pe_callB call_isi rfl mi PyProof.Rows.boot_isinstance (pa_cons (by exact (pv 3)) (pa_cons (pe_bltn (v := .ty "list") rfl mL (by decide +kernel) rfl) pa_nil)))) (pe_one (by exact (pe_cmpR op_gt (by exact (pe_callB call_len rfl ml boot_len (pa_cons (by exact (pv 3)) pa_nil))) pe_int (nomark _))))))) ) pa_nil))))) (pss_one (ps_ret pe_bl)) pss_nil)
      (pss_cons (ps_set (i := 2) scIp.nd rfl (.inr rfl) (by exact (pe_lc2 (own := [("lot", 3), ("entry", 4)]) (vs1 := [4]) (wi1 := iList K (tVar 3)) (g := gName 3) (tt := tYes) (g1 := gName 4) (tt1 := tYes) (te := tVar 4) rfl scIp.nd (pi_list (pv 1)) (blkOk_by (N := nIp) (sc := defScope (top 32)) (by decide +kernel)) (by decide)
          (fun _ _ _ _ _ => pg_name (i := 3) scIp.nd rfl (Or.inl rfl)) (fun _ _ _ _ _ => pts_nil) (fun _ _ _ _ _ => by exact (pi_list (by exact (pv 3)))) (fun _ _ _ _ _ => pg_name (i := 4) scIp.nd rfl (Or.inl rfl)) (fun _ _ _ _ _ => pts_nil) (fun _ _ _ _ _ => by exact (pv 4)))))
      (pss_one (ps_ret (by exact (pe_and (by exact (pe_cmpR op_eq (by exact (pe_callB call_len rfl ml boot_len (pa_cons (pv 2) pa_nil))) (by exact (pe_callB call_len rfl ml boot_len (pa_cons (pv 0) pa_nil))) (nomark _)))
        (pe_one (by exact (pe_callB (cr_all rfl) rfl ma PyProof.Rows.boot_all (pa_cons (by exact (pe_lc (own := [("one", 5)]) (g := gName 5) (tt := tYes) (te := tOp (rIn2 K C (spEqK K C) E0) (tVar 5) (tVar 2)) rfl scIp.nd (pi_seq (pv 0))
          (blkOk_by (N := nIp) (sc := defScope (top 32)) (by decide +kernel)) (fun _ _ _ _ _ => pg_name (i := 5) scIp.nd rfl (Or.inl rfl)) (fun _ _ _ _ _ => pts_nil) (fun _ _ _ _ _ => by exact (pe_cmpR (op_in2 GE eE iE bE hr pass0 N) (by exact (pv 5)) (by exact (pv 2)) rfl)))) pa_nil))))))))))), ?_⟩
    obtain ⟨st, v, ws, rfl, hst, w9, hw, h⟩ := h
    rcases h with ⟨⟨t, ty, k⟩, fin⟩ | ⟨q, xs, its, rfl, hq, pr, x20, eo, fin⟩
    · refine ⟨_, rfl, v, .ty "list", _, _, false, rfl, .ty "list", ty, k, _, rfl, ?_⟩
      exact iteT (fin H (Sm.refl _))
    have sz : ∀ n : Nat, n ≤ 1000 → n ≤ sizeLine := fun n z => by
      rw [sizeLine_eq]
      omega
    have al := paired_len pr
    have lot_at : ∀ {i : Nat} {x : V}, xs[i]? = some x → ∃ o, its[i]? = some o ∧ LotV K H x o := fun e => pair_at pr e
    have e40 : ∀ o ∈ its, ∀ es, o = some es → es.length ≤ 40 := fun o ho es e => by
      subst e
      obtain ⟨i, hi, ei⟩ := List.mem_iff_getElem.mp ho
      obtain ⟨o2, eo2, l⟩ := lot_at (List.getElem?_eq_getElem (show i < xs.length by omega))
      rw [List.getElem?_eq_getElem hi, ei] at eo2
      cases Option.some.inj eo2
      exact l.1
    refine ⟨_, rfl, .ref q, .ty "list", _, _, true, rfl, .ty "list", .base (.lst hq), kit_ty (by decide +kernel), _, rfl, ?_⟩
    refine iteF ⟨_, rfl, q, rfl, ⟨_, .inl (.inl hq)⟩, ?_⟩
    refine lc_map (walk_list (xs := xs)) (fv := fun i => .bl (lotB (its.getD i none))) (by omega) (fun G5 m5 => .inl (.inl (m5 _ _ hq))) (fun _ => rfl) (fun i G5 x G6 _ yy => by rw [yy.1]; exact Sm.refl _) (fun i v G5 G6 Q3 hi s5 yy s6 qq => ?_) (fun D1 G1 m1 nD1 eD1 => ?_)
    · obtain ⟨rfl, ex⟩ := yy
      obtain ⟨o, eo2, l⟩ := lot_at ex
      have z3 := qq G6 (Sm.refl _)
      have g : its.getD i none = o := by rw [List.getD_eq_getElem?_getD, eo2]; rfl
      rw [g] at z3
      have l := LotV.sm l s6
      cases o with
      | none =>
        obtain ⟨t, ty, k⟩ := l
        refine ⟨_, rfl, v, .ty "list", _, _, false, rfl, .ty "list", ty, k, ?_⟩
        refine ⟨_, rfl, iteF ?_⟩
        exact z3
      | some es =>
        obtain ⟨_, a, rfl, ha⟩ := l
        refine ⟨_, rfl, .ref a, .ty "list", _, _, true, rfl, .ty "list", .base (.lst ha), kit_ty (by decide +kernel), ?_⟩
        refine ⟨_, rfl, iteT ⟨_, rfl, .ref a, es.length, rfl, .inl ⟨_, .inl (.inl ha), rfl⟩, _, _, rfl, rfl, ?_⟩⟩
        show Q3 (.bl (decide ((0 : Int) < ((es.length : Nat) : Int)))) G6
        cases es with
        | nil => exact z3
        | cons e es =>
          rw [decide_eq_true (show (0 : Int) < (((e :: es).length : Nat) : Int) by rw [List.length_cons]; omega)]
          exact z3
    · refine ⟨D1, (List.range xs.length).map fun i => lotB (its.getD i none), rfl, .inl (.inl (by rw [eD1, List.map_map]; rfl)), _, rfl, ?_⟩
      rw [al, all_rangeG]
      cases hb : its.all lotB with
      | false =>
        refine iteT ?_
        have z := fin G1 m1
        rw [show partB ws its = false by unfold partB; rw [hb, Bool.false_and]] at z
        exact z
      | true =>
        refine iteF ⟨_, rfl, q, rfl, ⟨_, .inl (.inl (m1 _ _ hq))⟩, fun D nD => ?_⟩
        have lots : ∀ {i : Nat} {x : V}, xs[i]? = some x → ∃ es a, its[i]? = some (some es) ∧ es.length ≤ 40 ∧ x = .ref a ∧ H a = some (.lst es) := fun {i x} e => by
          obtain ⟨o, eo2, l⟩ := lot_at e
          have := List.all_eq_true.mp hb _ (List.mem_of_getElem? eo2)
          cases o with
          | none => exact absurd this (by decide)
          | some es =>
            obtain ⟨n, a, e1, e2⟩ := l
            exact ⟨es, a, eo2, n, e1, e2⟩
        refine walk_W (walk_list (xs := xs)) (fun i G => G D = some (.lst (entsOf (its.take i))) ∧ Sm G1 G) ⟨upd_same, Sm.new nD⟩ (fun i G _ p => .inl (.inl (p.2 _ _ (m1 _ _ hq)))) (fun i v G G' hi p yy => ?_) (fun G p => ?_)
        · obtain ⟨eD, mG⟩ := p
          obtain ⟨rfl, ex⟩ := yy
          obtain ⟨es, a, eg, n40, rfl, ha⟩ := lots ex
          have m0 := Sm.trans m1 mG
          refine ⟨rfl, ?_⟩
          unfold tYes
          dsimp only
          rw [if_pos rfl]
          refine ⟨_, rfl, a, rfl, ⟨_, .inl (.inl (m0 _ _ ha))⟩, ?_⟩
          refine walk_W (walk_list (xs := es)) (fun j G2 => G2 D = some (.lst (entsOf (its.take i) ++ es.take j)) ∧ Sm G1 G2) ⟨by rw [List.take_zero, List.append_nil]; exact eD, mG⟩ (fun j G2 _ p => .inl (.inl (p.2 _ _ (m1 _ _ ha)))) (fun j v G2 G3 hj p yy => ?_) (fun G2 p => ?_)
          · obtain ⟨eD2, mG2⟩ := p
            obtain ⟨rfl, ex⟩ := yy
            refine ⟨rfl, ?_⟩
            dsimp only
            rw [if_pos rfl]
            refine ⟨_, rfl, _, eD2, ?_, ?_, fun b o e => ?_⟩
            · have h1 := ents_len (its := its.take i) (fun o ho => e40 o (List.mem_of_mem_take ho))
              rw [List.length_append, List.length_take, sizeLine_eq]
              rw [List.length_take] at h1
              omega
            · rw [upd_same, List.take_add_one, ex, ← List.append_assoc]
              rfl
            · rw [upd_ne (ne_of_none e nD)]
              exact mG2 _ _ e
          · obtain ⟨eD2, mG2⟩ := p
            rw [List.take_length, ← ents_take eg] at eD2
            exact ⟨eD2, mG2⟩
        · obtain ⟨eD, mG⟩ := p
          rw [al, List.take_length] at eD
          have m0 := Sm.trans m1 mG
          refine ⟨_, rfl, .ref D, (entsOf its).length, rfl, .inl ⟨_, .inl (.inl eD), rfl⟩, _, rfl, .ref st, ws.length, rfl, .inr ⟨_, SqT.sm hst m0, by rw [List.length_map]⟩, rfl, ?_⟩
          cases hc : decide ((entsOf its).length = ws.length) with
          | false =>
            have ne := of_decide_eq_false hc
            rw [decide_eq_false (show ¬ V.int (((entsOf its).length : Nat) : Int) = V.int ((ws.length : Nat) : Int) from fun e => ne (by have := V.int.inj e; omega))]
            refine ⟨_, rfl, iteF ?_⟩
            have z := fin G m0
            rw [show partB ws its = false by unfold partB; rw [hb, hc, Bool.false_and, Bool.and_false]] at z
            exact z
          | true =>
            have ee := of_decide_eq_true hc
            rw [decide_eq_true (show V.int (((entsOf its).length : Nat) : Int) = V.int ((ws.length : Nat) : Int) by rw [ee])]
            refine ⟨_, rfl, iteT ⟨_, rfl, st, ws.map V.str, rfl, .inr ⟨SqT.sm hst m0, ?_⟩⟩⟩
            have eo := EntOk.sm eo m0
            refine lc_map (walk_tup (xs := ws.map V.str)) (fv := fun i => .bl ((entsOf its).any (isS (ws.getD i "")))) (by rw [List.length_map]; omega) (fun G5 m5 => SqT.sm hst (Sm.trans m0 m5)) (fun _ => rfl) (fun i G5 x G6 _ yy => by rw [yy.1]; exact Sm.refl _) (fun i v G5 G6 Q3 hi s5 yy s6 qq => ?_) (fun D2 G5 m5 nD2 eD2 => ?_)
            · obtain ⟨rfl, ex⟩ := yy
              obtain ⟨z, ez, rfl⟩ := str_atL ex
              have gz : ws.getD i "" = z := by rw [List.getD_eq_getElem?_getD, ez]; rfl
              rw [gz] at qq
              refine ⟨_, rfl, _, rfl, ?_⟩
              have eo := EntOk.sm eo s6
              rcases eo with ⟨ds, dp, sh⟩ | ⟨a, ws2, ds, tb, ls, n, efl, ob, is⟩
              · refine .inl ⟨.str z, ds, .str z, .lst (.inl (.inl (s6 _ _ eD))) dp, shaped_word (hw z (List.mem_of_getElem? ez)), sh, ?_⟩
                rw [any_dp dp]
                exact qq G6 (Sm.refl _)
              · rw [efl] at qq eD
                obtain ⟨dx, st2, ld, si, as0, hx, _⟩ := id ob
                refine .inr ⟨z, D, a, dx, _, rfl, rfl, s6 _ _ eD, hx, a, .str z, ws2, ds, tb, ls, n, rfl, ob, is, .inr ⟨_, .base (.str z), kS, rfl, s6 _ _ eD, ?_⟩⟩
                exact qq G6 (Sm.refl _)
            · refine ⟨D2, (List.range ws.length).map fun i => (entsOf its).any (isS (ws.getD i "")), rfl, .inl (.inl (by rw [eD2, List.map_map, List.length_map]; rfl)), ?_⟩
              rw [show ((List.range ws.length).map fun i => (entsOf its).any (isS (ws.getD i ""))).all id = ws.all fun z => (entsOf its).any (isS z) from all_rangeG (p := fun z => (entsOf its).any (isS z))]
              have z := fin G5 (Sm.trans m0 m5)
              rw [show partB ws its = ws.all fun z => (entsOf its).any (isS z) by unfold partB; rw [hb, hc, Bool.true_and, Bool.true_and]] at z
              exact z
end
end Dk
set_option Elab.async false
set_option linter.all false
set_option maxRecDepth 100000
set_option maxHeartbeats 8000000
namespace Dk
open PySem PySem.Spec PyProof.Rows L2 Er LamX NdefX Bf Dc2
/-! ### is_likeness, of anything -/
def strOf : V → Option Str
  | .str z => some z
  | _ => none
theorem strs_fm {fl : List V} (h : (fl.filterMap strOf).length = fl.length) : fl = (fl.filterMap strOf).map V.str := by
  induction fl with
  | nil => rfl
  | cons v t ih =>
    have le := List.length_filterMap_le strOf t
    cases v with
    | str z =>
      rw [List.filterMap_cons_some (f := strOf) (a := .str z) (b := z) rfl] at h ⊢
      rw [List.map_cons, ← ih (by simpa using h)]
    | _ =>
      rw [List.filterMap_cons_none (f := strOf) rfl, List.length_cons] at h
      omega
theorem all_str {fl : List V} {ws : List Str} (nd : ws.Nodup) (len : fl.length = ws.length) (has : ∀ z ∈ ws, fl.any (isS z) = true) : ∃ fs : List Str, fl = fs.map V.str := by
  refine ⟨fl.filterMap strOf, strs_fm ?_⟩
  have le := List.length_filterMap_le strOf fl
  have := nodup_le (m := fl.filterMap strOf) nd fun z hz => by
    obtain ⟨v, hv, e⟩ := List.any_eq_true.mp (has z hz)
    cases v with
    | str y =>
      have := of_decide_eq_true e
      subst this
      exact List.mem_filterMap.mpr ⟨_, hv, rfl⟩
    | _ => exact absurd (show false = true from e) (by decide)
  omega
abbrev gO (g : List Str) : Option (List V) := some (g.map V.str)
theorem split_str : ∀ {its : List (Option (List V))} {fs : List Str}, its.all lotB = true → entsOf its = fs.map V.str → ∃ Gs : List (List Str), its = Gs.map gO ∧ Gs.flatten = fs ∧ ∀ g ∈ Gs, 1 ≤ g.length
  | [], fs, _, e => by
    have : fs = [] := List.map_eq_nil_iff.mp e.symm
    subst this
    exact ⟨[], rfl, rfl, fun g hg => (nomatch hg)⟩
  | o :: t, fs, h, e => by
    rw [List.all_cons, Bool.and_eq_true] at h
    cases o with
    | none => exact absurd h.1 (by decide)
    | some es =>
      cases es with
      | nil => exact absurd h.1 (by decide)
      | cons v vs =>
        have e : (v :: vs) ++ entsOf t = fs.map V.str := e
        obtain ⟨l1, l2, rfl, e1, e2⟩ := List.map_eq_append_iff.mp e.symm
        obtain ⟨Gs, rfl, e3, e4⟩ := split_str h.2 e2.symm
        refine ⟨l1 :: Gs, ?_, ?_, fun g hg => ?_⟩
        · rw [List.map_cons, ← e1]
        · rw [List.flatten_cons, e3]
        · rcases List.mem_cons.mp hg with rfl | hg
          · have := congrArg List.length e1
            rw [List.length_map, List.length_cons] at this
            omega
          · exact e4 g hg
theorem ents_strs {Gs : List (List Str)} : entsOf (Gs.map gO) = Gs.flatten.map V.str := by
  induction Gs with
  | nil => rfl
  | cons g t ih =>
    show (g.map V.str) ++ entsOf (t.map gO) = _
    rw [ih, List.flatten_cons, List.map_append]
theorem part_of {ws : List Str} {its : List (Option (List V))} (w9 : ws.length ≤ 9) (nd : ws.Nodup) (h : partB ws its = true) : ∃ Gs, its = Gs.map gO ∧ Ptn ws Gs := by
  unfold partB at h
  rw [Bool.and_eq_true, Bool.and_eq_true] at h
  obtain ⟨h1, h2, h3⟩ := h
  have h2 := of_decide_eq_true h2
  have h3 := List.all_eq_true.mp h3
  obtain ⟨fs, e⟩ := all_str nd h2 h3
  obtain ⟨Gs, rfl, e2, e3⟩ := split_str h1 e
  refine ⟨Gs, rfl, w9, nd, e3, ?_, fun z hz => ?_⟩
  · rw [ents_strs, List.length_map] at h2
    exact h2
  · have := h3 z hz
    rw [ents_strs] at this
    obtain ⟨v, hv, ev⟩ := List.any_eq_true.mp this
    obtain ⟨y, hy, rfl⟩ := List.mem_map.mp hv
    have := of_decide_eq_true ev
    subst this
    exact hy
theorem part_back {ws : List Str} {Gs : List (List Str)} (h : Ptn ws Gs) : partB ws (Gs.map gO) = true := by
  unfold partB
  rw [Bool.and_eq_true, Bool.and_eq_true]
  refine ⟨List.all_eq_true.mpr fun o ho => ?_, ?_, List.all_eq_true.mpr fun z hz => ?_⟩
  · obtain ⟨g, hg, rfl⟩ := List.mem_map.mp ho
    have := h.some g hg
    cases g with
    | nil => exact absurd this (by decide)
    | cons a b => rfl
  · rw [ents_strs, List.length_map]
    exact decide_eq_true h.len
  · rw [ents_strs]
    exact List.any_eq_true.mpr ⟨.str z, List.mem_map.mpr ⟨z, h.has z hz, rfl⟩, decide_eq_true rfl⟩
theorem gO_inj {Gs Gs2 : List (List Str)} (h : Gs.map gO = Gs2.map gO) : Gs = Gs2 := by
  refine (List.map_inj_right fun x y e => ?_).mp h
  have e := Option.some.inj e
  exact (List.map_inj_right fun a b e => V.str.inj e).mp e
/-- what is a likeness -/
def LikP (ws : List Str) (nx : Str → Str → Str) (lk : Str → Str) (ds : List Str) (its : List (Option (List V))) : Prop := ∃ Gs : List (List Str), its = Gs.map gO ∧ Ptn ws Gs ∧ ∀ g ∈ Gs, ∀ g0, g[0]? = some g0 → ∀ z ∈ g, Tog nx lk ds (plc Gs) z g0
theorem lots_addr {K : PySem.W.Frag} {H : Hp} : ∀ {xs : List V} {Gs : List (List Str)}, Paired (LotV K H) xs (Gs.map gO) → ∃ as : List Addr, xs = as.map V.ref ∧ Paired (fun a (g : List Str) => H a = some (.lst (g.map V.str))) as Gs
  | [], [], _ => ⟨[], rfl, .nil⟩
  | x :: xs, g :: Gs, h => by
    cases h with
    | cons a t =>
      obtain ⟨as, rfl, p⟩ := lots_addr t
      obtain ⟨_, b, rfl, hb⟩ := a
      exact ⟨b :: as, rfl, .cons hb p⟩
def spIlA (K : PySem.W.Frag) (C : Addr) : Sp := fun vs H Q _ => ∃ (x : Addr) (v : V) (ws : List Str) (ds : List Str) (tb : List (List Str)) (ls : List Str) (m : Nat), vs = [.ref x, v] ∧ DeskOb K C H x ws ds tb ls ∧ DkIs m ws ds tb ls ∧ m ≤ 9 ∧
  ((NotL K H v ∧ ∀ G, Sm H G → Q (.bl false) G) ∨
   ∃ (q : Addr) (xs : List V) (its : List (Option (List V))), v = .ref q ∧ H q = some (.lst xs) ∧ Paired (LotV K H) xs its ∧ xs.length ≤ 20 ∧ EntOk K C H (entsOf its) ∧
     ∀ (b : Bool) G, Sm H G → (b = true ↔ LikP ws (nxt ws ds tb) (look ws ls) ds its) → Q (.bl b) G)
section
variable {P : Program} {w : World} {K : PySem.W.Frag} {mg : Str → Option Value} {base : Heap} {f C fI fT pS gS : Addr} {fd dI dT dStd : FuncData}
theorem ok_ilA (F : FnP K "is_likeness" (top 31) f fd) (me : mg "enumerate" = none) (ma : mg "all" = none) (hC : Cls K C) (PS_ : PropOf K C "standings" pS gS) (GS : FnOk P w K mg base CX0 1 gS dStd nSelf (spStd C)) (bS : Binds K dStd nSelf [])
    (GI : FnOk P w K mg base CX0 3 fI dI ["standings", "value"] (spIpA K C)) (FI : FnP K "is_parting" (top 32) fI dI) (gI : mg "is_parting" = some (.ref fI))
    (GT : FnOk P w K mg base CX0 3 fT dT ["desk", "lot", "places"] (spKt K C)) (FT : FnP K "keeps_together" (top 33) fT dT) (gT : mg "keeps_together" = some (.ref fT)) : FnOk P w K mg base CX0 4 f fd ["desk", "value"] (spIlA K C) := by
  refine F.ok (CX := CX0) scIl (fun vs H Q E h => ?_) (fun cdv A outer s H vs Q E hr h => ?_)
  · obtain ⟨x, v, ws, ds, tb, ls, m, rfl, _⟩ := h
    rfl
  · have hr2 := hr.mono (show 2 ≤ 3 by decide)
    have hr1 := hr.mono (show 1 ≤ 3 by decide)
    refine ⟨_, PSs.nox (pss_cons (ps_if (pt_not (pt_val (by exact (pe_call GI hr rfl gI FI.kp (bIp FI) .nil pass0 (pa_cons (by exact (pe_prop (pv 0) hC PS_ GS hr2 bS .nil pass0 rfl)) (pa_cons (pv 1) pa_nil)))))) (pss_one (ps_ret pe_bl)) pss_nil)
      (pss_cons (ps_set (i := 2) scIl.nd rfl (.inr rfl) (by exact (pe_dc2 (own := [("number", 3), ("lot", 4), ("standing", 5)]) (vb := [5]) (ga := gTup K 2 (gCons (gName 3) (gCons (gName 4) gNil))) (ta := tYes) (wb := iList K (tVar 4)) (gb := gName 5) (tb := tYes) (tk := tVar 5) (tv := tVar 3) rfl scIl.nd (pi_enum rfl me (pa_cons (pv 1) pa_nil))
        (blkOk_by (N := nIl) (sc := defScope (top 31)) (by decide +kernel)) (by decide) (fun _ _ _ _ _ => by exact (pg_tup rfl (pgs_cons (pg_name (i := 3) scIl.nd rfl (Or.inl rfl)) (pgs_cons (pg_name (i := 4) scIl.nd rfl (Or.inl rfl)) pgs_nil)))) (fun _ _ _ _ _ => pts_nil)
        (fun _ _ _ _ _ => by exact (pi_list (by exact (pv 4)))) (fun _ _ _ _ _ => pg_name (i := 5) scIl.nd rfl (Or.inl rfl)) (fun _ _ _ _ _ => pts_nil) (fun _ _ _ _ _ => by exact (pv 5)) (fun _ _ _ _ _ => by exact (pv 3)))))
      (pss_one (ps_ret (by exact (pe_callB (cr_all rfl) rfl ma PyProof.Rows.boot_all (pa_cons (by exact (pe_lc (own := [("lot", 4)]) (g := gName 4) (tt := tYes) (te := tCall (spKt K C) [] E0 (tCons (tVar 0) (tCons (tVar 4) (tCons (tVar 2) tNil)))) rfl scIl.nd (pi_list (pv 1))
        (blkOk_by (N := nIl) (sc := defScope (top 31)) (by decide +kernel)) (fun _ _ _ _ _ => pg_name (i := 4) scIl.nd rfl (Or.inl rfl)) (fun _ _ _ _ _ => pts_nil)
        (fun _ _ _ _ _ => by exact (pe_call GT hr rfl gT FT.kp (bKt FT) .nil pass0 (pa_cons (by exact (pv 0)) (pa_cons (by exact (pv 4)) (pa_cons (by exact (pv 2)) pa_nil))))))) pa_nil))))))), ?_⟩
    obtain ⟨x, v, ws, ds, tb, ls, m, rfl, ob, is, m9, h⟩ := h
    have sz : ∀ n : Nat, n ≤ 1000 → n ≤ sizeLine := fun n z => by
      rw [sizeLine_eq]
      omega
    obtain ⟨dx, st, ld, si, as0, hx, hst, _⟩ := id ob
    have w9 : ws.length ≤ 9 := Nat.le_trans is.most m9
    rcases h with ⟨nl, fin⟩ | ⟨q, xs, its, rfl, hq, pr, x20, eo, fin⟩
    · exact ⟨_, rfl, x, dx, _, rfl, hx, x, dx, st, ld, si, rfl, hx, _, rfl, st, v, ws, rfl, hst, w9, is.word, .inl ⟨nl, fun G m => ⟨_, rfl, iteT (fin G m)⟩⟩⟩
    refine ⟨_, rfl, x, dx, _, rfl, hx, x, dx, st, ld, si, rfl, hx, _, rfl, st, .ref q, ws, rfl, hst, w9, is.word, .inr ⟨q, xs, its, rfl, hq, pr, x20, eo, fun G1 m1 => ⟨_, rfl, ?_⟩⟩⟩
    cases hb : partB ws its with
    | false =>
      refine iteT (fin false G1 m1 ⟨fun e => (nomatch e), fun ⟨Gs, e, pt, _⟩ => ?_⟩)
      rw [e, part_back pt] at hb
      cases hb
    | true =>
    refine iteF ?_
    obtain ⟨Gs, rfl, pt⟩ := part_of w9 is.nd hb
    obtain ⟨as, rfl, prA⟩ := lots_addr pr
    clear pr
    have pr := prA
    have fin : ∀ (b : Bool) G, Sm H G → (b = true ↔ ∀ g ∈ Gs, ∀ g0, g[0]? = some g0 → ∀ z ∈ g, Tog (nxt ws ds tb) (look ws ls) ds (plc Gs) z g0) → Q (.bl b) G := fun b G m i => fin b G m (i.trans ⟨fun h => ⟨Gs, rfl, pt, h⟩, fun ⟨Gs2, e, _, h⟩ => by
      cases gO_inj e
      exact h⟩)
    have gm := pt.many
    have al := paired_len pr
    have fnd := pt.fnd
    have grp_at : ∀ {i : Nat} {a : Addr}, as[i]? = some a → ∃ g, Gs[i]? = some g ∧ H a = some (.lst (g.map V.str)) := fun e => pair_at pr e
    refine ⟨_, rfl, q, _, rfl, .inl (.inl (m1 _ _ hq)), fun D nD => ?_⟩
    refine walk_W (walk_enum (xs := as.map V.ref)) (fun i G => G D = some (numO (Gs.take i).flatten (plc Gs)) ∧ Sm G1 G) ⟨upd_same, Sm.new nD⟩ (fun i G _ p => .inl (.inl (p.2 _ _ (m1 _ _ hq)))) (fun i v G G' hi p yy => ?_) (fun G p => ?_)
    · obtain ⟨eD, mG⟩ := p
      obtain ⟨T, z1, z2, rfl, nT, rfl, f1, f2⟩ := yy
      cases Option.some.inj f1
      obtain ⟨a, ea, rfl⟩ := ref_atL (show (as.map V.ref)[i]? = some z2 from f2)
      obtain ⟨g, eg, ha⟩ := grp_at ea
      have mT := Sm.new (o := .tup [.int ((i : Nat) : Int), .ref a]) nT
      have eT : upd G T (.tup [.int ((i : Nat) : Int), .ref a]) T = some (.tup [.int ((i : Nat) : Int), .ref a]) := upd_same
      have eD := mT _ _ eD
      have mG := Sm.trans mG mT
      generalize upd G T (.tup [.int ((i : Nat) : Int), .ref a]) = G2 at eT eD mG ⊢
      have m0 := Sm.trans m1 mG
      refine ⟨T, _, rfl, .inl (.inl eT), rfl, _, _, rfl, _, _, rfl, rfl, rfl, ?_⟩
      unfold tYes
      dsimp only
      rw [if_pos rfl]
      refine ⟨_, rfl, a, rfl, ⟨_, .inl (.inl (m0 _ _ ha))⟩, ?_⟩
      have fte : Gs.flatten = (Gs.take (i + 1)).flatten ++ (Gs.drop (i + 1)).flatten := by rw [← List.flatten_append, List.take_append_drop]
      have ndt : ((Gs.take i).flatten ++ g).Nodup := by
        rw [← take_flat eg]
        rw [fte] at fnd
        exact (List.nodup_append.mp fnd).1
      refine walk_W (walk_list (xs := g.map V.str)) (fun j G3 => G3 D = some (numO ((Gs.take i).flatten ++ g.take j) (plc Gs)) ∧ Sm G1 G3) ⟨by rw [List.take_zero, List.append_nil]; exact eD, mG⟩ (fun j G3 _ p => .inl (.inl (p.2 _ _ (m1 _ _ ha)))) (fun j v G3 G4 hj p yy => ?_) (fun G3 p => ?_)
      · obtain ⟨eD3, mG3⟩ := p
        obtain ⟨rfl, ex⟩ := yy
        obtain ⟨z, ez, rfl⟩ := str_atL ex
        have hz := List.mem_of_getElem? ez
        refine ⟨rfl, ?_⟩
        dsimp only
        rw [if_pos rfl]
        have tk : g.take (j + 1) = g.take j ++ [z] := by
          rw [List.take_add_one, ez]
          rfl
        refine ⟨_, rfl, _, rfl, _, .inr z, rfl, eD3, ?_, ?_, fun b o e => ?_⟩
        · have h1 := flat_le (Gs := Gs) (i := i)
          have h2 := pt.len
          have h3 := pt.each (List.mem_of_getElem? eg)
          rw [dkv_len (by rw [List.length_map]), List.length_append, List.length_take, sizeLine_eq]
          omega
        · rw [upd_same, tk, ← List.append_assoc]
          unfold numO
          rw [put_dkvV (by rw [List.length_map]) ?_, List.map_append (l₁ := (Gs.take i).flatten ++ g.take j)]
          · show _ = some (HO.dK (dkv _ (_ ++ [V.int ((plc Gs z : Nat) : Int)])))
            rw [plc_at fnd eg hz]
          · rw [List.append_assoc, ← tk]
            exact ndt.sublist (List.Sublist.append (List.Sublist.refl _) (List.take_sublist _ _))
        · rw [upd_ne (ne_of_none e nD)]
          exact mG3 _ _ e
      · obtain ⟨eD3, mG3⟩ := p
        rw [List.length_map, List.take_length, ← take_flat eg] at eD3
        exact ⟨eD3, mG3⟩
    · obtain ⟨eD, mG⟩ := p
      rw [List.length_map, al, List.take_length] at eD
      have m0 := Sm.trans m1 mG
      refine ⟨_, rfl, q, rfl, ⟨_, .inl (.inl (m0 _ _ hq))⟩, ?_⟩
      -- what is told of each lot
      refine fun D2 nD2 => ?_
      refine lc_it (walk_list (xs := as.map V.ref)) (vs := [4]) (fun i G3 => ∃ bs : List Bool, G3 D2 = some (.lst (bs.map V.bl)) ∧ bs.length = i ∧ ((∀ b ∈ bs, b = true) ↔ ∀ g ∈ Gs.take i, ∀ g0, g[0]? = some g0 → ∀ z ∈ g, Tog (nxt ws ds tb) (look ws ls) ds (plc Gs) z g0) ∧ Sm G G3)
        ⟨[], upd_same, rfl, ⟨(fun _ g hg => absurd hg (by rw [List.take_zero]; exact List.not_mem_nil)), (fun _ b hb => absurd hb List.not_mem_nil)⟩, Sm.new nD2⟩ (fun i G3 _ ⟨_, _, _, _, mm⟩ => .inl (.inl (mm _ _ (m0 _ _ hq)))) (fun i v G3 G4 hi pp yy => ?_) (fun G3 pp => ?_)
      · obtain ⟨bs, eB, bl, iff, mm⟩ := pp
        obtain ⟨rfl, ex⟩ := yy
        obtain ⟨a, ea, rfl⟩ := ref_atL ex
        obtain ⟨g, eg, ha⟩ := grp_at ea
        have hg := List.mem_of_getElem? eg
        have m4 := Sm.trans m0 mm
        refine ⟨rfl, _, rfl, _, rfl, _, rfl, x, a, D, g, Gs.flatten, ws, ds, tb, ls, plc Gs, m, rfl, ob.sm m4, is, m9, m4 _ _ ha, pt.some g hg, pt.each hg, (fun z hz => pt.sub z (List.mem_flatten.mpr ⟨g, hg, hz⟩)), mm _ _ eD, pt.has, fun g0 b G5 e0 m5 hb => ?_⟩
        refine ⟨_, m5 _ _ eB, by rw [List.length_map, bl, sizeLine_eq]; rw [List.length_map] at hi; omega, bs ++ [b], by rw [upd_same, List.map_append]; rfl, by rw [List.length_append, bl]; rfl, ?_, fun c o e => ?_⟩
        · rw [List.take_add_one, eg]
          constructor
          · intro h g2 hg2
            rcases List.mem_append.mp hg2 with z | z
            · exact iff.mp (fun b hb => h b (List.mem_append_left _ hb)) g2 z
            · have : g2 = g := by simpa using z
              subst this
              intro g1 e1
              rw [e0] at e1
              cases Option.some.inj e1
              exact hb.mp (h b (List.mem_append_right _ (List.mem_singleton.mpr rfl)))
          · intro h b2 hb2
            rcases List.mem_append.mp hb2 with z | z
            · exact iff.mpr (fun g2 hg2 => h g2 (List.mem_append_left _ hg2)) b2 z
            · rw [List.mem_singleton.mp z]
              exact hb.mpr (h g (List.mem_append_right _ (by simp)) g0 e0)
        · rw [upd_ne (ne_of_none e nD2)]
          exact m5 _ _ (mm _ _ e)
      · obtain ⟨bs, eB, bl, iff, mm⟩ := pp
        rw [List.length_map, al, List.take_length] at iff
        refine ⟨D2, bs, rfl, .inl (.inl eB), ?_⟩
        refine fin _ G3 (Sm.trans m0 mm) ?_
        rw [List.all_eq_true]
        exact iff
end
end Dk
set_option Elab.async false
set_option linter.all false
set_option maxRecDepth 100000
set_option maxHeartbeats 4000000
namespace Dk
open PySem PySem.Spec PyProof.Rows L2 Er
/-! ### a list of anything != []; _law_mixed of anything -/
def rNeE : R2 := fun x y H Q => ∃ a b xs, x = .ref a ∧ y = .ref b ∧ H a = some (.lst xs) ∧ H b = some (.lst []) ∧ Q (.bl (!xs.isEmpty)) H
theorem op_neE {X : Cx} (hu : X.A.units + 64 < cLine) : OpR X (compareOp .NotEq) rNeE := by
  intro ps s σ H x y v u Q I rx ry h
  obtain ⟨a, b, xs, rfl, rfl, ea, eb, q⟩ := h
  obtain rfl : v = Value.ref a := rx
  obtain rfl : u = Value.ref b := ry
  obtain ⟨_, its, n, rv, ho⟩ := (show ObjOk X.prog X.w H s.heap a (.lst xs) from I.hok a _ ea)
  obtain ⟨_, it2, n2, rv2, ho2⟩ := (show ObjOk X.prog X.w H s.heap b (.lst []) from I.hok b _ eb)
  have l1 : its.toArray.size = xs.length := by rw [List.size_toArray, ← paired_len rv]
  have l2 : it2.toArray.size = 0 := by
    have z := paired_len rv2
    rw [List.size_toArray, ← z]
    rfl
  have L1 : s.heap.IsList a its.toArray := ⟨_, ho, rfl, _, rfl⟩
  have L2 : s.heap.IsList b it2.toArray := ⟨_, ho2, rfl, _, rfl⟩
  cases xs with
  | nil =>
    refine SeqAt.RcNeAt.lists (e := fun _ => true) L1 L2 (by rw [l1, l2]; rfl) (by omega) (fun j h1 h2 => by rw [l2] at h2; omega) X.prog X.w _ _ ?_
    have z : its.toArray.size = 0 := l1
    rw [z]
    exact ⟨.bl false, H, I, rfl, q⟩
  | cons x xs =>
    refine SeqAt.RcNeAt.lists_lengths L1 L2 (by rw [l1, l2]; rfl) (by omega) X.prog X.w _ _ ?_
    exact ⟨.bl true, H, I, rfl, q⟩
def spMixedA (K : PySem.W.Frag) : Sp := fun vs H Q _ => ∃ (p l : Addr) (xs : List V), vs = [.ref p, .ref l] ∧ Src H p ∧ SqL K H l xs ∧ xs.length ≤ 1000 ∧
  ∀ (q : Addr) (ys : List V) H', Sx p H H' → Src H' p → H q = none → H' q = some (.lst ys) → ys.Perm xs → Q (.ref q) H'
section
variable {P : Program} {w : World} {K : PySem.W.Frag} {mg : Str → Option Value} {base : Heap} {f fD : Addr} {fd dD : FuncData}
theorem ok_mixedA (F : FnP K "_law_mixed" (top 38) f fd) (ml : mg "len" = none) (mi : mg "int" = none) (mt : mg "list" = none) (FD : FnP K "_law_draw" (top 36) fD dD) (gD : mg "_law_draw" = some (.ref fD)) :
    FnOk P w K mg base CX0 2 f fd ["_law_source_here", "_law_things"] (spMixedA K) := by
  have GD : FnOk P w K mg base CX0 1 fD dD ["_law_source_here", "_law_span"] spD := ok_d FD mi
  refine F.ok (CX := CX0) scMixed (fun vs H Q E h => ?_) (fun cdv A outer s H vs Q E hr h => ?_)
  · obtain ⟨p, l, xs, rfl, _⟩ := h
    rfl
  · refine ⟨_, PSs.nox (pss_cons (ps_par (i := 2) (j := 3) rfl scMixed.nd rfl rfl (by decide) rfl rfl (pa_cons (pe_callTy call_list_of rfl mt PyProof.Rows.boot_list (pa_cons (pv 1) pa_nil)) (pa_cons (pe_lst pa_nil) pa_nil)) (by rfl))
      (pss_cons (ps_while PassesOwn.never (pt_cmpR (op_neE hr.units) (pv 2) (pe_lst pa_nil) (nomark _))
        (pss_one (ps_expr (pe_bm PySem.F.plainAttrs_list PySem.F.slot_list_append PySem.F.type_list_append mt_append (pv 3) (pa_cons (pe_bm PySem.F.plainAttrs_list PySem.F.slot_list_pop PySem.F.type_list_pop mt_popAt (pv 2)
          (pa_cons (by exact (pe_call GD hr rfl gD FD.kp (bD FD) .nil pass0 (pa_cons (pv 0) (pa_cons (pe_callB call_len rfl ml boot_len (pa_cons (pv 2) pa_nil)) pa_nil)))) pa_nil)) pa_nil)))))
      (pss_one (ps_ret (pv 3))))), ?_⟩
    obtain ⟨p, l, xs, rfl, hs, sq, hx, q⟩ := h
    have sz : ∀ n : Nat, n ≤ 1000 → n ≤ sizeLine := fun n z => by
      rw [sizeLine_eq]
      omega
    refine ⟨_, rfl, l, xs, rfl, .inl sq, fun a1 n1 => ⟨sz _ (by decide), fun a2 n2 => ⟨_, _, rfl, ?_⟩⟩⟩
    have m1 : Sm H (upd H a1 (.lst xs)) := Sm.new n1
    have g1 : upd H a1 (.lst xs) a1 = some (.lst xs) := upd_same
    have m2 : Sm H (upd (upd H a1 (.lst xs)) a2 (.lst [])) := m1.trans (Sm.new n2)
    have e1 : upd (upd H a1 (.lst xs)) a2 (.lst []) a1 = some (.lst xs) := Sm.new n2 _ _ g1
    have e2 : upd (upd H a1 (.lst xs)) a2 (.lst []) a2 = some (.lst []) := upd_same
    have d12 : a1 ≠ a2 := ne_of_none g1 n2
    have p1 : a1 ≠ p := hs.ne n1
    have p2 : a2 ≠ p := (hs.new n1).ne n2
    have h2 : H a2 = none := by
      have z := n2
      rw [upd_ne (Ne.symm d12)] at z
      exact z
    have s2 := hs.sm m2
    generalize (upd (upd H a1 (.lst xs)) a2 (.lst [])) = G at m2 e1 e2 s2 ⊢
    refine while_by (fun σ H' => ∃ rem acc : List V, σ = [some (.ref p), some (.ref l), some (.ref a1), some (.ref a2)] ∧ Sx p H H' ∧ Src H' p ∧ H' a1 = some (.lst rem) ∧ H' a2 = some (.lst acc) ∧ (acc ++ rem).Perm xs)
      (fun _ H' => match H' a1 with
        | some (.lst rem) => rem.length
        | _ => 0) ⟨xs, [], rfl, Sx.of m2, s2, e1, e2, .refl _⟩ ?_ ?_
    · rintro σ H' ⟨rem, acc, rfl, m, src, f1, f2, pm⟩
      have lr : acc.length + rem.length = xs.length := by
        rw [← List.length_append]
        exact pm.length_eq
      refine ⟨_, rfl, sz _ (by decide), fun e ne => ?_⟩
      have f1' := Sm.new (o := .lst []) ne _ _ f1
      have f2' := Sm.new (o := .lst []) ne _ _ f2
      have m' : Sx p H (upd H' e (.lst [])) := m.trans (Sx.of (Sm.new ne))
      have src' := src.new (o := .lst []) ne
      have e3 : upd H' e (.lst []) e = some (.lst []) := upd_same
      have mu : (match (upd H' e (.lst [])) a1 with
        | some (.lst rem) => rem.length
        | _ => 0) = rem.length := by rw [f1']
      have mu0 : (match H' a1 with
        | some (.lst rem) => rem.length
        | _ => 0) = rem.length := by rw [f1]
      refine ⟨_, _, _, rfl, rfl, f1', e3, _, rfl, ?_⟩
      cases rem with
      | nil =>
        refine iteF ?_
        refine ⟨_, rfl, q a2 acc _ m' src' h2 f2' ?_⟩
        simpa using pm
      | cons x rem =>
        refine iteT ?_
        generalize (upd H' e (.lst [])) = G2 at f1' f2' m' src' mu ⊢
        refine ⟨_, rfl, .inl ⟨rfl, _, .inl (.inl f2')⟩, _, rfl, .inl ⟨rfl, _, .inl (.inl f1')⟩, _, rfl, _, rfl, _, _, rfl, .inl ⟨_, .inl (.inl f1'), rfl⟩, p, _, rfl, src', ?_, ?_, fun k G3 hk x3 s3 fr => ?_⟩
        · simp
        · simp only [List.length_cons] at lr ⊢
          omega
        have g1 := x3 _ _ p1 f1'
        have g2 := x3 _ _ p2 f2'
        refine ⟨a1, _, k, k, (x :: rem)[k], rfl, rfl, g1, by omega, by omega, ?_, List.getElem?_eq_getElem hk, ?_⟩
        · exact seqIndex_of (by omega) (by omega)
        have x4 : Sx p H (upd G3 a1 (.lst ((x :: rem).eraseIdx k))) := fun b o nb e => by
          have z := m'.trans x3 b o nb e
          rw [upd_ne (fun w => by rw [w, n1] at e; cases e)]
          exact z
        have g3 : upd G3 a1 (.lst ((x :: rem).eraseIdx k)) a2 = some (.lst acc) := by
          rw [upd_ne (Ne.symm d12)]
          exact g2
        have s4 : Src (upd G3 a1 (.lst ((x :: rem).eraseIdx k))) p := by
          obtain ⟨own, mix, e, r⟩ := s3
          refine ⟨own, mix, ?_, r⟩
          rw [upd_ne (Ne.symm p1)]
          exact e
        refine ⟨a2, acc, _, rfl, rfl, g3, ?_, ?_⟩
        · rw [sizeLine_eq]
          omega
        refine ⟨⟨(x :: rem).eraseIdx k, acc ++ [(x :: rem)[k]], rfl, ?_, ?_, ?_, upd_same, (pop_perm hk).trans pm⟩, ?_⟩
        · intro b o nb e
          rw [upd_ne (fun w => by rw [w, h2] at e; cases e)]
          exact x4 b o nb e
        · obtain ⟨own, mix, e, r⟩ := s4
          refine ⟨own, mix, ?_, r⟩
          rw [upd_ne (Ne.symm p2)]
          exact e
        · rw [upd_ne d12, upd_same]
        · rw [upd_ne d12, upd_same, mu0]
          dsimp only
          rw [List.length_eraseIdx_of_lt hk]
          simp
    · rintro σ H' Q1 Q2 hq ⟨v, e, z, w⟩
      refine ⟨v, e, z, fun p hp => ?_⟩
      obtain ⟨a, b, xs0, k1, k2, k3, k4, k, ek, r⟩ := w p hp
      exact ⟨a, b, xs0, k1, k2, k3, k4, k, ek, hq _ _ r⟩
end
/-! ### repr of lists and tuples of any depth, with empty dicts -/
mutual
inductive Rr (H : Hp) : V → PyData → Prop
  | non : Rr H .non .none
  | bl (b : Bool) : Rr H (.bl b) (.bool b)
  | int (i : Int) : Rr H (.int i) (.int i)
  | str (x : Str) : Rr H (.str x) (.str x)
  | lst {a : Addr} {xs : List V} {ds : List PyData} (e : H a = some (.lst xs)) (h : Rrs H xs ds) : Rr H (.ref a) (.list ds)
  | tup {a : Addr} {xs : List V} {ds : List PyData} (e : H a = some (.tup xs)) (h : Rrs H xs ds) : Rr H (.ref a) (.tuple ds)
  | emp {a : Addr} (e : H a = some (.dK [])) : Rr H (.ref a) (.dict [])
inductive Rrs (H : Hp) : List V → List PyData → Prop
  | nil : Rrs H [] []
  | cons {v : V} {d : PyData} {vs : List V} {ds : List PyData} (h : Rr H v d) (r : Rrs H vs ds) : Rrs H (v :: vs) (d :: ds)
end
mutual
theorem Rr.sm {H H' : Hp} (m : Sm H H') : ∀ {v : V} {d : PyData}, Rr H v d → Rr H' v d
  | _, _, .non => .non
  | _, _, .bl b => .bl b
  | _, _, .int i => .int i
  | _, _, .str x => .str x
  | _, _, .lst e h => .lst (m _ _ e) (Rrs.sm m h)
  | _, _, .tup e h => .tup (m _ _ e) (Rrs.sm m h)
  | _, _, .emp e => .emp (m _ _ e)
theorem Rrs.sm {H H' : Hp} (m : Sm H H') : ∀ {vs : List V} {ds : List PyData}, Rrs H vs ds → Rrs H' vs ds
  | _, _, .nil => .nil
  | _, _, .cons h r => .cons (Rr.sm m h) (Rrs.sm m r)
end
theorem Rrs.len {H : Hp} : ∀ {vs : List V} {ds : List PyData}, Rrs H vs ds → vs.length = ds.length
  | _, _, .nil => rfl
  | _, _, .cons _ r => by
    rw [List.length_cons, List.length_cons, r.len]
theorem Rrs.app {H : Hp} : ∀ {vs us : List V} {ds es : List PyData}, Rrs H vs ds → Rrs H us es → Rrs H (vs ++ us) (ds ++ es)
  | _, _, _, _, .nil, h => h
  | _, _, _, _, .cons a r, h => .cons a (r.app h)
theorem Rrs.strs {H : Hp} : ∀ (ws : List Str), Rrs H (ws.map V.str) (ws.map PyData.str)
  | [] => .nil
  | w :: ws => .cons (.str w) (Rrs.strs ws)
theorem Rrs.of {H : Hp} : ∀ {vs : List V}, (∀ v ∈ vs, ∃ d, Rr H v d) → ∃ ds, Rrs H vs ds
  | [], _ => ⟨[], .nil⟩
  | v :: vs, h => by
    obtain ⟨d, hd⟩ := h v List.mem_cons_self
    obtain ⟨ds, hs⟩ := Rrs.of (vs := vs) fun x hx => h x (List.mem_cons_of_mem _ hx)
    exact ⟨d :: ds, .cons hd hs⟩
section
variable {X : Cx} {pins : List (Addr × Obj)} {σ : L2.St} {H : Hp} {s : Shared}
mutual
theorem Rr.reads (S : IsSys X.K) (I : Inv X pins σ H s) : ∀ {v : V} {d : PyData}, Rr H v d → ∃ as : List Addr, (∀ u, RelV v u → Reads s.heap u d as) ∧ sysModules ∉ as
  | _, _, .non => ⟨[], fun u r => (Flat.non).reads r, fun z => nomatch z⟩
  | _, _, .bl b => ⟨[], fun u r => (Flat.bl b).reads r, fun z => nomatch z⟩
  | _, _, .int i => ⟨[], fun u r => by
      obtain ⟨t, q⟩ := (show ∃ t, u = Value.int i t from r)
      cases q
      exact .int i t, fun z => nomatch z⟩
  | _, _, .str x => ⟨[], fun u r => (Flat.str x).reads r, fun z => nomatch z⟩
  | _, _, .lst (a := a) (xs := xs) e h => by
    obtain ⟨_, its, n, rv, ho⟩ := (show ObjOk X.prog X.w H s.heap a (.lst xs) from I.hok a _ e)
    have ne := not_sys S I ho rfl
    obtain ⟨as, k, nas⟩ := Rrs.reads S I h
    refine ⟨a :: as, fun u r => ?_, fun z => ?_⟩
    · cases (show u = Value.ref a from r)
      exact Reads.list ho rfl rfl (by simpa using k _ rv)
    · rcases List.mem_cons.mp z with z | z
      · exact ne z.symm
      · exact nas z
  | _, _, .tup (a := a) (xs := xs) e h => by
    obtain ⟨_, its, rv, o, ho, hc, n, hd⟩ := (show ObjOk X.prog X.w H s.heap a (.tup xs) from I.hok a _ e)
    obtain ⟨as, k, nas⟩ := Rrs.reads S I h
    refine ⟨as, fun u r => ?_, nas⟩
    cases (show u = Value.ref a from r)
    exact Reads.tuple ho hc hd (by simpa using k _ rv)
  | _, _, .emp (a := a) e => (Thing.dct (ks := []) (xs := []) (ds := []) e rfl .nil).reads S I
theorem Rrs.reads (S : IsSys X.K) (I : Inv X pins σ H s) : ∀ {vs : List V} {ds : List PyData}, Rrs H vs ds → ∃ as : List Addr, (∀ us, Vals vs us → ReadsAll s.heap us ds as) ∧ sysModules ∉ as
  | _, _, .nil => ⟨[], fun us r => by
      cases r
      exact .nil, fun z => nomatch z⟩
  | _, _, .cons h r => by
    obtain ⟨as, k, na⟩ := Rr.reads S I h
    obtain ⟨bs, l, nb⟩ := Rrs.reads S I r
    refine ⟨as ++ bs, fun us z => ?_, fun z => ?_⟩
    · cases z with
      | cons r1 r2 => exact .cons (k _ r1) (l _ r2)
    · rcases List.mem_append.mp z with z | z
      · exact na z
      · exact nb z
end
end
/-- d can be shown, is no deeper than k, and its text is no longer than n -/
def Fit (d : PyData) (k n : Nat) : Prop := d.showable = true ∧ d.depth ≤ k ∧ d.shown.length ≤ n
theorem Fit.more {d : PyData} {k n k2 n2 : Nat} (h : Fit d k n) (a : k ≤ k2) (b : n ≤ n2) : Fit d k2 n2 := ⟨h.1, Nat.le_trans h.2.1 a, Nat.le_trans h.2.2 b⟩
theorem fits_all {k n : Nat} : ∀ {ds : List PyData}, (∀ d ∈ ds, Fit d k n) → PyData.showableAll ds = true ∧ PyData.depthAll ds ≤ k ∧ ((PyData.shownAll ds).map (·.length)).sum ≤ n * ds.length ∧ (PyData.shownAll ds).length = ds.length
  | [], _ => by simp [PyData.showableAll, PyData.depthAll, PyData.shownAll]
  | d :: ds, h => by
    have a := h d List.mem_cons_self
    have ih := fits_all (ds := ds) fun x hx => h x (List.mem_cons_of_mem _ hx)
    refine ⟨by simp [PyData.showableAll, a.1, ih.1], ?_, ?_, ?_⟩
    · have := a.2.1
      have := ih.2.1
      simp only [PyData.depthAll]
      omega
    · simp only [PyData.shownAll, List.map_cons, List.sum_cons, List.length_cons, Nat.mul_succ]
      have := a.2.2
      have := ih.2.2.1
      omega
    · simp only [PyData.shownAll, List.length_cons, ih.2.2.2]
theorem Fit.list {k n : Nat} {ds : List PyData} (h : ∀ d ∈ ds, Fit d k n) : Fit (.list ds) (k + 1) ((n + 2) * ds.length + 3) := by
  obtain ⟨a, b, c, d⟩ := fits_all h
  refine ⟨by simpa [PyData.showable] using a, by simp only [PyData.depth]; omega, ?_⟩
  have z := listText_len_le (PyData.shownAll ds)
  rw [d] at z
  rw [Nat.add_mul]
  simp only [PyData.shown]
  omega
theorem Fit.tuple {k n : Nat} {ds : List PyData} (h : ∀ d ∈ ds, Fit d k n) : Fit (.tuple ds) (k + 1) ((n + 2) * ds.length + 3) := by
  obtain ⟨a, b, c, d⟩ := fits_all h
  refine ⟨by simpa [PyData.showable] using a, by simp only [PyData.depth]; omega, ?_⟩
  have z := tupleText_len_le (PyData.shownAll ds)
  rw [d] at z
  rw [Nat.add_mul]
  simp only [PyData.shown]
  omega
def rShR : List V → Hp → VK → Prop := fun xs H Q => ∃ (p : Addr) (vs : List V) (ds : List PyData), xs = [.ref p] ∧ H p = some (.lst vs) ∧ Rrs H vs ds ∧ Fit (.list ds) 20 500000 ∧ Q (.str (PyData.shown (.list ds))) H
theorem call_rR {X : Cx} (S : IsSys X.K) (hg : X.A.guards = some []) (hu : X.A.units + 64 < cLine) : CallR X (.builtin "repr") rShR := by
  intro pins s σ H xs us Q I r h
  obtain ⟨p, vs, ds, rfl, e, hd, ⟨sh, dp, sl⟩, q⟩ := h
  obtain ⟨u, rfl, ru⟩ := r.one
  obtain rfl : u = Value.ref p := ru
  obtain ⟨as, k, nas⟩ := Rr.reads S I (Rr.lst e hd)
  exact repr_of_reads' (k _ rfl) sh (fun _ => nas) hg (by omega) (fun _ _ z => z) (fun h' w tk kk => ⟨.str _, H, I.kept (t' := tk) kk, ⟨w, rfl⟩, q⟩) (by
    rw [sizeLine_eq]
    omega)
end Dk
set_option Elab.async false
set_option linter.all false
set_option maxRecDepth 100000
set_option maxHeartbeats 8000000
namespace Dk
open PySem PySem.Spec PyProof.Rows L2 Er LamX NdefX Bf Dc2
/-! ### _law_is_likeness -/
/-- a text, or something that is none -/
def EnS (K : PySem.W.Frag) (H : Hp) (v : V) : Prop := (∃ z : Str, v = .str z) ∨ NoStr K H v
theorem EnS.sm {K : PySem.W.Frag} {H H2 : Hp} {v : V} (h : EnS K H v) (m : Sm H H2) : EnS K H2 v := by
  rcases h with h | ⟨t, a, b⟩
  · exact .inl h
  · exact .inr ⟨t, tyx_sm a m, b⟩
theorem NoStr.ne {K : PySem.W.Frag} {H : Hp} {z : Str} (h : NoStr K H (.str z)) : False := by
  obtain ⟨t, ty, k⟩ := h
  cases ty with
  | base b =>
    cases b
    rw [show PySem.W.kitOne K (.type "str") (.type "str") = some true from kit_ty (by decide +kernel)] at k
    cases k
/-- the texts in each lot -/
def txts (its : List (Option (List V))) : List (List Str) := its.map fun o => (o.getD []).filterMap strOf
theorem txts_gO {Gs : List (List Str)} : txts (Gs.map gO) = Gs := by
  unfold txts
  rw [List.map_map]
  refine (List.map_congr_left fun g _ => ?_).trans (List.map_id Gs)
  show (g.map V.str).filterMap strOf = g
  rw [List.filterMap_map]
  exact List.filterMap_some
theorem plc_pre {Gs : List (List Str)} {i : Nat} {g : List Str} {z : Str} (e : Gs[i]? = some g) (hz : z ∈ g) (no : z ∉ (Gs.take i).flatten) : plc Gs z = i := by
  have il := (List.getElem?_eq_some_iff.mp e).1
  have eg := (List.getElem?_eq_some_iff.mp e).2
  unfold plc
  refine (List.findIdx_eq il).mpr ⟨by rw [eg]; exact decide_eq_true hz, fun j hj => ?_⟩
  refine decide_eq_false fun h => no (List.mem_flatten.mpr ⟨Gs[j], List.mem_of_getElem? (i := j) ?_, h⟩)
  rw [List.getElem?_take, if_pos hj]
  exact List.getElem?_eq_getElem _
theorem lik_at {ws : List Str} {nx : Str → Str → Str} {lk : Str → Str} {ds : List Str} {its : List (Option (List V))} (h : LikP ws nx lk ds its) : its = (txts its).map gO ∧ Ptn ws (txts its) ∧ ∀ g ∈ txts its, ∀ g0, g[0]? = some g0 → ∀ z ∈ g, Tog nx lk ds (plc (txts its)) z g0 := by
  obtain ⟨Gs, rfl, pt, a⟩ := h
  rw [txts_gO]
  exact ⟨rfl, pt, a⟩
def spLk (K : PySem.W.Frag) : Sp := fun vs H Q _ => ∃ (u nm dd sg : Addr) (v : V) (ws ds : List Str) (as : List Addr) (tb : List (List Str)) (ls : List Str) (m : Nat), vs = [.ref u, v] ∧ DkAt H u nm dd sg ws ds as tb ls ∧ DkIs m ws ds tb ls ∧ m ≤ 9 ∧
  ((NotL K H v ∧ ∀ G, Sm H G → Q (.bl false) G) ∨
   ∃ (q : Addr) (xs : List V) (its : List (Option (List V))), v = .ref q ∧ H q = some (.lst xs) ∧ Paired (LotV K H) xs its ∧ xs.length ≤ 20 ∧ (∀ x ∈ entsOf its, EnS K H x) ∧
     ∀ (b : Bool) G, Sm H G → (b = true ↔ LikP ws (nxt ws ds tb) (look ws ls) ds its) → Q (.bl b) G)
abbrev nLk : List Str := ["_law_desk_here", "_law_value_here", "_law_where", "_law_at", "_law_lot", "_law_one", "_law_leads_here"]
theorem scLk : FnScope nLk ["_law_desk_here", "_law_value_here"] (defScope (top 51)) := ⟨rfl, rfl, rfl, by decide +kernel, rfl, by decide +kernel, by decide +kernel⟩
section
variable {P : Program} {w : World} {K : PySem.W.Frag} {mg : Str → Option Value} {base : Heap} {f : Addr} {fd : FuncData}
theorem bLk (F : FnP K "_law_is_likeness" (top 51) f fd) : Binds K fd ["_law_desk_here", "_law_value_here"] [] := F.bindsN fun _ _ _ _ _ _ us hl => match us, hl with
  | [_, _], _ => rfl
theorem ok_lk (F : FnP K "_law_is_likeness" (top 51) f fd) (mi : mg "isinstance" = none) (mL : mg "list" = none) (ms : mg "str" = none) (ml : mg "len" = none) (me : mg "enumerate" = none) : FnOk P w K mg base CX0 1 f fd ["_law_desk_here", "_law_value_here"] (spLk K) := by
  refine F.ok (CX := CX0) scLk (fun vs H Q E h => ?_) (fun cdv A outer s H vs Q E hr h => ?_)
  · obtain ⟨u, nm, dd, sg, v, ws, ds, as, tb, ls, m, rfl, _⟩ := h
    rfl
  · refine ⟨_, PSs.nox (pss_cons (ps_if (pt_not (pt_val (by exact (pe_callB call_isi rfl mi PyProof.Rows.boot_isinstance (pa_cons (pv 1) (pa_cons (pe_bltn (v := .ty "list") rfl mL (by decide +kernel) rfl) pa_nil)))))) (pss_one (ps_ret pe_bl)) pss_nil)
      (pss_cons (ps_set (i := 2) scLk.nd rfl (.inr rfl) pe_dnewK)
      (pss_cons (ps_for PassesOwn.never rfl (pi_enum rfl me (pa_cons (pv 1) pa_nil)) (pg_tup rfl (pgs_cons (pg_name (i := 3) scLk.nd rfl (.inl rfl)) (pgs_cons (pg_name (i := 4) scLk.nd rfl (.inr rfl)) pgs_nil)))
        (pss_cons (ps_if (PW.pt (pw_or (pt_not (pt_val (by exact (pe_callB call_isi rfl mi PyProof.Rows.boot_isinstance (pa_cons (pv 4) (pa_cons (pe_bltn (v := .ty "list") rfl mL (by decide +kernel) rfl) pa_nil)))))) (pw_or1 (pt_cmpR op_eq (by exact (pe_callB call_len rfl ml boot_len (pa_cons (pv 4) pa_nil))) pe_int (nomark _))))) (pss_one (ps_ret pe_bl)) pss_nil)
        (pss_one (ps_for PassesOwn.never rfl (pi_list (by exact (pv 4))) (pg_name (i := 5) scLk.nd rfl (.inr rfl))
          (pss_cons (ps_if (PW.pt (pw_or (pt_not (pt_val (by exact (pe_callB call_isi rfl mi PyProof.Rows.boot_isinstance (pa_cons (pv 5) (pa_cons (pe_bltn (v := .ty "str") rfl ms (by decide +kernel) rfl) pa_nil)))))) (pw_or (pt_cmpR op_notIn_seq (pv 5) (by exact (pe_ix ix_tup (pv 0) pe_int (fun _ _ => rfl))) rfl) (pw_or1 (pt_cmpR (op_inD1 (hu_of hr)) (pv 5) (pv 2) rfl))))) (pss_one (ps_ret pe_bl)) pss_nil)
          (pss_one (ps_dput (hu_of hr) (pv 2) (pv 5) (pv 3) (by rfl))))))))
      (pss_cons (ps_if (pt_cmpR op_ne (by exact (pe_callB call_lenD rfl ml boot_len (pa_cons (pv 2) pa_nil))) (by exact (pe_callB call_len rfl ml boot_len (pa_cons (by exact (pe_ix ix_tup (pv 0) pe_int (fun _ _ => rfl))) pa_nil))) (nomark _)) (pss_one (ps_ret pe_bl)) pss_nil)
      (pss_cons (ps_for PassesOwn.never rfl (pi_list (pv 1)) (pg_name (i := 4) scLk.nd rfl (.inr rfl))
        (pss_one (ps_for PassesOwn.never rfl (pi_list (by exact (pv 4))) (pg_name (i := 5) scLk.nd rfl (.inr rfl))
          (pss_cons (ps_if (pt_cmpR op_ne (by exact (pe_dget (hu_of hr) (by exact (pe_ix ix_tup (pv 0) pe_int (fun _ _ => rfl))) (pv 5) (fun _ _ => rfl))) (by exact (pe_dget (hu_of hr) (by exact (pe_ix ix_tup (pv 0) pe_int (fun _ _ => rfl))) (by exact (pe_ix ix_list (pv 4) pe_int (fun _ _ => rfl))) (fun _ _ => rfl))) (nomark _)) (pss_one (ps_ret pe_bl)) pss_nil)
          (pss_one (ps_if (pt_cmpR (op_neE hr.units) (by exact (pe_lock (by exact (pe_lc (own := [("_law_leads_here", 6)]) (g := gName 6) (tt := tTest (tOp rNe (tDGet (tVar 2) (tDGet (tVar 6) (tVar 5))) (tDGet (tVar 2) (tDGet (tVar 6) (tOp (rIxL K) (tVar 4) (tC (.int 0))))))) (te := tVar 6) rfl scLk.nd (pi_values (by exact (pe_ix ix_tup (pv 0) pe_int (fun _ _ => rfl)))) (blkOk_by (N := nLk) (sc := defScope (top 51)) (by decide +kernel)) (fun _ _ _ _ _ => pg_name (i := 6) scLk.nd rfl (Or.inl rfl))
            (fun _ _ _ _ _ => pts_one (by exact (pt_cmpR op_ne (by exact (pe_dget (hu_of hr) (by exact (pv 2)) (by exact (pe_dget (hu_of hr) (by exact (pv 6)) (by exact (pv 5)) (fun _ _ => rfl))) (fun _ _ => rfl))) (by exact (pe_dget (hu_of hr) (by exact (pv 2)) (by exact (pe_dget (hu_of hr) (by exact (pv 6)) (by exact (pe_ix ix_list (by exact (pv 4)) pe_int (fun _ _ => rfl))) (fun _ _ => rfl))) (fun _ _ => rfl))) (nomark _)))) (fun _ _ _ _ _ => (by exact (pv 6))))))) (pe_lst pa_nil) (nomark _)) (pss_one (ps_ret pe_bl)) pss_nil))))))
      (pss_one (ps_ret pe_bl))))))), ?_⟩
    obtain ⟨u, nm, dd, sg, v, ws, ds, as, tb, ls, m, rfl, hk, is, m9, h⟩ := h
    have sz : ∀ n : Nat, n ≤ 1000 → n ≤ sizeLine := fun n z => by
      rw [sizeLine_eq]
      omega
    rcases h with ⟨⟨t, ty, k⟩, fin⟩ | ⟨q, xs, its, rfl, hq, pr, x20, en, fin⟩
    · refine ⟨_, rfl, v, .ty "list", _, _, false, rfl, .ty "list", ty, k, _, rfl, ?_⟩
      exact iteT (fin H (Sm.refl _))
    obtain ⟨hu, hnm, hdd, hsg, _⟩ := id hk
    have prd := dk_rows hk is
    have al := paired_len pr
    have w9 : ws.length ≤ 9 := Nat.le_trans is.most m9
    have d4 := is.dmost
    have aln : as.length = ds.length := by rw [paired_len prd, is.rows]
    have dkl : (dkv ds (as.map V.ref)).length = ds.length := dkv_len (by rw [List.length_map, aln])
    have lot_at : ∀ {i : Nat} {x : V}, xs[i]? = some x → ∃ o, its[i]? = some o ∧ LotV K H x o := fun e => pair_at pr e
    refine ⟨_, rfl, .ref q, .ty "list", _, _, true, rfl, .ty "list", .base (.lst hq), kit_ty (by decide +kernel), _, rfl, ?_⟩
    refine iteF fun D nD => ?_
    have dne : ∀ {b : Addr} {o : HO}, H b = some o → b ≠ D := fun {b o} e => ne_of_none e nD
    have m1 := Sm.new (o := .dK []) nD
    have eD1 := upd_same (H := H) (a := D) (o := .dK [])
    refine ⟨_, rfl, q, _, rfl, .inl (.inl (m1 _ _ hq)), ?_⟩
    -- the numbers of the lots
    refine for_it (walk_enum (xs := xs)) (fun i σ G => ∃ (v3 v4 v5 : Option V), σ = [some (.ref u), some (.ref q), some (.ref D), v3, v4, v5, none] ∧ its.take i = ((txts its).take i).map gO ∧ (∀ g ∈ (txts its).take i, 1 ≤ g.length) ∧ ((txts its).take i).flatten.Nodup ∧ (∀ z ∈ ((txts its).take i).flatten, z ∈ ws) ∧ G D = some (numO ((txts its).take i).flatten (plc (txts its))) ∧ Sm H G)
      ⟨none, none, none, rfl, rfl, (fun g hg => nomatch hg), List.nodup_nil, (fun z hz => nomatch hz), eD1, m1⟩ (fun i σ G _ ⟨_, _, _, _, _, _, _, _, _, mm⟩ => .inl (.inl (mm _ _ hq))) (fun i y σ G G' hi p yy => ?_) (fun σ G p => ?_)
    · obtain ⟨v3, v4, v5, rfl, t1, t2, t3, t4, eD, mG⟩ := p
      obtain ⟨T, z1, z2, rfl, nT, rfl, f1, f2⟩ := yy
      cases Option.some.inj f1
      obtain ⟨o, eo, l⟩ := lot_at (show xs[i]? = some z2 from f2)
      have mT := Sm.new (o := .tup [.int ((i : Nat) : Int), z2]) nT
      have eT : upd G T (.tup [.int ((i : Nat) : Int), z2]) T = some (.tup [.int ((i : Nat) : Int), z2]) := upd_same
      have eD := mT _ _ eD
      have mG := Sm.trans mG mT
      generalize upd G T (.tup [.int ((i : Nat) : Int), z2]) = G2 at eT eD mG ⊢
      have il := (List.getElem?_eq_some_iff.mp eo).1
      have et : (txts its)[i]? = some ((o.getD []).filterMap strOf) := by
        unfold txts
        rw [List.getElem?_map, eo]
        rfl
      -- what comes to nothing
      have bad : ∀ (G : Hp), Sm H G → (¬ ∃ g : List Str, o = gO g ∧ 1 ≤ g.length ∧ ((txts its).take i ++ [g]).flatten.Nodup ∧ ∀ z ∈ g, z ∈ ws) → Q (.bl false) G := fun G mG no => fin false G mG ⟨fun e => (nomatch e), fun h => by
        obtain ⟨e1, pt, _⟩ := lik_at h
        refine (no ?_).elim
        have e2 : its[i]? = ((txts its).map gO)[i]? := congrArg (·[i]?) e1
        rw [eo, List.getElem?_map, et] at e2
        have e3 := Option.some.inj e2
        have hg := List.mem_of_getElem? et
        refine ⟨_, e3, pt.some _ hg, ?_, fun z hz => pt.sub z (List.mem_flatten.mpr ⟨_, hg, hz⟩)⟩
        have : (txts its).take i ++ [(o.getD []).filterMap strOf] = (txts its).take (i + 1) := by
          rw [List.take_add_one, et]
          rfl
        rw [this]
        have fte : (txts its).flatten = ((txts its).take (i + 1)).flatten ++ ((txts its).drop (i + 1)).flatten := by rw [← List.flatten_append, List.take_append_drop]
        have n := pt.fnd
        rw [fte] at n
        exact (List.nodup_append.mp n).1⟩
      refine ⟨T, _, rfl, .inl (.inl eT), rfl, _, _, rfl, _, _, rfl, rfl, ?_⟩
      have l0 := l
      have l := LotV.sm l mG
      cases o with
      | none =>
        obtain ⟨t, ty, k⟩ := l
        refine ⟨_, rfl, z2, .ty "list", _, _, false, rfl, .ty "list", ty, k, _, rfl, ?_⟩
        exact iteT (iteT (bad _ mG fun ⟨g, e, _⟩ => nomatch e))
      | some es =>
        obtain ⟨n40, a, rfl, ha⟩ := l
        obtain ⟨_, a2, ea2, ha0⟩ := l0
        cases V.ref.inj ea2
        refine ⟨_, rfl, .ref a, .ty "list", _, _, true, rfl, .ty "list", .base (.lst ha), kit_ty (by decide +kernel), _, rfl, ?_⟩
        refine iteF ⟨_, rfl, .ref a, es.length, rfl, .inl ⟨_, .inl (.inl ha), rfl⟩, rfl, _, rfl, ?_⟩
        cases es with
        | nil =>
          rw [decide_eq_true (show V.int ((([] : List V).length : Nat) : Int) = V.int 0 from rfl)]
          refine iteT (bad _ mG fun ⟨g, e, l1, _⟩ => ?_)
          have : g = [] := List.map_eq_nil_iff.mp (Option.some.inj e).symm
          rw [this] at l1
          exact absurd l1 (by decide)
        | cons e0 es0 =>
        rw [decide_eq_false (show ¬ V.int (((e0 :: es0).length : Nat) : Int) = V.int 0 from fun e => by have := V.int.inj e; rw [List.length_cons] at this; omega)]
        refine iteF ⟨_, rfl, a, rfl, ⟨_, .inl (.inl ha)⟩, ?_⟩
        have hes : ∀ x ∈ e0 :: es0, EnS K H x := fun x hx => en x (List.mem_flatten.mpr ⟨e0 :: es0, List.mem_map.mpr ⟨_, List.mem_of_getElem? eo, rfl⟩, hx⟩)
        have esl : (e0 :: es0).length ≤ 40 := n40
        have esp : 1 ≤ (e0 :: es0).length := by rw [List.length_cons]; omega
        generalize e0 :: es0 = es at eo et ha ha0 hes esl esp bad ⊢
        have et : (txts its)[i]? = some (es.filterMap strOf) := et
        refine for_it (walk_list (xs := es)) (fun j σ G => ∃ (v5 : Option V) (g : List Str), σ = [some (.ref u), some (.ref q), some (.ref D), some (.int ((i : Nat) : Int)), some (.ref a), v5, none] ∧ es.take j = g.map V.str ∧ (((txts its).take i).flatten ++ g).Nodup ∧ (∀ z ∈ g, z ∈ ws) ∧ G D = some (numO (((txts its).take i).flatten ++ g) (plc (txts its))) ∧ Sm H G)
          ⟨_, [], rfl, rfl, by rw [List.append_nil]; exact t3, (fun z hz => nomatch hz), by rw [List.append_nil]; exact eD, mG⟩ (fun j σ G _ ⟨_, _, _, _, _, _, _, mm⟩ => .inl (.inl (mm _ _ ha0))) (fun j y σ G G' hj p yy => ?_) (fun σ G p => ?_)
        · obtain ⟨v5, g, rfl, s1, s2, s3, eD, mm⟩ := p
          obtain ⟨rfl, ex⟩ := yy
          have gl : g.length = j := by
            have := congrArg List.length s1
            rw [List.length_take, List.length_map] at this
            omega
          have n9 : (((txts its).take i).flatten ++ g).length ≤ ws.length := nodup_le s2 fun x hx => by
            rcases List.mem_append.mp hx with hx | hx
            · exact t4 x hx
            · exact s3 x hx
          -- what stands here in a likeness
          have here : ∀ g2 : List Str, some es = gO g2 → ∃ z : Str, y = .str z ∧ g2.take (j + 1) = g ++ [z] := fun g2 e => by
            have e := Option.some.inj e
            subst e
            rw [List.getElem?_map] at ex
            cases e3 : g2[j]? with
            | none =>
              rw [e3] at ex
              cases ex
            | some z =>
              rw [e3] at ex
              refine ⟨z, (Option.some.inj ex).symm, ?_⟩
              rw [← List.map_take] at s1
              have : g2.take j = g := (List.map_inj_right fun a b e => V.str.inj e).mp s1
              rw [List.take_add_one, e3, this]
              rfl
          rcases EnS.sm (hes y (List.mem_of_getElem? ex)) mm with ⟨z, rfl⟩ | ⟨t, ty, k⟩
          · refine ⟨_, rfl, .str z, .ty "str", _, _, true, rfl, .ty "str", .base (.str z), kit_ty (by decide +kernel), _, rfl, ?_⟩
            refine iteF ⟨_, rfl, _, rfl, u, _, 0, .ref nm, rfl, rfl, .inl (.inl (mm _ _ hu)), atI_nat (j := 0) rfl, nm, ws.map V.str, rfl, .inl (.inl (.inl (mm _ _ hnm))), rfl, flat_strs _, _, rfl, ?_⟩
            rw [if_pos rfl, in_strs]
            cases cz : decide (z ∈ ws) with
            | false =>
              have cz := of_decide_eq_false cz
              refine iteT (iteT (bad _ mm fun ⟨g2, e, _, _, sub⟩ => ?_))
              obtain ⟨z2, ez, tk⟩ := here g2 e
              cases V.str.inj ez
              exact cz (sub z (List.mem_of_mem_take (i := j + 1) (by rw [tk]; exact List.mem_append_right _ (List.mem_singleton.mpr rfl))))
            | true =>
              have cz := of_decide_eq_true cz
              refine iteF ⟨_, rfl, _, rfl, z, D, _, rfl, rfl, .inl eD, _, rfl, ?_⟩
              by_cases cf : z ∈ ((txts its).take i).flatten ++ g
              · rw [numD_at cf]
                refine iteT (bad _ mm fun ⟨g2, e, _, nd, _⟩ => ?_)
                obtain ⟨z2, ez, tk⟩ := here g2 e
                cases V.str.inj ez
                rw [List.flatten_append, List.flatten_singleton, ← List.take_append_drop (j + 1) g2, tk, ← List.append_assoc, ← List.append_assoc] at nd
                have nd := (List.nodup_append.mp (List.nodup_append.mp nd).1).2.2
                exact nd z cf z (List.mem_singleton.mpr rfl) rfl
              · rw [dkv_none cf]
                have ff : ∀ x ∈ ((txts its).take i).flatten ++ g, x ≠ z := fun x hx e => cf (e ▸ hx)
                have nd2 : (((txts its).take i).flatten ++ (g ++ [z])).Nodup := by
                  rw [← List.append_assoc]
                  exact List.nodup_append.mpr ⟨s2, List.nodup_cons.mpr ⟨(fun h => nomatch h), List.nodup_nil⟩, fun x hx y hy => by rw [List.mem_singleton.mp hy]; exact ff x hx⟩
                have hzg : z ∈ es.filterMap strOf := List.mem_filterMap.mpr ⟨.str z, List.mem_of_getElem? ex, rfl⟩
                refine iteF ⟨_, rfl, _, rfl, _, rfl, D, _, rfl, DPut.k (k := .inr z) eD (by rw [dkv_len (by rw [List.length_map]), sizeLine_eq]; omega), _, g ++ [z], rfl, ?_, nd2, fun x hx => ?_, ?_, fun b o e => ?_⟩
                · rw [List.take_add_one, ex, s1, List.map_append]
                  rfl
                · rcases List.mem_append.mp hx with hx | hx
                  · exact s3 x hx
                  · rw [List.mem_singleton.mp hx]
                    exact cz
                · rw [upd_same]
                  unfold numO
                  rw [put_dkvV (by rw [List.length_map]) (by rw [List.append_assoc]; exact nd2), ← List.append_assoc, List.map_append (l₁ := ((txts its).take i).flatten ++ g)]
                  show _ = some (HO.dK (dkv _ (_ ++ [V.int ((plc (txts its) z : Nat) : Int)])))
                  rw [plc_pre et hzg fun h => cf (List.mem_append_left _ h)]
                · rw [upd_ne (dne e)]
                  exact mm _ _ e
          · refine ⟨_, rfl, y, .ty "str", _, _, false, rfl, .ty "str", ty, k, _, rfl, ?_⟩
            refine iteT (iteT (bad _ mm fun ⟨g2, e, _⟩ => ?_))
            obtain ⟨z, rfl, _⟩ := here g2 e
            exact NoStr.ne ⟨t, ty, k⟩
        · obtain ⟨v5, g, rfl, s1, s2, s3, eD, mm⟩ := p
          rw [List.take_length] at s1
          subst s1
          have eg : (g.map V.str).filterMap strOf = g := by
            rw [List.filterMap_map]
            exact List.filterMap_some
          rw [eg] at et
          have tk : (txts its).take (i + 1) = (txts its).take i ++ [g] := by
            rw [List.take_add_one, et]
            rfl
          refine ⟨_, _, _, rfl, ?_, ?_, ?_, ?_, ?_, mm⟩
          · rw [List.take_add_one, eo, tk, List.map_append, t1]
            rfl
          · intro g2 h2
            rw [tk] at h2
            rcases List.mem_append.mp h2 with h2 | h2
            · exact t2 g2 h2
            · rw [List.mem_singleton.mp h2]
              rw [List.length_map] at esp
              exact esp
          · rw [tk, List.flatten_append, List.flatten_singleton]
            exact s2
          · intro z hz
            rw [tk, List.flatten_append, List.flatten_singleton] at hz
            rcases List.mem_append.mp hz with hz | hz
            · exact t4 z hz
            · exact s3 z hz
          · rw [tk, List.flatten_append, List.flatten_singleton]
            exact eD
    · obtain ⟨v3, v4, v5, rfl, t1, t2, t3, t4, eD, mG⟩ := p
      have tl : (txts its).length = its.length := List.length_map _
      rw [al, ← tl, List.take_length] at t2 t3 t4 eD t1
      rw [tl, List.take_length] at t1
      refine ⟨_, rfl, D, _, rfl, eD, _, rfl, u, _, 0, .ref nm, rfl, rfl, .inl (.inl (mG _ _ hu)), atI_nat (j := 0) rfl, .ref nm, ws.length, rfl, .inl ⟨_, .inl (.inl (mG _ _ hnm)), by rw [List.length_map]⟩, rfl, _, rfl, ?_⟩
      rw [dkv_len (by rw [List.length_map])]
      by_cases cl : (txts its).flatten.length = ws.length
      · rw [decide_eq_true (show V.int (((txts its).flatten.length : Nat) : Int) = V.int ((ws.length : Nat) : Int) by rw [cl])]
        have pt : Ptn ws (txts its) := ⟨w9, is.nd, t2, cl, sub_of_len t3 cl.symm t4⟩
        generalize eG : txts its = Gs at t1 t2 t3 t4 eD pt cl
        subst t1
        have fin : ∀ (b : Bool) G, Sm H G → (b = true ↔ ∀ g ∈ Gs, ∀ g0, g[0]? = some g0 → ∀ z ∈ g, Tog (nxt ws ds tb) (look ws ls) ds (plc Gs) z g0) → Q (.bl b) G := fun b G m i => fin b G m (i.trans ⟨fun h => ⟨Gs, rfl, pt, h⟩, fun ⟨Gs2, e, _, h⟩ => by
          cases gO_inj e
          exact h⟩)
        obtain ⟨as2, rfl, pr2⟩ := lots_addr pr
        have al2 := paired_len pr2
        have inF : ∀ {y : Str}, y ∈ ws → y ∈ Gs.flatten := fun h => pt.has _ h
        have ddD : dd ≠ D := dne hdd
        have udd : u ≠ dd := ne_of hu hdd (fun z => nomatch z)
        refine iteF ⟨_, rfl, q, rfl, ⟨_, .inl (.inl (mG _ _ hq))⟩, ?_⟩
        refine for_it (walk_list (xs := as2.map V.ref)) (fun i σ G2 => ∃ (v3 v4 v5 v6 : Option V), σ = [some (.ref u), some (.ref q), some (.ref D), v3, v4, v5, v6] ∧ (∀ g ∈ Gs.take i, ∀ g0, g[0]? = some g0 → ∀ z ∈ g, Tog (nxt ws ds tb) (look ws ls) ds (plc Gs) z g0) ∧ Sm G G2)
          ⟨_, _, _, _, rfl, (fun g hg => nomatch hg), Sm.refl _⟩ (fun i σ G2 _ ⟨_, _, _, _, _, _, mm⟩ => .inl (.inl (mm _ _ (mG _ _ hq)))) (fun i y σ G2 G3 hi p yy => ?_) (fun σ G2 p => ?_)
        · obtain ⟨v3, v4, v5, v6, rfl, tg, mm⟩ := p
          obtain ⟨rfl, ex⟩ := yy
          obtain ⟨a, ea, rfl⟩ := ref_atL ex
          obtain ⟨g, eg, ha⟩ := pair_at pr2 ea
          have hg := List.mem_of_getElem? eg
          have tkG : Gs.take (i + 1) = Gs.take i ++ [g] := by
            rw [List.take_add_one, eg]
            rfl
          have g1 := pt.some g hg
          have g9 := pt.each hg
          obtain ⟨g0, e0⟩ : ∃ g0, g[0]? = some g0 := ⟨_, List.getElem?_eq_getElem (show 0 < g.length by omega)⟩
          have subG : ∀ z ∈ g, z ∈ ws := fun z hz => pt.sub z (List.mem_flatten.mpr ⟨g, hg, hz⟩)
          have g0w := subG g0 (List.mem_of_getElem? e0)
          have m0 := Sm.trans mG mm
          refine ⟨_, rfl, a, rfl, ⟨_, .inl (.inl (m0 _ _ ha))⟩, ?_⟩
          refine for_it (walk_list (xs := g.map V.str)) (fun j σ G4 => ∃ (v3 v5 v6 : Option V), σ = [some (.ref u), some (.ref q), some (.ref D), v3, some (.ref a), v5, v6] ∧ (∀ z ∈ g.take j, Tog (nxt ws ds tb) (look ws ls) ds (plc Gs) z g0) ∧ Sm G G4)
            ⟨_, _, _, rfl, (fun z hz => nomatch hz), mm⟩ (fun j σ G4 _ ⟨_, _, _, _, _, m4⟩ => .inl (.inl (m4 _ _ (mG _ _ ha)))) (fun j y σ G4 G5 hj p yy => ?_) (fun σ G4 p => ?_)
          · obtain ⟨v3, v5, v6, rfl, tz, m4⟩ := p
            obtain ⟨rfl, ex2⟩ := yy
            obtain ⟨z, ez, rfl⟩ := str_atL ex2
            have hzg := List.mem_of_getElem? ez
            have hz := subG z hzg
            have mH := Sm.trans mG m4
            refine ⟨_, rfl, u, _, 2, .ref sg, rfl, rfl, .inl (.inl (mH _ _ hu)), rfl, _, rfl, sg, .str (look ws ls z), rfl, .inl ⟨_, .inr z, .inl (mH _ _ hsg), rfl, (look_at is.looks hz).symm⟩, _, rfl, u, _, 2, .ref sg, rfl, rfl, .inl (.inl (mH _ _ hu)), rfl, _, rfl, a, _, 0, .str g0, rfl, rfl, .inl (.inl (mH _ _ ha)), atI_nat (j := 0) (by rw [List.getElem?_map, e0]; rfl), sg, .str (look ws ls g0), rfl, .inl ⟨_, .inr g0, .inl (mH _ _ hsg), rfl, (look_at is.looks g0w).symm⟩, rfl, _, rfl, ?_⟩
            by_cases cs : look ws ls z = look ws ls g0
            · rw [decide_eq_true (show V.str (look ws ls z) = V.str (look ws ls g0) by rw [cs])]
              refine iteF ⟨dd, .dK (dkv ds (as.map V.ref)), mH _ _ hdd, True.intro, fun od => ?_⟩
              have kL : ∀ {b : Addr} {o : HO}, b ≠ dd → H b = some o → upd G5 dd (.frz od (.dK (dkv ds (as.map V.ref)))) b = some o := fun {b o} n e => by
                rw [upd_ne n]
                exact mH _ _ e
              have uL := kL udd hu
              have aL := kL (ne_of ha hdd (fun z => nomatch z)) ha
              have dL : upd G5 dd (.frz od (.dK (dkv ds (as.map V.ref)))) dd = some (.frz od (.dK (dkv ds (as.map V.ref)))) := upd_same
              have DL : upd G5 dd (.frz od (.dK (dkv ds (as.map V.ref)))) D = some (numO Gs.flatten (plc Gs)) := by
                rw [upd_ne (Ne.symm ddD)]
                exact m4 _ _ eD
              have rL : ∀ {j : Nat} {b : Addr}, as[j]? = some b → ∃ vs, tb[j]? = some vs ∧ upd G5 dd (.frz od (.dK (dkv ds (as.map V.ref)))) b = some (.dK (dkv ws (vs.map V.str))) := fun {j b} e => by
                obtain ⟨vs, e1, n, e2⟩ := pair_at prd e
                exact ⟨vs, e1, kL n e2⟩
              have unl : ∀ G2, Sm (upd G5 dd (.frz od (.dK (dkv ds (as.map V.ref))))) G2 → Sm G5 (upd G2 dd (.dK (dkv ds (as.map V.ref)))) := fun G2 m => sm_unlock (mH _ _ hdd) m
              generalize upd G5 dd (.frz od (.dK (dkv ds (as.map V.ref)))) = L at uL aL dL DL rL unl ⊢
              refine ⟨_, rfl, u, _, 1, .ref dd, rfl, rfl, .inl (.inl uL), atI_nat (j := 1) rfl, dd, od, _, rfl, dL, fun D2 nD2 => ?_⟩
              have D2d : D2 ≠ dd := fun w => by
                rw [w, dL] at nD2
                cases nD2
              refine lc_it walk_values (vs := [6]) (fun k G6 => ∃ ys : List V, G6 D2 = some (.lst ys) ∧ ys.length ≤ k ∧ (ys = [] ↔ ∀ d ∈ ds.take k, plc Gs (nxt ws ds tb z d) = plc Gs (nxt ws ds tb g0 d)) ∧ Sm L G6)
                ⟨[], upd_same, Nat.le_refl _, ⟨(fun _ d hd => nomatch hd), fun _ => rfl⟩, Sm.new nD2⟩ (fun k G6 _ ⟨_, _, _, _, m6⟩ => m6 _ _ dL) (fun k y G6 G7 hk2 p yy => ?_) (fun G6 p => ?_)
              · obtain ⟨ys, eY, yl, yi, m6⟩ := p
                obtain ⟨rfl, kk, ekv⟩ := yy
                obtain ⟨d, e1, rfl, ev⟩ := dkv_at ekv
                obtain ⟨b, eb, rfl⟩ := ref_atL ev
                obtain ⟨vs, et, hb⟩ := rL eb
                have hd := List.mem_of_getElem? e1
                have vl := (is.row vs (List.mem_of_getElem? et)).1
                have w1 : ∀ {x : Str}, x ∈ ws → nxt ws ds tb x d ∈ ws := fun hx => by
                  obtain ⟨_, _, _, r⟩ := ob_step (pair_mono prd fun a _ vs e => e.2) is hd hx
                  exact r
                have dl : k < ds.length := (List.getElem?_eq_some_iff.mp e1).1
                have tkd : ds.take (k + 1) = ds.take k ++ [d] := by
                  rw [List.take_add_one, e1]
                  rfl
                refine ⟨rfl, _, rfl, _, rfl, _, rfl, b, .str (nxt ws ds tb z d), rfl, .inl ⟨_, .inr z, .inl (m6 _ _ hb), rfl, (row_get is.dnd e1 et vl hz).symm⟩, D, .int _, rfl, .inl ⟨_, .inr (nxt ws ds tb z d), .inl (m6 _ _ DL), rfl, (numD_at (inF (w1 hz))).symm⟩, _, rfl, _, rfl, _, rfl, a, _, 0, .str g0, rfl, rfl, .inl (.inl (m6 _ _ aL)), atI_nat (j := 0) (by rw [List.getElem?_map, e0]; rfl), b, .str (nxt ws ds tb g0 d), rfl, .inl ⟨_, .inr g0, .inl (m6 _ _ hb), rfl, (row_get is.dnd e1 et vl g0w).symm⟩, D, .int _, rfl, .inl ⟨_, .inr (nxt ws ds tb g0 d), .inl (m6 _ _ DL), rfl, (numD_at (inF (w1 g0w))).symm⟩, rfl, _, rfl, ?_⟩
                by_cases cd : plc Gs (nxt ws ds tb z d) = plc Gs (nxt ws ds tb g0 d)
                · rw [decide_eq_true (show V.int ((plc Gs (nxt ws ds tb z d) : Nat) : Int) = V.int ((plc Gs (nxt ws ds tb g0 d) : Nat) : Int) by rw [cd])]
                  refine iteF ⟨ys, eY, by omega, yi.trans ⟨fun h d2 hd2 => ?_, fun h d2 hd2 => ?_⟩, m6⟩
                  · rw [tkd] at hd2
                    rcases List.mem_append.mp hd2 with h2 | h2
                    · exact h d2 h2
                    · rw [List.mem_singleton.mp h2]
                      exact cd
                  · exact h d2 (by rw [tkd]; exact List.mem_append_left _ hd2)
                · rw [decide_eq_false (show ¬ V.int ((plc Gs (nxt ws ds tb z d) : Nat) : Int) = V.int ((plc Gs (nxt ws ds tb g0 d) : Nat) : Int) from fun e => cd (by have := V.int.inj e; omega))]
                  refine iteT ⟨_, rfl, _, eY, by rw [sizeLine_eq]; omega, ys ++ [.ref b], upd_same, by rw [List.length_append]; show ys.length + 1 ≤ k + 1; omega, ⟨fun h => absurd h (by simp), fun h => ?_⟩, fun c o e => ?_⟩
                  · exact absurd (h d (by rw [tkd]; exact List.mem_append_right _ (List.mem_singleton.mpr rfl))) cd
                  · rw [upd_ne (ne_of_none e nD2)]
                    exact m6 _ _ e
              · obtain ⟨ys, eY, yl, yi, m6⟩ := p
                rw [dkl, List.take_length] at yi
                have mU := unl G6 m6
                refine ⟨m6 _ _ dL, sz _ (by show 0 ≤ 1000; decide), fun e ne => ?_⟩
                have eY2 : upd G6 dd (.dK (dkv ds (as.map V.ref))) D2 = some (.lst ys) := by
                  rw [upd_ne D2d]
                  exact eY
                have m8 := Sm.new (o := .lst []) ne
                have e8 := upd_same (H := upd G6 dd (.dK (dkv ds (as.map V.ref)))) (a := e) (o := .lst [])
                have eY2 := m8 _ _ eY2
                have mU := Sm.trans mU m8
                generalize upd (upd G6 dd (.dK (dkv ds (as.map V.ref)))) e (.lst []) = G8 at eY2 e8 mU ⊢
                refine ⟨D2, e, ys, rfl, rfl, eY2, e8, _, rfl, ?_⟩
                cases ys with
                | cons y1 y2 =>
                  refine iteT (fin false G8 (Sm.trans mH mU) ⟨fun e => (nomatch e), fun h => ?_⟩)
                  exact absurd (yi.mpr (h g hg g0 e0 z hzg).2) (by simp)
                | nil =>
                  refine iteF ⟨_, _, _, rfl, fun y hy => ?_, Sm.trans m4 mU⟩
                  rw [List.take_add_one, ez] at hy
                  rcases List.mem_append.mp hy with hy | hy
                  · exact tz y hy
                  · rw [show y = z by simpa using hy]
                    exact ⟨cs, yi.mp rfl⟩
            · rw [decide_eq_false (show ¬ V.str (look ws ls z) = V.str (look ws ls g0) from fun e => cs (V.str.inj e))]
              refine iteT (fin false _ mH ⟨fun e => (nomatch e), fun h => ?_⟩)
              exact absurd (h g hg g0 e0 z hzg).1 cs
          · obtain ⟨v3, v5, v6, rfl, tz, m4⟩ := p
            rw [List.length_map, List.take_length] at tz
            refine ⟨_, _, _, _, rfl, fun g2 hg2 g3 e3 z hz => ?_, m4⟩
            rw [tkG] at hg2
            rcases List.mem_append.mp hg2 with h2 | h2
            · exact tg g2 h2 g3 e3 z hz
            · have := List.mem_singleton.mp h2
              subst this
              rw [e0] at e3
              cases Option.some.inj e3
              exact tz z hz
        · obtain ⟨v3, v4, v5, v6, rfl, tg, mm⟩ := p
          rw [List.length_map, al2, List.take_length] at tg
          exact fin true G2 (Sm.trans mG mm) ⟨fun _ => tg, fun _ => rfl⟩
      · rw [decide_eq_false (show ¬ V.int (((txts its).flatten.length : Nat) : Int) = V.int ((ws.length : Nat) : Int) from fun e => cl (by have := V.int.inj e; omega))]
        refine iteT (fin false G mG ⟨fun e => (nomatch e), fun h => ?_⟩)
        exact absurd (lik_at h).2.1.len cl
end
end Dk
set_option Elab.async false
set_option linter.all false
set_option maxRecDepth 100000
set_option maxHeartbeats 8000000
namespace Dk
open PySem PySem.Spec PyProof.Rows L2 Er LamX NdefX Bf Dc2
/-! ### _law_value -/
def rEqE : R2 := fun x y H Q => ∃ a b xs, x = .ref a ∧ y = .ref b ∧ H a = some (.lst xs) ∧ H b = some (.lst []) ∧ Q (.bl xs.isEmpty) H
theorem op_eqE {X : Cx} (hu : X.A.units + 64 < cLine) : OpR X (compareOp .Eq) rEqE := by
  intro ps s σ H x y v u Q I rx ry h
  obtain ⟨a, b, xs, rfl, rfl, ea, eb, q⟩ := h
  obtain rfl : v = Value.ref a := rx
  obtain rfl : u = Value.ref b := ry
  obtain ⟨_, its, n, rv, ho⟩ := (show ObjOk X.prog X.w H s.heap a (.lst xs) from I.hok a _ ea)
  obtain ⟨_, it2, n2, rv2, ho2⟩ := (show ObjOk X.prog X.w H s.heap b (.lst []) from I.hok b _ eb)
  have l1 : its.toArray.size = xs.length := by rw [List.size_toArray, ← paired_len rv]
  have l2 : it2.toArray.size = 0 := by
    have z := paired_len rv2
    rw [List.size_toArray, ← z]
    rfl
  have L1 : s.heap.IsList a its.toArray := ⟨_, ho, rfl, _, rfl⟩
  have L2 : s.heap.IsList b it2.toArray := ⟨_, ho2, rfl, _, rfl⟩
  cases xs with
  | nil =>
    refine SeqAt.RcAt.lists (e := fun _ => true) L1 L2 (by rw [l1, l2]; rfl) (by omega) (fun j h1 h2 => by rw [l2] at h2; omega) X.prog X.w _ _ ?_
    have z : its.toArray.size = 0 := l1
    rw [z]
    exact ⟨.bl true, H, I, rfl, q⟩
  | cons x xs =>
    refine SeqAt.RcAt.lists_lengths L1 L2 (by rw [l1, l2]; rfl) (by omega) X.prog X.w _ _ ?_
    exact ⟨.bl false, H, I, rfl, q⟩
/-- a lot of names, made since H -/
def LotW (ws : List Str) (k : Nat) (H G : Hp) (x : V) : Prop := ∃ a es, x = .ref a ∧ H a = none ∧ G a = some (.lst es) ∧ 1 ≤ es.length ∧ es.length ≤ k ∧ ∀ e ∈ es, ∃ z ∈ ws, e = .str z
/-- a list of such lots -/
def ValW (ws : List Str) (n k : Nat) (H G : Hp) (a : Addr) : Prop := H a = none ∧ ∃ xs, G a = some (.lst xs) ∧ 1 ≤ xs.length ∧ xs.length ≤ n ∧ ∀ x ∈ xs, LotW ws k H G x
theorem none_sx {H M : Hp} {p a : Addr} (s : Src H p) (m : Sx p H M) (s2 : Src M p) (n : M a = none) : H a = none := by
  cases e : H a with
  | none => rfl
  | some o => rw [m a o (s2.ne n) e] at n; cases n
theorem ne_of_none' {H : Hp} {a b : Addr} {o : HO} (e : H b = some o) (n : H a = none) : a ≠ b := fun w => by
  rw [w, e] at n
  cases n
theorem LotW.ref {ws : List Str} {k : Nat} {H G : Hp} {x : V} (h : LotW ws k H G x) : ∃ a, x = V.ref a := by
  obtain ⟨a, _, e, _⟩ := h
  exact ⟨a, e⟩
theorem LotW.sx {ws : List Str} {k : Nat} {H G G2 : Hp} {x : V} {p : Addr} (hs : Src H p) (h : LotW ws k H G x) (m : Sx p G G2) : LotW ws k H G2 x := by
  obtain ⟨a, es, e, n, g, r⟩ := h
  exact ⟨a, es, e, n, m _ _ (hs.ne n) g, r⟩
theorem LotW.put {ws : List Str} {k : Nat} {H G : Hp} {x : V} {D : Addr} {o : HO} {acc : List V} (h : LotW ws k H G x) (eD : G D = some (.lst acc)) (ha : ∀ v ∈ acc, ∃ b, v = V.ref b) : LotW ws k H (upd G D o) x := by
  obtain ⟨a, es, e, n, g, l1, l2, r⟩ := h
  refine ⟨a, es, e, n, ?_, l1, l2, r⟩
  rw [upd_ne fun w => ?_]
  · exact g
  · rw [w, eD] at g
    cases HO.lst.inj (Option.some.inj g)
    obtain ⟨v, t, rfl⟩ := List.exists_cons_of_length_pos (show 0 < acc.length by omega)
    obtain ⟨b, e1⟩ := ha v List.mem_cons_self
    obtain ⟨z, _, e2⟩ := r v List.mem_cons_self
    rw [e1] at e2
    cases e2
theorem LotW.more {ws : List Str} {k k2 : Nat} {H G : Hp} {x : V} (h : LotW ws k H G x) (l : k ≤ k2) : LotW ws k2 H G x := by
  obtain ⟨a, es, e, n, g, l1, l2, r⟩ := h
  exact ⟨a, es, e, n, g, l1, Nat.le_trans l2 l, r⟩
theorem Sx.put {p D : Addr} {H G : Hp} {o : HO} (m : Sx p H G) (n : H D = none) : Sx p H (L2.upd G D o) := fun b o2 np e => by
  rw [upd_ne fun w => by rw [w, n] at e; cases e]
  exact m b o2 np e
theorem Src.put {p D : Addr} {G : Hp} {o : HO} (s : Src G p) (n : D ≠ p) : Src (L2.upd G D o) p := by
  obtain ⟨own, mix, e, r⟩ := s
  exact ⟨own, mix, by rw [upd_ne (Ne.symm n)]; exact e, r⟩
theorem ite_both {c : Bool} {A : Prop} {T : L2.St → Hp → Prop} {σ : L2.St} {H : Hp} (R : L2.St → Hp → Prop) (hT : ∀ σ' H', R σ' H' → T σ' H') (hA : c = true → (∀ σ' H', R σ' H' → T σ' H') → A) (hB : c = false → R σ H) : if c = true then A else T σ H := by
  cases c with
  | true => exact hA rfl hT
  | false => exact hT _ _ (hB rfl)
/-- a lot of names, made since H, or an empty list -/
def Lot0 (ws : List Str) (k : Nat) (H G : Hp) (x : V) : Prop := ∃ a es, x = .ref a ∧ H a = none ∧ G a = some (.lst es) ∧ es.length ≤ k ∧ ∀ e ∈ es, ∃ z ∈ ws, e = .str z
theorem LotW.lot0 {ws : List Str} {k : Nat} {H G : Hp} {x : V} (h : LotW ws k H G x) : Lot0 ws k H G x := by
  obtain ⟨a, es, e, n, g, l1, r⟩ := h
  exact ⟨a, es, e, n, g, r⟩
theorem Lot0.sx {ws : List Str} {k : Nat} {H G G2 : Hp} {x : V} {p : Addr} (hs : Src H p) (h : Lot0 ws k H G x) (m : Sx p G G2) : Lot0 ws k H G2 x := by
  obtain ⟨a, es, e, n, g, r⟩ := h
  exact ⟨a, es, e, n, m _ _ (hs.ne n) g, r⟩
theorem Lot0.put {ws : List Str} {k : Nat} {H G : Hp} {x : V} {D : Addr} {o : HO} {acc : List V} (h : Lot0 ws k H G x) (eD : G D = some (.lst acc)) (hx : x ∈ acc) : Lot0 ws k H (upd G D o) x := by
  obtain ⟨a, es, e, n, g, l2, r⟩ := h
  refine ⟨a, es, e, n, ?_, l2, r⟩
  rw [upd_ne fun w => ?_]
  · exact g
  · rw [w, eD] at g
    cases HO.lst.inj (Option.some.inj g)
    obtain ⟨z, _, e2⟩ := r x hx
    rw [e] at e2
    cases e2
theorem cut_from {xs : List V} {n : Nat} (h : n ≤ xs.length) : cutV xs (some ((n : Nat) : Int)) none = xs.drop n := by
  unfold cutV
  rw [HT.sIx_none, HT.sIx_nat, show min n xs.length = n by omega, List.take_of_length_le (by rw [List.length_drop]; exact Nat.le_refl _)]
/-- what stays of lists: those with something in them -/
theorem lc_ne {K : PySem.W.Frag} {ws : List Str} {k n : Nat} {σ : L2.St} {c p : Addr} {ys : List V} {H G0 : Hp} {Qd : Addr → Hp → Prop} (hc : G0 c = some (.lst ys)) (n9 : ys.length ≤ n) (n20 : n ≤ 20) (lots : ∀ y ∈ ys, Lot0 ws k H G0 y) (some_ : ∃ y ∈ ys, LotW ws k H G0 y) (hs : Src H p) (x0 : Sx p H G0) (s0 : Src G0 p)
    (w1 : ∀ v, wipe ((wipe σ [9]).set 9 (some v)) [9] = wipe σ [9]) (hv : ∀ v : V, ((wipe σ [9]).set 9 (some v))[9]? = some (some v)) (fin : ∀ D G, ValW ws n k H G D → Sx p H G → Src G p → Qd D G) :
    ∀ D, G0 D = none → ∃ W : Nat → Nat → Hp → Prop, (∃ m, W 0 m (upd G0 D (.lst []))) ∧ ∀ i m H, W i m H →
      ((Itl K c).stop i H ∧ Qd D H) ∨ ((Itl K c).go i H ∧ ∃ Nx : Hp → Prop, (∀ H', Nx H' → ∃ m', m' < m ∧ W (i + 1) m' H') ∧ ∀ x H', (Itl K c).yld i H x H' → gName 9 x (wipe σ [9]) H' fun σ2 H2 => wipe σ2 [9] = wipe σ [9] ∧ tTest (tOp rNeE (tVar 9) (tLst tNil)) σ2 H2 fun b H3 =>
        if b = true then tVar 9 σ2 H3 fun y H4 => ∃ acc, H4 D = some (.lst acc) ∧ acc.length < sizeLine ∧ Nx (upd H4 D (.lst (acc ++ [y]))) else Nx H3) := by
  intro D nD
  have hD0 := none_sx hs x0 s0 nD
  have Dc : c ≠ D := ne_of_none hc nD
  refine lc_it (walk_list (xs := ys)) (vs := [9]) (Qd := fun H => Qd D H) (fun j G => ∃ acc : List V, G D = some (.lst acc) ∧ acc.length ≤ j ∧ (∀ x ∈ acc, LotW ws k H G x) ∧ ((∃ y ∈ ys.take j, LotW ws k H G0 y) → 1 ≤ acc.length) ∧ Sm G0 G)
    ⟨[], upd_same, Nat.le_refl _, (fun x hx => nomatch hx), (fun ⟨y, hy, _⟩ => nomatch hy), Sm.new nD⟩ (fun j G _ ⟨_, _, _, _, _, mm⟩ => .inl (.inl (mm _ _ hc))) (fun j v G G' hj pp yy => ?_) (fun G pp => ?_)
  · obtain ⟨acc, eD, al, lw, so, mm⟩ := pp
    obtain ⟨rfl, ex⟩ := yy
    obtain ⟨a, es, rfl, na, ea, l2, r⟩ := lots v (List.mem_of_getElem? ex)
    have tk : ys.take (j + 1) = ys.take j ++ [.ref a] := by
      rw [List.take_add_one, ex]
      rfl
    refine ⟨w1 _, _, hv _, Nat.zero_le _, fun e ne => ?_⟩
    have me := Sm.new (o := .lst []) ne
    refine ⟨a, e, es, rfl, rfl, me _ _ (mm _ _ ea), upd_same, _, rfl, ?_⟩
    have lw2 : ∀ x ∈ acc, LotW ws k H (upd G' e (.lst [])) x := fun x hx => LotW.sx hs (lw x hx) (Sx.of me)
    have eD := me _ _ eD
    have mm := Sm.trans mm me
    generalize upd G' e (.lst []) = G2 at lw2 eD mm ⊢
    cases es with
    | nil =>
      refine iteF ⟨acc, eD, by omega, lw2, fun ⟨y, hy, ly⟩ => ?_, mm⟩
      rw [tk] at hy
      rcases List.mem_append.mp hy with hy | hy
      · exact so ⟨y, hy, ly⟩
      · rw [List.mem_singleton.mp hy] at ly
        obtain ⟨b, es2, e1, _, e2, e3, _⟩ := ly
        cases V.ref.inj e1
        rw [ea] at e2
        cases Option.some.inj e2
        exact absurd e3 (by decide)
    | cons e0 es0 =>
      have rf : ∀ v ∈ acc, ∃ b, v = V.ref b := fun v hv => LotW.ref (lw2 v hv)
      have new : LotW ws k H G2 (.ref a) := ⟨a, _, rfl, na, mm _ _ ea, by rw [List.length_cons]; omega, l2, r⟩
      refine iteT ⟨_, hv _, acc, eD, by rw [sizeLine_eq]; omega, acc ++ [.ref a], upd_same, by rw [List.length_append]; show acc.length + 1 ≤ j + 1; omega, fun x hx => ?_, fun _ => by rw [List.length_append]; show 1 ≤ acc.length + 1; omega, fun b o e => ?_⟩
      · rcases List.mem_append.mp hx with hx | hx
        · exact LotW.put (lw2 x hx) eD rf
        · rw [List.mem_singleton.mp hx]
          exact LotW.put new eD rf
      · rw [upd_ne (ne_of_none e nD)]
        exact mm _ _ e
  · obtain ⟨acc, eD, al, lw, so, mm⟩ := pp
    rw [List.take_length] at so
    exact fin D G ⟨hD0, acc, eD, so some_, by omega, lw⟩ (Sx.trans x0 (Sx.of mm)) (s0.sm mm)
/-- what stands between the steps -/
def RsV (p u gq : Addr) (k : Nat) (ws : List Str) (H : Hp) (n k2 : Nat) (σ : L2.St) (G : Hp) : Prop := ∃ (fa : Addr) (v5 v6 v7 v8 v9 v10 : Option V), σ = [some (.ref p), some (.ref u), some (.ref gq), some (.int ((k : Nat) : Int)), some (.ref fa), v5, v6, v7, v8, v9, v10] ∧ Sx p H G ∧ Src G p ∧ ValW ws n k2 H G fa
def spVa : Sp := fun vs H Q _ => ∃ (p u nm dd sg gq : Addr) (ws ds : List Str) (as es : List Addr) (tb Gs : List (List Str)) (ls : List Str) (m : Nat), vs = [.ref p, .ref u, .ref gq] ∧ Src H p ∧ DkAt H u nm dd sg ws ds as tb ls ∧ DkIs m ws ds tb ls ∧ m ≤ 9 ∧ u ≠ p ∧ nm ≠ p ∧
  gq ≠ p ∧ H gq = some (.lst (es.map V.ref)) ∧ 1 ≤ es.length ∧ es.length ≤ 9 ∧ Paired (fun e (g : List Str) => H e = some (.lst (g.map V.str)) ∧ e ≠ p ∧ 1 ≤ g.length ∧ g.length ≤ 9 ∧ ∀ z ∈ g, z ∈ ws) es Gs ∧
  ∀ (q : Addr) G, Sx p H G → Src G p → ValW ws 10 18 H G q → Q (.ref q) G
abbrev nVa : List Str := ["_law_source_here", "_law_desk_here", "_law_groups_here", "_law_kind", "_law_found", "_law_lot", "_law_at", "_law_aims", "_law_one", "_law_some", "_law_aim"]
abbrev scVa1 : Scope := { kind := .function, names := [(".0", .local), ("_law_aim", .cell), ("enumerate", .globalImplicit), ("_law_aims", .cell), ("_law_desk_here", .cell)], isGenerator := false, isCoroutine := false }
theorem scVa : FnScope nVa ["_law_source_here", "_law_desk_here", "_law_groups_here"] (defScope (top 52)) := ⟨rfl, rfl, rfl, by decide +kernel, rfl, by decide +kernel, by decide +kernel⟩
section
variable {P : Program} {w : World} {K : PySem.W.Frag} {mg : Str → Option Value} {base : Heap} {f fD fM : Addr} {fd dD dM : FuncData}
theorem bVa (F : FnP K "_law_value" (top 52) f fd) : Binds K fd ["_law_source_here", "_law_desk_here", "_law_groups_here"] [] := F.bindsN fun _ _ _ _ _ _ us hl => match us, hl with
  | [_, _, _], _ => rfl
theorem bMx (F : FnP K "_law_mixed" (top 38) f fd) : Binds K fd ["_law_source_here", "_law_things"] [] := F.bindsN fun _ _ _ _ _ _ us hl => match us, hl with
  | [_, _], _ => rfl
theorem ok_va (F : FnP K "_law_value" (top 52) f fd) (ml : mg "len" = none) (mr : mg "range" = none) (me : mg "enumerate" = none)
    (GD : FnOk P w K mg base CX0 1 fD dD ["_law_source_here", "_law_span"] spD) (FD : FnP K "_law_draw" (top 36) fD dD) (gD : mg "_law_draw" = some (.ref fD))
    (GM : FnOk P w K mg base CX0 2 fM dM ["_law_source_here", "_law_things"] (spMixedA K)) (FM : FnP K "_law_mixed" (top 38) fM dM) (gM : mg "_law_mixed" = some (.ref fM)) : FnOk P w K mg base CX0 3 f fd ["_law_source_here", "_law_desk_here", "_law_groups_here"] spVa := by
  refine F.ok (CX := CX0) scVa (fun vs H Q E h => ?_) (fun cdv A outer s H vs Q E hr h => ?_)
  · obtain ⟨p, u, nm, dd, sg, gq, ws, ds, as, es, tb, Gs, ls, m, rfl, _⟩ := h
    rfl
  · have hr1 := hr.mono (show 1 ≤ 2 by decide)
    refine ⟨_, PSs.nox (pss_cons (ps_par (i := 3) (j := 4) rfl scVa.nd rfl rfl (by decide) rfl rfl (pa_cons (by exact (pe_call GD hr1 rfl gD FD.kp (bD FD) .nil pass0 (pa_cons (pv 0) (pa_cons pe_int pa_nil)))) (pa_cons (by exact (pe_lc (own := [("_law_lot", 5)]) (g := gName 5) (tt := tYes) (te := tCall (spMixedA K) [] E0 (tCons (tVar 0) (tCons (tVar 5) tNil))) rfl scVa.nd (pi_list (by exact (pe_call GM hr rfl gM FM.kp (bMx FM) .nil pass0 (pa_cons (pv 0) (pa_cons (pv 2) pa_nil)))))
          (blkOk_by (N := nVa) (sc := defScope (top 52)) (by decide +kernel)) (fun _ _ _ _ _ => pg_name (i := 5) scVa.nd rfl (Or.inl rfl)) (fun _ _ _ _ _ => pts_nil) (fun _ _ _ _ _ => by exact (pe_call GM hr rfl gM FM.kp (bMx FM) .nil pass0 (pa_cons (by exact (pv 0)) (pa_cons (by exact (pv 5)) pa_nil)))))) pa_nil)) (by rfl))
      (pss_cons (ps_if (pt_cmpR op_eq (pv 3) pe_int (nomark _)) (pss_one (by exact (ps_setLc (i := 4) (own := [("_law_one", 8)]) (g := gName 8) (tt := tYes) (te := tLst (tCons (tVar 8) tNil)) rfl scVa.nd rfl rfl (sw_true rfl rfl rfl (by decide +kernel)) (pi_list (by exact (pe_call GM hr rfl gM FM.kp (bMx FM) .nil pass0 (pa_cons (pv 0) (pa_cons (by exact (pe_ix ix_tup (pv 1) pe_int (fun _ _ => rfl))) pa_nil)))))
          (blkOk_by (N := nVa) (sc := defScope (top 52)) (by decide +kernel)) (fun _ _ _ _ _ => pg_name (i := 8) scVa.nd rfl (Or.inl rfl)) (fun _ _ _ _ _ => pts_nil) (fun _ _ _ _ _ => by exact (pe_lst (pa_cons (by exact (pv 8)) pa_nil)))))) pss_nil)
      (pss_cons (ps_if (pt_cmpR op_eq (pv 3) pe_int (nomark _)) (pss_cons (ps_set (i := 5) scVa.nd rfl (.inl rfl) (pe_bm PySem.F.plainAttrs_list PySem.F.slot_list_pop PySem.F.type_list_pop mt_popAt (pv 4) (pa_cons (by exact (pe_call GD hr1 rfl gD FD.kp (bD FD) .nil pass0 (pa_cons (pv 0) (pa_cons (pe_callB call_len rfl ml boot_len (pa_cons (pv 4) pa_nil)) pa_nil)))) pa_nil)))
        (pss_cons (ps_set (i := 6) scVa.nd rfl (.inl rfl) (by exact (pe_call GD hr1 rfl gD FD.kp (bD FD) .nil pass0 (pa_cons (pv 0) (pa_cons (by exact (pe_op op_add (by exact (pe_callB call_len rfl ml boot_len (pa_cons (pv 5) pa_nil))) pe_int)) pa_nil)))))
        (pss_one (by exact (ps_setLc (i := 4) (own := [("_law_some", 9)]) (g := gName 9) (tt := tTest (tOp rNeE (tVar 9) (tLst tNil))) (te := tVar 9) rfl scVa.nd rfl rfl (sw_true rfl rfl rfl (by decide +kernel)) (pi_list (by exact (pe_op op_cat (pv 4) (by exact (pe_lst (pa_cons (by exact (pe_slice sl_list (by exact (pv 5)) po_none (po_some (by exact (pv 6))))) (pa_cons (by exact (pe_slice sl_list (by exact (pv 5)) (po_some (by exact (pv 6))) po_none)) pa_nil)))))))
          (blkOk_by (N := nVa) (sc := defScope (top 52)) (by decide +kernel)) (fun _ _ _ _ _ => pg_name (i := 9) scVa.nd rfl (Or.inl rfl)) (fun _ _ _ _ _ => pts_one (by exact (pt_cmpR (op_neE hr.units) (by exact (pv 9)) (pe_lst pa_nil) (nomark _)))) (fun _ _ _ _ _ => by exact (pv 9))))))) pss_nil)
      (pss_cons (ps_if (pt_cmpR op_eq (pv 3) pe_int (nomark _)) (pss_cons (ps_set (i := 5) scVa.nd rfl (.inl rfl) (pe_bm PySem.F.plainAttrs_list PySem.F.slot_list_pop PySem.F.type_list_pop mt_popAt (pv 4) (pa_cons (by exact (pe_call GD hr1 rfl gD FD.kp (bD FD) .nil pass0 (pa_cons (pv 0) (pa_cons (pe_callB call_len rfl ml boot_len (pa_cons (pv 4) pa_nil)) pa_nil)))) pa_nil)))
        (pss_one (ps_set (i := 4) scVa.nd rfl (.inl rfl) (by exact (pe_ifExp (by exact (pt_cmpR (op_eqE hr.units) (pv 4) (pe_lst pa_nil) (nomark _))) (by exact (pe_lst (pa_cons (pv 5) pa_nil))) (by exact (pe_op op_cat (by exact (pe_slice sl_list (pv 4) (po_some pe_int) po_none)) (by exact (pe_lst (pa_cons (by exact (pe_op op_cat (by exact (pe_ix ix_list (pv 4) pe_int (fun _ _ => rfl))) (pv 5))) pa_nil))))))))) ) pss_nil)
      (pss_cons (ps_if (pt_cmpR op_eq (pv 3) pe_int (nomark _)) (pss_cons (ps_set (i := 7) scVa.nd rfl (.inr rfl) (by exact (pe_lc (own := [("_law_one", 8)]) (g := gName 8) (tt := tYes) (te := tCall spD [] E0 (tCons (tVar 0) (tCons (tC (.int 2)) tNil))) rfl scVa.nd (pi_list (by exact (pe_ix ix_tup (pv 1) pe_int (fun _ _ => rfl))))
          (blkOk_by (N := nVa) (sc := defScope (top 52)) (by decide +kernel)) (fun _ _ _ _ _ => pg_name (i := 8) scVa.nd rfl (Or.inl rfl)) (fun _ _ _ _ _ => pts_nil) (fun _ _ _ _ _ => by exact (pe_call GD hr1 rfl gD FD.kp (bD FD) .nil pass0 (pa_cons (by exact (pv 0)) (pa_cons pe_int pa_nil)))))))
        (pss_cons (by exact (ps_setLc (i := 4) (own := [("_law_aim", 10)]) (g := gName 10) (tt := tYes) (te := tLc (iEnum K (tCons (tOp (rIxT K) (tVar 1) (tC (.int 0))) tNil)) (gTup K 2 (gCons (gName 6) (gCons (gName 8) gNil))) (tTest (tOp rEq (tOp (rIxL K) (tVar 7) (tVar 6)) (tVar 10))) (tVar 8) [6, 8]) rfl scVa.nd rfl rfl (sw_true rfl rfl rfl (by decide +kernel)) (pi_range1 rfl mr (pa_cons pe_int pa_nil))
          (blkOk_by (N := nVa) (sc := defScope (top 52)) (by decide +kernel)) (fun _ _ _ _ _ => pg_name (i := 10) scVa.nd rfl (Or.inr rfl)) (fun _ _ _ _ _ => pts_nil) (fun _ _ _ _ _ => by exact (pe_lc (own := [("_law_at", 6), ("_law_one", 8)]) (g := gTup K 2 (gCons (gName 6) (gCons (gName 8) gNil))) (tt := tTest (tOp rEq (tOp (rIxL K) (tVar 7) (tVar 6)) (tVar 10))) (te := tVar 8) rfl scVa.nd (pi_enum rfl me (pa_cons (by exact (pe_ix ix_tup (by exact (pv 1)) pe_int (fun _ _ => rfl))) pa_nil))
            (blkOk_by (N := nVa) (sc := scVa1) (by decide +kernel)) (fun _ _ _ _ _ => by exact (pg_tup rfl (pgs_cons (pg_name (i := 6) scVa.nd rfl (Or.inl rfl)) (pgs_cons (pg_name (i := 8) scVa.nd rfl (Or.inl rfl)) pgs_nil)))) (fun _ _ _ _ _ => pts_one (by exact (pt_cmpR op_eq (by exact (pe_ix ix_list (by exact (pv 7)) (by exact (pv 6)) (fun _ _ => rfl))) (by exact (pv 10)) (nomark _)))) (fun _ _ _ _ _ => by exact (pv 8))))))
        (pss_one (by exact (ps_setLc (i := 4) (own := [("_law_some", 9)]) (g := gName 9) (tt := tTest (tOp rNeE (tVar 9) (tLst tNil))) (te := tVar 9) rfl scVa.nd rfl rfl (sw_true rfl rfl rfl (by decide +kernel)) (pi_list (pv 4))
          (blkOk_by (N := nVa) (sc := defScope (top 52)) (by decide +kernel)) (fun _ _ _ _ _ => pg_name (i := 9) scVa.nd rfl (Or.inl rfl)) (fun _ _ _ _ _ => pts_one (by exact (pt_cmpR (op_neE hr.units) (by exact (pv 9)) (pe_lst pa_nil) (nomark _)))) (fun _ _ _ _ _ => by exact (pv 9))))))) pss_nil)
      (pss_one (ps_ret (pv 4)))))))), ?_⟩
    obtain ⟨p, u, nm, dd, sg, gq, ws, ds, as, es, tb, Gs, ls, m, rfl, hs, hk, is, m9, up, nmp, gqp, hgq, e1, e9, pe, q⟩ := h
    obtain ⟨hu, hnm, hdd, hsg, _⟩ := id hk
    have w9 : ws.length ≤ 9 := Nat.le_trans is.most m9
    have w1 := is.some
    have sz : ∀ n : Nat, n ≤ 1000 → n ≤ sizeLine := fun n z => by
      rw [sizeLine_eq]
      omega
    refine ⟨_, rfl, p, 5, rfl, hs, by decide, by decide, fun k H1 hk1 x1 s1 _ => ?_⟩
    refine ⟨_, rfl, _, rfl, p, gq, es.map V.ref, rfl, s1, .inl (.inl (x1 _ _ gqp hgq)), by rw [List.length_map]; omega, fun l ys H2 x2 s2 nl el pm => ?_⟩
    refine ⟨l, rfl, ⟨_, .inl (.inl el)⟩, fun D nD => ?_⟩
    have hl0 := none_sx hs x1 s1 nl
    have x2 := Sx.trans x1 x2
    have hD0 := none_sx hs x2 s2 nD
    have Dl : l ≠ D := ne_of_none el nD
    have yl : ys.length = es.length := by rw [pm.length_eq, List.length_map]
    have y9 : ys.length ≤ 9 := by omega
    refine lc_it (walk_list (xs := ys)) (vs := [5]) (fun j G => ∃ acc : List V, G D = some (.lst acc) ∧ acc.length = j ∧ (∀ x ∈ acc, LotW ws 9 H G x) ∧ G l = some (.lst ys) ∧ Sx p H G ∧ Src G p)
      ⟨[], upd_same, rfl, (fun x hx => nomatch hx), by rw [upd_ne Dl]; exact el, Sx.trans x2 (Sx.of (Sm.new nD)), s2.new nD⟩ (fun j G _ ⟨_, _, _, _, e, _⟩ => .inl (.inl e)) (fun j v G G' hj pp yy => ?_) (fun G pp => ?_)
    · obtain ⟨acc, eD, al, lw, el, xG, sG⟩ := pp
      obtain ⟨rfl, ex⟩ := yy
      obtain ⟨e, he, rfl⟩ := List.mem_map.mp (pm.mem_iff.mp (List.mem_of_getElem? ex))
      obtain ⟨i, hi, ei⟩ := List.mem_iff_getElem.mp he
      obtain ⟨g, eg, g1, g2, g3, g4, g5⟩ := pair_at pe (show es[i]? = some e by rw [List.getElem?_eq_getElem hi, ei])
      refine ⟨rfl, ?_⟩
      unfold tYes
      dsimp only
      rw [if_pos rfl]
      refine ⟨_, rfl, _, rfl, p, e, g.map V.str, rfl, sG, .inl (.inl (xG _ _ g2 g1)), by rw [List.length_map]; omega, fun a zs G2 x3 s3 na ea pm2 => ?_⟩
      have ha0 := none_sx hs xG sG na
      have xG2 := Sx.trans xG x3
      have Dp : D ≠ p := hs.ne hD0
      have lp : l ≠ p := hs.ne hl0
      have eD2 := x3 _ _ Dp eD
      have aD : a ≠ D := ne_of_none' eD na
      have zl : zs.length = g.length := by rw [pm2.length_eq, List.length_map]
      refine ⟨acc, eD2, by rw [sizeLine_eq]; omega, acc ++ [.ref a], upd_same, by rw [List.length_append, al]; rfl, fun x hx => ?_, ?_, ?_, ?_⟩
      · have rf : ∀ v ∈ acc, ∃ b, v = V.ref b := fun v hv => LotW.ref (lw v hv)
        rcases List.mem_append.mp hx with hx | hx
        · exact LotW.put (LotW.sx hs (lw x hx) x3) eD2 rf
        · rw [List.mem_singleton.mp hx]
          refine ⟨a, zs, rfl, ha0, by rw [upd_ne aD]; exact ea, by omega, by omega, fun v hv => ?_⟩
          obtain ⟨z, hz, rfl⟩ := List.mem_map.mp (pm2.mem_iff.mp hv)
          exact ⟨z, g5 z hz, rfl⟩
      · rw [upd_ne Dl]
        exact x3 _ _ lp el
      · exact Sx.put xG2 hD0
      · exact Src.put s3 Dp
    obtain ⟨acc, eD, al, lw, el, xG, sG⟩ := pp
    refine ⟨_, _, rfl, ?_⟩
    have R0 : RsV p u gq k ws H 9 9 [some (.ref p), some (.ref u), some (.ref gq), some (.int ((k : Nat) : Int)), some (.ref D), none, none, none, none, none, none] G := ⟨D, none, none, none, none, none, none, rfl, xG, sG, hD0, acc, eD, by omega, by omega, lw⟩
    -- one name to a lot
    refine ⟨_, rfl, rfl, _, rfl, ?_⟩
    refine ite_both (RsV p u gq k ws H 9 9) (fun σ' G' r => ?_) (fun hc fin => ?_) (fun hc => R0)
    rotate_left
    · refine ⟨_, rfl, _, rfl, u, _, 0, .ref nm, rfl, rfl, .inl (.inl (xG _ _ up hu)), atI_nat (j := 0) rfl, p, nm, ws.map V.str, rfl, sG, .inl (.inl (xG _ _ nmp hnm)), by rw [List.length_map]; omega, fun l2 ys2 G2 x3 s3 nl2 el2 pm2 => ?_⟩
      refine ⟨l2, rfl, ⟨_, .inl (.inl el2)⟩, fun D2 nD2 => ?_⟩
      have x4 := Sx.trans xG x3
      have hD2 := none_sx hs x4 s3 nD2
      have Dl2 : l2 ≠ D2 := ne_of_none el2 nD2
      have yl2 : ys2.length = ws.length := by rw [pm2.length_eq, List.length_map]
      refine lc_it (walk_list (xs := ys2)) (vs := [8]) (fun j G => ∃ acc : List V, G D2 = some (.lst acc) ∧ acc.length = j ∧ (∀ x ∈ acc, LotW ws 9 H G x) ∧ Sm G2 G)
        ⟨[], upd_same, rfl, (fun x hx => nomatch hx), Sm.new nD2⟩ (fun j G _ ⟨_, _, _, _, mm⟩ => .inl (.inl (mm _ _ el2))) (fun j v G G' hj pp yy => ?_) (fun G pp => ?_)
      · obtain ⟨acc, eD, al, lw, mm⟩ := pp
        obtain ⟨rfl, ex⟩ := yy
        obtain ⟨z, hz, rfl⟩ := List.mem_map.mp (pm2.mem_iff.mp (List.mem_of_getElem? ex))
        refine ⟨rfl, ?_⟩
        unfold tYes
        dsimp only
        rw [if_pos rfl]
        refine ⟨_, rfl, sz _ (by show 1 ≤ 1000; decide), fun a na => ?_⟩
        have me := Sm.new (o := .lst [.str z]) na
        have ea : upd G' a (.lst [.str z]) a = some (.lst [.str z]) := upd_same
        have ha0 := none_sx hs (Sx.trans x4 (Sx.of mm)) (s3.sm mm) na
        have lw2 : ∀ x ∈ acc, LotW ws 9 H (upd G' a (.lst [.str z])) x := fun x hx => LotW.sx hs (lw x hx) (Sx.of me)
        have eD := me _ _ eD
        have mm := Sm.trans mm me
        generalize upd G' a (.lst [.str z]) = G3 at lw2 eD mm ea ⊢
        have rf : ∀ v ∈ acc, ∃ b, v = V.ref b := fun v hv => LotW.ref (lw2 v hv)
        have new : LotW ws 9 H G3 (.ref a) := ⟨a, _, rfl, ha0, ea, by show 1 ≤ 1; decide, by show 1 ≤ 9; decide, fun e he => by
          rw [List.mem_singleton.mp he]
          exact ⟨z, hz, rfl⟩⟩
        refine ⟨acc, eD, by rw [sizeLine_eq]; omega, acc ++ [.ref a], upd_same, by rw [List.length_append, al]; rfl, fun x hx => ?_, fun b o e => ?_⟩
        · rcases List.mem_append.mp hx with hx | hx
          · exact LotW.put (lw2 x hx) eD rf
          · rw [List.mem_singleton.mp hx]
            exact LotW.put new eD rf
        · rw [upd_ne (ne_of_none e nD2)]
          exact mm _ _ e
      · obtain ⟨acc, eD, al, lw, mm⟩ := pp
        exact fin _ _ ⟨D2, _, _, _, _, _, _, rfl, Sx.trans x4 (Sx.of mm), s3.sm mm, hD2, acc, eD, by omega, by omega, lw⟩
    -- one lot taken apart
    obtain ⟨fa, v5, v6, v7, v8, v9, v10, rfl, xG, sG, fa0, xs, efa, l1, l2, lw⟩ := r
    refine ⟨_, rfl, rfl, _, rfl, ?_⟩
    refine ite_both (RsV p u gq k ws H 10 9) (fun σ' G' r => ?_) (fun hc fin => ?_) (fun hc => ⟨fa, v5, v6, v7, v8, v9, v10, rfl, xG, sG, fa0, xs, efa, l1, by omega, lw⟩)
    rotate_left
    · have rf : ∀ v ∈ xs, ∃ b, v = V.ref b := fun v hv => LotW.ref (lw v hv)
      have fap := hs.ne fa0
      refine ⟨_, rfl, .inl ⟨rfl, _, .inl (.inl efa)⟩, _, rfl, _, rfl, _, _, rfl, .inl ⟨_, .inl (.inl efa), rfl⟩, p, _, rfl, sG, by omega, by omega, fun j G2 hj x3 s3 _ => ⟨fa, xs, j, j, xs[j], rfl, rfl, x3 _ _ fap efa, by omega, by omega, seqIndex_of (by omega) (by omega), List.getElem?_eq_getElem hj, ?_⟩⟩
      have lw2 : ∀ x ∈ xs, LotW ws 9 H (upd G2 fa (.lst (xs.eraseIdx j))) x := fun x hx => LotW.put (LotW.sx hs (lw x hx) x3) (x3 _ _ fap efa) rf
      have ef2 : upd G2 fa (.lst (xs.eraseIdx j)) fa = some (.lst (xs.eraseIdx j)) := upd_same
      have x4 : Sx p H (upd G2 fa (.lst (xs.eraseIdx j))) := Sx.put (Sx.trans xG x3) fa0
      have s4 : Src (upd G2 fa (.lst (xs.eraseIdx j))) p := Src.put s3 fap
      have hin := List.getElem_mem hj
      generalize xs[j] = x at hin ⊢
      have ler : (xs.eraseIdx j).length = xs.length - 1 := List.length_eraseIdx_of_lt hj
      have lwe : ∀ y ∈ xs.eraseIdx j, LotW ws 9 H (upd G2 fa (.lst (xs.eraseIdx j))) y := fun y hy => lw2 y (List.mem_of_mem_eraseIdx hy)
      generalize xs.eraseIdx j = xe at ler ef2 lwe lw2 x4 s4 ⊢
      generalize upd G2 fa (.lst xe) = G3 at ef2 lwe lw2 x4 s4 ⊢
      obtain ⟨a, es2, rfl, na, ea, z1, z2, z3⟩ := lw2 x hin
      have ap := hs.ne na
      refine ⟨_, rfl, _, rfl, _, _, rfl, .inl ⟨_, .inl (.inl ea), rfl⟩, _, _, rfl, rfl, p, es2.length + 1, rfl, s4, by omega, by omega, fun t G4 ht x5 s5 _ => ?_⟩
      have x6 := Sx.trans x4 x5
      have ea := x5 _ _ ap ea
      have ef2 := x5 _ _ fap ef2
      have lwe : ∀ y ∈ xe, LotW ws 9 H G4 y := fun y hy => LotW.sx hs (lwe y hy) x5
      refine ⟨_, rfl, _, rfl, _, rfl, _, rfl, a, es2, rfl, .inl (.inl ea), fun p1 np1 => ?_⟩
      rw [cut_to _ _ (by omega)]
      have h1 := none_sx hs x6 s5 np1
      have m1 := Sm.new (o := .lst (es2.take t)) np1
      have ep1 : upd G4 p1 (.lst (es2.take t)) p1 = some (.lst (es2.take t)) := upd_same
      have x6 := Sx.trans x6 (Sx.of m1)
      have s5 := s5.sm m1
      have ea := m1 _ _ ea
      have ef2 := m1 _ _ ef2
      have lwe : ∀ y ∈ xe, LotW ws 9 H (upd G4 p1 (.lst (es2.take t))) y := fun y hy => LotW.sx hs (lwe y hy) (Sx.of m1)
      generalize upd G4 p1 (.lst (es2.take t)) = G5 at x6 s5 ea ef2 lwe ep1 ⊢
      refine ⟨_, rfl, _, rfl, _, rfl, a, es2, rfl, .inl (.inl ea), fun p2 np2 => ?_⟩
      rw [cut_from (by omega)]
      have h2 := none_sx hs x6 s5 np2
      have m2 := Sm.new (o := .lst (es2.drop t)) np2
      have ep2 : upd G5 p2 (.lst (es2.drop t)) p2 = some (.lst (es2.drop t)) := upd_same
      have x6 := Sx.trans x6 (Sx.of m2)
      have s5 := s5.sm m2
      have ep1 := m2 _ _ ep1
      have ef2 := m2 _ _ ef2
      have lwe : ∀ y ∈ xe, LotW ws 9 H (upd G5 p2 (.lst (es2.drop t))) y := fun y hy => LotW.sx hs (lwe y hy) (Sx.of m2)
      generalize upd G5 p2 (.lst (es2.drop t)) = G6 at x6 s5 ep1 ef2 lwe ep2 ⊢
      have q1 : Lot0 ws 9 H G6 (.ref p1) := ⟨p1, _, rfl, h1, ep1, by rw [List.length_take]; omega, fun e he => z3 e (List.mem_of_mem_take he)⟩
      have q2 : Lot0 ws 9 H G6 (.ref p2) := ⟨p2, _, rfl, h2, ep2, by rw [List.length_drop]; omega, fun e he => z3 e (List.mem_of_mem_drop he)⟩
      have q3 : ∃ y ∈ xe ++ [.ref p1, .ref p2], LotW ws 9 H G6 y := by
        by_cases c : t = 0
        · subst c
          exact ⟨.ref p2, by simp, p2, _, rfl, h2, ep2, by rw [List.length_drop]; omega, by rw [List.length_drop]; omega, fun e he => z3 e (List.mem_of_mem_drop he)⟩
        · exact ⟨.ref p1, by simp, p1, _, rfl, h1, ep1, by rw [List.length_take]; omega, by rw [List.length_take]; omega, fun e he => z3 e (List.mem_of_mem_take he)⟩
      refine ⟨sz _ (by show 2 ≤ 1000; decide), fun b nb => ?_⟩
      have m3 := Sm.new (o := .lst [.ref p1, .ref p2]) nb
      have eb := upd_same (H := G6) (a := b) (o := .lst [.ref p1, .ref p2])
      refine ⟨fa, b, xe, [.ref p1, .ref p2], rfl, rfl, m3 _ _ ef2, eb, by rw [sizeLine_eq]; show xe.length + 2 ≤ _; omega, fun c nc => ?_⟩
      have m4 := Sm.trans m3 (Sm.new (o := .lst (xe ++ [.ref p1, .ref p2])) nc)
      have ec := upd_same (H := upd G6 b (.lst [.ref p1, .ref p2])) (a := c) (o := .lst (xe ++ [.ref p1, .ref p2]))
      generalize upd (upd G6 b (.lst [.ref p1, .ref p2])) c (.lst (xe ++ [.ref p1, .ref p2])) = G7 at m4 ec ⊢
      refine ⟨c, rfl, ⟨_, .inl (.inl ec)⟩, ?_⟩
      refine lc_ne (n := 10) ec (by rw [List.length_append]; show xe.length + 2 ≤ 10; omega) (by decide) (fun y hy => ?_) ?_ hs (Sx.trans x6 (Sx.of m4)) (s5.sm m4) (fun _ => rfl) (fun _ => rfl) (fun D3 G8 v8 x8 s8 => fin _ _ ⟨D3, _, _, _, _, _, _, rfl, x8, s8, v8⟩)
      · rcases List.mem_append.mp hy with hy | hy
        · exact LotW.lot0 (LotW.sx hs (lwe y hy) (Sx.of m4))
        · rcases List.mem_cons.mp hy with rfl | hy
          · exact Lot0.sx hs q1 (Sx.of m4)
          · rw [List.mem_singleton.mp hy]
            exact Lot0.sx hs q2 (Sx.of m4)
      · obtain ⟨y, hy, ly⟩ := q3
        exact ⟨y, hy, LotW.sx hs ly (Sx.of m4)⟩
    -- one lot put to another
    obtain ⟨fa, v5, v6, v7, v8, v9, v10, rfl, xG, sG, fa0, xs, efa, l1, l2, lw⟩ := r
    refine ⟨_, rfl, rfl, _, rfl, ?_⟩
    refine ite_both (RsV p u gq k ws H 10 18) (fun σ' G' r => ?_) (fun hc fin => ?_) (fun hc => ⟨fa, v5, v6, v7, v8, v9, v10, rfl, xG, sG, fa0, xs, efa, l1, l2, fun x hx => LotW.more (lw x hx) (by decide)⟩)
    rotate_left
    · have rf : ∀ v ∈ xs, ∃ b, v = V.ref b := fun v hv => LotW.ref (lw v hv)
      have fap := hs.ne fa0
      refine ⟨_, rfl, .inl ⟨rfl, _, .inl (.inl efa)⟩, _, rfl, _, rfl, _, _, rfl, .inl ⟨_, .inl (.inl efa), rfl⟩, p, _, rfl, sG, by omega, by omega, fun j G2 hj x3 s3 _ => ⟨fa, xs, j, j, xs[j], rfl, rfl, x3 _ _ fap efa, by omega, by omega, seqIndex_of (by omega) (by omega), List.getElem?_eq_getElem hj, ?_⟩⟩
      have lw2 : ∀ x ∈ xs, LotW ws 9 H (upd G2 fa (.lst (xs.eraseIdx j))) x := fun x hx => LotW.put (LotW.sx hs (lw x hx) x3) (x3 _ _ fap efa) rf
      have ef2 : upd G2 fa (.lst (xs.eraseIdx j)) fa = some (.lst (xs.eraseIdx j)) := upd_same
      have x4 : Sx p H (upd G2 fa (.lst (xs.eraseIdx j))) := Sx.put (Sx.trans xG x3) fa0
      have s4 : Src (upd G2 fa (.lst (xs.eraseIdx j))) p := Src.put s3 fap
      have hin := List.getElem_mem hj
      generalize xs[j] = x at hin ⊢
      have ler : (xs.eraseIdx j).length = xs.length - 1 := List.length_eraseIdx_of_lt hj
      have lwe : ∀ y ∈ xs.eraseIdx j, LotW ws 9 H (upd G2 fa (.lst (xs.eraseIdx j))) y := fun y hy => lw2 y (List.mem_of_mem_eraseIdx hy)
      generalize xs.eraseIdx j = xe at ler ef2 lwe lw2 x4 s4 ⊢
      generalize upd G2 fa (.lst xe) = G3 at ef2 lwe lw2 x4 s4 ⊢
      obtain ⟨a, es2, rfl, na, ea, z1, z2, z3⟩ := lw2 x hin
      refine ⟨_, rfl, Nat.zero_le _, fun e0 ne0 => ?_⟩
      have m0 := Sm.new (o := .lst []) ne0
      refine ⟨fa, e0, xe, rfl, rfl, m0 _ _ ef2, upd_same, _, rfl, ?_⟩
      have x5 := Sx.trans x4 (Sx.of m0)
      have s5 := s4.sm m0
      have ea := m0 _ _ ea
      have ef2 := m0 _ _ ef2
      have lwe : ∀ y ∈ xe, LotW ws 9 H (upd G3 e0 (.lst [])) y := fun y hy => LotW.sx hs (lwe y hy) (Sx.of m0)
      generalize upd G3 e0 (.lst []) = G4 at x5 s5 ea ef2 lwe ⊢
      cases xe with
      | nil =>
        refine iteT ⟨_, rfl, sz _ (by show 1 ≤ 1000; decide), fun b nb => ?_⟩
        have mb := Sm.new (o := .lst [.ref a]) nb
        refine fin _ _ ⟨b, _, _, _, _, _, _, rfl, Sx.trans x5 (Sx.of mb), s5.sm mb, none_sx hs x5 s5 nb, _, upd_same, by show 1 ≤ 1; decide, by show 1 ≤ 10; decide, fun y hy => ?_⟩
        rw [List.mem_singleton.mp hy]
        exact ⟨a, es2, rfl, na, mb _ _ ea, z1, by omega, z3⟩
      | cons x0 xt =>
        obtain ⟨b0, eb0, rfl, nb0, hb0, y1, y2, y3⟩ := lwe x0 List.mem_cons_self
        refine iteF ⟨_, rfl, _, rfl, fa, _, rfl, .inl (.inl ef2), fun c1 nc1 => ?_⟩
        rw [show (1 : Int) = ((1 : Nat) : Int) from rfl, cut_from (by rw [List.length_cons]; omega)]
        have d1 : (V.ref b0 :: xt).drop 1 = xt := rfl
        rw [d1]
        have m1 := Sm.new (o := .lst xt) nc1
        have e1 : upd G4 c1 (.lst xt) c1 = some (.lst xt) := upd_same
        have x6 := Sx.trans x5 (Sx.of m1)
        have s6 := s5.sm m1
        have ea := m1 _ _ ea
        have ef2 := m1 _ _ ef2
        have hb0 := m1 _ _ hb0
        have lwt : ∀ y ∈ xt, LotW ws 9 H (upd G4 c1 (.lst xt)) y := fun y hy => LotW.sx hs (lwe y (List.mem_cons_of_mem _ hy)) (Sx.of m1)
        generalize upd G4 c1 (.lst xt) = G5 at x6 s6 ea ef2 hb0 lwt e1 ⊢
        refine ⟨_, rfl, fa, _, 0, .ref b0, rfl, rfl, .inl (.inl ef2), atI_nat (j := 0) rfl, _, rfl, b0, a, eb0, es2, rfl, rfl, hb0, ea, by rw [sizeLine_eq]; omega, fun c2 nc2 => ?_⟩
        have h2 := none_sx hs x6 s6 nc2
        have m2 := Sm.new (o := .lst (eb0 ++ es2)) nc2
        have e2 : upd G5 c2 (.lst (eb0 ++ es2)) c2 = some (.lst (eb0 ++ es2)) := upd_same
        refine ⟨sz _ (by show 1 ≤ 1000; decide), fun c3 nc3 => ?_⟩
        have m3 := Sm.new (o := .lst [.ref c2]) nc3
        have e3 : upd (upd G5 c2 (.lst (eb0 ++ es2))) c3 (.lst [.ref c2]) c3 = some (.lst [.ref c2]) := upd_same
        have m23 := Sm.trans m2 m3
        refine ⟨c1, c3, xt, [.ref c2], rfl, rfl, m23 _ _ e1, e3, by rw [sizeLine_eq]; rw [List.length_cons] at ler; show xt.length + 1 ≤ _; omega, fun c4 nc4 => ?_⟩
        have m4 := Sm.new (o := .lst (xt ++ [.ref c2])) nc4
        have h4 := none_sx hs (Sx.trans x6 (Sx.of m23)) (s6.sm m23) nc4
        have m24 := Sm.trans m23 m4
        refine fin _ _ ⟨c4, _, _, _, _, _, _, rfl, Sx.trans x6 (Sx.of m24), s6.sm m24, h4, _, upd_same, by rw [List.length_append]; show 1 ≤ xt.length + 1; omega, by rw [List.length_append]; rw [List.length_cons] at ler; show xt.length + 1 ≤ 10; omega, fun y hy => ?_⟩
        rcases List.mem_append.mp hy with hy | hy
        · exact LotW.more (LotW.sx hs (lwt y hy) (Sx.of m24)) (by decide)
        · rw [List.mem_singleton.mp hy]
          refine ⟨c2, _, rfl, h2, m4 _ _ (m3 _ _ e2), by rw [List.length_append]; omega, by rw [List.length_append]; omega, fun e he => ?_⟩
          rcases List.mem_append.mp he with he | he
          · exact y3 e he
          · exact z3 e he
    -- any two lots
    obtain ⟨fa, v5, v6, v7, v8, v9, v10, rfl, xG, sG, fa0, xs, efa, l1, l2, lw⟩ := r
    refine ⟨_, rfl, rfl, _, rfl, ?_⟩
    refine ite_both (RsV p u gq k ws H 10 18) (fun σ' G' r => ?_) (fun hc fin => ?_) (fun hc => ⟨fa, v5, v6, v7, v8, v9, v10, rfl, xG, sG, fa0, xs, efa, l1, l2, lw⟩)
    rotate_left
    · refine ⟨_, rfl, u, _, 0, .ref nm, rfl, rfl, .inl (.inl (xG _ _ up hu)), atI_nat (j := 0) rfl, nm, rfl, ⟨_, .inl (.inl (xG _ _ nmp hnm))⟩, fun Da nDa => ?_⟩
      have hDa := none_sx hs xG sG nDa
      have Dap := hs.ne hDa
      refine lc_it (walk_list (xs := ws.map V.str)) (vs := [8]) (fun j G => ∃ ts : List Nat, G Da = some (.lst (ts.map fun (t : Nat) => V.int (t : Int))) ∧ ts.length = j ∧ (∀ t ∈ ts, t < 2) ∧ Sx p H G ∧ Src G p)
        ⟨[], upd_same, rfl, (fun t ht => nomatch ht), Sx.trans xG (Sx.of (Sm.new nDa)), sG.new nDa⟩ (fun j G _ ⟨_, _, _, _, xx, _⟩ => .inl (.inl (xx _ _ nmp hnm))) (fun j v G G' hj pp yy => ?_) (fun G pp => ?_)
      · obtain ⟨ts, eD, tl, t2, xx, ss⟩ := pp
        obtain ⟨rfl, ex⟩ := yy
        refine ⟨rfl, ?_⟩
        unfold tYes
        dsimp only
        rw [if_pos rfl]
        rw [List.length_map] at hj
        refine ⟨_, rfl, p, 2, rfl, ss, by decide, by decide, fun t G2 ht x3 s3 _ => ⟨_, x3 _ _ Dap eD, by rw [List.length_map, sizeLine_eq]; omega, ts ++ [t], by rw [upd_same, List.map_append]; rfl, by rw [List.length_append, tl]; rfl, fun t' h' => ?_, Sx.put (Sx.trans xx x3) hDa, Src.put s3 Dap⟩⟩
        rcases List.mem_append.mp h' with h' | h'
        · exact t2 t' h'
        · rw [List.mem_singleton.mp h']
          exact ht
      · obtain ⟨ts, eA, tl, t2, xx, ss⟩ := pp
        rw [List.length_map] at tl
        obtain ⟨t0, et0⟩ : ∃ t0, ts[0]? = some t0 := ⟨_, List.getElem?_eq_getElem (show 0 < ts.length by omega)⟩
        have t0l := t2 t0 (List.mem_of_getElem? et0)
        refine ⟨_, rfl, by decide, by decide, fun D2 nD2 => ?_⟩
        have hD2 := none_sx hs xx ss nD2
        refine lc_range (lo := 0) (n := 2) (fun j G2 => ∃ acc : List V, G2 D2 = some (.lst acc) ∧ acc.length = j ∧ (∀ y ∈ acc, Lot0 ws 18 H G2 y) ∧ (t0 < j → ∃ y ∈ acc, LotW ws 18 H G2 y) ∧ Sm G G2)
          ⟨[], upd_same, rfl, (fun y hy => nomatch hy), (fun h => absurd h (Nat.not_lt_zero _)), Sm.new nD2⟩ ?_ ?_
        · rintro j G2 hj ⟨acc, eD, al, lt0, so, mm⟩
          refine ⟨rfl, ?_⟩
          unfold tYes
          dsimp only
          rw [if_pos rfl]
          have x4 := Sx.trans xx (Sx.of mm)
          refine ⟨_, rfl, u, _, 0, .ref nm, rfl, rfl, .inl (.inl (x4 _ _ up hu)), atI_nat (j := 0) rfl, nm, _, rfl, .inl (.inl (x4 _ _ nmp hnm)), fun Di nDi => ?_⟩
          have hDi := none_sx hs x4 (ss.sm mm) nDi
          refine lc_it (walk_enum (xs := ws.map V.str)) (vs := [6, 8]) (fun i G3 => ∃ zs : List V, G3 Di = some (.lst zs) ∧ zs.length ≤ i ∧ (∀ e ∈ zs, ∃ z ∈ ws, e = .str z) ∧ (t0 = j → 1 ≤ i → 1 ≤ zs.length) ∧ Sm G2 G3)
            ⟨[], upd_same, Nat.le_refl _, (fun e he => nomatch he), (fun _ h => absurd h (Nat.not_lt_zero _)), Sm.new nDi⟩ (fun i G3 _ ⟨_, _, _, _, _, m3⟩ => .inl (.inl (m3 _ _ (x4 _ _ nmp hnm)))) (fun i v G3 G4 hi pp yy => ?_) (fun G3 pp => ?_)
          · obtain ⟨zs, eZ, zl, zw, zn, m3⟩ := pp
            obtain ⟨T, z1, z2, rfl, nT, rfl, f1, f2⟩ := yy
            cases Option.some.inj f1
            obtain ⟨z, ez, rfl⟩ := str_atL (show (ws.map V.str)[i]? = some z2 from f2)
            have mT := Sm.new (o := .tup [.int ((i : Nat) : Int), .str z]) nT
            have eT : upd G3 T (.tup [.int ((i : Nat) : Int), .str z]) T = some (.tup [.int ((i : Nat) : Int), .str z]) := upd_same
            have eZ := mT _ _ eZ
            have m3 := Sm.trans m3 mT
            generalize upd G3 T (.tup [.int ((i : Nat) : Int), .str z]) = G4 at eT eZ m3 ⊢
            have il := (List.getElem?_eq_some_iff.mp ez).1
            obtain ⟨ti, eti⟩ : ∃ ti, ts[i]? = some ti := ⟨_, List.getElem?_eq_getElem (show i < ts.length by omega)⟩
            refine ⟨T, _, rfl, .inl (.inl eT), rfl, _, _, rfl, _, _, rfl, rfl, rfl, ?_⟩
            refine ⟨_, rfl, _, rfl, Da, _, i, .int ((ti : Nat) : Int), rfl, rfl, .inl (.inl (m3 _ _ (mm _ _ eA))), atI_nat (j := i) (by rw [List.getElem?_map, eti]; rfl), _, rfl, rfl, _, rfl, ?_⟩
            by_cases c : ti = j
            · rw [decide_eq_true (show V.int ((ti : Nat) : Int) = V.int (0 + ((j : Nat) : Int)) by rw [c, Int.zero_add])]
              refine iteT ⟨_, rfl, zs, eZ, by rw [sizeLine_eq]; omega, zs ++ [.str z], upd_same, by rw [List.length_append]; show zs.length + 1 ≤ i + 1; omega, fun e he => ?_, fun _ _ => by rw [List.length_append]; show 1 ≤ zs.length + 1; omega, fun b o e => ?_⟩
              · rcases List.mem_append.mp he with he | he
                · exact zw e he
                · exact ⟨z, List.mem_of_getElem? ez, List.mem_singleton.mp he⟩
              · rw [upd_ne (ne_of_none e nDi)]
                exact m3 _ _ e
            · rw [decide_eq_false (show ¬ V.int ((ti : Nat) : Int) = V.int (0 + ((j : Nat) : Int)) from fun e => c (by have := V.int.inj e; omega))]
              refine iteF ⟨zs, eZ, by omega, zw, fun h _ => ?_, m3⟩
              cases i with
              | zero =>
                rw [et0] at eti
                cases Option.some.inj eti
                exact absurd h c
              | succ i => exact zn h (by omega)
          · obtain ⟨zs, eZ, zl, zw, zn, m3⟩ := pp
            rw [List.length_map] at zl zn
            have dne2 : Di ≠ D2 := ne_of_none' eD nDi
            have eD3 := m3 _ _ eD
            have new : Lot0 ws 18 H G3 (.ref Di) := ⟨Di, zs, rfl, hDi, eZ, by omega, zw⟩
            refine ⟨acc, eD3, by rw [sizeLine_eq]; omega, acc ++ [.ref Di], upd_same, by rw [List.length_append, al]; rfl, fun y hy => ?_, fun lt => ?_, fun b o e => ?_⟩
            · rcases List.mem_append.mp hy with hy | hy
              · exact Lot0.put (Lot0.sx hs (lt0 y hy) (Sx.of m3)) eD3 hy
              · rw [List.mem_singleton.mp hy]
                exact ⟨Di, zs, rfl, hDi, by rw [upd_ne dne2]; exact eZ, by omega, zw⟩
            · by_cases c : t0 = j
              · exact ⟨.ref Di, by simp, Di, zs, rfl, hDi, by rw [upd_ne dne2]; exact eZ, zn c w1, by omega, zw⟩
              · obtain ⟨y, hy, ly⟩ := so (by omega)
                have ly := LotW.sx hs ly (Sx.of m3)
                obtain ⟨a, es2, rfl, na, ea, z1, z2, z3⟩ := ly
                refine ⟨.ref a, List.mem_append_left _ hy, a, es2, rfl, na, ?_, z1, z2, z3⟩
                rw [upd_ne fun w => ?_]
                · exact ea
                · rw [w, eD3] at ea
                  cases HO.lst.inj (Option.some.inj ea)
                  obtain ⟨z, _, e2⟩ := z3 _ hy
                  cases e2
            · rw [upd_ne (ne_of_none e nD2)]
              exact m3 _ _ (mm _ _ e)
        · rintro G2 ⟨acc, eD, al, lt0, so, mm⟩
          have x4 := Sx.trans xx (Sx.of mm)
          refine ⟨_, rfl, D2, rfl, ⟨_, .inl (.inl eD)⟩, ?_⟩
          exact lc_ne (n := 10) eD (by omega) (by decide) lt0 (so t0l) hs x4 (ss.sm mm) (fun _ => rfl) (fun _ => rfl) (fun D3 G8 v8 x8 s8 => fin _ _ ⟨D3, _, _, _, _, _, _, rfl, x8, s8, v8⟩)
    obtain ⟨fa, v5, v6, v7, v8, v9, v10, rfl, xG, sG, vv⟩ := r
    exact ⟨_, rfl, q fa G' xG sG vv⟩
end
end Dk
set_option Elab.async false
set_option linter.all false
set_option maxRecDepth 100000
set_option maxHeartbeats 8000000
namespace Dk
open PySem PySem.Spec PyProof.Rows L2 Er LamX NdefX Bf Dc2
/-! ### values that can be shown, and what is_likeness sees in them -/
/-- a small thing -/
def Ent (G : Hp) (e : V) : Prop := ∃ d, Rr G e d ∧ PyData.canLay0 d = true ∧ Fit d 2 93 ∧ ∀ es, d = .list es → es = [] ∨ ∃ s, es = [.str s]
/-- a lot, or another thing -/
def Itm2 (G : Hp) (x : V) : Prop := ∃ d, Rr G x d ∧ PyData.canLay0 d = true ∧ Fit d 3 4000 ∧ ∀ es, d = .list es → es.length ≤ 40
def bnd (d : PyData) : Prop := ∀ ds, d = .list ds → ds.length ≤ 20 ∧ ∀ e ∈ ds, ∀ es, e = .list es → es.length ≤ 40
def DctV (G : Hp) (v : V) : Prop := ∃ (a : Addr) (kvs : List (Key × V)), v = .ref a ∧ G a = some (.dK kvs) ∧ kvs.length ≤ 10 ∧ ∀ kv ∈ kvs, (∃ z, IsWord z ∧ kv.1 = .inr z) ∧ Itm2 G kv.2
def OkV (G : Hp) (v : V) : Prop := (∃ d, Rr G v d ∧ PyData.canLay0 d = true ∧ Fit d 6 100000 ∧ bnd d) ∨ DctV G v
theorem Ent.sm {G G2 : Hp} {e : V} (h : Ent G e) (m : Sm G G2) : Ent G2 e := by
  obtain ⟨d, a, b⟩ := h
  exact ⟨d, Rr.sm m a, b⟩
theorem Itm2.sm {G G2 : Hp} {e : V} (h : Itm2 G e) (m : Sm G G2) : Itm2 G2 e := by
  obtain ⟨d, a, b⟩ := h
  exact ⟨d, Rr.sm m a, b⟩
theorem OkV.sm {G G2 : Hp} {e : V} (h : OkV G e) (m : Sm G G2) : OkV G2 e := by
  rcases h with ⟨d, a, b⟩ | ⟨a, kvs, e, h, l, r⟩
  · exact .inl ⟨d, Rr.sm m a, b⟩
  · exact .inr ⟨a, kvs, e, m _ _ h, l, fun kv hkv => ⟨(r kv hkv).1, Itm2.sm (r kv hkv).2 m⟩⟩
theorem rrs_of {G : Hp} {R : PyData → Prop} : ∀ {xs : List V}, (∀ x ∈ xs, ∃ d, Rr G x d ∧ R d) → ∃ ds, Rrs G xs ds ∧ ∀ d ∈ ds, R d
  | [], _ => ⟨[], .nil, fun d hd => (nomatch hd)⟩
  | x :: xs, h => by
    obtain ⟨d, a, b⟩ := h x List.mem_cons_self
    obtain ⟨ds, c, e⟩ := rrs_of (xs := xs) fun y hy => h y (List.mem_cons_of_mem _ hy)
    refine ⟨d :: ds, .cons a c, fun y hy => ?_⟩
    rcases List.mem_cons.mp hy with rfl | hy
    · exact b
    · exact e y hy
theorem lay_all : ∀ {ds : List PyData}, (∀ d ∈ ds, PyData.canLay0 d = true) → PyData.canLayAll0 ds = true
  | [], _ => rfl
  | d :: ds, h => by
    simp only [PyData.canLayAll0, Bool.and_eq_true]
    exact ⟨h d List.mem_cons_self, lay_all fun e he => h e (List.mem_cons_of_mem _ he)⟩
theorem word_fit {z : Str} (l : z.length ≤ 8) (o : PyData.strOk z = true) : Fit (.str z) 1 88 := by
  refine ⟨rfl, by simp [PyData.depth], ?_⟩
  have a := PyData.shown_le 8 (Nat.le_refl 8) (.str z) (PyData.leavesShort_of_canLay0 8 _ (by simpa [PyData.canLay0] using o) rfl)
  have b : (PyData.str z).weight ≤ 8 := l
  omega
theorem list_fit {z : Str} (l : z.length ≤ 8) (o : PyData.strOk z = true) : Fit (.list [.str z]) 2 93 := by
  have a := Fit.list (ds := [.str z]) (k := 1) (n := 88) fun d hd => by
    have e : d = .str z := by simpa using hd
    rw [e]
    exact word_fit l o
  exact a.more (by decide) (by show (88 + 2) * 1 + 3 ≤ 93; decide)
theorem tup_fit {z : Str} (l : z.length ≤ 8) (o : PyData.strOk z = true) : Fit (.tuple [.str z]) 2 93 := by
  have a := Fit.tuple (ds := [.str z]) (k := 1) (n := 88) fun d hd => by
    have e : d = .str z := by simpa using hd
    rw [e]
    exact word_fit l o
  exact a.more (by decide) (by show (88 + 2) * 1 + 3 ≤ 93; decide)
theorem ent_str {G : Hp} {z : Str} (l : z.length ≤ 8) (o : PyData.strOk z = true) : Ent G (.str z) := ⟨.str z, .str z, by simpa [PyData.canLay0] using o, (word_fit l o).more (by decide) (by decide), fun es e => (nomatch e)⟩
theorem ent_word {G : Hp} {z : Str} (h : IsWord z) : Ent G (.str z) := ent_str h.2.1 h.ok
theorem ent_non {G : Hp} : Ent G .non := ⟨.none, .non, rfl, ⟨rfl, by simp [PyData.depth], by decide⟩, fun es e => (nomatch e)⟩
theorem ent_bl {G : Hp} : Ent G (.bl true) := ⟨.bool true, .bl true, rfl, ⟨rfl, by simp [PyData.depth], by decide⟩, fun es e => (nomatch e)⟩
theorem ent_five {G : Hp} : Ent G (.int 5) := ⟨.int 5, .int 5, rfl, ⟨rfl, by simp [PyData.depth], by decide +kernel⟩, fun es e => (nomatch e)⟩
theorem ent_list {G : Hp} {a : Addr} {z : Str} (l : z.length ≤ 8) (o : PyData.strOk z = true) (e : G a = some (.lst [.str z])) : Ent G (.ref a) := ⟨.list [.str z], .lst e (.cons (.str z) .nil), by simpa [PyData.canLay0, PyData.canLayAll0] using o, list_fit l o, fun es e => .inr ⟨z, (PyData.list.inj e).symm⟩⟩
theorem ent_tup {G : Hp} {a : Addr} {z : Str} (l : z.length ≤ 8) (o : PyData.strOk z = true) (e : G a = some (.tup [.str z])) : Ent G (.ref a) := ⟨.tuple [.str z], .tup e (.cons (.str z) .nil), by simpa [PyData.canLay0, PyData.canLayAll0] using o, tup_fit l o, fun es e => (nomatch e)⟩
theorem ent_nil {G : Hp} {a : Addr} (e : G a = some (.lst [])) : Ent G (.ref a) := ⟨.list [], .lst e .nil, rfl, ⟨rfl, by simp [PyData.depth, PyData.depthAll], by decide⟩, fun es e => .inl (PyData.list.inj e).symm⟩
theorem itm_ent {G : Hp} {x : V} (h : Ent G x) : Itm2 G x := by
  obtain ⟨d, a, b, c, e⟩ := h
  refine ⟨d, a, b, c.more (by decide) (by decide), fun es he => ?_⟩
  rcases e es he with h | ⟨s, h⟩
  · rw [h]
    exact Nat.zero_le _
  · rw [h]
    show 1 ≤ 40
    decide
theorem itm_lst {G : Hp} {a : Addr} {es : List V} (e : G a = some (.lst es)) (l : es.length ≤ 40) (h : ∀ v ∈ es, Ent G v) : Itm2 G (.ref a) := by
  obtain ⟨ds, r, p⟩ := rrs_of h
  have dl := r.len
  refine ⟨.list ds, .lst e r, by simpa [PyData.canLay0] using lay_all fun d hd => (p d hd).1, (Fit.list fun d hd => (p d hd).2.1).more (by decide) ?_, fun es2 e2 => ?_⟩
  · have : (93 + 2) * ds.length ≤ (93 + 2) * 40 := Nat.mul_le_mul_left _ (by omega)
    omega
  · rw [← PyData.list.inj e2, ← dl]
    exact l
theorem itm_tup {G : Hp} {a : Addr} {es : List V} (e : G a = some (.tup es)) (l : es.length ≤ 40) (h : ∀ v ∈ es, Ent G v) : Itm2 G (.ref a) := by
  obtain ⟨ds, r, p⟩ := rrs_of h
  have dl := r.len
  refine ⟨.tuple ds, .tup e r, by simpa [PyData.canLay0] using lay_all fun d hd => (p d hd).1, (Fit.tuple fun d hd => (p d hd).2.1).more (by decide) ?_, fun es2 e2 => (nomatch e2)⟩
  have : (93 + 2) * ds.length ≤ (93 + 2) * 40 := Nat.mul_le_mul_left _ (by omega)
  omega
theorem okv_ent {G : Hp} {x : V} (h : Ent G x) : OkV G x := by
  obtain ⟨d, a, b, c, e⟩ := h
  refine .inl ⟨d, a, b, c.more (by decide) (by decide), fun ds hd => ?_⟩
  rcases e ds hd with h | ⟨s, h⟩
  · rw [h]
    exact ⟨Nat.zero_le _, fun e he => (nomatch he)⟩
  · rw [h]
    refine ⟨by show 1 ≤ 20; decide, fun e he es h2 => ?_⟩
    rw [List.mem_singleton.mp he] at h2
    cases h2
theorem okv_lst {G : Hp} {a : Addr} {xs : List V} (e : G a = some (.lst xs)) (l : xs.length ≤ 20) (h : ∀ v ∈ xs, Itm2 G v) : OkV G (.ref a) := by
  obtain ⟨ds, r, p⟩ := rrs_of h
  have dl := r.len
  refine .inl ⟨.list ds, .lst e r, by simpa [PyData.canLay0] using lay_all fun d hd => (p d hd).1, (Fit.list fun d hd => (p d hd).2.1).more (by decide) ?_, fun ds2 e2 => ?_⟩
  · have : (4000 + 2) * ds.length ≤ (4000 + 2) * 20 := Nat.mul_le_mul_left _ (by omega)
    omega
  · cases PyData.list.inj e2
    exact ⟨by omega, fun d hd => (p d hd).2.2⟩
theorem okv_tup {G : Hp} {a : Addr} {xs : List V} (e : G a = some (.tup xs)) (l : xs.length ≤ 20) (h : ∀ v ∈ xs, Itm2 G v) : OkV G (.ref a) := by
  obtain ⟨ds, r, p⟩ := rrs_of h
  have dl := r.len
  refine .inl ⟨.tuple ds, .tup e r, by simpa [PyData.canLay0] using lay_all fun d hd => (p d hd).1, (Fit.tuple fun d hd => (p d hd).2.1).more (by decide) ?_, fun ds2 e2 => (nomatch e2)⟩
  have : (4000 + 2) * ds.length ≤ (4000 + 2) * 20 := Nat.mul_le_mul_left _ (by omega)
  omega
theorem put_all {R : Key → Prop} {T : V → Prop} {l : List (Key × V)} {k : Key} {v : V} (h : ∀ kv ∈ l, R kv.1 ∧ T kv.2) (hk : R k) (hv : T v) : (∀ kv ∈ putK l k v, R kv.1 ∧ T kv.2) ∧ (putK l k v).length ≤ l.length + 1 := by
  unfold putK
  split
  · refine ⟨fun kv hkv => ?_, by rw [List.length_map]; omega⟩
    obtain ⟨x, hx, rfl⟩ := List.mem_map.mp hkv
    split
    · exact ⟨(h x hx).1, hv⟩
    · exact h x hx
  · refine ⟨fun kv hkv => ?_, by rw [List.length_append]; exact Nat.le_refl _⟩
    rcases List.mem_append.mp hkv with hx | hx
    · exact h kv hx
    · rw [List.mem_singleton.mp hx]
      exact ⟨hk, hv⟩
theorem merge_all {R : Key → Prop} {T : V → Prop} : ∀ {more l : List (Key × V)}, (∀ kv ∈ l, R kv.1 ∧ T kv.2) → (∀ kv ∈ more, R kv.1 ∧ T kv.2) → (∀ kv ∈ mergeK l more, R kv.1 ∧ T kv.2) ∧ (mergeK l more).length ≤ l.length + more.length
  | [], l, h, _ => ⟨h, Nat.le_refl _⟩
  | m :: more, l, h, g => by
    have gm := g m List.mem_cons_self
    obtain ⟨a, b⟩ := put_all h gm.1 gm.2
    obtain ⟨c, d⟩ := merge_all (more := more) a fun kv hkv => g kv (List.mem_cons_of_mem _ hkv)
    exact ⟨c, by rw [List.length_cons]; exact Nat.le_trans d (by omega)⟩
end Dk
set_option Elab.async false
set_option linter.all false
set_option maxRecDepth 100000
set_option maxHeartbeats 8000000
namespace Dk
open PySem PySem.Spec PyProof.Rows L2 Er LamX NdefX Bf Dc2
/-! ### _law_spoilt -/
def spSp : Sp := fun vs H Q _ => ∃ (p u nm dd sg q : Addr) (B : Hp) (ws ds : List Str) (as : List Addr) (tb : List (List Str)) (ls : List Str) (m : Nat), vs = [.ref p, .ref u, .ref q] ∧ Src B p ∧ DkAt B u nm dd sg ws ds as tb ls ∧ DkIs m ws ds tb ls ∧ m ≤ 9 ∧ u ≠ p ∧ nm ≠ p ∧
  Sx p B H ∧ Src H p ∧ ValW ws 10 18 B H q ∧ ∀ v G, Sx p B G → Src G p → OkV G v → Q v G
abbrev nSp : List Str := ["_law_source_here", "_law_desk_here", "_law_value_here", "_law_kind", "_law_at", "_law_thing", "_law_lot"]
theorem scSp : FnScope nSp ["_law_source_here", "_law_desk_here", "_law_value_here"] (defScope (top 53)) := ⟨rfl, rfl, rfl, by decide +kernel, rfl, by decide +kernel, by decide +kernel⟩
theorem menu_fit : ∀ y ∈ menu, y.length ≤ 8 ∧ PyData.strOk y = true := by decide +kernel
theorem lot_itm {ws : List Str} {k : Nat} {B G G2 : Hp} {x : V} (hw : ∀ z ∈ ws, IsWord z) (k40 : k ≤ 40) (h : LotW ws k B G x) (m : ∀ a es, x = .ref a → G a = some (.lst es) → G2 a = some (.lst es)) : Itm2 G2 x := by
  obtain ⟨a, es, rfl, _, e, _, l, r⟩ := h
  refine itm_lst (m a es rfl e) (Nat.le_trans l k40) fun v hv => ?_
  obtain ⟨z, hz, rfl⟩ := r v hv
  exact ent_word (hw z hz)
theorem LotW.ne {ws : List Str} {k : Nat} {B G : Hp} {a q : Addr} {xs : List V} (h : LotW ws k B G (.ref a)) (e : G q = some (.lst xs)) (hx : .ref a ∈ xs) : a ≠ q := fun w => by
  obtain ⟨b, es, e1, _, g, l1, _, r⟩ := h
  cases V.ref.inj e1
  rw [w, e] at g
  cases HO.lst.inj (Option.some.inj g)
  obtain ⟨z, _, e2⟩ := r _ hx
  cases e2
/-- the list of lots, one of them bent -/
theorem bent_lot {ws : List Str} {B G : Hp} {q a : Addr} {xs es' : List V} (hw : ∀ z ∈ ws, IsWord z) (e : G q = some (.lst xs)) (l : xs.length ≤ 20) (lw : ∀ x ∈ xs, LotW ws 18 B G x) (ha : .ref a ∈ xs) (l2 : es'.length ≤ 40) (h : ∀ v ∈ es', Ent (upd G a (.lst es')) v) : OkV (upd G a (.lst es')) (.ref q) := by
  refine okv_lst (xs := xs) ?_ l fun v hv => ?_
  · rw [upd_ne (Ne.symm (LotW.ne (lw _ ha) e ha))]
    exact e
  · obtain ⟨b, rfl⟩ := LotW.ref (lw v hv)
    by_cases c : b = a
    · rw [c]
      exact itm_lst upd_same l2 h
    · exact lot_itm hw (by decide) (lw _ hv) fun b' es e1 e2 => by
        cases V.ref.inj e1
        rw [upd_ne c]
        exact e2
/-- the list of lots, bent itself -/
theorem bent_list {ws : List Str} {B G : Hp} {q : Addr} {xs ys : List V} (hw : ∀ z ∈ ws, IsWord z) (e : G q = some (.lst xs)) (l : ys.length ≤ 20) (lw : ∀ x ∈ xs, LotW ws 18 B G x) (h : ∀ y ∈ ys, y ∈ xs ∨ Itm2 (upd G q (.lst ys)) y) : OkV (upd G q (.lst ys)) (.ref q) := by
  refine okv_lst upd_same l fun v hv => ?_
  rcases h v hv with hx | hx
  · obtain ⟨b, rfl⟩ := LotW.ref (lw v hx)
    exact lot_itm hw (by decide) (lw _ hx) fun b' es e1 e2 => by
      cases V.ref.inj e1
      rw [upd_ne (LotW.ne (lw _ hx) e hx)]
      exact e2
  · exact hx
theorem ixN_natY {n i : Nat} (h : i < n) : ixN n ((i : Nat) : Int) = some i := by
  unfold ixN
  rw [if_pos (by omega), if_pos (by omega)]
  rfl
theorem ent_ins {ws : List Str} {G : Hp} {es : List V} {v : V} {i : Nat} (hw : ∀ z ∈ ws, IsWord z) (r : ∀ e ∈ es, ∃ z ∈ ws, e = .str z) (hv : Ent G v) : ∀ e ∈ es.take i ++ [v] ++ es.drop i, Ent G e := fun e he => by
  have old : e ∈ es → Ent G e := fun h => by
    obtain ⟨z, hz, rfl⟩ := r e h
    exact ent_word (hw z hz)
  rcases List.mem_append.mp he with he | he
  · rcases List.mem_append.mp he with he | he
    · exact old (List.mem_of_mem_take he)
    · rw [List.mem_singleton.mp he]
      exact hv
  · exact old (List.mem_of_mem_drop he)
theorem len_ins {es : List V} {v : V} {i : Nat} : (es.take i ++ [v] ++ es.drop i).length ≤ es.length + 1 := by
  rw [List.length_append, List.length_append, List.length_take, List.length_drop]
  show min i es.length + 1 + (es.length - i) ≤ _
  omega
theorem mem_ins {xs : List V} {v y : V} {i : Nat} (h : y ∈ xs.take i ++ [v] ++ xs.drop i) : y ∈ xs ∨ y = v := by
  rcases List.mem_append.mp h with h | h
  · rcases List.mem_append.mp h with h | h
    · exact .inl (List.mem_of_mem_take h)
    · exact .inr (List.mem_singleton.mp h)
  · exact .inl (List.mem_of_mem_drop h)
/-- what stands between the steps -/
def RsS (p u q : Addr) (k at_ n : Nat) (th : V) (ws : List Str) (B : Hp) (done : Prop) (σ : L2.St) (G : Hp) : Prop := ∃ v6 : Option V, σ = [some (.ref p), some (.ref u), some (.ref q), some (.int ((k : Nat) : Int)), some (.int ((at_ : Nat) : Int)), some th, v6] ∧ Sx p B G ∧ Src G p ∧
  ((done ∧ OkV G (.ref q)) ∨ (¬ done ∧ ∃ xs, G q = some (.lst xs) ∧ xs.length = n ∧ (∀ x ∈ xs, LotW ws 18 B G x) ∧ ∀ (a : Addr) (o : HO) (G2 : Hp), (a = q ∨ .ref a ∈ xs) → Sx p G G2 → Ent (upd G2 a o) th))
theorem RsS.next {p u q : Addr} {k at_ n : Nat} {th : V} {ws : List Str} {B : Hp} {d d2 : Prop} {σ : L2.St} {G : Hp} (h : RsS p u q k at_ n th ws B d σ G) (i : d ↔ d2) : RsS p u q k at_ n th ws B d2 σ G := by
  obtain ⟨v, e, x, s, r⟩ := h
  refine ⟨v, e, x, s, ?_⟩
  rcases r with ⟨a, b⟩ | ⟨a, b⟩
  · exact .inl ⟨i.mp a, b⟩
  · exact .inr ⟨fun z => a (i.mpr z), b⟩
section
variable {P : Program} {w : World} {K : PySem.W.Frag} {mg : Str → Option Value} {base : Heap} {f fD fP fG : Addr} {fd dD dP dG : FuncData}
theorem bSp (F : FnP K "_law_spoilt" (top 53) f fd) : Binds K fd ["_law_source_here", "_law_desk_here", "_law_value_here"] [] := F.bindsN fun _ _ _ _ _ _ us hl => match us, hl with
  | [_, _, _], _ => rfl
theorem bSgr (F : FnP K "_law_stranger" (top 50) f fd) : Binds K fd ["_law_names_here"] [] := F.bindsN fun _ _ _ _ _ _ us hl => match us, hl with
  | [_], _ => rfl
theorem ok_sp (F : FnP K "_law_spoilt" (top 53) f fd) (ml : mg "len" = none) (mT : mg "tuple" = none) (md : mg "dict" = none)
    (GD : FnOk P w K mg base CX0 1 fD dD ["_law_source_here", "_law_span"] spD) (FD : FnP K "_law_draw" (top 36) fD dD) (gD : mg "_law_draw" = some (.ref fD))
    (GP : FnOk P w K mg base CX0 2 fP dP ["_law_source_here", "_law_things"] (spPick K)) (FP : FnP K "_law_pick" (top 37) fP dP) (gP : mg "_law_pick" = some (.ref fP))
    (GG : FnOk P w K mg base CX0 1 fG dG ["_law_names_here"] (spStranger K)) (FG : FnP K "_law_stranger" (top 50) fG dG) (gG : mg "_law_stranger" = some (.ref fG)) : FnOk P w K mg base CX0 3 f fd ["_law_source_here", "_law_desk_here", "_law_value_here"] spSp := by
  refine F.ok (CX := CX0) scSp (fun vs H Q E h => ?_) (fun cdv A outer s H vs Q E hr h => ?_)
  · obtain ⟨p, u, nm, dd, sg, q, B, ws, ds, as, tb, ls, m, rfl, _⟩ := h
    rfl
  · have hr1 := hr.mono (show 1 ≤ 2 by decide)
    refine ⟨_, PSs.nox (pss_cons (ps_par (i := 3) (j := 4) rfl scSp.nd rfl rfl (by decide) rfl rfl (pa_cons (by exact (pe_call GD hr1 rfl gD FD.kp (bD FD) .nil pass0 (pa_cons (pv 0) (pa_cons pe_int pa_nil)))) (pa_cons (by exact (pe_call GD hr1 rfl gD FD.kp (bD FD) .nil pass0 (pa_cons (pv 0) (pa_cons (by exact (pe_callB call_len rfl ml boot_len (pa_cons (pv 2) pa_nil))) pa_nil)))) pa_nil)) (by rfl))
      (pss_cons (ps_set (i := 5) scSp.nd rfl (.inl rfl) (by exact (pe_call GP hr rfl gP FP.kp (bP FP) .nil pass0 (pa_cons (pv 0) (pa_cons (pe_lst (pa_cons pe_non (pa_cons pe_int (pa_cons pe_str (pa_cons (by exact (pe_lst (pa_cons pe_str pa_nil))) (pa_cons (by exact (pe_tup (pa_cons (by exact (pe_ix ix_list (by exact (pe_ix ix_tup (pv 1) pe_int (fun _ _ => rfl))) pe_int (fun _ _ => rfl))) pa_nil))) (pa_cons pe_str (pa_cons (by exact (pe_call GG hr1 rfl gG FG.kp (bSgr FG) .nil pass0 (pa_cons (by exact (pe_ix ix_tup (pv 1) pe_int (fun _ _ => rfl))) pa_nil))) (pa_cons pe_bl pa_nil))))))))) pa_nil)))))
      (pss_cons (ps_if (pt_cmpR op_eq (pv 3) pe_int (nomark _)) (pss_one (ps_expr (pe_bm PySem.F.plainAttrs_list PySem.F.slot_list_insert PySem.F.type_list_insert mt_insert (by exact (pe_ix ix_list (pv 2) (pv 4) (fun _ _ => rfl))) (pa_cons (by exact (pe_call GD hr1 rfl gD FD.kp (bD FD) .nil pass0 (pa_cons (pv 0) (pa_cons (by exact (pe_op op_add (by exact (pe_callB call_len rfl ml boot_len (pa_cons (by exact (pe_ix ix_list (pv 2) (pv 4) (fun _ _ => rfl))) pa_nil))) pe_int)) pa_nil)))) (pa_cons (by exact (pe_call GP hr rfl gP FP.kp (bP FP) .nil pass0 (pa_cons (pv 0) (pa_cons (by exact (pe_ix ix_tup (pv 1) pe_int (fun _ _ => rfl))) pa_nil)))) pa_nil))))) pss_nil)
      (pss_cons (ps_if (pt_cmpR op_eq (pv 3) pe_int (nomark _)) (pss_one (ps_expr (pe_bm PySem.F.plainAttrs_list PySem.F.slot_list_pop PySem.F.type_list_pop mt_popAt (by exact (pe_ix ix_list (pv 2) (pv 4) (fun _ _ => rfl))) (pa_cons (by exact (pe_call GD hr1 rfl gD FD.kp (bD FD) .nil pass0 (pa_cons (pv 0) (pa_cons (by exact (pe_callB call_len rfl ml boot_len (pa_cons (by exact (pe_ix ix_list (pv 2) (pv 4) (fun _ _ => rfl))) pa_nil))) pa_nil)))) pa_nil)))) pss_nil)
      (pss_cons (ps_if (pt_cmpR op_eq (pv 3) pe_int (nomark _)) (pss_one (ps_asg (pv 5) (pg_sub (by exact (pe_ix ix_list (pv 2) (pv 4) (fun _ _ => rfl))) (by exact (pe_call GD hr1 rfl gD FD.kp (bD FD) .nil pass0 (pa_cons (pv 0) (pa_cons (by exact (pe_callB call_len rfl ml boot_len (pa_cons (by exact (pe_ix ix_list (pv 2) (pv 4) (fun _ _ => rfl))) pa_nil))) pa_nil)))) set_list))) pss_nil)
      (pss_cons (ps_if (pt_cmpR op_eq (pv 3) pe_int (nomark _)) (pss_one (ps_expr (pe_bm PySem.F.plainAttrs_list PySem.F.slot_list_insert PySem.F.type_list_insert mt_insert (pv 2) (pa_cons (pv 4) (pa_cons (pv 5) pa_nil))))) pss_nil)
      (pss_cons (ps_if (pt_cmpR op_eq (pv 3) pe_int (nomark _)) (pss_one (ps_asg (by exact (pe_callTy call_tupO rfl mT PyProof.Rows.boot_tuple (pa_cons (by exact (pe_ix ix_list (pv 2) (pv 4) (fun _ _ => rfl))) pa_nil))) (pg_sub (pv 2) (pv 4) set_list))) pss_nil)
      (pss_cons (ps_if (pt_cmpR op_eq (pv 3) pe_int (nomark _)) (pss_one (ps_expr (pe_bm PySem.F.plainAttrs_list PySem.F.slot_list_insert PySem.F.type_list_insert mt_insert (pv 2) (pa_cons (pv 4) (pa_cons (pe_lst pa_nil) pa_nil))))) pss_nil)
      (pss_cons (ps_if (pt_cmpR op_eq (pv 3) pe_int (nomark _)) (pss_one (ps_expr (pe_bm PySem.F.plainAttrs_list PySem.F.slot_list_insert PySem.F.type_list_insert mt_insert (pv 2) (pa_cons (by exact (pe_call GD hr1 rfl gD FD.kp (bD FD) .nil pass0 (pa_cons (pv 0) (pa_cons (by exact (pe_op op_add (by exact (pe_callB call_len rfl ml boot_len (pa_cons (pv 2) pa_nil))) pe_int)) pa_nil)))) (pa_cons (by exact (pe_lst (pa_cons (by exact (pe_call GP hr rfl gP FP.kp (bP FP) .nil pass0 (pa_cons (pv 0) (pa_cons (by exact (pe_ix ix_tup (pv 1) pe_int (fun _ _ => rfl))) pa_nil)))) pa_nil))) pa_nil))))) pss_nil)
      (pss_cons (ps_if (pt_cmpR op_eq (pv 3) pe_int (nomark _)) (pss_one (ps_expr (pe_bm PySem.F.plainAttrs_list PySem.F.slot_list_pop PySem.F.type_list_pop mt_popAt (pv 2) (pa_cons (pv 4) pa_nil)))) pss_nil)
      (pss_cons (ps_if (pt_cmpR op_eq (pv 3) pe_int (nomark _)) (pss_one (ps_asg (by exact (pe_call GP hr rfl gP FP.kp (bP FP) .nil pass0 (pa_cons (pv 0) (pa_cons (by exact (pe_ix ix_tup (pv 1) pe_int (fun _ _ => rfl))) pa_nil)))) (pg_sub (by exact (pe_ix ix_list (pv 2) (pv 4) (fun _ _ => rfl))) (by exact (pe_call GD hr1 rfl gD FD.kp (bD FD) .nil pass0 (pa_cons (pv 0) (pa_cons (by exact (pe_callB call_len rfl ml boot_len (pa_cons (by exact (pe_ix ix_list (pv 2) (pv 4) (fun _ _ => rfl))) pa_nil))) pa_nil)))) set_list))) pss_nil)
      (pss_cons (ps_if (pt_cmpR op_eq (pv 3) pe_int (nomark _)) (pss_one (ps_ret (by exact (pe_call GP hr rfl gP FP.kp (bP FP) .nil pass0 (pa_cons (pv 0) (pa_cons (pe_lst (pa_cons (by exact (pe_callTy call_tupO rfl mT PyProof.Rows.boot_tuple (pa_cons (pv 2) pa_nil))) (pa_cons (by exact (pe_callTy (call_dictP rfl) rfl md PyProof.Rows.boot_dict (pa_cons (by exact (pe_lc (own := [("_law_lot", 6)]) (g := gName 6) (tt := tYes) (te := tTup (tCons (tOp (rIxL K) (tVar 6) (tC (.int 0))) (tCons (tVar 6) tNil))) rfl scSp.nd (pi_list (pv 2)) (blkOk_by (N := nSp) (sc := defScope (top 53)) (by decide +kernel)) (fun _ _ _ _ _ => pg_name (i := 6) scSp.nd rfl (Or.inl rfl)) (fun _ _ _ _ _ => pts_nil)
          (fun _ _ _ _ _ => by exact (pe_tup (pa_cons (by exact (pe_ix ix_list (by exact (pv 6)) pe_int (fun _ _ => rfl))) (pa_cons (by exact (pv 6)) pa_nil)))))) pa_nil))) (pa_cons pe_non (pa_cons (by exact (pe_lst pa_nil)) (pa_cons (by exact (pe_ix ix_list (by exact (pe_ix ix_tup (pv 1) pe_int (fun _ _ => rfl))) pe_int (fun _ _ => rfl))) pa_nil)))))) pa_nil)))))) pss_nil)
      (pss_one (ps_ret (pv 2))))))))))))))), ?_⟩
    obtain ⟨p, u, nm, dd, sg, q, B, ws, ds, as, tb, ls, m, rfl, hs, hk, is, m9, up, nmp, xB, sH, ⟨hq, xs, eq_, l1, l2, lw⟩, fin⟩ := h
    obtain ⟨hu, hnm, _, _, _⟩ := id hk
    have hw := is.word
    have w9 : ws.length ≤ 9 := Nat.le_trans is.most m9
    have w1 := is.some
    have qp := hs.ne hq
    have sz : ∀ n : Nat, n ≤ 1000 → n ≤ sizeLine := fun n z => by
      rw [sizeLine_eq]
      omega
    obtain ⟨z0, ez0⟩ : ∃ z0, ws[0]? = some z0 := ⟨_, List.getElem?_eq_getElem (show 0 < ws.length by omega)⟩
    have hz0 := hw z0 (List.mem_of_getElem? ez0)
    refine ⟨_, rfl, p, 10, rfl, sH, by decide, by decide, fun k G1 hk1 x1 s1 _ => ?_⟩
    refine ⟨_, rfl, _, rfl, _, _, rfl, .inl ⟨_, .inl (.inl (x1 _ _ qp eq_)), rfl⟩, p, xs.length, rfl, s1, by omega, by omega, fun at_ G2 hat x2 s2 _ => ?_⟩
    refine ⟨_, _, rfl, ?_⟩
    have x12 := Sx.trans x1 x2
    have xB := Sx.trans xB x12
    have eq_ := x12 _ _ qp eq_
    have lw : ∀ x ∈ xs, LotW ws 18 B G2 x := fun x hx => LotW.sx hs (lw x hx) x12
    clear x1 x2 x12 s1
    -- the thing
    refine ⟨_, rfl, sz _ (by show 1 ≤ 1000; decide), fun t1 nt1 => ?_⟩
    have m1 := Sm.new (o := .lst [.str "a"]) nt1
    have et1 : upd G2 t1 (.lst [.str "a"]) t1 = some (.lst [.str "a"]) := upd_same
    have xB1 := Sx.trans xB (Sx.of m1)
    refine ⟨_, rfl, u, _, 0, .ref nm, rfl, rfl, .inl (.inl (xB1 _ _ up hu)), atI_nat (j := 0) rfl, nm, _, 0, .str z0, rfl, rfl, .inl (.inl (xB1 _ _ nmp hnm)), atI_nat (j := 0) (by rw [List.getElem?_map, ez0]; rfl), sz _ (by show 1 ≤ 1000; decide), fun t2 nt2 => ?_⟩
    have m2 := Sm.trans m1 (Sm.new (o := .tup [.str z0]) nt2)
    have et2 : upd (upd G2 t1 (.lst [.str "a"])) t2 (.tup [.str z0]) t2 = some (.tup [.str z0]) := upd_same
    have et1 := Sm.new (o := .tup [.str z0]) nt2 _ _ et1
    have ht2 : G2 t2 = none := by
      cases e : G2 t2 with
      | none => rfl
      | some o =>
        rw [m1 _ _ e] at nt2
        cases nt2
    generalize upd (upd G2 t1 (.lst [.str "a"])) t2 (.tup [.str z0]) = G3 at m2 et1 et2 ⊢
    have xB3 := Sx.trans xB (Sx.of m2)
    refine ⟨_, rfl, u, _, 0, .ref nm, rfl, rfl, .inl (.inl (xB3 _ _ up hu)), atI_nat (j := 0) rfl, nm, ws, rfl, .inl (.inl (xB3 _ _ nmp hnm)), by omega, fun y G4 m3 hy _ => ?_⟩
    have m4 := Sm.trans m2 m3
    refine ⟨sz _ (by show 8 ≤ 1000; decide), fun l nl => ?_⟩
    have m5 := Sm.trans m4 (Sm.new (o := .lst [.non, .int 5, .str "Zz", .ref t1, .ref t2, .str "", .str y, .bl true]) nl)
    have et1 := Sm.new (o := .lst [.non, .int 5, .str "Zz", .ref t1, .ref t2, .str "", .str y, .bl true]) nl _ _ (m3 _ _ et1)
    have et2 := Sm.new (o := .lst [.non, .int 5, .str "Zz", .ref t1, .ref t2, .str "", .str y, .bl true]) nl _ _ (m3 _ _ et2)
    have s5 := s2.sm m5
    have lp : l ≠ p := (s2.sm m4).ne nl
    refine ⟨p, .ref l, rfl, s5, .inl ⟨l, _, rfl, lp, .inl (.inl upd_same), by show 0 < 8; decide, by show 8 ≤ 1000; decide, fun i th G6 hth x6 s6 _ => ?_⟩⟩
    have t1p : t1 ≠ p := s2.ne nt1
    have t2p : t2 ≠ p := s2.ne ht2
    have et1 := x6 _ _ t1p et1
    have et2 := x6 _ _ t2p et2
    have m6 := Sx.trans (Sx.of m5) x6
    have xB := Sx.trans xB m6
    have thok : ∀ (a : Addr) (o : HO) (G7 : Hp), (a = q ∨ .ref a ∈ xs) → Sx p G6 G7 → Ent (upd G7 a o) th := fun a o G7 ha x7 => by
      have han : ∀ t, G2 t = none → t ≠ a := fun t n w => by
        rcases ha with rfl | ha
        · rw [w, eq_] at n
          cases n
        · obtain ⟨b, es, e1, _, g, _⟩ := lw _ ha
          cases V.ref.inj e1
          rw [w, g] at n
          cases n
      have fm := menu_fit y hy
      rcases List.mem_cons.mp (List.mem_of_getElem? hth) with rfl | h
      · exact ent_non
      rcases List.mem_cons.mp h with rfl | h
      · exact ent_five
      rcases List.mem_cons.mp h with rfl | h
      · exact ent_str (by decide) (by decide +kernel)
      rcases List.mem_cons.mp h with rfl | h
      · exact ent_list (z := "a") (by decide) (by decide +kernel) (by rw [upd_ne (han t1 nt1)]; exact x7 _ _ t1p et1)
      rcases List.mem_cons.mp h with rfl | h
      · exact ent_tup (z := z0) hz0.2.1 hz0.ok (by rw [upd_ne (han t2 ht2)]; exact x7 _ _ t2p et2)
      rcases List.mem_cons.mp h with rfl | h
      · exact ent_str (by decide) (by decide +kernel)
      rcases List.mem_cons.mp h with rfl | h
      · exact ent_str fm.1 fm.2
      · rw [List.mem_singleton.mp h]
        exact ent_bl
    have R0 : RsS p u q k at_ xs.length th ws B False [some (.ref p), some (.ref u), some (.ref q), some (.int ((k : Nat) : Int)), some (.int ((at_ : Nat) : Int)), some th, none] G6 := ⟨none, rfl, xB, s6, .inr ⟨id, xs, m6 _ _ qp eq_, rfl, fun x hx => LotW.sx hs (lw x hx) m6, thok⟩⟩
    generalize xs.length = n at l1 l2 hat R0
    clear thok m6 et1 et2 x6 s6 s5 m5 nl m4 m3 hy xB3 m2 ht2 nt2 xB1 m1 nt1 hth lw eq_
    have R1 := R0.next (d2 := k < 0) ⟨fun h => h.elim, fun h => absurd h (Nat.not_lt_zero _)⟩
    clear R0 xB
    generalize eσ : ([some (.ref p), some (.ref u), some (.ref q), some (.int ((k : Nat) : Int)), some (.int ((at_ : Nat) : Int)), some th, none] : L2.St) = σ0 at R1 ⊢
    clear eσ
    obtain ⟨v6, rfl, xB, s6, rr⟩ := R1
    refine ⟨_, rfl, rfl, _, rfl, ?_⟩
    refine ite_both (RsS p u q k at_ n th ws B (k < 1)) (fun σ' G6 r => ?_) (fun hc fin' => ?_) (fun hc => RsS.next (d := k < 0) ⟨_, rfl, xB, s6, rr⟩ (by have hk : ¬ ((k : Nat) : Int) = 0 := fun e => of_decide_eq_false hc (by rw [e]); omega))
    rotate_left
    · have hk : k = 0 := by have := V.int.inj (of_decide_eq_true hc); omega
      rcases rr with ⟨d, _⟩ | ⟨_, xs, eq_, xl, lw, tho⟩
      · omega
      obtain ⟨x, ex⟩ : ∃ x, xs[at_]? = some x := ⟨_, List.getElem?_eq_getElem (show at_ < xs.length by omega)⟩
      have hx := List.mem_of_getElem? ex
      obtain ⟨a, es, rfl, na, ea, y1, y2, y3⟩ := lw x hx
      have ap := hs.ne na
      have qa := LotW.ne (lw _ hx) eq_ hx
      refine ⟨_, rfl, _, rfl, q, _, ((at_ : Nat) : Int), .ref a, rfl, rfl, .inl (.inl eq_), atI_nat (j := at_) ex, .inl ⟨rfl, _, .inl (.inl ea)⟩, _, rfl, _, rfl, _, rfl, q, _, ((at_ : Nat) : Int), .ref a, rfl, rfl, .inl (.inl eq_), atI_nat (j := at_) ex, _, _, rfl, .inl ⟨_, .inl (.inl ea), rfl⟩, _, _, rfl, rfl, p, es.length + 1, rfl, s6, by omega, by omega, fun i G7 hi x7 s7 _ => ?_⟩
      have xB7 := Sx.trans xB x7
      refine ⟨_, rfl, _, rfl, u, _, 0, .ref nm, rfl, rfl, .inl (.inl (xB7 _ _ up hu)), atI_nat (j := 0) rfl, p, .ref nm, rfl, s7, .inl ⟨nm, ws.map V.str, rfl, nmp, .inl (.inl (xB7 _ _ nmp hnm)), by rw [List.length_map]; omega, by rw [List.length_map]; omega, fun j v G8 hj x8 s8 _ => ?_⟩⟩
      have x78 := Sx.trans x7 x8
      obtain ⟨z, ez, rfl⟩ := str_atL hj
      refine ⟨a, es, _, _, rfl, rfl, x78 _ _ ap ea, by rw [sizeLine_eq]; omega, by omega, by omega, fin' _ _ ⟨_, rfl, Sx.put (Sx.trans xB x78) na, Src.put s8 ap, .inl ⟨by omega, bent_lot hw (x78 _ _ qp eq_) (by omega) (fun x hx => LotW.sx hs (lw x hx) x78) hx (Nat.le_trans len_ins (by omega)) (ent_ins hw y3 (ent_word (hw z (List.mem_of_getElem? ez))))⟩⟩⟩
    clear rr xB s6
    obtain ⟨v6, rfl, xB, s6, rr⟩ := r
    refine ⟨_, rfl, rfl, _, rfl, ?_⟩
    refine ite_both (RsS p u q k at_ n th ws B (k < 2)) (fun σ' G6 r => ?_) (fun hc fin' => ?_) (fun hc => RsS.next (d := k < 1) ⟨_, rfl, xB, s6, rr⟩ (by have hk : ¬ ((k : Nat) : Int) = 1 := fun e => of_decide_eq_false hc (by rw [e]); omega))
    rotate_left
    · have hk : k = 1 := by have := V.int.inj (of_decide_eq_true hc); omega
      rcases rr with ⟨d, _⟩ | ⟨_, xs, eq_, xl, lw, tho⟩
      · omega
      obtain ⟨x, ex⟩ : ∃ x, xs[at_]? = some x := ⟨_, List.getElem?_eq_getElem (show at_ < xs.length by omega)⟩
      have hx := List.mem_of_getElem? ex
      obtain ⟨a, es, rfl, na, ea, y1, y2, y3⟩ := lw x hx
      have ap := hs.ne na
      have qa := LotW.ne (lw _ hx) eq_ hx
      refine ⟨_, rfl, _, rfl, q, _, ((at_ : Nat) : Int), .ref a, rfl, rfl, .inl (.inl eq_), atI_nat (j := at_) ex, .inl ⟨rfl, _, .inl (.inl ea)⟩, _, rfl, _, rfl, _, rfl, q, _, ((at_ : Nat) : Int), .ref a, rfl, rfl, .inl (.inl eq_), atI_nat (j := at_) ex, _, _, rfl, .inl ⟨_, .inl (.inl ea), rfl⟩, p, es.length, rfl, s6, by omega, by omega, fun i G7 hi x7 s7 _ => ⟨a, es, i, i, es[i], rfl, rfl, x7 _ _ ap ea, by omega, by omega, seqIndex_of (by omega) (by omega), List.getElem?_eq_getElem hi, ?_⟩⟩
      refine fin' _ _ ⟨_, rfl, Sx.put (Sx.trans xB x7) na, Src.put s7 ap, .inl ⟨by omega, bent_lot hw (x7 _ _ qp eq_) (by omega) (fun x hx => LotW.sx hs (lw x hx) x7) hx (by rw [List.length_eraseIdx_of_lt hi]; omega) (fun e he => ?_)⟩⟩
      obtain ⟨z, hz, rfl⟩ := y3 e (List.mem_of_mem_eraseIdx he)
      exact ent_word (hw z hz)
    clear rr xB s6
    obtain ⟨v6, rfl, xB, s6, rr⟩ := r
    refine ⟨_, rfl, rfl, _, rfl, ?_⟩
    refine ite_both (RsS p u q k at_ n th ws B (k < 3)) (fun σ' G6 r => ?_) (fun hc fin' => ?_) (fun hc => RsS.next (d := k < 2) ⟨_, rfl, xB, s6, rr⟩ (by have hk : ¬ ((k : Nat) : Int) = 2 := fun e => of_decide_eq_false hc (by rw [e]); omega))
    rotate_left
    · have hk : k = 2 := by have := V.int.inj (of_decide_eq_true hc); omega
      rcases rr with ⟨d, _⟩ | ⟨_, xs, eq_, xl, lw, tho⟩
      · omega
      obtain ⟨x, ex⟩ : ∃ x, xs[at_]? = some x := ⟨_, List.getElem?_eq_getElem (show at_ < xs.length by omega)⟩
      have hx := List.mem_of_getElem? ex
      obtain ⟨a, es, rfl, na, ea, y1, y2, y3⟩ := lw x hx
      have ap := hs.ne na
      have qa := LotW.ne (lw _ hx) eq_ hx
      refine ⟨_, rfl, _, rfl, _, rfl, q, _, ((at_ : Nat) : Int), .ref a, rfl, rfl, .inl (.inl eq_), atI_nat (j := at_) ex, _, rfl, _, rfl, _, rfl, q, _, ((at_ : Nat) : Int), .ref a, rfl, rfl, .inl (.inl eq_), atI_nat (j := at_) ex, _, _, rfl, .inl ⟨_, .inl (.inl ea), rfl⟩, p, es.length, rfl, s6, by omega, by omega, fun i G7 hi x7 s7 _ => ⟨a, es, _, i, rfl, rfl, x7 _ _ ap ea, ixN_natY hi, ?_⟩⟩
      refine fin' _ _ ⟨_, rfl, Sx.put (Sx.trans xB x7) na, Src.put s7 ap, .inl ⟨by omega, bent_lot hw (x7 _ _ qp eq_) (by omega) (fun x hx => LotW.sx hs (lw x hx) x7) hx (by rw [List.length_set]; omega) (fun e he => ?_)⟩⟩
      rcases List.mem_or_eq_of_mem_set he with he | rfl
      · obtain ⟨z, hz, rfl⟩ := y3 e he
        exact ent_word (hw z hz)
      · exact tho a _ _ (.inr hx) x7
    clear rr xB s6
    obtain ⟨v6, rfl, xB, s6, rr⟩ := r
    refine ⟨_, rfl, rfl, _, rfl, ?_⟩
    refine ite_both (RsS p u q k at_ n th ws B (k < 4)) (fun σ' G6 r => ?_) (fun hc fin' => ?_) (fun hc => RsS.next (d := k < 3) ⟨_, rfl, xB, s6, rr⟩ (by have hk : ¬ ((k : Nat) : Int) = 3 := fun e => of_decide_eq_false hc (by rw [e]); omega))
    rotate_left
    · have hk : k = 3 := by have := V.int.inj (of_decide_eq_true hc); omega
      rcases rr with ⟨d, _⟩ | ⟨_, xs, eq_, xl, lw, tho⟩
      · omega
      refine ⟨_, rfl, .inl ⟨rfl, _, .inl (.inl eq_)⟩, _, rfl, _, rfl, q, xs, _, _, rfl, rfl, eq_, by rw [sizeLine_eq]; omega, by omega, by omega, fin' _ _ ⟨_, rfl, Sx.put xB hq, Src.put s6 qp, .inl ⟨by omega, bent_list hw eq_ (Nat.le_trans len_ins (by omega)) lw fun y hy => ?_⟩⟩⟩
      rcases mem_ins hy with h | rfl
      · exact .inl h
      · exact .inr (itm_ent (tho q _ _ (.inl rfl) (Sx.refl _ _)))
    clear rr xB s6
    obtain ⟨v6, rfl, xB, s6, rr⟩ := r
    refine ⟨_, rfl, rfl, _, rfl, ?_⟩
    refine ite_both (RsS p u q k at_ n th ws B (k < 5)) (fun σ' G6 r => ?_) (fun hc fin' => ?_) (fun hc => RsS.next (d := k < 4) ⟨_, rfl, xB, s6, rr⟩ (by have hk : ¬ ((k : Nat) : Int) = 4 := fun e => of_decide_eq_false hc (by rw [e]); omega))
    rotate_left
    · have hk : k = 4 := by have := V.int.inj (of_decide_eq_true hc); omega
      rcases rr with ⟨d, _⟩ | ⟨_, xs, eq_, xl, lw, tho⟩
      · omega
      obtain ⟨x, ex⟩ : ∃ x, xs[at_]? = some x := ⟨_, List.getElem?_eq_getElem (show at_ < xs.length by omega)⟩
      have hx := List.mem_of_getElem? ex
      obtain ⟨a, es, rfl, na, ea, y1, y2, y3⟩ := lw x hx
      have ap := hs.ne na
      have qa := LotW.ne (lw _ hx) eq_ hx
      refine ⟨_, rfl, _, rfl, q, _, ((at_ : Nat) : Int), .ref a, rfl, rfl, .inl (.inl eq_), atI_nat (j := at_) ex, a, es, rfl, ea, fun t nt => ?_⟩
      have mt := Sm.new (o := .tup es) nt
      have et : upd G6 t (.tup es) t = some (.tup es) := upd_same
      have eq7 := mt _ _ eq_
      have tq : t ≠ q := ne_of_none' eq_ nt
      refine ⟨_, rfl, _, rfl, q, xs, _, at_, rfl, rfl, eq7, ixN_natY (by omega), ?_⟩
      refine fin' _ _ ⟨_, rfl, Sx.put (Sx.trans xB (Sx.of mt)) hq, Src.put (s6.sm mt) qp, .inl ⟨by omega, bent_list hw eq7 (by rw [List.length_set]; omega) (fun x hx => LotW.sx hs (lw x hx) (Sx.of mt)) fun y hy => ?_⟩⟩
      rcases List.mem_or_eq_of_mem_set hy with hy | rfl
      · exact .inl hy
      · refine .inr (itm_tup (by rw [upd_ne tq]; exact et) (by omega) fun e he => ?_)
        obtain ⟨z, hz, rfl⟩ := y3 e he
        exact ent_word (hw z hz)
    clear rr xB s6
    obtain ⟨v6, rfl, xB, s6, rr⟩ := r
    refine ⟨_, rfl, rfl, _, rfl, ?_⟩
    refine ite_both (RsS p u q k at_ n th ws B (k < 6)) (fun σ' G6 r => ?_) (fun hc fin' => ?_) (fun hc => RsS.next (d := k < 5) ⟨_, rfl, xB, s6, rr⟩ (by have hk : ¬ ((k : Nat) : Int) = 5 := fun e => of_decide_eq_false hc (by rw [e]); omega))
    rotate_left
    · have hk : k = 5 := by have := V.int.inj (of_decide_eq_true hc); omega
      rcases rr with ⟨d, _⟩ | ⟨_, xs, eq_, xl, lw, tho⟩
      · omega
      refine ⟨_, rfl, .inl ⟨rfl, _, .inl (.inl eq_)⟩, _, rfl, Nat.zero_le _, fun t nt => ?_⟩
      have mt := Sm.new (o := .lst []) nt
      have et : upd G6 t (.lst []) t = some (.lst []) := upd_same
      have eq7 := mt _ _ eq_
      have tq : t ≠ q := ne_of_none' eq_ nt
      refine ⟨q, xs, _, _, rfl, rfl, eq7, by rw [sizeLine_eq]; omega, by omega, by omega, fin' _ _ ⟨_, rfl, Sx.put (Sx.trans xB (Sx.of mt)) hq, Src.put (s6.sm mt) qp, .inl ⟨by omega, bent_list hw eq7 (Nat.le_trans len_ins (by omega)) (fun x hx => LotW.sx hs (lw x hx) (Sx.of mt)) fun y hy => ?_⟩⟩⟩
      rcases mem_ins hy with h | rfl
      · exact .inl h
      · exact .inr (itm_ent (ent_nil (by rw [upd_ne tq]; exact et)))
    clear rr xB s6
    obtain ⟨v6, rfl, xB, s6, rr⟩ := r
    refine ⟨_, rfl, rfl, _, rfl, ?_⟩
    refine ite_both (RsS p u q k at_ n th ws B (k < 7)) (fun σ' G6 r => ?_) (fun hc fin' => ?_) (fun hc => RsS.next (d := k < 6) ⟨_, rfl, xB, s6, rr⟩ (by have hk : ¬ ((k : Nat) : Int) = 6 := fun e => of_decide_eq_false hc (by rw [e]); omega))
    rotate_left
    · have hk : k = 6 := by have := V.int.inj (of_decide_eq_true hc); omega
      rcases rr with ⟨d, _⟩ | ⟨_, xs, eq_, xl, lw, tho⟩
      · omega
      refine ⟨_, rfl, .inl ⟨rfl, _, .inl (.inl eq_)⟩, _, rfl, _, rfl, _, _, rfl, .inl ⟨_, .inl (.inl eq_), rfl⟩, _, _, rfl, rfl, p, xs.length + 1, rfl, s6, by omega, by omega, fun i G7 hi x7 s7 _ => ?_⟩
      have xB7 := Sx.trans xB x7
      refine ⟨_, rfl, _, rfl, u, _, 0, .ref nm, rfl, rfl, .inl (.inl (xB7 _ _ up hu)), atI_nat (j := 0) rfl, p, .ref nm, rfl, s7, .inl ⟨nm, ws.map V.str, rfl, nmp, .inl (.inl (xB7 _ _ nmp hnm)), by rw [List.length_map]; omega, by rw [List.length_map]; omega, fun j v G8 hj x8 s8 _ => ?_⟩⟩
      have x78 := Sx.trans x7 x8
      obtain ⟨z, ez, rfl⟩ := str_atL hj
      have hz := hw z (List.mem_of_getElem? ez)
      refine ⟨sz _ (by show 1 ≤ 1000; decide), fun t nt => ?_⟩
      have mt := Sm.new (o := .lst [.str z]) nt
      have et : upd G8 t (.lst [.str z]) t = some (.lst [.str z]) := upd_same
      have eq8 := x78 _ _ qp eq_
      have eq7 := mt _ _ eq8
      have tq : t ≠ q := ne_of_none' eq8 nt
      have x79 := Sx.trans x78 (Sx.of mt)
      refine ⟨q, xs, _, _, rfl, rfl, eq7, by rw [sizeLine_eq]; omega, by omega, by omega, fin' _ _ ⟨_, rfl, Sx.put (Sx.trans xB x79) hq, Src.put (s8.sm mt) qp, .inl ⟨by omega, bent_list hw eq7 (Nat.le_trans len_ins (by omega)) (fun x hx => LotW.sx hs (lw x hx) x79) fun y hy => ?_⟩⟩⟩
      rcases mem_ins hy with h | rfl
      · exact .inl h
      · exact .inr (itm_ent (ent_list hz.2.1 hz.ok (by rw [upd_ne tq]; exact et)))
    clear rr xB s6
    obtain ⟨v6, rfl, xB, s6, rr⟩ := r
    refine ⟨_, rfl, rfl, _, rfl, ?_⟩
    refine ite_both (RsS p u q k at_ n th ws B (k < 8)) (fun σ' G6 r => ?_) (fun hc fin' => ?_) (fun hc => RsS.next (d := k < 7) ⟨_, rfl, xB, s6, rr⟩ (by have hk : ¬ ((k : Nat) : Int) = 7 := fun e => of_decide_eq_false hc (by rw [e]); omega))
    rotate_left
    · have hk : k = 7 := by have := V.int.inj (of_decide_eq_true hc); omega
      rcases rr with ⟨d, _⟩ | ⟨_, xs, eq_, xl, lw, tho⟩
      · omega
      refine ⟨_, rfl, .inl ⟨rfl, _, .inl (.inl eq_)⟩, _, rfl, q, xs, _, at_, xs[at_]'(by omega), rfl, rfl, eq_, by omega, by omega, seqIndex_of (by omega) (by omega), List.getElem?_eq_getElem (by omega), ?_⟩
      exact fin' _ _ ⟨_, rfl, Sx.put xB hq, Src.put s6 qp, .inl ⟨by omega, bent_list hw eq_ (by rw [List.length_eraseIdx_of_lt (by omega)]; omega) lw fun y hy => .inl (List.mem_of_mem_eraseIdx hy)⟩⟩
    clear rr xB s6
    obtain ⟨v6, rfl, xB, s6, rr⟩ := r
    refine ⟨_, rfl, rfl, _, rfl, ?_⟩
    refine ite_both (RsS p u q k at_ n th ws B (k < 8 ∨ k = 9)) (fun σ' G6 r => ?_) (fun hc fin' => ?_) (fun hc => RsS.next (d := k < 8) ⟨_, rfl, xB, s6, rr⟩ (by have hk : ¬ ((k : Nat) : Int) = 9 := fun e => of_decide_eq_false hc (by rw [e]); omega))
    rotate_left
    · have hk : k = 9 := by have := V.int.inj (of_decide_eq_true hc); omega
      rcases rr with ⟨d, _⟩ | ⟨_, xs, eq_, xl, lw, tho⟩
      · omega
      obtain ⟨x, ex⟩ : ∃ x, xs[at_]? = some x := ⟨_, List.getElem?_eq_getElem (show at_ < xs.length by omega)⟩
      have hx := List.mem_of_getElem? ex
      obtain ⟨a, es, rfl, na, ea, y1, y2, y3⟩ := lw x hx
      have ap := hs.ne na
      have qa := LotW.ne (lw _ hx) eq_ hx
      refine ⟨_, rfl, _, rfl, u, _, 0, .ref nm, rfl, rfl, .inl (.inl (xB _ _ up hu)), atI_nat (j := 0) rfl, p, .ref nm, rfl, s6, .inl ⟨nm, ws.map V.str, rfl, nmp, .inl (.inl (xB _ _ nmp hnm)), by rw [List.length_map]; omega, by rw [List.length_map]; omega, fun j v G7 hj x7 s7 _ => ?_⟩⟩
      obtain ⟨z, ez, rfl⟩ := str_atL hj
      refine ⟨_, rfl, _, rfl, q, _, ((at_ : Nat) : Int), .ref a, rfl, rfl, .inl (.inl (x7 _ _ qp eq_)), atI_nat (j := at_) ex, _, rfl, _, rfl, _, rfl, q, _, ((at_ : Nat) : Int), .ref a, rfl, rfl, .inl (.inl (x7 _ _ qp eq_)), atI_nat (j := at_) ex, _, _, rfl, .inl ⟨_, .inl (.inl (x7 _ _ ap ea)), rfl⟩, p, es.length, rfl, s7, by omega, by omega, fun i G8 hi x8 s8 _ => ?_⟩
      have x78 := Sx.trans x7 x8
      refine ⟨a, es, _, i, rfl, rfl, x78 _ _ ap ea, ixN_natY hi, ?_⟩
      refine fin' _ _ ⟨_, rfl, Sx.put (Sx.trans xB x78) na, Src.put s8 ap, .inl ⟨by omega, bent_lot hw (x78 _ _ qp eq_) (by omega) (fun x hx => LotW.sx hs (lw x hx) x78) hx (by rw [List.length_set]; omega) (fun e he => ?_)⟩⟩
      rcases List.mem_or_eq_of_mem_set he with he | rfl
      · obtain ⟨z, hz, rfl⟩ := y3 e he
        exact ent_word (hw z hz)
      · exact ent_word (hw z (List.mem_of_getElem? ez))
    clear rr xB s6
    obtain ⟨v6, rfl, xB, s6, rr⟩ := r
    refine ⟨_, rfl, rfl, _, rfl, ?_⟩
    refine ite_both (fun σ G => RsS p u q k at_ n th ws B (k < 8 ∨ k = 9) σ G ∧ k ≠ 8) (fun σ' G6 r => ?_) (fun hc fin' => ?_) (fun hc => ⟨⟨_, rfl, xB, s6, rr⟩, fun e => by have hk : ¬ ((k : Nat) : Int) = 8 := fun e => of_decide_eq_false hc (by rw [e]); omega⟩)
    rotate_left
    · have hk : k = 8 := by have := V.int.inj (of_decide_eq_true hc); omega
      rcases rr with ⟨d, _⟩ | ⟨_, xs, eq_, xl, lw, tho⟩
      · omega
      refine ⟨_, rfl, _, rfl, q, xs, rfl, eq_, fun t nt => ?_⟩
      have mt := Sm.new (o := .tup xs) nt
      have et : upd G6 t (.tup xs) t = some (.tup xs) := upd_same
      have tp := s6.ne nt
      have eq7 := mt _ _ eq_
      have xB7 := Sx.trans xB (Sx.of mt)
      have s7 := s6.sm mt
      have lw7 : ∀ x ∈ xs, LotW ws 18 B (upd G6 t (.tup xs)) x := fun x hx => LotW.sx hs (lw x hx) (Sx.of mt)
      generalize upd G6 t (.tup xs) = G7 at et eq7 xB7 s7 lw7 ⊢
      refine ⟨_, rfl, q, rfl, ⟨_, .inl (.inl eq7)⟩, fun D nD => ?_⟩
      refine lc_it (walk_list (xs := xs)) (vs := [6]) (fun j G => ∃ (ps : List Addr) (kvs : List (Key × V)), G D = some (.lst (ps.map V.ref)) ∧ ps.length = j ∧ Paired (fun t (kv : Key × V) => G t = some (.tup [kV kv.1, kv.2])) ps kvs ∧ (∀ kv ∈ kvs, (∃ z, IsWord z ∧ kv.1 = .inr z) ∧ kv.2 ∈ xs) ∧ Sm G7 G)
        ⟨[], [], upd_same, rfl, .nil, (fun kv h => nomatch h), Sm.new nD⟩ (fun j G _ ⟨_, _, _, _, _, _, mm⟩ => .inl (.inl (mm _ _ eq7))) (fun j v G G' hj pp yy => ?_) (fun G pp => ?_)
      · obtain ⟨ps, kvs, eD, pl, pr, kw, mm⟩ := pp
        obtain ⟨rfl, ex⟩ := yy
        have hx := List.mem_of_getElem? ex
        obtain ⟨a, es, rfl, na, ea, y1, y2, y3⟩ := lw7 v hx
        obtain ⟨e0, et0, rfl⟩ := List.exists_cons_of_length_pos (show 0 < es.length by omega)
        obtain ⟨z, hz, rfl⟩ := y3 e0 List.mem_cons_self
        refine ⟨rfl, ?_⟩
        unfold tYes
        dsimp only
        rw [if_pos rfl]
        refine ⟨_, rfl, a, _, 0, .str z, rfl, rfl, .inl (.inl (mm _ _ ea)), atI_nat (j := 0) rfl, _, rfl, sz _ (by show 2 ≤ 1000; decide), fun T nT => ?_⟩
        have mT := Sm.new (o := .tup [.str z, .ref a]) nT
        have eT : upd G' T (.tup [.str z, .ref a]) T = some (.tup [.str z, .ref a]) := upd_same
        have eD := mT _ _ eD
        have mm := Sm.trans mm mT
        have pr : Paired (fun t (kv : Key × V) => upd G' T (.tup [.str z, .ref a]) t = some (.tup [kV kv.1, kv.2])) ps kvs := pair_mono pr fun b _ kv e => mT _ _ e
        generalize upd G' T (.tup [.str z, .ref a]) = G8 at eT eD mm pr ⊢
        have nl : ∀ {b : Addr} {ys : List V}, G8 b = some (.tup ys) → b ≠ D := fun e => ne_of e eD (fun z => nomatch z)
        refine ⟨_, eD, by rw [List.length_map, sizeLine_eq]; omega, ps ++ [T], kvs ++ [((.inr z : Key), .ref a)], by rw [upd_same, List.map_append]; rfl, by rw [List.length_append, pl]; rfl, ?_, fun kv hkv => ?_, fun b o e => ?_⟩
        · refine pair_more (pair_mono pr fun b _ kv e => ?_) ?_
          · rw [upd_ne (nl e)]
            exact e
          · rw [upd_ne (nl eT)]
            exact eT
        · rcases List.mem_append.mp hkv with hkv | hkv
          · exact kw kv hkv
          · rw [List.mem_singleton.mp hkv]
            exact ⟨⟨z, hw z hz, rfl⟩, hx⟩
        · rw [upd_ne (ne_of_none e nD)]
          exact mm _ _ e
      · obtain ⟨ps, kvs, eD, pl, pr, kw, mm⟩ := pp
        have kl : kvs.length = xs.length := by rw [← paired_len pr, pl]
        refine ⟨D, ps, kvs, rfl, .inl (.inl eD), pair_mono pr fun b _ kv e => .inl (.inl e), fun dn ndn => ?_⟩
        obtain ⟨mg1, mg2⟩ := merge_all (R := fun k => ∃ z, IsWord z ∧ k = .inr z) (T := fun v => v ∈ xs) (l := []) (more := kvs) (fun kv h => nomatch h) kw
        generalize mergeK [] kvs = kv2 at mg1 mg2 ⊢
        have md_ := Sm.new (o := .dK kv2) ndn
        have ed : upd G dn (.dK kv2) dn = some (.dK kv2) := upd_same
        have mm := Sm.trans mm md_
        have dnp : dn ≠ p := fun w => by
          obtain ⟨own, mix, e, _⟩ := s7.sm mm
          rw [← w, ed] at e
          cases e
        generalize upd G dn (.dK kv2) = G8 at ed mm ⊢
        refine ⟨Nat.zero_le _, fun e ne => ?_⟩
        have me := Sm.new (o := .lst []) ne
        have ee : upd G8 e (.lst []) e = some (.lst []) := upd_same
        have ed := me _ _ ed
        have ep : e ≠ p := (s7.sm mm).ne ne
        have mm := Sm.trans mm me
        generalize upd G8 e (.lst []) = G9 at ed ee mm ⊢
        have xB9 := Sx.trans xB7 (Sx.of mm)
        refine ⟨_, rfl, u, _, 0, .ref nm, rfl, rfl, .inl (.inl (xB9 _ _ up hu)), atI_nat (j := 0) rfl, nm, _, 0, .str z0, rfl, rfl, .inl (.inl (xB9 _ _ nmp hnm)), atI_nat (j := 0) (by rw [List.getElem?_map, ez0]; rfl), sz _ (by show 5 ≤ 1000; decide), fun l nl => ?_⟩
        have ml_ := Sm.new (o := .lst [.ref t, .ref dn, .non, .ref e, .str z0]) nl
        have mm2 := Sm.trans mm ml_
        have lp : l ≠ p := (s7.sm mm).ne nl
        refine ⟨p, .ref l, rfl, s7.sm mm2, .inl ⟨l, _, rfl, lp, .inl (.inl upd_same), by show 0 < 5; decide, by show 5 ≤ 1000; decide, fun i v G10 hv x10 s10 _ => ?_⟩⟩
        have x7 := Sx.trans (Sx.of mm2) x10
        refine fin v G10 (Sx.trans xB7 x7) s10 ?_
        have li : ∀ x ∈ xs, Itm2 G10 x := fun x hx => lot_itm hw (by decide) (LotW.sx hs (lw7 x hx) x7) fun _ _ _ e => e
        rcases List.mem_cons.mp (List.mem_of_getElem? hv) with rfl | h
        · exact okv_tup (x7 _ _ tp et) (by omega) li
        rcases List.mem_cons.mp h with rfl | h
        · exact .inr ⟨dn, kv2, rfl, x10 _ _ dnp (ml_ _ _ ed), by have : kv2.length ≤ 0 + kvs.length := mg2; omega, fun kv hkv => ⟨(mg1 kv hkv).1, li _ (mg1 kv hkv).2⟩⟩
        rcases List.mem_cons.mp h with rfl | h
        · exact okv_ent ent_non
        rcases List.mem_cons.mp h with rfl | h
        · exact okv_ent (ent_nil (x10 _ _ ep (ml_ _ _ ee)))
        · rw [List.mem_singleton.mp h]
          exact okv_ent (ent_word hz0)
    obtain ⟨⟨v6, rfl, xB, s6, rr⟩, k8⟩ := r
    rcases rr with ⟨_, ok⟩ | ⟨d, _⟩
    · exact ⟨_, rfl, fin _ _ xB s6 ok⟩
    · omega
end
end Dk
set_option Elab.async false
set_option linter.all false
set_option maxRecDepth 100000
set_option maxHeartbeats 8000000
namespace Dk
open PySem PySem.Spec PyProof.Rows L2 Er LamX NdefX Bf Dc2
/-! ### repr of such a value; what is_likeness sees -/
def RepV (G : Hp) (v : V) (d : PyData) : Prop := Rr G v d ∨ ∃ (a : Addr) (ks : List Str) (xs : List V) (ds : List PyData), v = .ref a ∧ G a = some (.dK ((ks.map Sum.inr).zip xs)) ∧ ks.length = xs.length ∧ Rrs G xs ds ∧ d = .dict ((ks.map PyData.str).zip ds)
def Rep (G : Hp) (v : V) (t : Str) : Prop := ∃ d, RepV G v d ∧ Fit d 20 500000 ∧ t = PyData.shown d
theorem Rep.sm {G G2 : Hp} {v : V} {t : Str} (h : Rep G v t) (m : Sm G G2) : Rep G2 v t := by
  obtain ⟨d, h | ⟨a, ks, xs, ds, e, e2, l, r, e3⟩, f⟩ := h
  · exact ⟨d, .inl (Rr.sm m h), f⟩
  · exact ⟨d, .inr ⟨a, ks, xs, ds, e, m _ _ e2, l, Rrs.sm m r, e3⟩, f⟩
section
variable {X : Cx} {pins : List (Addr × Obj)} {σ : L2.St} {H : Hp} {s : Shared}
theorem pairs_readsR (S : IsSys X.K) (I : Inv X pins σ H s) : ∀ {ks : List Str} {xs : List V} {ds : List PyData} {vs : List (Key × Value)} {es : List DictEntry}, KV ((ks.map Sum.inr).zip xs) vs → Pairs (mixKind X.prog X.w) es vs → ks.length = xs.length → Rrs H xs ds →
    ReadsAll s.heap (es.map (·.key)) (((ks.map PyData.str).zip ds).map (·.1)) [] ∧ ∃ bs, ReadsAll s.heap (es.map (·.val)) (((ks.map PyData.str).zip ds).map (·.2)) bs ∧ sysModules ∉ bs
  | [], [], _, vs, es, r, p, _, f => by
    cases f
    cases r
    cases p
    exact ⟨.nil, [], .nil, fun z => nomatch z⟩
  | k :: ks, x :: xs, _, vs, es, r, p, l, f => by
    cases f with
    | cons f1 f2 =>
      cases r with
      | cons r1 r2 =>
        cases p with
        | @cons e kv es' kvs' p1 p2 p3 =>
          obtain ⟨q1, q2⟩ := r1
          obtain ⟨ih1, bs, ih2, nb⟩ := pairs_readsR S I r2 p3 (by simpa using l) f2
          have hk : keyIs (Sum.inr k) e.key = true := by
            have z : (mixKind X.prog X.w).is _ e.key = true := p1
            rw [← q1] at z
            exact z
          obtain ⟨as, ra, na⟩ := Rr.reads S I f1
          rcases keyIs_shape hk with ⟨i, t, z, _⟩ | ⟨y, t, z, w⟩
          · cases z
          · cases z
            refine ⟨ReadsAll.cons (as := []) (bs := []) ?_ ih1, as ++ bs, ReadsAll.cons ?_ ih2, fun z => ?_⟩
            · show Reads s.heap e.key (PyData.str k) []
              rw [w]
              exact .str _ _
            · show Reads s.heap e.val _ as
              rw [p2]
              exact ra _ q2
            · rcases List.mem_append.mp z with z | z
              · exact na z
              · exact nb z
theorem call_rV (S : IsSys X.K) (hg : X.A.guards = some []) (hu : X.A.units + 64 < cLine) : CallR X (.builtin "repr") (fun xs H Q => ∃ v t, xs = [v] ∧ Rep H v t ∧ Q (.str t) H) := by
  intro pins s σ H xs us Q I r h
  obtain ⟨v, t, rfl, ⟨d, hd, ⟨sh, dp, sl⟩, rfl⟩, q⟩ := h
  obtain ⟨u, rfl, ru⟩ := r.one
  have fits : d.shown.length ≤ sizeLine := by
    rw [sizeLine_eq]
    omega
  rcases hd with hd | ⟨a, ks, xs, ds, rfl, e, l, rr, rfl⟩
  · obtain ⟨as, k, nas⟩ := Rr.reads S I hd
    have rd := k u ru
    cases hd with
    | non =>
      cases (show u = Value.none from ru)
      exact PySem.P.repr_of_none ⟨.str _, H, I.tok _, ⟨_, rfl⟩, q⟩
    | bl b =>
      cases (show u = Value.bool b from ru)
      refine PySem.P.repr_of_bool ⟨.str _, H, I.tok _, ⟨_, rfl⟩, ?_⟩
      cases b <;> exact q
    | int i =>
      obtain ⟨t, z⟩ := (show ∃ t, u = Value.int i t from ru)
      cases z
      exact PySem.P.repr_of_int (by simpa [PyData.showable] using sh) ⟨.str _, H, I.tok _, ⟨_, rfl⟩, q⟩
    | str x =>
      obtain ⟨t, z⟩ := (show ∃ t, u = Value.str x t from ru)
      cases z
      exact PySem.P.repr_of_str ⟨.str _, H, I.tok _, ⟨_, rfl⟩, q⟩ fits
    | lst e h =>
      cases (show u = Value.ref _ from ru)
      exact repr_of_reads' rd sh (fun _ => nas) hg (by omega) (fun _ _ z => z) (fun h' w tk kk => ⟨.str _, H, I.kept (t' := tk) kk, ⟨w, rfl⟩, q⟩) fits
    | tup e h =>
      cases (show u = Value.ref _ from ru)
      exact repr_of_reads' rd sh (fun _ => nas) hg (by omega) (fun _ _ z => z) (fun h' w tk kk => ⟨.str _, H, I.kept (t' := tk) kk, ⟨w, rfl⟩, q⟩) fits
    | emp e =>
      cases (show u = Value.ref _ from ru)
      exact repr_of_reads' rd sh (fun _ => nas) hg (by omega) (fun _ _ z => z) (fun h' w tk kk => ⟨.str _, H, I.kept (t' := tk) kk, ⟨w, rfl⟩, q⟩) fits
  · obtain rfl : u = Value.ref a := ru
    obtain ⟨_, ns, vs, kv, o, es, ep, ho, hx, hd, _, hp, _⟩ := (show ObjOk X.prog X.w H s.heap a (.dK _) from I.hok a _ e)
    have ne : a ≠ sysModules := beq_eq_false_iff_ne.mp ns
    obtain ⟨z1, bs, z2, nb⟩ := pairs_readsR S I kv hp l rr
    refine repr_of_reads' (Reads.dict (as := []) ho hx.1 hd z1 z2) sh (fun _ z => ?_) hg (by omega) (fun _ _ z => z) (fun h' w tk kk => ⟨.str _, H, I.kept (t' := tk) kk, ⟨w, rfl⟩, q⟩) fits
    rcases List.mem_cons.mp z with z | z
    · exact ne z.symm
    · exact nb (by simpa using z)
end
theorem kvs_split {G : Hp} : ∀ {kvs : List (Key × V)}, (∀ kv ∈ kvs, (∃ z, IsWord z ∧ kv.1 = .inr z) ∧ Itm2 G kv.2) → ∃ (ks : List Str) (xs : List V), kvs = (ks.map Sum.inr).zip xs ∧ ks.length = xs.length ∧ ks.length = kvs.length ∧ (∀ z ∈ ks, IsWord z) ∧ ∀ x ∈ xs, Itm2 G x
  | [], _ => ⟨[], [], rfl, rfl, rfl, (fun z h => nomatch h), (fun z h => nomatch h)⟩
  | (k, v) :: kvs, h => by
    obtain ⟨⟨z, hz, e⟩, hv⟩ := h _ List.mem_cons_self
    obtain ⟨ks, xs, rfl, l, l2, a, b⟩ := kvs_split (kvs := kvs) fun kv hkv => h kv (List.mem_cons_of_mem _ hkv)
    have e : k = .inr z := e
    subst e
    refine ⟨z :: ks, v :: xs, rfl, by rw [List.length_cons, List.length_cons, l], by rw [List.length_cons, List.length_cons, ← l2], fun y hy => ?_, fun y hy => ?_⟩
    · rcases List.mem_cons.mp hy with rfl | hy
      · exact hz
      · exact a y hy
    · rcases List.mem_cons.mp hy with rfl | hy
      · exact hv
      · exact b y hy
theorem fit_kv : ∀ {ks : List Str} {ds : List PyData}, (∀ z ∈ ks, IsWord z) → (∀ d ∈ ds, Fit d 3 4000) → PyData.showableKv ((ks.map PyData.str).zip ds) = true ∧ PyData.depthKv ((ks.map PyData.str).zip ds) ≤ 3 ∧ ((PyData.shownKv ((ks.map PyData.str).zip ds)).map (·.length)).sum ≤ 4100 * ks.length ∧ (PyData.shownKv ((ks.map PyData.str).zip ds)).length ≤ ks.length
  | [], _, _, _ => by simp [PyData.showableKv, PyData.depthKv, PyData.shownKv]
  | _ :: _, [], _, _ => by simp [PyData.showableKv, PyData.depthKv, PyData.shownKv]
  | k :: ks, d :: ds, h, g => by
    have a := word_fit (h k List.mem_cons_self).2.1 (h k List.mem_cons_self).ok
    have b := g d List.mem_cons_self
    obtain ⟨i1, i2, i3, i4⟩ := fit_kv (ks := ks) (ds := ds) (fun z hz => h z (List.mem_cons_of_mem _ hz)) (fun z hz => g z (List.mem_cons_of_mem _ hz))
    simp only [List.map_cons, List.zip_cons_cons]
    refine ⟨by simp [PyData.showableKv, a.1, b.1, i1], ?_, ?_, ?_⟩
    · have := b.2.1
      have := a.2.1
      simp only [PyData.depthKv]
      omega
    · have e : (PyData.shown (.str k) ++ ": " ++ PyData.shown d : Str).length = (PyData.shown (.str k)).length + 2 + (PyData.shown d).length := by
        rw [Str.length_append, Str.length_append]
        rfl
      simp only [PyData.shownKv, List.map_cons, List.sum_cons, List.length_cons, Nat.mul_succ]
      rw [e]
      have := b.2.2
      have := a.2.2
      omega
    · simp only [PyData.shownKv, List.length_cons]
      omega
theorem okv_rep {G : Hp} {v : V} (h : OkV G v) : ∃ t, Rep G v t := by
  rcases h with ⟨d, a, _, c, _⟩ | ⟨a, kvs, rfl, e, l, r⟩
  · exact ⟨_, d, .inl a, c.more (by decide) (by decide), rfl⟩
  · obtain ⟨ks, xs, rfl, e1, e2, e3, e4⟩ := kvs_split r
    obtain ⟨ds, rr, p⟩ := rrs_of e4
    obtain ⟨f1, f2, f3, f4⟩ := fit_kv (ks := ks) (ds := ds) e3 fun d hd => (p d hd).2.1
    refine ⟨_, _, .inr ⟨a, ks, xs, ds, rfl, e, e1, rr, rfl⟩, ⟨by simpa [PyData.showable] using f1, by simp only [PyData.depth]; omega, ?_⟩, rfl⟩
    have z := dictText_len_le (PyData.shownKv ((ks.map PyData.str).zip ds))
    have : 4100 * ks.length ≤ 4100 * 10 := Nat.mul_le_mul_left _ (by omega)
    simp only [PyData.shown]
    omega
end Dk
set_option Elab.async false
set_option linter.all false
set_option maxRecDepth 100000
set_option maxHeartbeats 8000000
namespace Dk
open PySem PySem.Spec PyProof.Rows L2 Er LamX NdefX Bf Dc2
/-! ### what is_likeness sees in a value -/
mutual
theorem rr_dp {K : PySem.W.Frag} {H : Hp} : ∀ {v : V} {d : PyData}, Rr H v d → PyData.canLay0 d = true → Dp K H v d
  | _, _, .non, _ => .non
  | _, _, .bl b, _ => .bl b
  | _, _, .int i, _ => .int i
  | _, _, .str x, _ => .str x
  | _, _, .lst e h, c => .lst (.inl (.inl e)) (rrs_dp h (by simpa [PyData.canLay0] using c))
  | _, _, .tup e h, c => .tup (.inl (.inl e)) (rrs_dp h (by simpa [PyData.canLay0] using c))
  | _, _, .emp e, c => by simp [PyData.canLay0] at c
theorem rrs_dp {K : PySem.W.Frag} {H : Hp} : ∀ {vs : List V} {ds : List PyData}, Rrs H vs ds → PyData.canLayAll0 ds = true → DpAll K H vs ds
  | _, _, .nil, _ => .nil
  | _, _, .cons a r, c => by
    simp only [PyData.canLayAll0, Bool.and_eq_true] at c
    exact .cons (rr_dp a c.1) (rrs_dp r c.2)
end
theorem dpAll_app {K : PySem.W.Frag} {H : Hp} : ∀ {vs us : List V} {ds es : List PyData}, DpAll K H vs ds → DpAll K H us es → DpAll K H (vs ++ us) (ds ++ es)
  | _, _, _, _, .nil, h => h
  | _, _, _, _, .cons a r, h => .cons a (dpAll_app r h)
theorem lay_app : ∀ {ds es : List PyData}, PyData.canLayAll0 ds = true → PyData.canLayAll0 es = true → PyData.canLayAll0 (ds ++ es) = true
  | [], _, _, h => h
  | d :: ds, es, h, g => by
    simp only [PyData.canLayAll0, Bool.and_eq_true, List.cons_append] at h ⊢
    exact ⟨h.1, lay_app h.2 g⟩
theorem dep_app {n : Nat} : ∀ {ds es : List PyData}, PyData.depthAll ds ≤ n → PyData.depthAll es ≤ n → PyData.depthAll (ds ++ es) ≤ n
  | [], _, _, h => h
  | d :: ds, es, h, g => by
    simp only [PyData.depthAll, List.cons_append] at h ⊢
    have := dep_app (ds := ds) (es := es) (n := n) (by omega) g
    omega
theorem rr_ens {K : PySem.W.Frag} {H : Hp} {v : V} {d : PyData} (h : Rr H v d) : EnS K H v := by
  cases h with
  | non => exact .inr ⟨_, .base .non, kit_ty (by decide +kernel)⟩
  | bl b => exact .inr ⟨_, .base (.bl b), kit_ty (by decide +kernel)⟩
  | int i => exact .inr ⟨_, .base (.int i), kit_ty (by decide +kernel)⟩
  | str x => exact .inl ⟨x, rfl⟩
  | lst e h => exact .inr ⟨_, .base (.lst e), kit_ty (by decide +kernel)⟩
  | tup e h => exact .inr ⟨_, .base (.tup e), kit_ty (by decide +kernel)⟩
  | emp e => exact .inr ⟨_, .base (.dK e), kit_ty (by decide +kernel)⟩
theorem rrs_ens {K : PySem.W.Frag} {H : Hp} : ∀ {vs : List V} {ds : List PyData}, Rrs H vs ds → ∀ v ∈ vs, EnS K H v
  | _, _, .nil => fun v h => nomatch h
  | _, _, .cons a r => fun v h => by
    rcases List.mem_cons.mp h with rfl | h
    · exact rr_ens a
    · exact rrs_ens r v h
theorem rr_not {K : PySem.W.Frag} {H : Hp} {v : V} {d : PyData} (h : Rr H v d) : NotL K H v ∨ ∃ a xs ds, v = .ref a ∧ d = .list ds ∧ H a = some (.lst xs) ∧ Rrs H xs ds := by
  cases h with
  | non => exact .inl ⟨_, .base .non, kit_ty (by decide +kernel)⟩
  | bl b => exact .inl ⟨_, .base (.bl b), kit_ty (by decide +kernel)⟩
  | int i => exact .inl ⟨_, .base (.int i), kit_ty (by decide +kernel)⟩
  | str x => exact .inl ⟨_, .base (.str x), kit_ty (by decide +kernel)⟩
  | lst e h => exact .inr ⟨_, _, _, rfl, rfl, e, h⟩
  | tup e h => exact .inl ⟨_, .base (.tup e), kit_ty (by decide +kernel)⟩
  | emp e => exact .inl ⟨_, .base (.dK e), kit_ty (by decide +kernel)⟩
theorem lot_views {K : PySem.W.Frag} {H : Hp} {n : Nat} : ∀ {xs : List V} {ds : List PyData}, Rrs H xs ds → (∀ d ∈ ds, ∀ es, d = .list es → es.length ≤ 40) → PyData.canLayAll0 ds = true → PyData.depthAll ds ≤ n →
    ∃ its, Paired (LotV K H) xs its ∧ (∃ es, DpAll K H (entsOf its) es ∧ PyData.canLayAll0 es = true ∧ PyData.depthAll es ≤ n) ∧ ∀ x ∈ entsOf its, EnS K H x
  | _, _, .nil, _, _, _ => ⟨[], .nil, ⟨[], .nil, rfl, Nat.zero_le _⟩, fun x h => nomatch h⟩
  | _, _, .cons (v := v) (d := d) (vs := vs) (ds := ds) a r, b, c, p => by
    simp only [PyData.canLayAll0, Bool.and_eq_true] at c
    simp only [PyData.depthAll] at p
    obtain ⟨its, h1, ⟨es, h2, h3, h4⟩, h5⟩ := lot_views (K := K) (n := n) r (fun d hd => b d (List.mem_cons_of_mem _ hd)) c.2 (by omega)
    rcases rr_not (K := K) a with h | ⟨ad, ys, es2, rfl, rfl, e, rr⟩
    · exact ⟨none :: its, .cons h h1, ⟨es, h2, h3, h4⟩, h5⟩
    · have c1 : PyData.canLayAll0 es2 = true := by simpa [PyData.canLay0] using c.1
      have d1 : PyData.depthAll es2 ≤ n := by
        have := p
        simp only [PyData.depth] at this
        omega
      refine ⟨some ys :: its, .cons ⟨by rw [rr.len]; exact b _ List.mem_cons_self _ rfl, ad, rfl, e⟩ h1, ⟨es2 ++ es, dpAll_app (rrs_dp rr c1) h2, lay_app c1 h3, dep_app d1 h4⟩, fun x hx => ?_⟩
      rcases List.mem_append.mp (show x ∈ ys ++ entsOf its from hx) with hx | hx
      · exact rrs_ens rr x hx
      · exact h5 x hx
theorem okv_view {K : PySem.W.Frag} {G : Hp} {v : V} (h : OkV G v) : NotL K G v ∨ ∃ (q : Addr) (xs : List V) (its : List (Option (List V))), v = .ref q ∧ G q = some (.lst xs) ∧ Paired (LotV K G) xs its ∧ xs.length ≤ 20 ∧
    (∃ es, DpAll K G (entsOf its) es ∧ SeqAt.shaped (.list es) = true) ∧ ∀ x ∈ entsOf its, EnS K G x := by
  rcases h with ⟨d, a, c, f, b⟩ | ⟨a, kvs, rfl, e, _⟩
  · rcases rr_not (K := K) a with h | ⟨q, xs, ds, rfl, rfl, e, rr⟩
    · exact .inl h
    · obtain ⟨b1, b2⟩ := b ds rfl
      have c1 : PyData.canLayAll0 ds = true := by simpa [PyData.canLay0] using c
      have d1 : PyData.depthAll ds ≤ 6 := by
        have := f.2.1
        simp only [PyData.depth] at this
        omega
      obtain ⟨its, h1, ⟨es, h2, h3, h4⟩, h5⟩ := lot_views (K := K) (n := 6) rr b2 c1 d1
      refine .inr ⟨q, xs, its, rfl, e, h1, by rw [rr.len]; exact b1, ⟨es, h2, ?_⟩, h5⟩
      show (PyData.canLay0 (.list es) && decide (PyData.depth (.list es) ≤ 64)) = true
      rw [Bool.and_eq_true]
      exact ⟨by simpa [PyData.canLay0] using h3, decide_eq_true (by simp only [PyData.depth]; omega)⟩
  · exact .inl ⟨_, .base (.dK e), kit_ty (by decide +kernel)⟩
/-- a list of lots of words is such a value -/
theorem valw_ok {ws : List Str} {B G : Hp} {q : Addr} (hw : ∀ z ∈ ws, IsWord z) (h : ValW ws 10 18 B G q) : OkV G (.ref q) := by
  obtain ⟨_, xs, e, _, l, lw⟩ := h
  exact okv_lst e (by omega) fun x hx => lot_itm hw (by decide) (lw x hx) fun _ _ _ e => e
end Dk
set_option Elab.async false
set_option linter.all false
set_option maxRecDepth 100000
set_option maxHeartbeats 8000000
namespace Dk
open PySem PySem.Spec PyProof.Rows L2 Er LamX NdefX
/-! ### _law_groups: just which lots -/
theorem pair_ix {α β : Type} {F F2 : α → β → Prop} {ps : List α} {qs : List β} (p : Paired F ps qs) (h : ∀ (j : Nat) a b, ps[j]? = some a → qs[j]? = some b → F a b → F2 a b) : Paired F2 ps qs := paired_of (paired_len p) fun j a b e1 e2 => by
  obtain ⟨b2, e3, f⟩ := pair_at p e1
  rw [e2] at e3
  cases Option.some.inj e3
  exact h j a b e1 e2 f
def LotX (nx : Str → Str → Str) (lk : Str → Str) (ds cs : List Str) (H G : Hp) (i : Nat) (e : Addr) (h : Str) : Prop := H e = none ∧ ∃ rest : List Str, G e = some (.lst ((h :: rest).map V.str)) ∧ rest.length ≤ i ∧ (∀ z ∈ h :: rest, IsWord z) ∧ h :: rest = (cs.take i).filter (al nx lk ds h)
theorem LotX.sm {nx : Str → Str → Str} {lk : Str → Str} {ds cs : List Str} {H G G2 : Hp} {i : Nat} {e : Addr} {h : Str} (l : LotX nx lk ds cs H G i e h) (m : Sm G G2) (_ : i ≤ i) : LotX nx lk ds cs H G2 i e h := by
  obtain ⟨n, rest, e1, e2, e3⟩ := l
  exact ⟨n, rest, m _ _ e1, e2, e3⟩
def spGrX (K : PySem.W.Frag) : Sp := fun vs H Q _ => ∃ (nl fa : Addr) (cs ws ds : List Str) (nx : Str → Str → Str) (lk : Str → Str) (far : List (St2 × V)), vs = [.ref nl, .ref fa] ∧ SqL K H nl (cs.map V.str) ∧ cs.length ≤ 9 ∧ (∀ z ∈ cs, z ∈ ws) ∧ (∀ z ∈ ws, IsWord z) ∧ H fa = some (.dT far) ∧ FarAll nx lk ws ds far ∧
  ∀ (q : Addr) (es : List Addr) G, Sm H G → H q = none → G q = some (.lst (es.map V.ref)) → Paired (fun e h => H e = none ∧ G e = some (.lst ((cs.filter (al nx lk ds h)).map V.str))) es (lHs nx lk ds cs) → Q (.ref q) G
section
variable {P : Program} {w : World} {K : PySem.W.Frag} {mg : Str → Option Value} {base : Heap} {f : Addr} {fd : FuncData}
theorem ok_grX (F : FnP K "_law_groups" (top 49) f fd) : FnOk P w K mg base CX0 1 f fd ["_law_names_here", "_law_far"] (spGrX K) := by
  refine F.ok (CX := CX0) scGr (fun vs H Q E h => ?_) (fun cdv A outer s H vs Q E hr h => ?_)
  · obtain ⟨nl, fa, cs, ws, ds, nx, lk, far, rfl, _⟩ := h
    rfl
  · refine ⟨_, PSs.nox (pss_cons (ps_set (i := 2) scGr.nd rfl (.inl rfl) (pe_lst pa_nil))
      (pss_cons (ps_for PassesOwn.never rfl (pi_list (pv 0)) (pg_name (i := 3) scGr.nd rfl (.inr rfl))
        (pss_cons (by exact (ps_setLc (i := 4) (own := [("_law_lot", 5)]) (g := gName 5) (tt := tB (tDNotIn (tTup (tCons (tOp (rIxL K) (tVar 5) (tC (.int 0))) (tCons (tVar 3) tNil))) (tVar 1))) (te := tVar 5) rfl scGr.nd rfl rfl (sw_true rfl rfl rfl (by decide +kernel)) (pi_list (pv 2))
          (blkOk_by (N := nGr) (sc := defScope (top 49)) (by decide +kernel)) (fun _ _ _ _ _ => pg_name (i := 5) scGr.nd rfl (Or.inl rfl))
          (fun _ _ _ _ _ => pts_one (by exact (pt_cmp (pc_dnotin (hu_of hr) (by exact (pe_tup (pa_cons (by exact (pe_ix ix_list (by exact (pv 5)) pe_int (fun _ _ => rfl))) (pa_cons (by exact (pv 3)) pa_nil)))) (by exact (pv 1))) (by rfl)))) (fun _ _ _ _ _ => by exact (pv 5))))
        (pss_one (ps_if (pt_cmpR (op_eqD hr.units) (pv 4) (pe_lst pa_nil) (nomark _))
          (pss_one (ps_expr (pe_bm PySem.F.plainAttrs_list PySem.F.slot_list_append PySem.F.type_list_append mt_append (pv 2) (pa_cons (pe_lst (pa_cons (pv 3) pa_nil)) pa_nil))))
          (pss_one (ps_expr (pe_bm PySem.F.plainAttrs_list PySem.F.slot_list_append PySem.F.type_list_append mt_append (by exact (pe_ix ix_list (pv 4) pe_int (fun _ _ => rfl))) (pa_cons (pv 3) pa_nil))))))))
      (pss_one (ps_ret (pv 2))))), ?_⟩
    obtain ⟨nl, fa, cs, ws, ds, nx, lk, far, rfl, hnl, c9, sub, word, hfa, FA, q⟩ := h
    have sz : ∀ n : Nat, n ≤ 1000 → n ≤ sizeLine := fun n z => by
      rw [sizeLine_eq]
      omega
    refine ⟨sz _ (by show 0 ≤ 1000; decide), fun fo nfo => ?_⟩
    have m0 := Sm.new (o := .lst []) nfo
    have efo0 := upd_same (H := H) (a := fo) (o := .lst [])
    generalize upd H fo (.lst []) = H1 at m0 efo0 ⊢
    refine ⟨_, rfl, nl, rfl, ⟨_, SqL.sm hnl m0⟩, ?_⟩
    refine for_it (walk_list (xs := cs.map V.str)) (fun i σ G => ∃ (v3 v4 v5 : Option V) (es : List Addr), σ = [some (.ref nl), some (.ref fa), some (.ref fo), v3, v4, v5] ∧ G fo = some (.lst (es.map V.ref)) ∧ Paired (fun e h => e ≠ fo ∧ LotX nx lk ds cs H G i e h) es (lHs nx lk ds (cs.take i)) ∧ Sm H G)
      ⟨none, none, none, [], rfl, efo0, .nil, m0⟩ (fun i σ G _ ⟨_, _, _, _, _, _, _, m⟩ => SqL.sm hnl m) (fun i v σ G G' hi p yy => ?_) (fun σ G p => ?_)
    · obtain ⟨v3, v4, v5, es, rfl, ef, pe, m⟩ := p
      obtain ⟨rfl, ex⟩ := yy
      obtain ⟨z, ez, rfl⟩ : ∃ z, cs[i]? = some z ∧ v = .str z := by
        rw [List.getElem?_map] at ex
        cases e : cs[i]? with
        | none =>
          rw [e] at ex
          cases ex
        | some d =>
          rw [e] at ex
          exact ⟨d, rfl, (Option.some.inj ex).symm⟩
      have hz := sub z (List.mem_of_getElem? ez)
      have il := (List.getElem?_eq_some_iff.mp ez).1
      have tk : cs.take (i + 1) = cs.take i ++ [z] := by
        rw [List.take_add_one, ez]
        rfl
      have hin : ∀ y ∈ lHs nx lk ds (cs.take i), y ∈ ws := fun y hy => sub y (List.mem_of_mem_take (lHs_sub hy))
      have hl : (lHs nx lk ds (cs.take i)).length ≤ i := by
        have := Lo.hds_len (r := al nx lk ds) (cs := cs.take i)
        rw [List.length_take] at this
        unfold lHs
        omega
      have el : es.length = (lHs nx lk ds (cs.take i)).length := paired_len pe
      refine ⟨_, rfl, fo, rfl, ⟨_, .inl (.inl ef)⟩, fun D nD => ?_⟩
      refine lc_list (xs := es.map V.ref) (fun j G2 => ∃ acc : List Addr, G2 D = some (.lst (acc.map V.ref)) ∧ acc.length ≤ j ∧ (∀ e ∈ acc, ∃ h ∈ lHs nx lk ds (cs.take i), al nx lk ds h z = true ∧ (∃ j : Nat, es[j]? = some e ∧ (lHs nx lk ds (cs.take i))[j]? = some h) ∧ e ≠ fo ∧ LotX nx lk ds cs H G2 i e h) ∧ (acc = [] ↔ ∀ h ∈ (lHs nx lk ds (cs.take i)).take j, al nx lk ds h z = false) ∧ Sm G' G2)
        ⟨[], upd_same, Nat.le_refl _, (fun e he => (List.not_mem_nil he).elim), ⟨fun _ h hh => (List.not_mem_nil hh).elim, fun _ => rfl⟩, Sm.new nD⟩ (fun j G2 _ p => by obtain ⟨_, _, _, _, _, mm⟩ := p; exact .inl (.inl (mm _ _ ef))) (fun j x G2 ex p => ?_) (fun G2 p => ?_)
      · obtain ⟨acc, eD, al_, ha, he, mm⟩ := p
        obtain ⟨e, ee, rfl⟩ : ∃ e, es[j]? = some e ∧ x = .ref e := by
          rw [List.getElem?_map] at ex
          cases e : es[j]? with
          | none =>
            rw [e] at ex
            cases ex
          | some d =>
            rw [e] at ex
            exact ⟨d, rfl, (Option.some.inj ex).symm⟩
        obtain ⟨h, eh, efo, lh⟩ := pair_at pe ee
        have hh := List.mem_of_getElem? eh
        have jl := (List.getElem?_eq_some_iff.mp eh).1
        have tk2 : (lHs nx lk ds (cs.take i)).take (j + 1) = (lHs nx lk ds (cs.take i)).take j ++ [h] := by
          rw [List.take_add_one, eh]
          rfl
        obtain ⟨ne, rest, e1, e2, e3⟩ := id lh
        refine ⟨rfl, _, rfl, e, _, 0, .str h, rfl, rfl, .inl (.inl (mm _ _ e1)), atI_nat (j := 0) rfl, _, rfl, sz _ (by show 2 ≤ 1000; decide), fun t nt => ?_⟩
        have mt := Sm.new (o := .tup [.str h, .str z]) nt
        refine ⟨_, rfl, fa, _, rfl, DGet.t (k := pr h z) (mt _ _ (mm _ _ (m _ _ hfa))) upd_same, _, rfl, ?_⟩
        rw [far_al FA (hin h hh) hz, Bool.not_not]
        generalize upd G2 t (.tup [.str h, .str z]) = G3 at mt ⊢
        cases a : al nx lk ds h z with
        | true =>
          refine iteT ⟨_, rfl, _, mt _ _ eD, by rw [List.length_map, sizeLine_eq]; omega, acc ++ [e], by rw [upd_same, List.map_append]; rfl, by rw [List.length_append]; show acc.length + 1 ≤ j + 1; omega, fun e0 h0 => ?_, ⟨fun w => absurd w (by simp), fun w => ?_⟩, fun b o eb => ?_⟩
          · have nD2 : ∀ {e0 : Addr} {o : HO}, G' e0 = some o → e0 ≠ D := fun {e0 o} eb => ne_of_none eb nD
            rcases List.mem_append.mp h0 with h0 | h0
            · obtain ⟨h2, q1, q2, qj, q3, q4, rest2, q5, q6, q7⟩ := ha e0 h0
              refine ⟨h2, q1, q2, qj, q3, q4, rest2, ?_, q6, q7⟩
              have : e0 ≠ D := fun w => by
                rw [w, eD] at q5
                cases acc with
                | nil => exact nomatch HO.lst.inj (Option.some.inj q5)
                | cons a acc => exact nomatch (List.cons.inj (HO.lst.inj (Option.some.inj q5))).1
              rw [upd_ne this]
              exact mt _ _ q5
            · rw [List.mem_singleton.mp h0]
              refine ⟨h, hh, a, ⟨j, ee, eh⟩, efo, ne, rest, ?_, e2, e3⟩
              rw [upd_ne (nD2 e1)]
              exact mt _ _ (mm _ _ e1)
          · have := w h (by rw [tk2]; exact List.mem_append_right _ (List.mem_singleton.mpr rfl))
            rw [a] at this
            cases this
          · rw [upd_ne (ne_of_none eb nD)]
            exact mt _ _ (mm _ _ eb)
        | false =>
          refine iteF ⟨acc, mt _ _ eD, by omega, fun e0 h0 => ?_, ?_, mm.trans mt⟩
          · obtain ⟨h2, q1, q2, qj, q3, q4⟩ := ha e0 h0
            exact ⟨h2, q1, q2, qj, q3, q4.sm mt (Nat.le_refl _)⟩
          · rw [he, tk2]
            refine ⟨fun w h2 hh2 => ?_, fun w h2 hh2 => w h2 (List.mem_append_left _ hh2)⟩
            rcases List.mem_append.mp hh2 with b | b
            · exact w h2 b
            · rw [List.mem_singleton.mp b]
              exact a
      · obtain ⟨acc, eD, al_, ha, he, mm⟩ := p
        rw [List.length_map] at al_ he
        rw [el, List.take_length] at he
        have Ds : H D = none := none_of_sm m nD
        have Dfo : D ≠ fo := fun w => by
          rw [w, ef] at nD
          cases nD
        refine ⟨_, rfl, sz _ (by show 0 ≤ 1000; decide), fun e2 ne2 => ?_⟩
        have me := Sm.new (o := .lst []) ne2
        have lots : ∃ ls : List (List Str), Paired (fun e (l : List Str) => upd G2 e2 (.lst []) e = some (.lst (l.map V.str)) ∧ ∀ z ∈ l, IsWord z) acc ls := by
          clear he eD al_
          induction acc with
          | nil => exact ⟨[], .nil⟩
          | cons e acc ih =>
            obtain ⟨ls, pl⟩ := ih fun e0 h0 => ha e0 (List.mem_cons_of_mem _ h0)
            obtain ⟨h2, _, _, _, _, _, rest2, q5, _, q7, _⟩ := ha e List.mem_cons_self
            exact ⟨(h2 :: rest2) :: ls, .cons ⟨me _ _ q5, q7⟩ pl⟩
        obtain ⟨ls, pl⟩ := lots
        obtain ⟨dd, d1, d2, d3, d4⟩ := dp_lots (K := K) pl
        refine ⟨.list dd, .list [], .lst (.inl (.inl (me _ _ eD))) d1, .lst (.inl (.inl upd_same)) .nil, shaped_two d2 d3, shaped_nil, _, rfl, ?_⟩
        rw [eqv_nil]
        have mB := mm.trans me
        have eDB := me _ _ eD
        have haB : ∀ e ∈ acc, ∃ h ∈ lHs nx lk ds (cs.take i), al nx lk ds h z = true ∧ (∃ j : Nat, es[j]? = some e ∧ (lHs nx lk ds (cs.take i))[j]? = some h) ∧ e ≠ fo ∧ LotX nx lk ds cs H (upd G2 e2 (.lst [])) i e h := fun e0 h0 => by
          obtain ⟨h2, q1, q2, qj, q3, q4⟩ := ha e0 h0
          exact ⟨h2, q1, q2, qj, q3, q4.sm me (Nat.le_refl _)⟩
        generalize upd G2 e2 (.lst []) = G3 at mB eDB haB ⊢
        have efB := mB _ _ ef
        have mA := m.trans mB
        cases acc with
        | nil =>
          have dn : dd = [] := List.eq_nil_of_length_eq_zero d4
          subst dn
          have none_ := he.mp rfl
          have hds1 : lHs nx lk ds (cs.take (i + 1)) = lHs nx lk ds (cs.take i) ++ [z] := by
            rw [tk]
            unfold lHs
            rw [Lo.hds_snoc, if_neg]
            intro c
            obtain ⟨h, hh, a⟩ := List.any_eq_true.mp c
            rw [none_ h hh] at a
            cases a
          refine iteT ⟨_, rfl, .inl ⟨rfl, _, .inl (.inl efB)⟩, _, rfl, sz _ (by show 1 ≤ 1000; decide), fun l1 nl1 => ?_⟩
          have ml := Sm.new (o := .lst [.str z]) nl1
          have l1fo : l1 ≠ fo := fun w => by
            rw [w, efB] at nl1
            cases nl1
          refine ⟨fo, _, .ref l1, rfl, rfl, ml _ _ efB, by rw [List.length_map, sizeLine_eq]; omega, ?_⟩
          refine ⟨_, _, _, es ++ [l1], rfl, by rw [upd_same, List.map_append]; rfl, ?_, fun b o eb => ?_⟩
          · rw [hds1]
            refine pair_more (pair_ix pe fun jx e h ex1 ex2 q => ⟨q.1, q.2.1, ?_⟩) ⟨l1fo, none_of_sm mA nl1, [], ?_, Nat.zero_le _, fun y hy => ?_, ?_⟩
            · obtain ⟨_, rest, q1, q2, q3, q4⟩ := q.2
              refine ⟨rest, ?_, by omega, q3, ?_⟩
              · rw [upd_ne q.1]
                exact ml _ _ (mB _ _ q1)
              · rw [q4, tk, List.filter_append, List.filter_cons_of_neg (by rw [none_ h (List.mem_of_getElem? ex2)]; exact Bool.false_ne_true), List.filter_nil, List.append_nil]
            · rw [upd_ne l1fo]
              exact upd_same
            · rw [List.mem_singleton.mp hy]
              exact word z hz
            · rw [tk, List.filter_append, List.filter_cons_of_pos (al_refl z), List.filter_nil, List.filter_eq_nil_iff.mpr fun y hy c => ?_]
              · rfl
              · obtain ⟨h, hh, a⟩ := Lo.hds_cover (r := al nx lk ds) al_refl hy
                have := none_ h hh
                rw [al_trans a (al_symm _ _ c)] at this
                cases this
          · rw [upd_ne (ne_of_none eb nfo)]
            exact ml _ _ (mA _ _ eb)
        | cons e acc =>
          have de : dd.isEmpty = false := by
            cases dd with
            | nil => cases d4
            | cons _ _ => rfl
          rw [de]
          obtain ⟨h, hh, a, ⟨jj, ej, ehj⟩, efo, ne, rest, q1, q2, q3, q4⟩ := haB e List.mem_cons_self
          have hds1 : lHs nx lk ds (cs.take (i + 1)) = lHs nx lk ds (cs.take i) := by
            rw [tk]
            unfold lHs
            rw [Lo.hds_snoc]
            exact if_pos (List.any_eq_true.mpr ⟨h, hh, a⟩)
          refine iteF ⟨_, rfl, D, _, 0, .ref e, rfl, rfl, .inl (.inl eDB), atI_nat (j := 0) rfl, .inl ⟨rfl, _, .inl (.inl q1)⟩, _, rfl, e, _, .str z, rfl, rfl, q1, by rw [List.length_map, sizeLine_eq]; show rest.length + 1 < _; omega, ?_⟩
          have em : (h :: rest).map V.str ++ [V.str z] = (h :: (rest ++ [z])).map V.str := by
            rw [List.map_cons, List.map_cons, List.map_append]
            rfl
          rw [em]
          refine ⟨_, _, _, es, rfl, by rw [upd_ne (Ne.symm efo)]; exact efB, ?_, fun b o eb => ?_⟩
          · rw [hds1]
            refine pair_ix pe fun j0 e0 h0 ex1 ex2 w => ⟨w.1, w.2.1, ?_⟩
            obtain ⟨_, rest0, w1, w2, w3, w4⟩ := w.2
            by_cases c : e0 = e
            · subst c
              have := mB _ _ w1
              rw [q1] at this
              have same := HO.lst.inj (Option.some.inj this)
              have h1 : h = h0 := V.str.inj (List.cons.inj same).1
              subst h1
              refine ⟨rest ++ [z], upd_same, by rw [List.length_append]; show rest.length + 1 ≤ i + 1; omega, fun y hy => ?_, by rw [tk, List.filter_append, ← q4, List.filter_cons_of_pos a, List.filter_nil]; rfl⟩
              rcases List.mem_cons.mp hy with b | b
              · rw [b]
                exact q3 _ List.mem_cons_self
              · rcases List.mem_append.mp b with b | b
                · exact q3 _ (List.mem_cons_of_mem _ b)
                · rw [List.mem_singleton.mp b]
                  exact word z hz
            · refine ⟨rest0, ?_, by omega, w3, ?_⟩
              · rw [upd_ne c]
                exact mB _ _ w1
              · have hne : al nx lk ds h0 z ≠ true := fun c2 => by
                  have e3 : h0 = h := Lo.hds_one al_symm (List.mem_of_getElem? ex2) hh (al_trans c2 (al_symm _ _ a))
                  subst e3
                  have ap := List.pairwise_iff_getElem.mp (Lo.hds_apart0 (r := al nx lk ds) (cs.take i))
                  obtain ⟨g1, g2⟩ := List.getElem?_eq_some_iff.mp ex2
                  obtain ⟨g3, g4⟩ := List.getElem?_eq_some_iff.mp ehj
                  rcases Nat.lt_trichotomy j0 jj with lt | eq | lt
                  · have this : al nx lk ds (lHs nx lk ds (cs.take i))[j0] (lHs nx lk ds (cs.take i))[jj] = false := ap j0 jj g1 g3 lt
                    rw [g2, g4, al_refl] at this
                    cases this
                  · rw [eq, ej] at ex1
                    exact c (Option.some.inj ex1).symm
                  · have this : al nx lk ds (lHs nx lk ds (cs.take i))[jj] (lHs nx lk ds (cs.take i))[j0] = false := ap jj j0 g3 g1 lt
                    rw [g2, g4, al_refl] at this
                    cases this
                rw [w4, tk, List.filter_append, List.filter_cons_of_neg hne, List.filter_nil, List.append_nil]
          · rw [upd_ne (ne_of_none eb ne)]
            exact mA _ _ eb
    · obtain ⟨v3, v4, v5, es, rfl, ef, pe, m⟩ := p
      rw [List.length_map, List.take_length] at pe
      refine ⟨_, rfl, q fo es G m nfo ef (pair_mono pe fun e _ h w => ⟨w.2.1, ?_⟩)⟩
      obtain ⟨_, rest, w1, w2, w3, w4⟩ := w.2
      rw [List.take_length] at w4
      rw [← w4]
      exact w1
end
/-! ### they are the numbers' lots -/
theorem hds_seen {nx : Str → Str → Str} {lk : Str → Str} {ds ws : List Str} {nu : Str → Nat} (A : ∀ z ∈ ws, ∀ y ∈ ws, nu z = nu y ↔ al nx lk ds z y = true) : ∀ n, n ≤ ws.length → (lHs nx lk ds (ws.take n)).map nu = Lo.seen nu (ws.take n)
  | 0, _ => rfl
  | n + 1, h => by
    have ih := hds_seen A n (by omega)
    have e : ws[n]? = some (ws[n]'h) := List.getElem?_eq_getElem h
    have hz := List.getElem_mem h
    generalize ws[n]'h = z at e hz
    rw [List.take_add_one, e]
    show (Lo.hds (al nx lk ds) (ws.take n ++ [z])).map nu = Lo.seen nu (ws.take n ++ [z])
    rw [Lo.hds_snoc, Lo.seen_snoc, ← ih]
    have sub : ∀ y ∈ lHs nx lk ds (ws.take n), y ∈ ws := fun y hy => List.mem_of_mem_take (lHs_sub hy)
    have i : (Lo.hds (al nx lk ds) (ws.take n)).any (fun y => al nx lk ds y z) = true ↔ nu z ∈ (lHs nx lk ds (ws.take n)).map nu := by
      rw [List.any_eq_true, List.mem_map]
      constructor
      · rintro ⟨y, hy, a⟩
        exact ⟨y, hy, (A y (sub y hy) z hz).mpr a⟩
      · rintro ⟨y, hy, a⟩
        exact ⟨y, hy, (A y (sub y hy) z hz).mp a⟩
    by_cases c : nu z ∈ (lHs nx lk ds (ws.take n)).map nu
    · rw [if_pos (i.mpr c), if_pos c]
      rfl
    · rw [if_neg (fun x => c (i.mp x)), if_neg c, List.map_append]
      rfl
theorem grp_hds {nx : Str → Str → Str} {lk : Str → Str} {ds ws : List Str} {nu : Str → Nat} (A : Alk nx lk ds ws nu) : grp nu ws = (lHs nx lk ds ws).map fun h => ws.filter (al nx lk ds h) := by
  have A2 : ∀ z ∈ ws, ∀ y ∈ ws, nu z = nu y ↔ al nx lk ds z y = true := fun z hz y hy => (A z hz y hy).trans al_iff.symm
  have e := hds_seen A2 ws.length (Nat.le_refl _)
  rw [List.take_length] at e
  unfold grp
  rw [← e, List.map_map]
  refine List.map_congr_left fun h hh => ?_
  refine List.filter_congr fun z hz => ?_
  have i := A2 z hz h (lHs_sub hh)
  rw [Bool.eq_iff_iff, decide_eq_true_iff]
  exact i.trans ⟨al_symm _ _, al_symm _ _⟩
end Dk
set_option Elab.async false
set_option linter.all false
set_option maxRecDepth 100000
set_option maxHeartbeats 8000000
namespace Dk
open PySem PySem.Spec PyProof.Rows L2 Er LamX NdefX
/-! ### all that the law's body asks of the program's and its own functions -/
abbrev eqTypes : List String := ["NoneType", "int", "str", "list", "tuple", "dict"]
def Has (K : PySem.W.Frag) (mg : Str → Option Value) (x : Str) (st : Stmt) : Prop := ∃ f d, FnP K x st f d ∧ mg x = some (.ref f)
structure Lk (K : PySem.W.Frag) (mg : Str → Option Value) (C : Addr) : Prop where
  h9 : Has K mg "is_name" (top 9)
  h10 : Has K mg "is_one_of" (top 10)
  h11 : Has K mg "are_different" (top 11)
  h12 : Has K mg "is_table" (top 12)
  h15 : Has K mg "numbered" (top 15)
  h16 : Has K mg "lot_numbers" (top 16)
  h17 : Has K mg "count_lots" (top 17)
  h18 : Has K mg "gathered" (top 18)
  h21 : Has K mg "are_standings" (top 21)
  h22 : Has K mg "are_deeds" (top 22)
  h23 : Has K mg "is_lead" (top 23)
  h24 : Has K mg "are_sights" (top 24)
  h25 : Has K mg "desk_leads" (top 25)
  h26 : Has K mg "desk_moves" (top 26)
  h27 : Has K mg "desk_sights" (top 27)
  h29 : Has K mg "lots" (top 29)
  h30 : Has K mg "desk_lots" (top 30)
  h31 : Has K mg "is_likeness" (top 31)
  h32 : Has K mg "is_parting" (top 32)
  h33 : Has K mg "keeps_together" (top 33)
  h35 : Has K mg "_law_source" (top 35)
  h36 : Has K mg "_law_draw" (top 36)
  h37 : Has K mg "_law_pick" (top 37)
  h38 : Has K mg "_law_mixed" (top 38)
  h39 : Has K mg "_law_word" (top 39)
  h40 : Has K mg "_law_names" (top 40)
  h41 : Has K mg "_law_twins" (top 41)
  h42 : Has K mg "_law_leads" (top 42)
  h43 : Has K mg "_law_sights" (top 43)
  h44 : Has K mg "_law_desk" (top 44)
  h45 : Has K mg "_law_turned" (top 45)
  h46 : Has K mg "_law_made" (top 46)
  h47 : Has K mg "_law_nexts" (top 47)
  h48 : Has K mg "_law_apart" (top 48)
  h49 : Has K mg "_law_groups" (top 49)
  h50 : Has K mg "_law_stranger" (top 50)
  h51 : Has K mg "_law_is_likeness" (top 51)
  h52 : Has K mg "_law_value" (top 52)
  h53 : Has K mg "_law_spoilt" (top 53)
  mi : mg "isinstance" = none
  mn : mg "int" = none
  ms : mg "str" = none
  mL : mg "list" = none
  mT : mg "tuple" = none
  md : mg "dict" = none
  mS : mg "set" = none
  ml : mg "len" = none
  ma : mg "all" = none
  mR : mg "range" = none
  mx : mg "max" = none
  mm : mg "min" = none
  me : mg "enumerate" = none
  mr : mg "repr" = none
  T : DkC K mg C
  N : ∀ t ∈ eqTypes, PySem.W.notFirst K C (.type t) = true
  kN : ∀ t ∈ eqTypes, PySem.W.kitOne K (.type t) (.ref C) = some false
  kL : PySem.W.kitOne K (.ref C) (.type "list") = some false
  eq : ∃ f d, FunD K "__eq__" "Desk.__eq__" (defArgs (meth 7)) (defBody (meth 7)) (defScope (meth 7)) [] [] f d ∧ PySem.W.findIn K (.ref C) "__eq__" = some (some (.ref f)) ∧ PySem.W.isFn K (.ref f) = true
  ini_ : ∃ f d, FunD K "__init__" "Desk.__init__" (defArgs (meth 0)) (defBody (meth 0)) (defScope (meth 0)) [] [] f d ∧ Mk K C f
  lead_ : ∃ f d, FunD K "lead" "Desk.lead" (defArgs (meth 4)) (defBody (meth 4)) (defScope (meth 4)) [] [] f d ∧ Meth K C "lead" f
  sight_ : ∃ f d, FunD K "sight" "Desk.sight" (defArgs (meth 5)) (defBody (meth 5)) (defScope (meth 5)) [] [] f d ∧ Meth K C "sight" f
  std : ∃ p g d, FunD K "standings" "Desk.standings" (defArgs (meth 1)) (defBody (meth 1)) (defScope (meth 1)) [] [] g d ∧ PropOf K C "standings" p g
  dds : ∃ p g d, FunD K "deeds" "Desk.deeds" (defArgs (meth 2)) (defBody (meth 2)) (defScope (meth 2)) [] [] g d ∧ PropOf K C "deeds" p g
  sys : IsSys K
/-- a function that is there and does what is said -/
def Use (P : Program) (w : World) (K : PySem.W.Frag) (mg : Str → Option Value) (base : Heap) (X : CXT) (n : Nat) (x : Str) (ps : List Str) (sp : Sp) : Prop := ∃ f d, PySem.W.keepIn K (.ref f) = true ∧ Binds K d ps [] ∧ mg x = some (.ref f) ∧ FnOk P w K mg base X n f d ps sp
structure Gs (P : Program) (w : World) (K : PySem.W.Frag) (mg : Str → Option Value) (base : Heap) (C : Addr) : Prop where
  src : Use P w K mg base CX0 1 "_law_source" ["_law_script", "_law_start"] (spSrc K)
  draw : Use P w K mg base CX0 1 "_law_draw" ["_law_source_here", "_law_span"] spD
  desk : Use P w K mg base CX0 6 "_law_desk" ["_law_source_here", "_law_most"] spDesk
  made : Use P w K mg base CX0 6 "_law_made" ["_law_desk_here"] (spMade K C)
  nexts : Use P w K mg base CX0 1 "_law_nexts" ["_law_desk_here"] spNexts
  apart : Use P w K mg base CX0 1 "_law_apart" ["_law_names_here", "_law_visible", "_law_nexts_here"] (spApart K)
  groups : Use P w K mg base CX0 1 "_law_groups" ["_law_names_here", "_law_far"] (spGrX K)
  lots : Use P w K mg base CX0 5 "lots" nLo (spLo K C)
  like : Use P w K mg base CX0 4 "is_likeness" ["desk", "value"] (spIlA K C)
  is_ : Use P w K mg base CX0 1 "_law_is_likeness" ["_law_desk_here", "_law_value_here"] (spLk K)
  value : Use P w K mg base CX0 3 "_law_value" ["_law_source_here", "_law_desk_here", "_law_groups_here"] spVa
  spoilt : Use P w K mg base CX0 3 "_law_spoilt" ["_law_source_here", "_law_desk_here", "_law_value_here"] spSp
theorem gs_of {P : Program} {w : World} {K : PySem.W.Frag} {mg : Str → Option Value} {base : Heap} {C : Addr} (L : Lk K mg C) : Gs P w K mg base C := by
  obtain ⟨f9, d9, F9, g9⟩ := L.h9
  obtain ⟨f10, d10, F10, g10⟩ := L.h10
  obtain ⟨f11, d11, F11, g11⟩ := L.h11
  obtain ⟨f12, d12, F12, g12⟩ := L.h12
  obtain ⟨f15, d15, F15, g15⟩ := L.h15
  obtain ⟨f16, d16, F16, g16⟩ := L.h16
  obtain ⟨f17, d17, F17, g17⟩ := L.h17
  obtain ⟨f18, d18, F18, g18⟩ := L.h18
  obtain ⟨f21, d21, F21, g21⟩ := L.h21
  obtain ⟨f22, d22, F22, g22⟩ := L.h22
  obtain ⟨f23, d23, F23, g23⟩ := L.h23
  obtain ⟨f24, d24, F24, g24⟩ := L.h24
  obtain ⟨f25, d25, F25, g25⟩ := L.h25
  obtain ⟨f26, d26, F26, g26⟩ := L.h26
  obtain ⟨f27, d27, F27, g27⟩ := L.h27
  obtain ⟨f29, d29, F29, g29⟩ := L.h29
  obtain ⟨f30, d30, F30, g30⟩ := L.h30
  obtain ⟨f31, d31, F31, g31⟩ := L.h31
  obtain ⟨f32, d32, F32, g32⟩ := L.h32
  obtain ⟨f33, d33, F33, g33⟩ := L.h33
  obtain ⟨f35, d35, F35, g35⟩ := L.h35
  obtain ⟨f36, d36, F36, g36⟩ := L.h36
  obtain ⟨f37, d37, F37, g37⟩ := L.h37
  obtain ⟨f38, d38, F38, g38⟩ := L.h38
  obtain ⟨f39, d39, F39, g39⟩ := L.h39
  obtain ⟨f40, d40, F40, g40⟩ := L.h40
  obtain ⟨f41, d41, F41, g41⟩ := L.h41
  obtain ⟨f42, d42, F42, g42⟩ := L.h42
  obtain ⟨f43, d43, F43, g43⟩ := L.h43
  obtain ⟨f44, d44, F44, g44⟩ := L.h44
  obtain ⟨f45, d45, F45, g45⟩ := L.h45
  obtain ⟨f46, d46, F46, g46⟩ := L.h46
  obtain ⟨f47, d47, F47, g47⟩ := L.h47
  obtain ⟨f48, d48, F48, g48⟩ := L.h48
  obtain ⟨f49, d49, F49, g49⟩ := L.h49
  obtain ⟨f50, d50, F50, g50⟩ := L.h50
  obtain ⟨f51, d51, F51, g51⟩ := L.h51
  obtain ⟨f52, d52, F52, g52⟩ := L.h52
  obtain ⟨f53, d53, F53, g53⟩ := L.h53
  obtain ⟨fE, dE, FE, eE, iE⟩ := L.eq
  obtain ⟨fI, dI, FI, Mk1⟩ := L.ini_
  obtain ⟨fL, dL, FL, ML⟩ := L.lead_
  obtain ⟨fS, dS, FS, MS⟩ := L.sight_
  obtain ⟨pS, gS, dG, FG, PS_⟩ := L.std
  obtain ⟨pD, gD, dD, FD_, PD⟩ := L.dds
  have T := L.T
  have G9 : FnOk P w K mg base CX0 1 f9 d9 ["value"] (spIsName K) := ok_isname F9 L.mi L.ms L.ml L.ma
  have G10 : FnOk P w K mg base CX0 1 f10 d10 nOneOf (spOneOf K) := ok_oneof F10 L.mi L.ms
  have G11 : FnOk P w K mg base CX0 1 f11 d11 nDiff (spDiff K) := ok_diff F11 L.mS L.ml
  have G12 : FnOk P w K mg base CX0 1 f12 d12 ["value", "keys"] (spTable K) := ok_table F12 L.mi L.md L.ml L.ma
  have G21 : FnOk P w K mg base CX0 2 f21 d21 ["value"] (spStand K) := ok_stand F21 L.mi L.mL L.mT L.ml L.ma G9 F9 g9 G11 F11 g11
  have G23 : FnOk P w K mg base CX0 2 f23 d23 ["value", "standings"] (spTab K leadB) := ok_lead F23 L.ma G12 F12 g12 G10 F10 g10
  have G22 : FnOk P w K mg base CX0 3 f22 d22 ["value", "standings"] (spDeeds K) := ok_deeds F22 L.mi L.md L.ml L.ma G9 F9 g9 G23 F23 g23
  have G24 : FnOk P w K mg base CX0 2 f24 d24 ["value", "standings"] (spTab K sightB) := ok_areS F24 L.ma G12 F12 g12 G9 F9 g9
  have GI : FnOk P w K mg base CX0 4 fI dI ["self", "standings", "deeds", "sights"] (spInit K C) := ok_init FI L.mT T.cl T.n1 T.n2 T.n3 G21 F21 g21 G22 F22 g22 G24 F24 g24
  have bIn : Binds K dI ["self", "standings", "deeds", "sights"] [] := FI.bindsN fun _ _ _ _ _ _ us hl => match us, hl with
    | [_, _, _, _], _ => rfl
  have G35 : FnOk P w K mg base CX0 1 f35 d35 ["_law_script", "_law_start"] (spSrc K) := ok_src F35 L.mn L.ml
  have G36 : FnOk P w K mg base CX0 1 f36 d36 ["_law_source_here", "_law_span"] spD := ok_d F36 L.mn
  have G37 : FnOk P w K mg base CX0 2 f37 d37 nPick (spPick K) := ok_pick F37 L.ml L.mn F36 g36
  have G38 : FnOk P w K mg base CX0 2 f38 d38 ["_law_source_here", "_law_things"] (spMixedA K) := ok_mixedA F38 L.ml L.mn L.mL F36 g36
  have G40 : FnOk P w K mg base CX0 4 f40 d40 ["_law_source_here", "_law_many"] spNames := ok_names F40 L.ml L.mn L.mR L.mL F36 g36 F37 g37 F38 g38 F39 g39
  have G41 : FnOk P w K mg base CX0 2 f41 d41 ["_law_source_here", "_law_many"] spTwins := ok_twins F41 L.mn L.mR F36 g36
  have G42 : FnOk P w K mg base CX0 3 f42 d42 ["_law_source_here", "_law_twins_here"] spLeads := ok_leads F42 L.ml L.mn L.mR L.mL L.mx F36 g36 F37 g37 F38 g38
  have G43 : FnOk P w K mg base CX0 5 f43 d43 ["_law_source_here", "_law_many"] spSights := ok_sights F43 L.ml L.mn L.mR G36 F36 g36 G37 F37 g37 G40 F40 g40
  have G44 : FnOk P w K mg base CX0 6 f44 d44 ["_law_source_here", "_law_most"] spDesk := ok_desk F44 L.mR L.md G36 F36 g36 G40 F40 g40 G41 F41 g41 G42 F42 g42 G43 F43 g43
  have G45 : FnOk P w K mg base CX0 1 f45 d45 ["_law_some"] spTurned := ok_turned F45 L.mL L.md
  have G46 : FnOk P w K mg base CX0 6 f46 d46 ["_law_desk_here"] (spMade K C) := ok_made F46 L.mL T.g Mk1 GI bIn G45 F45 g45
  have G47 : FnOk P w K mg base CX0 1 f47 d47 ["_law_desk_here"] spNexts := ok_nexts F47
  have G48 : FnOk P w K mg base CX0 1 f48 d48 ["_law_names_here", "_law_visible", "_law_nexts_here"] (spApart K) := ok_apart F48 L.ml L.mR
  have G49 : FnOk P w K mg base CX0 1 f49 d49 ["_law_names_here", "_law_far"] (spGrX K) := ok_grX F49
  have G50 : FnOk P w K mg base CX0 1 f50 d50 ["_law_names_here"] (spStranger K) := ok_stranger F50
  have GG : FnOk P w K mg base CX0 1 gS dG nSelf (spStd C) := ok_std FG T.cl T.n1
  have bG : Binds K dG nSelf [] := bStd FG
  have GDd : FnOk P w K mg base CX0 1 gD dD nSelf (spDds K C) := ok_dds FD_ T.cl T.n2 L.mT
  have bDd : Binds K dD nSelf [] := bDds FD_
  have GS0 : FnOk P w K mg base CX0 2 fS dS nSight (spSight0 K C) := ok_sight0 FS T.cl T.n1 T.n3 G10 F10 g10
  have GL0 : FnOk P w K mg base CX0 2 fL dL ["self", "standing", "row"] (spLead0 K C) := ok_lead0 FL T.cl T.n1 T.n2 L.me G10 F10 g10
  have GE : FnOk P w K mg base CX0 1 fE dE nEq (spEqK K C) := ok_eqK FE L.mi L.mT T
  have bE : Binds K dE nEq [] := FE.bindsN fun _ _ _ _ _ _ us hl => match us, hl with
    | [_, _], _ => rfl
  have G25 : FnOk P w K mg base CX0 1 f25 d25 ["desk"] (spDl K C) := ok_dl F25 T.cl T.n2 L.md
  have G26 : FnOk P w K mg base CX0 3 f26 d26 ["desk"] (spMv K C) := ok_mv F26 T.cl PS_ GG bG G25 F25 g25
  have G27 : FnOk P w K mg base CX0 3 f27 d27 ["desk"] (spSi K C) := ok_si F27 T.cl PS_ GG bG MS GS0 FS
  have GN1 : FnOk P w K mg base CX0 1 f15 d15 ["nodes", "signs"] (spNum1 K) := ok_num1 F15 L.ml
  have GN2 : FnOk P w K mg base CX0 1 f15 d15 ["nodes", "signs"] (spNum2 K) := ok_num2 F15 L.ml
  have G17 : FnOk P w K mg base CX0 1 f17 d17 nCl spCl := ok_cl F17 L.ml L.mS L.mL
  have G16 : FnOk P w K mg base CX0 2 f16 d16 ["nodes", "signs", "moves"] (spLn K) := ok_ln F16 L.ml L.mL L.mT GN1 GN2 F15 g15 G17 F17 g17
  have G30 : FnOk P w K mg base CX0 4 f30 d30 nDo (spLots K C) := ok_lots F30 T.cl PS_ GG bG G16 F16 g16 G27 F27 g27 G26 F26 g26
  have G18 : FnOk P w K mg base CX0 1 f18 d18 ["nodes", "lots"] (spGa K) := ok_ga F18 L.mL
  have G29 : FnOk P w K mg base CX0 5 f29 d29 nLo (spLo K C) := ok_lo F29 T.cl PS_ GG bG G30 F30 g30 G18 F18 g18
  have G32 : FnOk P w K mg base CX0 3 f32 d32 ["standings", "value"] (spIpA K C) := ok_ipA F32 L.mi L.mL L.ml L.ma GE eE iE bE (L.N "str" (by decide)) (L.kN "str" (by decide))
  have G33 : FnOk P w K mg base CX0 3 f33 d33 ["desk", "lot", "places"] (spKt K C) := ok_kt F33 L.ma T.cl PD GDd bDd ML GL0 FL MS GS0 FS
  have G31 : FnOk P w K mg base CX0 4 f31 d31 ["desk", "value"] (spIlA K C) := ok_ilA F31 L.me L.ma T.cl PS_ GG bG G32 F32 g32 G33 F33 g33
  have G51 : FnOk P w K mg base CX0 1 f51 d51 ["_law_desk_here", "_law_value_here"] (spLk K) := ok_lk F51 L.mi L.mL L.ms L.ml L.me
  have G52 : FnOk P w K mg base CX0 3 f52 d52 ["_law_source_here", "_law_desk_here", "_law_groups_here"] spVa := ok_va F52 L.ml L.mR L.me G36 F36 g36 G38 F38 g38
  have G53 : FnOk P w K mg base CX0 3 f53 d53 ["_law_source_here", "_law_desk_here", "_law_value_here"] spSp := ok_sp F53 L.ml L.mT L.md G36 F36 g36 G37 F37 g37 G50 F50 g50
  exact ⟨⟨_, _, F35.kp, F35.bindsN fun _ _ _ _ _ _ us hl => match us, hl with
    | [_, _], _ => rfl, g35, G35⟩, ⟨_, _, F36.kp, bD F36, g36, G36⟩, ⟨_, _, F44.kp, F44.bindsN fun _ _ _ _ _ _ us hl => match us, hl with
    | [_, _], _ => rfl, g44, G44⟩, ⟨_, _, F46.kp, F46.bindsN fun _ _ _ _ _ _ us hl => match us, hl with
    | [_], _ => rfl, g46, G46⟩, ⟨_, _, F47.kp, F47.bindsN fun _ _ _ _ _ _ us hl => match us, hl with
    | [_], _ => rfl, g47, G47⟩, ⟨_, _, F48.kp, F48.bindsN fun _ _ _ _ _ _ us hl => match us, hl with
    | [_, _, _], _ => rfl, g48, G48⟩, ⟨_, _, F49.kp, bGr F49, g49, G49⟩, ⟨_, _, F29.kp, bLo F29, g29, G29⟩, ⟨_, _, F31.kp, bIl F31, g31, G31⟩, ⟨_, _, F51.kp, bLk F51, g51, G51⟩, ⟨_, _, F52.kp, bVa F52, g52, G52⟩, ⟨_, _, F53.kp, bSp F53, g53, G53⟩⟩
end Dk
set_option Elab.async false
set_option linter.all false
set_option maxRecDepth 100000
set_option maxHeartbeats 8000000
namespace Dk
open PySem PySem.Spec PyProof.Rows L2 Er LamX NdefX Dc2
/-! ### defs that are called where no repr runs -/
structure FnOkG (P : Program) (w : World) (K : PySem.W.Frag) (mg : Str → Option Value) (base : Heap) (CX : CXT) (k : Nat) (f : Addr) (fd : FuncData) (ps : List Str) (sp : Sp) : Prop where
  len : ∀ vs H Q E, sp vs H Q E → vs.length = ps.length
  run : ∀ (A : Around) (outer : List Env) (s : Shared) (H : Hp) (args : Args) (us : List Value) (vs : List V) (Q : VK) (E : XK), A.guards = some [] → Room k A → Env0 P w K mg base A outer s H → BindsTo s fd args (ps.zip us) → Vals vs us → sp vs H Q E →
    codeAny (model P w) A (.call (.ref f) args) (CR CX outer P w H s Q E) s
section
variable {P : Program} {w : World} {K : PySem.W.Frag} {mg : Str → Option Value} {base : Heap} {k : Nat} {f : Addr} {fd : FuncData} {x qual : Str} {params : Arguments} {body : List Stmt} {scope : Scope} {dvs : List V} {kws : List (Str × V)}
theorem okG {CX : CXT} {N ps : List Str} {sp : Sp} (F : FunD K x qual params body scope dvs kws f fd) (S : FnScope N ps scope) (len : ∀ vs H Q E, sp vs H Q E → vs.length = ps.length)
    (hbody : ∀ (cdv : Value) (A : Around) (outer : List Env) (s : Shared) (H : Hp) (vs : List V) (Q : VK) (E : XK), A.guards = some [] → Room k (A.deeper (envOfC qual scope s.heap.objs.size f cdv)) → sp vs H Q E →
      ∃ t, PSs (cxOf CX P w K mg base N qual scope f cdv A outer s H E) body t ∧ t { nx := fun _ H' => Q .non H', rt := Q } (start N vs) H) : FnOkG P w K mg base CX (k + 1) f fd ps sp := by
  obtain ⟨oc, od, dV, kV, doc, pm, an, cdv, ct, osl, rfl, lk, hcd, _, _⟩ := F.ex
  refine ⟨len, fun A outer s H args us vs Q E hg hr e0 hb r hsp => ?_⟩
  have many := len _ _ _ _ hsp
  have inK : K.In s.heap := PySem.W.Frag.In.keeps e0.mod.kin fun b o e => (e0.bs b o e).1
  have free : s.heap.NoLimit := e0.mod.nolimit.keeps fun b o e => (e0.bs b o e).1
  have kinds : ∀ y ∈ ps.zip us, scope.names.lookup y.1 = some .local ∨ (scope.names.lookup y.1 = some .cell ∧ ((cellsFrom (s.heap.objs.size + 1) scope.names []).lookup y.1).isSome = true) := fun y hy => by
    obtain ⟨n, v⟩ := y
    rcases S.par n (List.of_mem_zip hy).1 with e | e
    · exact .inl e
    · exact .inr ⟨e, PySem.W.cellsFrom_some _ _ _ (.inl e)⟩
  refine codeAny_call_function hr.depth (inK _ _ lk) rfl S.co S.gen rfl (PySem.W.codeRec_of inK hcd) (hb _ _ _ _ ?_)
  refine wpAny_newFunctionEnv_cells S.kind kinds fun env he s1 x => ?_
  subst he
  refine ⟨free.keeps x.toInCall.keep, codeAny_func ?_⟩
  obtain ⟨t, ht, hq⟩ := hbody cdv A outer s H vs Q E hg (hr.deeper _) hsp
  have I := inv_start (CX := CX) (P := P) (w := w) (K := K) (mg := mg) (base := base) (E := E) S hr.hd e0 many r x
  refine wpAny_mono (ht.run [] s1 (start N vs) H _ I hq) (fun fl s' hs => ?_) fun e s' z => z
  cases fl with
  | ret u =>
    obtain ⟨v, σ', H', J, rv, q⟩ := hs
    exact ⟨v, H', J.os, J.bare, J.base, J.hok, rv, q⟩
  | next =>
    obtain ⟨σ', H', J, q⟩ := hs
    exact ⟨V.non, H', J.os, J.bare, J.base, J.hok, rfl, q⟩
  | brk =>
    obtain ⟨_, _, _, q⟩ := hs
    exact q.elim
  | cont =>
    obtain ⟨_, _, _, q⟩ := hs
    exact q.elim
end
end Dk
set_option Elab.async false
set_option linter.all false
set_option maxRecDepth 100000
set_option maxHeartbeats 8000000
namespace Dk
open PySem PySem.Spec PyProof.Rows L2 Er LamX NdefX Dc2
/-! ### what stays, but for a source and some tables -/
theorem DkIs.more {m m2 : Nat} {ws ds : List Str} {tb : List (List Str)} {ls : List Str} (h : DkIs m ws ds tb ls) (l : m ≤ m2) : DkIs m2 ws ds tb ls := { h with most := Nat.le_trans h.most l }
theorem src_ne {H : Hp} {p a : Addr} {o : HO} (s : Src H p) (e : H a = some o) (n : ∀ i j : Int, o ≠ .lst [.int i, .int j]) : a ≠ p := fun z => by
  obtain ⟨own, mix, h, _⟩ := s
  rw [z, h] at e
  exact n _ _ (Option.some.inj e).symm
theorem src_ne_strs0 {H : Hp} {p a : Addr} {ws : List Str} (s : Src H p) (e : H a = some (.lst (ws.map V.str))) : a ≠ p := src_ne s e fun i j z => by
  cases ws with
  | nil => exact nomatch HO.lst.inj z
  | cons w ws =>
    have := HO.lst.inj z
    simp at this
theorem str_at {ws : List Str} {k : Nat} {v : V} (h : (ws.map V.str)[k]? = some v) : ∃ z ∈ ws, v = .str z := by
  obtain ⟨z, hz, e⟩ := List.mem_map.mp (List.mem_of_getElem? h)
  exact ⟨z, hz, e.symm⟩
theorem src_upd {H : Hp} {p a : Addr} {o : HO} (s : Src H p) (n : a ≠ p) : Src (upd H a o) p := by
  obtain ⟨own, mix, e, r⟩ := s
  exact ⟨own, mix, by rw [upd_ne (Ne.symm n)]; exact e, r⟩
theorem sm_upd {B G : Hp} {a : Addr} {o : HO} (m : Sm B G) (h : B a = none) : Sm B (upd G a o) := fun b u e => by
  rw [upd_ne (fun z => by rw [z, h] at e; cases e)]
  exact m b u e
theorem sm_sx {B G G2 : Hp} {p : Addr} (m : Sm B G) (h : B p = none) (x : Sx p G G2) : Sm B G2 := fun b o e => x b o (fun z => by rw [z, h] at e; cases e) (m b o e)
structure Kp (B G : Hp) (Pt : List NTab) (p : Addr) : Prop where
  sm : Sm B G
  tabs : TabsN Pt G
  src : Src G p
  bp : B p = none
  nt : ∀ b ps, B b ≠ some (.tbl ps)
theorem tabs_of {Pt : List NTab} {H H' : Hp} (t : TabsN Pt H) (e : ∀ q ∈ Pt, H' q.1 = H q.1) (n : ∀ c q, H c = some (CodeO c q) → H' c = some (CodeO c q)) : TabsN Pt H' := by
  intro q hq
  obtain ⟨ps, h, r1, r2⟩ := t q hq
  refine ⟨ps, (e q hq).trans h, r1, fun pos cv hc => ?_⟩
  obtain ⟨c, e1, e2⟩ := r2 pos cv hc
  exact ⟨c, e1, n _ _ e2⟩
section
variable {B G G' : Hp} {Pt : List NTab} {p : Addr}
theorem Kp.grow (k : Kp B G Pt p) (m : Sm G G') : Kp B G' Pt p := ⟨Sm.trans k.sm m, k.tabs.ext m, k.src.sm m, k.bp, k.nt⟩
theorem Kp.drawn (k : Kp B G Pt p) (m : Sx p G G') (s : Src G' p) : Kp B G' Pt p := by
  refine ⟨sm_sx k.sm k.bp m, tabs_of k.tabs (fun q hq => ?_) (fun c q e => m _ _ (src_ne k.src e fun _ _ z => nomatch z) e), s, k.bp, k.nt⟩
  obtain ⟨ps, h, _⟩ := k.tabs q hq
  rw [h]
  exact m _ _ (src_ne k.src h fun _ _ z => nomatch z) h
theorem Kp.come (k : Kp B G Pt p) (m : ExtN G G') (t : TabsN Pt G') : Kp B G' Pt p := by
  obtain ⟨own, mix, e, r⟩ := k.src
  exact ⟨fun b o e => m b o (k.sm b o e) fun ps z => k.nt b ps (z ▸ e), t, ⟨own, mix, m _ _ e (fun _ z => nomatch z), r⟩, k.bp, k.nt⟩
theorem Kp.set (k : Kp B G Pt p) {a : Addr} {o : HO} {xs : List V} (e : G a = some (.lst xs)) (h : B a = none) (n2 : a ≠ p) : Kp B (upd G a o) Pt p := by
  refine ⟨sm_upd k.sm h, tabs_of k.tabs (fun q hq => upd_ne fun z => ?_) (fun c q ec => ?_), src_upd k.src n2, k.bp, k.nt⟩
  · obtain ⟨ps, hp, _⟩ := k.tabs q hq
    rw [z, e] at hp
    cases hp
  · rw [upd_ne fun z => by
      rw [z, e] at ec
      cases ec]
    exact ec
/-- a heap without the source and without tables -/
def cl (p : Addr) (G : Hp) : Hp := fun b => if b = p then none else match G b with
  | some (.tbl _) => none
  | o => o
theorem cl_at {b : Addr} {o : HO} (e : G b = some o) (n : b ≠ p) (h : ∀ ps, o ≠ .tbl ps) : cl p G b = some o := by
  unfold cl
  rw [if_neg n, e]
  cases o with
  | tbl ps => exact absurd rfl (h ps)
  | _ => rfl
theorem cl_le : Sm (cl p G) G := fun b o e => by
  unfold cl at e
  by_cases c : b = p
  · rw [if_pos c] at e
    cases e
  · rw [if_neg c] at e
    cases z : G b with
    | none =>
      rw [z] at e
      cases e
    | some u =>
      rw [z] at e
      cases u with
      | tbl ps => cases e
      | _ => exact e
theorem cl_nt (b : Addr) (ps : Array Value) : cl p G b ≠ some (.tbl ps) := fun e => by
  have z := cl_le b _ e
  unfold Dk.cl at e
  by_cases c : b = p
  · rw [if_pos c] at e
    cases e
  · rw [if_neg c, z] at e
    cases e
theorem Kp.cl (k : Kp B G Pt p) : Kp (cl p G) G Pt p := ⟨cl_le, k.tabs, k.src, if_pos rfl, cl_nt⟩
theorem Kp.le (k : Kp B G Pt p) : Sm B (Dk.cl p G) := fun b o e => cl_at (k.sm b o e) (fun z => by rw [z, k.bp] at e; cases e) fun ps z => k.nt b ps (z ▸ e)
theorem cl_src {b : Addr} {o : HO} (s : Src G p) (e : G b = some o) (h : ∀ i j : Int, o ≠ .lst [.int i, .int j]) (n : ∀ ps, o ≠ .tbl ps) : Dk.cl p G b = some o := cl_at e (src_ne s e h) n
end
theorem DkAt.sm {G G' : Hp} {u nm dd sg : Addr} {ws ds : List Str} {as : List Addr} {tb : List (List Str)} {ls : List Str} (h : DkAt G u nm dd sg ws ds as tb ls) (m : Sm G G') : DkAt G' u nm dd sg ws ds as tb ls := by
  obtain ⟨h1, h2, h3, h4, h5⟩ := h
  exact ⟨m _ _ h1, m _ _ h2, m _ _ h3, m _ _ h4, pair_mono h5 fun a _ vs e => m _ _ e⟩
theorem DkAt.cl {G : Hp} {u nm dd sg p : Addr} {ws ds : List Str} {as : List Addr} {tb : List (List Str)} {ls : List Str} (h : DkAt G u nm dd sg ws ds as tb ls) (s : Src G p) : DkAt (Dk.cl p G) u nm dd sg ws ds as tb ls := by
  obtain ⟨h1, h2, h3, h4, h5⟩ := h
  exact ⟨cl_src s h1 (fun _ _ z => nomatch z) (fun _ z => nomatch z), cl_at h2 (src_ne_strs0 s h2) (fun _ z => nomatch z), cl_src s h3 (fun _ _ z => nomatch z) (fun _ z => nomatch z), cl_src s h4 (fun _ _ z => nomatch z) (fun _ z => nomatch z),
    pair_mono h5 fun a _ vs e => cl_src s e (fun _ _ z => nomatch z) (fun _ z => nomatch z)⟩
theorem SqT.cl {K : PySem.W.Frag} {G : Hp} {a p : Addr} {xs : List V} (h : SqT K G a xs) (s : Src G p) : SqT K (Dk.cl p G) a xs := by
  rcases h with (h | ⟨o, h⟩) | h
  · exact .inl (.inl (cl_src s h (fun _ _ z => nomatch z) (fun _ z => nomatch z)))
  · exact .inl (.inr ⟨o, cl_src s h (fun _ _ z => nomatch z) (fun _ z => nomatch z)⟩)
  · exact .inr h
theorem DeskOb.cl {K : PySem.W.Frag} {C : Addr} {G : Hp} {x p : Addr} {ws ds : List Str} {tb : List (List Str)} {ls : List Str} (h : DeskOb K C G x ws ds tb ls) (s : Src G p) : DeskOb K C (Dk.cl p G) x ws ds tb ls := by
  obtain ⟨dx, st, ld, si, as, h1, h2, h3, h4, pr⟩ := h
  exact ⟨dx, st, ld, si, as, cl_src s h1 (fun _ _ z => nomatch z) (fun _ z => nomatch z), SqT.cl h2 s, cl_src s h3 (fun _ _ z => nomatch z) (fun _ z => nomatch z), cl_src s h4 (fun _ _ z => nomatch z) (fun _ z => nomatch z),
    pair_mono pr fun a _ vs e => cl_src s e (fun _ _ z => nomatch z) (fun _ z => nomatch z)⟩
theorem cut_all (xs : List V) (n : Nat) (h : xs.length ≤ n) : cutV xs none (some (n : Int)) = xs := by
  unfold cutV
  rw [HT.sIx_none, HT.sIx_nat, show min n xs.length = xs.length by omega]
  simp
/-- the deed that a number tells -/
theorem ptn_grp {ws : List Str} {nu : Str → Nat} (few : ws.length ≤ 9) (nd : ws.Nodup) : Ptn ws (grp nu ws) ∧ (∀ z, z ∈ (grp nu ws).flatten ↔ z ∈ ws) := by
  have mem : ∀ z, z ∈ (grp nu ws).flatten ↔ z ∈ ws := fun z => by
    rw [List.mem_flatten]
    constructor
    · rintro ⟨g, hg, hz⟩
      obtain ⟨k, _, rfl⟩ := List.mem_map.mp hg
      exact (List.mem_filter.mp hz).1
    · exact fun hz => ⟨_, List.mem_map.mpr ⟨nu z, Lo.mem_seen.mpr ⟨z, hz, rfl⟩, rfl⟩, List.mem_filter.mpr ⟨hz, decide_eq_true rfl⟩⟩
  have fnd : (grp nu ws).flatten.Nodup := by
    refine List.pairwise_flatten.mpr ⟨fun g hg => ?_, ?_⟩
    · obtain ⟨k, _, rfl⟩ := List.mem_map.mp hg
      exact nd.sublist List.filter_sublist
    · unfold grp
      refine List.pairwise_map.mpr ((seen_nd (f := nu) ws).imp fun {k j} n x hx y hy e => n ?_)
      have a := of_decide_eq_true (List.mem_filter.mp hx).2
      have b := of_decide_eq_true (List.mem_filter.mp hy).2
      rw [← a, ← b, e]
  refine ⟨⟨few, nd, fun g hg => ?_, ((List.perm_ext_iff_of_nodup fnd nd).mpr mem).length_eq, fun z hz => (mem z).mpr hz⟩, mem⟩
  obtain ⟨k, hk, rfl⟩ := List.mem_map.mp hg
  obtain ⟨z, hz, e⟩ := Lo.mem_seen.mp hk
  exact List.length_pos_of_mem (List.mem_filter.mpr ⟨hz, decide_eq_true e⟩)
theorem plc_grp {ws : List Str} {nu : Str → Nat} (few : ws.length ≤ 9) (nd : ws.Nodup) {z y : Str} (hz : z ∈ ws) (hy : y ∈ ws) (e : nu z = nu y) : plc (grp nu ws) z = plc (grp nu ws) y := by
  have pt := (ptn_grp (nu := nu) few nd).1
  have hg : (ws.filter fun x => decide (nu x = nu z)) ∈ grp nu ws := List.mem_map.mpr ⟨nu z, Lo.mem_seen.mpr ⟨z, hz, rfl⟩, rfl⟩
  obtain ⟨i, hi, ei⟩ := List.mem_iff_getElem.mp hg
  have e1 : (grp nu ws)[i]? = some (ws.filter fun x => decide (nu x = nu z)) := by rw [List.getElem?_eq_getElem hi, ei]
  rw [plc_at pt.fnd e1 (List.mem_filter.mpr ⟨hz, decide_eq_true rfl⟩), plc_at pt.fnd e1 (List.mem_filter.mpr ⟨hy, decide_eq_true e.symm⟩)]
end Dk
set_option Elab.async false
set_option linter.all false
set_option maxRecDepth 100000
set_option maxHeartbeats 8000000
namespace Dk
open PySem PySem.Spec PyProof.Rows L2 Er LamX NdefX Bf Dc2
/-! ### the lots that are told -/
def lotsD (Gs : List (List Str)) : List PyData := Gs.map fun g => .list (g.map PyData.str)
theorem dp_lotsX {K : PySem.W.Frag} {G : Hp} {es : List Addr} {ls : List (List Str)} (h : Paired (fun e (l : List Str) => G e = some (.lst (l.map V.str))) es ls) : DpAll K G (es.map V.ref) (lotsD ls) := by
  induction h with
  | nil => exact .nil
  | cons a _ ih => exact .cons (.lst (.inl (.inl a)) (dp_strs _)) ih
theorem lay_lots : ∀ {Gs : List (List Str)}, (∀ g ∈ Gs, ∀ z ∈ g, IsWord z) → PyData.canLayAll0 (lotsD Gs) = true ∧ PyData.depthAll (lotsD Gs) ≤ 2
  | [], _ => by simp [lotsD, PyData.canLayAll0, PyData.depthAll]
  | g :: Gs, h => by
    have a := lay_strs (h g List.mem_cons_self)
    have b := lay_lots (Gs := Gs) fun x hx => h x (List.mem_cons_of_mem _ hx)
    unfold lotsD at b ⊢
    simp only [List.map_cons, PyData.canLayAll0, PyData.canLay0, PyData.depthAll, PyData.depth, a.1, b.1, Bool.and_true]
    have := a.2
    have := b.2
    exact ⟨trivial, by omega⟩
theorem eqv_lots : ∀ Gs : List (List Str), PyData.eqvAll (lotsD Gs) (lotsD Gs) = true
  | [] => rfl
  | g :: Gs => by
    have := eqv_lots Gs
    unfold lotsD at this ⊢
    simp only [List.map_cons, PyData.eqvAll, PyData.eqv, this, eqv_strs, decide_eq_true (rfl : g = g)]
    rfl
/-- the lots of those that are alike are a likeness -/
theorem like_grp {ws ds : List Str} {tb : List (List Str)} {ls : List Str} {nu : Str → Nat} (is : DkIs 9 ws ds tb ls) (clo : ∀ z ∈ ws, ∀ d ∈ ds, nxt ws ds tb z d ∈ ws) (A : Alk (nxt ws ds tb) (look ws ls) ds ws nu) : LikP ws (nxt ws ds tb) (look ws ls) ds ((grp nu ws).map gO) := by
  obtain ⟨pt, mem⟩ := ptn_grp (nu := nu) is.most is.nd
  refine ⟨grp nu ws, rfl, pt, fun g hg g0 e0 z hz => ?_⟩
  have sub : ∀ y ∈ g, y ∈ ws := fun y hy => pt.sub y (List.mem_flatten.mpr ⟨g, hg, hy⟩)
  have h0 := List.mem_of_getElem? e0
  obtain ⟨k, _, rfl⟩ := List.mem_map.mp hg
  have n1 : nu z = k := of_decide_eq_true (List.mem_filter.mp hz).2
  have n2 : nu g0 = k := of_decide_eq_true (List.mem_filter.mp h0).2
  have a := al_iff.mpr ((A z (sub z hz) g0 (sub g0 h0)).mp (n1.trans n2.symm))
  refine ⟨al_look a, fun d hd => ?_⟩
  have b := al_iff.mp (al_on a hd)
  exact plc_grp is.most is.nd (clo z (sub z hz) d hd) (clo g0 (sub g0 h0) d hd) ((A _ (clo z (sub z hz) d hd) _ (clo g0 (sub g0 h0) d hd)).mpr b)
theorem words_ents {K : PySem.W.Frag} {C : Addr} {G : Hp} {Gs : List (List Str)} (h : ∀ g ∈ Gs, ∀ z ∈ g, IsWord z) : EntOk K C G (entsOf (Gs.map gO)) := by
  rw [ents_strs]
  refine .inl ⟨Gs.flatten.map PyData.str, dp_strs _, ?_⟩
  have a := lay_strs (ws := Gs.flatten) fun z hz => by
    obtain ⟨g, hg, hz⟩ := List.mem_flatten.mp hz
    exact h g hg z hz
  exact shaped_two a.1 (by have := a.2; omega)
theorem lots_view {K : PySem.W.Frag} {G : Hp} {es : List Addr} {Gs : List (List Str)} (p : Paired (fun e (l : List Str) => G e = some (.lst (l.map V.str))) es Gs) (l : ∀ g ∈ Gs, g.length ≤ 40) : Paired (LotV K G) (es.map V.ref) (Gs.map gO) := by
  induction p with
  | nil => exact .nil
  | cons a _ ih => exact .cons ⟨by rw [List.length_map]; exact l _ List.mem_cons_self, _, rfl, a⟩ (ih fun g hg => l g (List.mem_cons_of_mem _ hg))
theorem paired_map {α β γ : Type} {F : α → β → Prop} {F2 : α → γ → Prop} {f : β → γ} {ps : List α} {qs : List β} (p : Paired F ps qs) (h : ∀ a b, F a b → F2 a (f b)) : Paired F2 ps (qs.map f) := by
  induction p with
  | nil => exact .nil
  | cons a _ ih => exact .cons (h _ _ a) ih
theorem ValW.sx {ws : List Str} {n k : Nat} {H G G2 : Hp} {q p : Addr} (hs : Src H p) (h : ValW ws n k H G q) (m : Sx p G G2) : ValW ws n k H G2 q := by
  obtain ⟨a, xs, e, l1, l2, r⟩ := h
  exact ⟨a, xs, m _ _ (hs.ne a) e, l1, l2, fun x hx => LotW.sx hs (r x hx) m⟩
open Classical in
/-- what both tell of such a value -/
theorem okv_both {K : PySem.W.Frag} {C : Addr} {G : Hp} {v : V} (ws : List Str) (nx : Str → Str → Str) (lk : Str → Str) (ds : List Str) (h : OkV G v) : ∃ b : Bool,
    (∀ G2, Sm G G2 → ∀ R : Bool → Hp → Prop, (∀ G', Sm G2 G' → R b G') →
      (∃ (q : Addr) (xs : List V) (its : List (Option (List V))), v = .ref q ∧ G2 q = some (.lst xs) ∧ Paired (LotV K G2) xs its ∧ xs.length ≤ 20 ∧ (∀ x ∈ entsOf its, EnS K G2 x) ∧ ∀ (b : Bool) G', Sm G2 G' → (b = true ↔ LikP ws nx lk ds its) → R b G') ∨ (NotL K G2 v ∧ ∀ G', Sm G2 G' → R false G')) ∧
    (∀ G2, Sm G G2 → ∀ R : Bool → Hp → Prop, (∀ G', Sm G2 G' → R b G') →
      (∃ (q : Addr) (xs : List V) (its : List (Option (List V))), v = .ref q ∧ G2 q = some (.lst xs) ∧ Paired (LotV K G2) xs its ∧ xs.length ≤ 20 ∧ EntOk K C G2 (entsOf its) ∧ ∀ (b : Bool) G', Sm G2 G' → (b = true ↔ LikP ws nx lk ds its) → R b G') ∨ (NotL K G2 v ∧ ∀ G', Sm G2 G' → R false G')) := by
  rcases okv_view (K := K) h with n | ⟨q, xs, its, rfl, e, pr, l, ⟨es, d1, d2⟩, en⟩
  · exact ⟨false, fun G2 m Q f => .inr ⟨n.sm m, f⟩, fun G2 m Q f => .inr ⟨n.sm m, f⟩⟩
  · have f2 : ∀ {G2 : Hp} {R : Bool → Hp → Prop}, (∀ G', Sm G2 G' → R (decide (LikP ws nx lk ds its)) G') → ∀ (b : Bool) G', Sm G2 G' → (b = true ↔ LikP ws nx lk ds its) → R b G' := fun f b G' m' i => by
      have : b = decide (LikP ws nx lk ds its) := by
        rw [Bool.eq_iff_iff, decide_eq_true_iff]
        exact i
      rw [this]
      exact f G' m'
    have pr2 : ∀ {G2 : Hp}, Sm G G2 → Paired (LotV K G2) xs its := fun m => pair_mono pr fun a _ o w => LotV.sm w m
    exact ⟨decide (LikP ws nx lk ds its), fun G2 m Q f => .inl ⟨q, xs, its, rfl, m _ _ e, pr2 m, l, fun x hx => (en x hx).sm m, f2 f⟩, fun G2 m Q f => .inl ⟨q, xs, its, rfl, m _ _ e, pr2 m, l, .inl ⟨es, dpAll_sm m d1, d2⟩, f2 f⟩⟩
end Dk
set_option Elab.async false
set_option linter.all false
set_option maxRecDepth 100000
set_option maxHeartbeats 16000000
namespace Dk
open PySem PySem.Spec PyProof.Rows L2 Er LamX NdefX Dc2
/-! ### the law's body -/
def spLaw (K : PySem.W.Frag) : Sp := fun vs H Q _ => ∃ (a : Addr) (ns : List Int), vs = [.ref a] ∧ SqL K H a (ns.map V.int) ∧ ns.length ≤ 63 ∧ (∀ z ∈ ns, Builtin.Int.intBits z ≤ 1048576) ∧ ∀ H', Q (.bl true) H'
abbrev nW : List Str := ["_law_script", "_law_start", "_law_source_here", "_law_turn", "_law_base", "_law_desk_here", "_law_far", "_law_groups_here", "_law_lap", "_law_told", "_law_look", "_law_value_here", "_law_due", "_law_before"]
theorem scW : FnScope nW ["_law_script"] (defScope (top 54)) := ⟨rfl, rfl, rfl, by decide +kernel, rfl, by decide +kernel, by decide +kernel⟩
theorem tif_two {c : Bool} {σ : L2.St} {H : Hp} {Q : V → Hp → Prop} (h : ∀ m : Nat, 1 ≤ m → m ≤ 9 → Q (.int ((m : Nat) : Int)) H) : if c = true then tC (.int 9) σ H Q else tC (.int 5) σ H Q := by
  cases c with
  | true => exact iteT (h 9 (by decide) (by decide))
  | false => exact iteF (h 5 (by decide) (by decide))
section
variable {P : Program} {w : World} {K : PySem.W.Frag} {mg : Str → Option Value} {base : Heap} {C f : Addr} {fd : FuncData}
theorem ok_law (F : FnP K "law" (top 54) f fd) (L : Lk K mg C) : FnOkG P w K mg base CX0 7 f fd ["_law_script"] (spLaw K) := by
  have G := gs_of (P := P) (w := w) (base := base) L
  obtain ⟨f_src, d_src, k_src, b_src, g_src, G_src⟩ := G.src
  obtain ⟨f_draw, d_draw, k_draw, b_draw, g_draw, G_draw⟩ := G.draw
  obtain ⟨f_desk, d_desk, k_desk, b_desk, g_desk, G_desk⟩ := G.desk
  obtain ⟨f_made, d_made, k_made, b_made, g_made, G_made⟩ := G.made
  obtain ⟨f_nexts, d_nexts, k_nexts, b_nexts, g_nexts, G_nexts⟩ := G.nexts
  obtain ⟨f_apart, d_apart, k_apart, b_apart, g_apart, G_apart⟩ := G.apart
  obtain ⟨f_groups, d_groups, k_groups, b_groups, g_groups, G_groups⟩ := G.groups
  obtain ⟨f_lots, d_lots, k_lots, b_lots, g_lots, G_lots⟩ := G.lots
  obtain ⟨f_like, d_like, k_like, b_like, g_like, G_like⟩ := G.like
  obtain ⟨f_is_, d_is_, k_is_, b_is_, g_is_, G_is_⟩ := G.is_
  obtain ⟨f_value, d_value, k_value, b_value, g_value, G_value⟩ := G.value
  obtain ⟨f_spoilt, d_spoilt, k_spoilt, b_spoilt, g_spoilt, G_spoilt⟩ := G.spoilt
  refine okG (CX := CX0) F scW (fun vs H Q E h => ?_) (fun cdv A outer s H vs Q E hgd hr6 h => ?_)
  · obtain ⟨a, ns, rfl, _⟩ := h
    rfl
  have hr1 := hr6.mono (show 1 ≤ 6 by decide)
  have hr2 := hr6.mono (show 2 ≤ 6 by decide)
  have hr3 := hr6.mono (show 3 ≤ 6 by decide)
  have hr4 := hr6.mono (show 4 ≤ 6 by decide)
  have hr5 := hr6.mono (show 5 ≤ 6 by decide)
  have rep : CallR (cxOf CX0 P w K mg base nW "law" (defScope (top 54)) f cdv A outer s H E).nox (.builtin "repr") (fun xs H Q => ∃ v t, xs = [v] ∧ Rep H v t ∧ Q (.str t) H) := call_rV L.sys hgd hr6.units
  refine ⟨_, PSs.nox (pss_cons (ps_for PassesOwn.never rfl (pi_range1 rfl L.mR (pa_cons (pe_callB (call_max2 rfl) rfl L.mx PyProof.Rows.boot_max (pa_cons pe_int (pa_cons (pe_callB (call_min2 rfl) rfl L.mm PyProof.Rows.boot_min (pa_cons pe_int (pa_cons (pe_callB call_len rfl L.ml boot_len (pa_cons (pv 0) pa_nil)) pa_nil))) pa_nil))) pa_nil)) (pg_name (i := 1) scW.nd rfl (.inl rfl)) (pss_cons (ps_set (i := 2) scW.nd rfl (.inl rfl) (by exact (pe_call G_src hr1 rfl g_src k_src b_src .nil pass0 (pa_cons (pv 0) (pa_cons (pv 1) pa_nil)))))
      (pss_one (ps_for PassesOwn.never rfl (pi_range1 rfl L.mR (pa_cons pe_int pa_nil)) (pg_name (i := 3) scW.nd rfl (.inl rfl)) (pss_cons (ps_set (i := 4) scW.nd rfl (.inl rfl) (by exact (pe_call G_desk hr6 rfl g_desk k_desk b_desk .nil pass0 (pa_cons (pv 2) (pa_cons (by exact (pe_ifExp (by exact (pt_cmpR op_eq (pv 3) pe_int (nomark _))) pe_int pe_int)) pa_nil)))))
      (pss_cons (ps_par (i := 5) (j := 6) rfl scW.nd rfl rfl (by decide) rfl rfl (pa_cons (by exact (pe_call G_made hr6 rfl g_made k_made b_made .nil pass0 (pa_cons (pv 4) pa_nil))) (pa_cons (by exact (pe_call G_apart hr1 rfl g_apart k_apart b_apart .nil pass0 (pa_cons (by exact (pe_ix ix_tup (pv 4) pe_int (fun _ _ => rfl))) (pa_cons (by exact (pe_ix ix_tup (pv 4) pe_int (fun _ _ => rfl))) (pa_cons (by exact (pe_call G_nexts hr1 rfl g_nexts k_nexts b_nexts .nil pass0 (pa_cons (pv 4) pa_nil))) pa_nil))))) pa_nil)) (by rfl))
      (pss_cons (ps_set (i := 7) scW.nd rfl (.inl rfl) (by exact (pe_call G_groups hr1 rfl g_groups k_groups b_groups .nil pass0 (pa_cons (by exact (pe_ix ix_tup (pv 4) pe_int (fun _ _ => rfl))) (pa_cons (pv 6) pa_nil)))))
      (pss_cons (ps_for PassesOwn.never rfl (pi_range1 rfl L.mR (pa_cons pe_int pa_nil)) (pg_name (i := 8) scW.nd rfl (.inl rfl)) (pss_cons (ps_set (i := 9) scW.nd rfl (.inl rfl) (by exact (pe_call G_lots hr5 rfl g_lots k_lots b_lots .nil pass0 (pa_cons (pv 5) pa_nil))))
      (pss_cons (ps_if (PW.pt (pw_or (pt_cmpR (op_neD hr6.units) (pv 9) (pv 7) (nomark _)) (pw_or1 (pt_cmpR op_isnot_bl (by exact (pe_call G_like hr4 rfl g_like k_like b_like .nil pass0 (pa_cons (pv 5) (pa_cons (pv 9) pa_nil)))) pe_bl (nomark _))))) (pss_one (ps_ret pe_bl)) pss_nil)
      (pss_cons (ps_expr (pe_bm PySem.F.plainAttrs_list PySem.F.slot_list_append PySem.F.type_list_append mt_append (by exact (pe_ix ix_list (pv 9) pe_int (fun _ _ => rfl))) (pa_cons pe_str pa_nil)))
      (pss_one (ps_expr (pe_bm PySem.F.plainAttrs_list PySem.F.slot_list_append PySem.F.type_list_append mt_append (pv 9) (pa_cons (by exact (pe_lst (pa_cons pe_str pa_nil))) pa_nil))))))))
      (pss_cons (ps_for PassesOwn.never rfl (pi_range1 rfl L.mR (pa_cons pe_int pa_nil)) (pg_name (i := 10) scW.nd rfl (.inl rfl)) (pss_cons (ps_set (i := 11) scW.nd rfl (.inl rfl) (by exact (pe_call G_value hr3 rfl g_value k_value b_value .nil pass0 (pa_cons (pv 2) (pa_cons (pv 4) (pa_cons (pv 7) pa_nil))))))
      (pss_cons (ps_if (pt_cmpR op_eq (by exact (pe_call G_draw hr1 rfl g_draw k_draw b_draw .nil pass0 (pa_cons (pv 2) (pa_cons pe_int pa_nil)))) pe_int (nomark _)) (pss_one (ps_set (i := 11) scW.nd rfl (.inl rfl) (by exact (pe_call G_spoilt hr3 rfl g_spoilt k_spoilt b_spoilt .nil pass0 (pa_cons (pv 2) (pa_cons (pv 4) (pa_cons (pv 11) pa_nil))))))) pss_nil)
      (pss_cons (ps_par (i := 12) (j := 13) rfl scW.nd rfl rfl (by decide) rfl rfl (pa_cons (by exact (pe_call G_is_ hr1 rfl g_is_ k_is_ b_is_ .nil pass0 (pa_cons (pv 4) (pa_cons (pv 11) pa_nil)))) (pa_cons (by exact (pe_callB rep rfl L.mr boot_repr (pa_cons (pv 11) pa_nil))) pa_nil)) (by rfl))
      (pss_cons (ps_set (i := 9) scW.nd rfl (.inl rfl) (by exact (pe_call G_like hr4 rfl g_like k_like b_like .nil pass0 (pa_cons (pv 5) (pa_cons (pv 11) pa_nil)))))
      (pss_one (ps_if (PW.pt (pw_or (pt_cmpR op_ne (by exact (pe_cmpR op_is_bl (pv 9) pe_bl (nomark _))) (pv 12) (nomark _)) (pw_or (pt_cmpR op_eq (by exact (pe_cmpR op_is_bl (pv 9) pe_bl (nomark _))) (pv 12) (nomark _)) (pw_or1 (pt_cmpR op_ne (by exact (pe_callB rep rfl L.mr boot_repr (pa_cons (pv 11) pa_nil))) (pv 13) (nomark _)))))) (pss_one (ps_ret pe_bl)) pss_nil)))))))
      (pss_one (ps_for PassesOwn.never rfl (pi_list (by exact (pe_lst (pa_cons (pv 5) (pa_cons (by exact (pe_lst (pa_cons (pv 5) pa_nil))) (pa_cons (by exact (pe_lst (pa_cons (by exact (pe_lst (pa_cons (pv 5) pa_nil))) pa_nil))) (pa_cons (by exact (pe_lst (pa_cons (by exact (pe_lst (pa_cons (by exact (pe_ix ix_tup (pv 4) pe_int (fun _ _ => rfl))) pa_nil))) pa_nil))) (pa_cons (by exact (pe_lst (pa_cons (pv 4) pa_nil))) (pa_cons pe_int (pa_cons pe_str pa_nil)))))))))) (pg_name (i := 11) scW.nd rfl (.inl rfl)) (pss_one (ps_if (pt_cmpR op_isnot_bl (by exact (pe_call G_like hr4 rfl g_like k_like b_like .nil pass0 (pa_cons (pv 5) (pa_cons (pv 11) pa_nil)))) pe_bl (nomark _)) (pss_one (ps_ret pe_bl)) pss_nil)))))))))))))
      (pss_one (ps_ret pe_bl))), ?_⟩
  obtain ⟨a, ns, rfl, hS, hl, hb, q⟩ := h
  have sz : ∀ n : Nat, n ≤ 1000 → n ≤ sizeLine := fun n z => by
    rw [sizeLine_eq]
    omega
  refine ⟨_, rfl, _, _, rfl, .inl ⟨_, hS, rfl⟩, _, _, rfl, _, _, rfl, _, rfl, ?_, ?_, for_range (lo := 0) (fun i σ H' => ∃ v1 v2 v3 v4 v5 v6 v7 v8 v9 v10 v11 v12 v13 : Option V, σ = [some (.ref a), v1, v2, v3, v4, v5, v6, v7, v8, v9, v10, v11, v12, v13] ∧ SqL K H' a (ns.map V.int)) ⟨none, none, none, none, none, none, none, none, none, none, none, none, none, rfl, hS⟩ ?_ ?_⟩
  · split <;> (try split) <;> omega
  · split <;> (try split) <;> omega
  · rintro i σ H' hi ⟨v1, v2, v3, v4, v5, v6, v7, v8, v9, v10, v11, v12, v13, rfl, hS1⟩
    have i3 : i ≤ 3 := by
      revert hi
      split <;> (try split) <;> intro hi <;> omega
    clear hi
    refine ⟨_, rfl, _, rfl, a, ns, i, by simp, hS1, hl, i3, hb, fun p own mix np w0 w1 w2 => ?_⟩
    have s0 := Sm.new (o := .lst [.int own, .int mix]) np
    have src0 : Src (upd H' p (.lst [.int own, .int mix])) p := ⟨own, mix, upd_same, w0, w1, w2⟩
    have k0 : Kp (cl p (upd H' p (.lst [.int own, .int mix]))) (upd H' p (.lst [.int own, .int mix])) [] p := ⟨cl_le, (fun q hq => nomatch hq), src0, if_pos rfl, cl_nt⟩
    have aS : SqL K (cl p (upd H' p (.lst [.int own, .int mix]))) a (ns.map V.int) := by
      rcases hS1 with (e | ⟨o, e⟩) | e
      · exact .inl (.inl (cl_at (s0 _ _ e) (fun c => by rw [c, np] at e; cases e) fun _ z => nomatch z))
      · exact .inl (.inr ⟨o, cl_at (s0 _ _ e) (fun c => by rw [c, np] at e; cases e) fun _ z => nomatch z⟩)
      · exact .inr e
    generalize cl p (upd H' p (.lst [.int own, .int mix])) = B0 at k0 aS
    generalize upd H' p (.lst [.int own, .int mix]) = G0 at k0 ⊢
    clear s0 src0 np w0 w1 w2 hS1
    refine ⟨2, rfl, by decide, by decide, for_range (lo := 0) (n := 2) (fun j σ G => ∃ v1 v3 v4 v5 v6 v7 v8 v9 v10 v11 v12 v13 : Option V, σ = [some (.ref a), v1, some (.ref p), v3, v4, v5, v6, v7, v8, v9, v10, v11, v12, v13] ∧ Kp B0 G [] p) ⟨_, v3, v4, v5, v6, v7, v8, v9, v10, v11, v12, v13, rfl, k0⟩ ?_ ?_⟩
    · rintro j σ G hj ⟨v1, v3, v4, v5, v6, v7, v8, v9, v10, v11, v12, v13, rfl, k0⟩
      clear hj
      have bp0 := k0.bp
      have nt0 := k0.nt
      -- the desk
      refine ⟨_, rfl, _, rfl, rfl, _, rfl, tif_two fun m m1 m9 => ⟨p, m, rfl, k0.src, m1, m9, fun u nm dd sg ws ds as tb ls G1 sx1 src1 nu _ _ _ _ hk is0 => ?_⟩⟩
      have is := is0.more m9
      have k1 := k0.drawn sx1 src1
      have hk1 := hk.cl src1
      have b1 := k1.le
      have k1 := k1.cl
      generalize cl p G1 = B1 at k1 hk1 b1
      clear sx1 src1 nu hk k0 is0
      have w1 := is.some
      have w9 := is.most
      refine ⟨_, rfl, u, nm, dd, sg, ws, ds, as, tb, ls, 9, rfl, hk1.sm k1.sm, is, by decide, fun x G2 sm2 nx ob => ?_⟩
      have k2 := k1.grow sm2
      have ob2 := ob.cl k2.src
      have b2 := k2.le
      have k2 := k2.cl
      generalize cl p G2 = B2 at k2 ob2 b2
      clear sm2 nx ob k1
      have hk2 := hk1.sm b2
      obtain ⟨hu, hnm, hdd, hsg, pr⟩ := id hk2
      -- what parts them
      refine ⟨_, rfl, u, _, 0, .ref nm, rfl, rfl, .inl (.inl (k2.sm _ _ hu)), atI_nat (j := 0) rfl, _, rfl, u, _, 2, .ref sg, rfl, rfl, .inl (.inl (k2.sm _ _ hu)), atI_nat (j := 2) rfl, _, rfl, u, nm, dd, sg, ws, ds, as, tb, ls, 9, rfl, hk2.sm k2.sm, is, by decide, fun nn bs G4 sm4 nnn enn prn => ?_⟩
      have k4 := k2.grow sm4
      have clo : ∀ z ∈ ws, ∀ d ∈ ds, nxt ws ds tb z d ∈ ws := fun z hz d hd => by
        obtain ⟨_, _, _, h⟩ := ob_step pr is hd hz
        exact h
      refine ⟨nm, sg, nn, ws, ds, ls, bs, nxt ws ds tb, rfl, .inl (.inl (k4.sm _ _ hnm)), w1, w9, is.dmost, is.nd, is.word, k4.sm _ _ hsg, is.looks, ⟨enn, prn⟩, clo, fun fo far G5 sm5 nfo efo FA => ⟨_, _, rfl, ?_⟩⟩
      have k5 := k4.grow sm5
      -- the lots, by the law
      refine ⟨_, rfl, u, _, 0, .ref nm, rfl, rfl, .inl (.inl (k5.sm _ _ hu)), atI_nat (j := 0) rfl, _, rfl, nm, fo, ws, ws, ds, nxt ws ds tb, look ws ls, far, rfl, .inl (.inl (k5.sm _ _ hnm)), w9, (fun z h => h), is.word, efo, FA, fun gq es G6 sm6 ngq egq pes => ?_⟩
      have k6 := k5.grow sm6
      have egq' : cl p G6 gq = some (.lst (es.map V.ref)) := cl_at egq (k5.src.ne ngq) fun _ z => nomatch z
      have pes' : Paired (fun e h => cl p G6 e = some (.lst ((ws.filter (al (nxt ws ds tb) (look ws ls) ds h)).map V.str))) es (lHs (nxt ws ds tb) (look ws ls) ds ws) := pair_mono pes fun e _ h w => cl_at w.2 (k5.src.ne w.1) fun _ z => nomatch z
      have b6 := k6.le
      have k6 := k6.cl
      generalize cl p G6 = B6 at k6 b6 egq' pes'
      have hk6 := hk2.sm b6
      have ob6 := ob2.sm b6
      clear k5 k4 k2 sm4 nnn enn prn sm5 nfo efo hu hnm hdd hsg pr hk1 hk2 ob2 sm6 ngq egq pes
      obtain ⟨hu, hnm, hdd, hsg, pr⟩ := id hk6
      have b06 : Sm B0 B6 := Sm.trans b1 (Sm.trans b2 b6)
      clear b1 b2 b6
      obtain ⟨dx, st0, ld0, si0, as0, hx, _⟩ := id ob6
      have el : es.length = (lHs (nxt ws ds tb) (look ws ls) ds ws).length := paired_len pes'
      refine ⟨2, rfl, by decide, by decide, for_range (lo := 0) (n := 2) (fun k σ G => ∃ v1 v3 v8 v9 v10 v11 v12 v13 : Option V, σ = [some (.ref a), v1, some (.ref p), v3, some (.ref u), some (.ref x), some (.ref fo), some (.ref gq), v8, v9, v10, v11, v12, v13] ∧ Kp B6 G [] p) ⟨_, _, v8, v9, v10, v11, v12, v13, rfl, k6⟩ ?_ ?_⟩
      · rintro k σ G7 hkk ⟨v1, v3, v8, v9, v10, v11, v12, v13, rfl, k7⟩
        clear hkk
        refine ⟨_, rfl, x, ws, ds, tb, ls, 9, rfl, ob6.sm k7.sm, is, by decide, fun tq tas nu G8 m8 ntq ndp etq pr2 alk => ?_⟩
        have k8 := k7.grow m8
        obtain ⟨pt, mem⟩ := ptn_grp (nu := nu) w9 is.nd
        have wd : ∀ g ∈ grp nu ws, ∀ z ∈ g, IsWord z := fun g hg z hz => is.word z (pt.sub z (List.mem_flatten.mpr ⟨g, hg, hz⟩))
        have pr3 : Paired (fun a (g : List Str) => G8 a = some (.lst (g.map V.str))) tas (grp nu ws) := pair_mono pr2 fun a _ g w => w.2
        have pe3 : Paired (fun e (g : List Str) => G8 e = some (.lst (g.map V.str))) es (grp nu ws) := by
          rw [grp_hds alk]
          exact paired_map pes' fun e h w => k8.sm _ _ w
        have ly := lay_lots wd
        have tal := paired_len pr3
        refine ⟨_, rfl, _, rfl, .list (lotsD (grp nu ws)), .list (lotsD (grp nu ws)), .lst (.inl (.inl etq)) (dp_lotsX pr3), .lst (.inl (.inl (k8.sm _ _ egq'))) (dp_lotsX pe3), shaped_two ly.1 ly.2, shaped_two ly.1 ly.2, _, rfl, ?_⟩
        rw [show PyData.eqv (.list (lotsD (grp nu ws))) (.list (lotsD (grp nu ws))) = true by simp only [PyData.eqv]; exact eqv_lots _]
        have gm := pt.many
        refine iteF ⟨_, rfl, _, rfl, x, .ref tq, ws, ds, tb, ls, 9, rfl, ob6.sm k8.sm, is, by decide, .inr ⟨tq, _, _, rfl, etq, lots_view pr3 (fun g hg => Nat.le_trans (pt.each hg) (by decide)), by rw [List.length_map]; omega, words_ents wd, fun b G9 m9 hb => ?_⟩⟩
        obtain rfl : b = true := hb.mpr (like_grp is clo alk)
        have k9 := k8.grow m9
        refine ⟨_, _, rfl, rfl, _, rfl, iteF ?_⟩
        have gl : 0 < tas.length := by
          rw [tal]
          cases e : grp nu ws with
          | nil =>
            have := pt.len
            rw [e] at this
            have : 0 = ws.length := this
            omega
          | cons g gs => exact Nat.succ_pos _
        obtain ⟨a0, at0, rfl⟩ := List.exists_cons_of_length_pos gl
        obtain ⟨g0, eg0, na0, ea0⟩ := pair_at pr2 (j := 0) (p := a0) rfl
        have a0p := k7.src.ne na0
        have tqp := k7.src.ne ntq
        have Ba0 := none_of_sm k7.sm na0
        have Btq := none_of_sm k7.sm ntq
        have tqa : tq ≠ a0 := fun w => (List.nodup_cons.mp ndp).1 (w ▸ List.mem_cons_self)
        have ea9 := m9 _ _ ea0
        have etq9 := m9 _ _ etq
        have g09 : g0.length ≤ 9 := pt.each (List.mem_of_getElem? eg0)
        refine ⟨_, rfl, tq, _, 0, .ref a0, rfl, rfl, .inl (.inl etq9), atI_nat (j := 0) rfl, .inl ⟨rfl, _, .inl (.inl ea9)⟩, a0, _, _, rfl, rfl, ea9, by rw [List.length_map, sizeLine_eq]; omega, ?_⟩
        have kA := k9.set (o := .lst (g0.map V.str ++ [.str "late"])) ea9 Ba0 a0p
        have etqA : upd G9 a0 (.lst (g0.map V.str ++ [.str "late"])) tq = some (.lst ((a0 :: at0).map V.ref)) := by
          rw [upd_ne tqa]
          exact etq9
        generalize upd G9 a0 (.lst (g0.map V.str ++ [.str "late"])) = GA at kA etqA ⊢
        refine ⟨_, rfl, .inl ⟨rfl, _, .inl (.inl etqA)⟩, sz _ (by show 1 ≤ 1000; decide), fun l nl => ?_⟩
        have kB := kA.grow (Sm.new (o := .lst [.str "late"]) nl)
        have etqB := Sm.new (o := .lst [.str "late"]) nl _ _ etqA
        exact ⟨tq, _, _, rfl, rfl, etqB, by rw [List.length_map, sizeLine_eq]; omega, _, _, _, _, _, _, _, _, rfl, kB.set etqB Btq tqp⟩
      · rintro σ G7 ⟨v1, v3, v8, v9, v10, v11, v12, v13, rfl, k7⟩
        -- drawn values
        refine ⟨8, rfl, by decide, by decide, for_range (lo := 0) (n := 8) (fun k σ G => ∃ v1 v3 v8 v9 v10 v11 v12 v13 : Option V, σ = [some (.ref a), v1, some (.ref p), v3, some (.ref u), some (.ref x), some (.ref fo), some (.ref gq), v8, v9, v10, v11, v12, v13] ∧ Kp B6 G [] p) ⟨_, _, v8, v9, v10, v11, v12, v13, rfl, k7⟩ ?_ ?_⟩
        · rintro k σ G8 hkk ⟨v1, v3, v8, v9, v10, v11, v12, v13, rfl, k8⟩
          clear hkk
          have up := src_ne k8.src (k8.sm _ _ hu) fun _ _ z => nomatch z
          have nmp := src_ne_strs0 k8.src (k8.sm _ _ hnm)
          have gqp := src_ne k8.src (k8.sm _ _ egq') fun i j z => by
            cases es with
            | nil => exact nomatch HO.lst.inj z
            | cons e es => exact nomatch (List.cons.inj (HO.lst.inj z)).1
          have hl0 := Lo.hds_len (r := al (nxt ws ds tb) (look ws ls) ds) (cs := ws)
          have hl1 : 1 ≤ es.length := by
            rw [el]
            obtain ⟨z, hz⟩ : ∃ z, z ∈ ws := ⟨_, List.getElem_mem (show 0 < ws.length by omega)⟩
            obtain ⟨y, hy, _⟩ := Lo.hds_cover (r := al (nxt ws ds tb) (look ws ls) ds) al_refl hz
            exact List.length_pos_of_mem hy
          have hl2 : es.length ≤ 9 := by
            rw [el]
            exact Nat.le_trans hl0 w9
          have pv : Paired (fun e (g : List Str) => G8 e = some (.lst (g.map V.str)) ∧ e ≠ p ∧ 1 ≤ g.length ∧ g.length ≤ 9 ∧ ∀ z ∈ g, z ∈ ws) es ((lHs (nxt ws ds tb) (look ws ls) ds ws).map fun h => ws.filter (al (nxt ws ds tb) (look ws ls) ds h)) := by
            refine paired_map (F := fun e h => h ∈ lHs (nxt ws ds tb) (look ws ls) ds ws ∧ B6 e = some (.lst ((ws.filter (al (nxt ws ds tb) (look ws ls) ds h)).map V.str))) (pair_ix pes' fun j e h e1 e2 w => ⟨List.mem_of_getElem? e2, w⟩) fun e h w => ?_
            have e8 := k8.sm _ _ w.2
            exact ⟨e8, src_ne_strs0 k8.src e8, List.length_pos_of_mem (List.mem_filter.mpr ⟨lHs_sub w.1, al_refl h⟩), Nat.le_trans (List.length_filter_le _ _) w9, fun z hz => (List.mem_filter.mp hz).1⟩
          refine ⟨_, rfl, _, rfl, _, rfl, p, u, nm, dd, sg, gq, ws, ds, as, es, tb, _, ls, 9, rfl, k8.src, hk6.sm k8.sm, is, by decide, up, nmp, gqp, k8.sm _ _ egq', hl1, hl2, pv, fun q1 G9 sx9 src9 vw => ?_⟩
          refine ⟨_, rfl, p, 2, rfl, src9, by decide, by decide, fun c G10 _ sx10 src10 _ => ⟨rfl, _, rfl, ?_⟩⟩
          have sx := Sx.trans sx9 sx10
          have vw := ValW.sx k8.src vw sx10
          have k10 := k8.drawn sx src10
          refine ite_both (fun σ G => ∃ (v : V) (v12 v13 : Option V), σ = [some (.ref a), v1, some (.ref p), v3, some (.ref u), some (.ref x), some (.ref fo), some (.ref gq), v8, v9, some (.int (0 + ((k : Nat) : Int))), some v, v12, v13] ∧ Kp B6 G [] p ∧ OkV G v) (fun σ' G11 r => ?_) (fun _ fin => ?_) (fun _ => ⟨_, _, _, rfl, k10, valw_ok is.word vw⟩)
          rotate_left
          · exact ⟨_, rfl, _, rfl, _, rfl, p, u, nm, dd, sg, q1, G8, ws, ds, as, tb, ls, 9, rfl, k8.src, hk6.sm k8.sm, is, by decide, up, nmp, sx, src10, vw, fun v G11 sx11 src11 ok => fin _ _ ⟨v, _, _, rfl, k8.drawn sx11 src11, ok⟩⟩
          obtain ⟨v, v12, v13, rfl, k11, ok⟩ := r
          obtain ⟨b, both1, both2⟩ := okv_both (K := K) (C := C) ws (nxt ws ds tb) (look ws ls) ds ok
          obtain ⟨t, rp⟩ := okv_rep ok
          refine ⟨_, rfl, _, rfl, u, nm, dd, sg, v, ws, ds, as, tb, ls, 9, rfl, hk6.sm k11.sm, is, by decide, ?_⟩
          refine Or.symm (both1 G11 (Sm.refl _) _ fun G12 m12 => ?_)
          refine ⟨_, rfl, v, t, rfl, rp.sm m12, _, _, rfl, ?_⟩
          refine ⟨_, rfl, _, rfl, x, v, ws, ds, tb, ls, 9, rfl, ob6.sm (k11.grow m12).sm, is, by decide, ?_⟩
          refine Or.symm (both2 G12 m12 _ fun G13 m13 => ?_)
          have k13 := (k11.grow m12).grow m13
          have rp13 := rp.sm (Sm.trans m12 m13)
          refine ⟨_, rfl, ⟨_, _, rfl, rfl, _, rfl, rfl, _, rfl, ?_⟩⟩
          have e1 : (!decide (V.bl (decide (b = true)) = V.bl b)) = false := by cases b <;> decide
          rw [e1]
          refine iteF ⟨_, rfl, ⟨_, _, rfl, rfl, _, rfl, rfl, _, rfl, ?_⟩⟩
          have e2 : decide (V.bl (decide (b = false)) = V.bl b) = false := by cases b <;> decide
          rw [e2]
          refine iteF ⟨_, rfl, v, t, rfl, rp13, _, rfl, rfl, _, rfl, ?_⟩
          rw [decide_eq_true rfl]
          exact iteF ⟨_, _, _, _, _, _, _, _, rfl, k13⟩
        · rintro σ G8 ⟨v1, v3, v8, v9, v10, v11, v12, v13, rfl, k8⟩
          -- things that are none
          refine ⟨_, rfl, _, rfl, sz _ (by show 1 ≤ 1000; decide), fun l1 n1 => ?_⟩
          have kA := k8.grow (Sm.new (o := .lst [.ref x]) n1)
          have e1 := upd_same (H := G8) (a := l1) (o := .lst [.ref x])
          generalize upd G8 l1 (.lst [.ref x]) = GA at kA e1 ⊢
          refine ⟨_, rfl, sz _ (by show 1 ≤ 1000; decide), fun l2 n2 => ?_⟩
          have m2 := Sm.new (o := .lst [.ref x]) n2
          have kB := kA.grow m2
          have e2 := upd_same (H := GA) (a := l2) (o := .lst [.ref x])
          have e1 := m2 _ _ e1
          generalize upd GA l2 (.lst [.ref x]) = GB at kB e1 e2 ⊢
          refine ⟨sz _ (by show 1 ≤ 1000; decide), fun l3 n3 => ?_⟩
          have m3 := Sm.new (o := .lst [.ref l2]) n3
          have kC := kB.grow m3
          have e3 := upd_same (H := GB) (a := l3) (o := .lst [.ref l2])
          have e1 := m3 _ _ e1
          have e2 := m3 _ _ e2
          generalize upd GB l3 (.lst [.ref l2]) = GC at kC e1 e2 e3 ⊢
          refine ⟨_, rfl, u, _, 0, .ref nm, rfl, rfl, .inl (.inl (kC.sm _ _ hu)), atI_nat (j := 0) rfl, sz _ (by show 1 ≤ 1000; decide), fun l4 n4 => ?_⟩
          have m4 := Sm.new (o := .lst [.ref nm]) n4
          have kD := kC.grow m4
          have e4 := upd_same (H := GC) (a := l4) (o := .lst [.ref nm])
          have e1 := m4 _ _ e1
          have e2 := m4 _ _ e2
          have e3 := m4 _ _ e3
          generalize upd GC l4 (.lst [.ref nm]) = GD at kD e1 e2 e3 e4 ⊢
          refine ⟨sz _ (by show 1 ≤ 1000; decide), fun l5 n5 => ?_⟩
          have m5 := Sm.new (o := .lst [.ref l4]) n5
          have kE := kD.grow m5
          have e5 := upd_same (H := GD) (a := l5) (o := .lst [.ref l4])
          have e1 := m5 _ _ e1
          have e2 := m5 _ _ e2
          have e3 := m5 _ _ e3
          have e4 := m5 _ _ e4
          generalize upd GD l5 (.lst [.ref l4]) = GE at kE e1 e2 e3 e4 e5 ⊢
          refine ⟨_, rfl, sz _ (by show 1 ≤ 1000; decide), fun l6 n6 => ?_⟩
          have m6 := Sm.new (o := .lst [.ref u]) n6
          have kF := kE.grow m6
          have e6 := upd_same (H := GE) (a := l6) (o := .lst [.ref u])
          have e1 := m6 _ _ e1
          have e2 := m6 _ _ e2
          have e3 := m6 _ _ e3
          have e4 := m6 _ _ e4
          have e5 := m6 _ _ e5
          generalize upd GE l6 (.lst [.ref u]) = GF at kF e1 e2 e3 e4 e5 e6 ⊢
          refine ⟨sz _ (by show 7 ≤ 1000; decide), fun l7 n7 => ?_⟩
          have m7 := Sm.new (o := .lst [.ref x, .ref l1, .ref l3, .ref l5, .ref l6, .int 0, .str "a"]) n7
          have kG := kF.grow m7
          have e7 := upd_same (H := GF) (a := l7) (o := .lst [.ref x, .ref l1, .ref l3, .ref l5, .ref l6, .int 0, .str "a"])
          have e1 := m7 _ _ e1
          have e2 := m7 _ _ e2
          have e3 := m7 _ _ e3
          have e4 := m7 _ _ e4
          have e5 := m7 _ _ e5
          have e6 := m7 _ _ e6
          generalize upd GF l7 (.lst [.ref x, .ref l1, .ref l3, .ref l5, .ref l6, .int 0, .str "a"]) = GG at kG e1 e2 e3 e4 e5 e6 e7 ⊢
          refine ⟨l7, rfl, ⟨_, .inl (.inl e7)⟩, ?_⟩
          refine for_it (walk_list (xs := [.ref x, .ref l1, .ref l3, .ref l5, .ref l6, .int 0, .str "a"])) (fun i σ G => ∃ v1 v3 v8 v9 v10 v11 v12 v13 : Option V, σ = [some (.ref a), v1, some (.ref p), v3, some (.ref u), some (.ref x), some (.ref fo), some (.ref gq), v8, v9, v10, v11, v12, v13] ∧ Kp B6 G [] p ∧ Sm GG G) ⟨_, _, v8, v9, v10, v11, v12, v13, rfl, kG, Sm.refl _⟩ (fun i σ G _ ⟨_, _, _, _, _, _, _, _, _, _, mm⟩ => .inl (.inl (mm _ _ e7))) (fun i v σ G G' hi pp yy => ?_) (fun σ G pp => ?_)
          · obtain ⟨v1, v3, v8, v9, v10, v11, v12, v13, rfl, kk, mm⟩ := pp
            obtain ⟨rfl, ex⟩ := yy
            have nx_ : NotL K G' (.ref x) := ⟨_, .base (.ins (kk.sm _ _ hx) L.T.cl L.T.ha L.T.hn L.T.htk L.T.hm), L.kL⟩
            have nu_ : NotL K G' (.ref u) := ⟨_, .base (.tup (kk.sm _ _ hu)), kit_ty (by decide +kernel)⟩
            have nl : ∀ its : List (Option (List V)), (∃ w, its = [none] ∨ its = [some [.ref w]]) → ¬ LikP ws (nxt ws ds tb) (look ws ls) ds its := fun its hw lk => by
              obtain ⟨Gs, e, _⟩ := lk
              obtain ⟨w, rfl | rfl⟩ := hw
              · cases Gs with
                | nil => cases e
                | cons g gs => exact nomatch (List.cons.inj e).1
              · cases Gs with
                | nil => cases e
                | cons g gs =>
                  have := Option.some.inj (List.cons.inj e).1
                  cases g with
                  | nil => cases this
                  | cons z g => exact nomatch (List.cons.inj this).1
            have no : NotL K G' v ∨ ∃ (q : Addr) (xs : List V) (its : List (Option (List V))), v = .ref q ∧ G' q = some (.lst xs) ∧ Paired (LotV K G') xs its ∧ xs.length ≤ 20 ∧ EntOk K C G' (entsOf its) ∧ ¬ LikP ws (nxt ws ds tb) (look ws ls) ds its := by
              rcases List.mem_cons.mp (List.mem_of_getElem? ex) with rfl | h
              · exact .inl nx_
              rcases List.mem_cons.mp h with rfl | h
              · exact .inr ⟨l1, _, [none], rfl, mm _ _ e1, .cons nx_ .nil, by show 1 ≤ 20; decide, .inl ⟨[], .nil, shaped_nil⟩, nl _ ⟨0, .inl rfl⟩⟩
              rcases List.mem_cons.mp h with rfl | h
              · exact .inr ⟨l3, _, [some [.ref x]], rfl, mm _ _ e3, .cons ⟨by show 1 ≤ 40; decide, l2, rfl, mm _ _ e2⟩ .nil, by show 1 ≤ 20; decide, .inr ⟨x, ws, ds, tb, ls, 9, rfl, ob6.sm kk.sm, is⟩, nl _ ⟨x, .inr rfl⟩⟩
              rcases List.mem_cons.mp h with rfl | h
              · have ly := lay_strs is.word
                refine .inr ⟨l5, _, [some [.ref nm]], rfl, mm _ _ e5, .cons ⟨by show 1 ≤ 40; decide, l4, rfl, mm _ _ e4⟩ .nil, by show 1 ≤ 20; decide, .inl ⟨[.list (ws.map PyData.str)], .cons (.lst (.inl (.inl (kk.sm _ _ hnm))) (dp_strs ws)) .nil, shaped_two ?_ ?_⟩, nl _ ⟨nm, .inr rfl⟩⟩
                · simp only [PyData.canLayAll0, PyData.canLay0, ly.1, Bool.and_true]
                · have := ly.2
                  simp only [PyData.depthAll, PyData.depth]
                  omega
              rcases List.mem_cons.mp h with rfl | h
              · exact .inr ⟨l6, _, [none], rfl, mm _ _ e6, .cons nu_ .nil, by show 1 ≤ 20; decide, .inl ⟨[], .nil, shaped_nil⟩, nl _ ⟨0, .inl rfl⟩⟩
              rcases List.mem_cons.mp h with rfl | h
              · exact .inl ⟨_, .base (.int 0), kit_ty (by decide +kernel)⟩
              · rw [List.mem_singleton.mp h]
                exact .inl ⟨_, .base (.str "a"), kit_ty (by decide +kernel)⟩
            refine ⟨_, rfl, _, rfl, x, v, ws, ds, tb, ls, 9, rfl, ob6.sm kk.sm, is, by decide, ?_⟩
            rcases no with n | ⟨q1, xs, its, rfl, eq1, pr1, ln1, eo1, nl1⟩
            · refine .inl ⟨n, fun G12 m12 => ⟨_, _, rfl, rfl, _, rfl, iteF ⟨_, _, _, _, _, _, _, _, rfl, kk.grow m12, Sm.trans mm m12⟩⟩⟩
            · refine .inr ⟨q1, xs, its, rfl, eq1, pr1, ln1, eo1, fun b G12 m12 hb => ?_⟩
              obtain rfl : b = false := by
                cases b with
                | false => rfl
                | true => exact absurd (hb.mp rfl) nl1
              exact ⟨_, _, rfl, rfl, _, rfl, iteF ⟨_, _, _, _, _, _, _, _, rfl, kk.grow m12, Sm.trans mm m12⟩⟩
          · obtain ⟨v1, v3, v8, v9, v10, v11, v12, v13, rfl, kk, mm⟩ := pp
            have kz : Kp B0 G [] p := ⟨Sm.trans b06 kk.sm, kk.tabs, kk.src, bp0, nt0⟩
            exact ⟨_, _, _, _, _, _, _, _, _, _, _, _, rfl, kz⟩
    · rintro σ G ⟨v1, v3, v4, v5, v6, v7, v8, v9, v10, v11, v12, v13, rfl, kz⟩
      exact ⟨_, _, _, _, _, _, _, _, _, _, _, _, _, rfl, SqL.sm aS kz.sm⟩
  · rintro σ G ⟨v1, v2, v3, v4, v5, v6, v7, v8, v9, v10, v11, v12, v13, rfl, _⟩
    exact q G
end
end Dk
set_option Elab.async false
set_option linter.all false
set_option maxRecDepth 100000
set_option maxHeartbeats 8000000
namespace Dk
open PySem PySem.Spec PyProof.Rows L2 Er LamX NdefX
/-! ### the law, called by the claim: the script may be kept, the table of come's code object is written -/
section
variable {P : Program} {w : World} {K : PySem.W.Frag} {mg mb : Str → Option Value} {f a : Addr} {Ts : List (Addr × Addr)} {fd : FuncData} {s₁ : Shared} {vs : List Value} {ns : List Int}
theorem top_callL (F : ∀ base : Heap, K.In base → base.Ns mainGlobals mg → (∀ q ∈ Ts, TabB base mg q.1 q.2) → FnOkG P w K mg base CX0 7 f fd ["_law_script"] (spLaw K)) (bind : ∀ (s : Shared) (u : Value), BindsTo s fd ⟨[u], []⟩ [("_law_script", u)])
    (inK : K.In s₁.heap) (glob : s₁.heap.Ns mainGlobals mg) (blt : s₁.heap.Ns builtinsNs mb) (blt2 : ∀ x : Str, x ≠ "__name__" → mb x = bootBuiltins x) (lim : s₁.heap.NoLimit) (gens : s₁.gens = #[])
    (mod : ∃ (bm : Addr) (om : Obj), mg "__builtins__" = some (.ref bm) ∧ bm ≠ builtinsNs ∧ s₁.heap.get? bm = some om ∧ om.cls = .type "module" ∧ om.dict = some builtinsNs ∧ om.data = .plain)
    (tab : ∀ q ∈ Ts, s₁.heap.get? q.2 = some (PySem.W.tabObj #[])) (tabK : ∀ q ∈ Ts, K.lookup q.2 = none) (chd : ∀ q ∈ Ts, PySem.W.CodeHd s₁.heap q.1 q.2)
    (at_ : s₁.heap.get? a = some { cls := .type "list", data := .seq vs.toArray }) (ar : IntsAre vs ns) (few : ns.length ≤ 63) (bits : ∀ z ∈ ns, Builtin.Int.intBits z ≤ 1048576) :
    codeAny (model P w) callerA (.call (.ref f) ⟨[.ref a], []⟩) (fun r s' => r = .ok (.ret (.bool true)) ∧ OldK s₁.heap s'.heap ∧ s'.os = s₁.os ∧ AllBare s'.gens) s₁ := by
  have rel := vals_ints ar
  have lenV := ar.length
  have small : ns.length ≤ sizeLine := by
    rw [sizeLine_eq]
    omega
  have tabB_ : ∀ b ∈ Ts.map (·.2), s₁.heap.get? b = some (PySem.W.tabObj #[]) := fun b hb => by
    obtain ⟨q, hq, rfl⟩ := List.mem_map.mp hb
    exact tab q hq
  have tabK_ : ∀ b ∈ Ts.map (·.2), K.lookup b = none := fun b hb => by
    obtain ⟨q, hq, rfl⟩ := List.mem_map.mp hb
    exact tabK q hq
  have aPt : a ∉ Ts.map (·.2) := fun z => by
    rw [tabB_ a z] at at_
    cases at_
  have main : ∀ H : Hp, (∀ b ∈ Ts.map (·.2), H b = some (.tbl #[])) → (∀ b, b ∉ Ts.map (·.2) → H b = none ∨ (b = a ∧ ∃ ob xs, H b = some (.frz ob (.lst xs)))) → SqL K H a (ns.map V.int) → HOk P w H s₁.heap → (H a ≠ none → K.lookup a = none) →
      codeAny (model P w) callerA (.call (.ref f) ⟨[.ref a], []⟩) (fun r s' => r = .ok (.ret (.bool true)) ∧ OldK s₁.heap s'.heap ∧ s'.os = s₁.os ∧ AllBare s'.gens) s₁ := by
    intro H hT only sq hok notK
    -- what is neither the script nor the table stands below, too
    have away : ∀ {b : Addr}, b ≠ a → b ∉ Ts.map (·.2) → H b = none := fun {b} n1 n2 => by
      rcases only b n2 with z | ⟨z, _⟩
      · exact z
      · exact absurd z n1
    have apart : ∀ {b : Addr} {o : Obj}, s₁.heap.get? b = some o → (∀ us n, o.data ≠ .seq us n) → (∀ us, o.data ≠ .fields us) → H b = none := fun {b o} e n1 n2 => away
      (fun z => by
        rw [z, at_] at e
        cases e
        exact n1 _ _ rfl)
      (fun z => by
        rw [tabB_ b z] at e
        cases e
        exact n2 _ rfl)
    have nsOf : ∀ {b : Addr} {m : Str → Option Value}, s₁.heap.Ns b m → (hidT s₁.heap H).Ns b m := fun {b m} z => by
      obtain ⟨o, es, ep, e, d, r⟩ := z
      exact ⟨o, es, ep, hidT_get e (apart e (fun us n y => by rw [d] at y; cases y) (fun us y => by rw [d] at y; cases y)), d, r⟩
    have inB : K.In (hidT s₁.heap H) := fun b o e => by
      refine hidT_get (inK b o e) ?_
      by_cases c : b ∈ Ts.map (·.2)
      · rw [tabK_ b c] at e
        cases e
      · rcases only b c with z | ⟨z, ob, xs, y⟩
        · exact z
        · rw [z] at e y
          rw [notK (by rw [y]; simp)] at e
          cases e
    have modOk : Mod K mg (hidT s₁.heap H) := ⟨inB, nsOf glob, ⟨mb, nsOf blt, blt2⟩, by
      obtain ⟨mc, z1, z2⟩ := lim
      exact ⟨mc, nsOf z1, z2⟩⟩
    have tabB : ∀ q ∈ Ts, TabB (hidT s₁.heap H) mg q.1 q.2 := fun q hq => by
      have tq := tab q hq
      refine ⟨?_, ?_, fun z => ?_⟩
      · obtain ⟨o, us, q1, q2, q3, q4, q5, q6, q7, e1, e2, e3, rest⟩ := chd q hq
        have cPt : q.1 ∉ Ts.map (·.2) := fun z => by
          rw [tabB_ _ z] at e1
          cases e1
          first
            | cases e2
            | cases e3
        refine ⟨o, us, q1, q2, q3, q4, q5, q6, q7, hidT_get e1 (away (fun z => ?_) cPt), e2, e3, rest⟩
        rw [z, at_] at e1
        cases e1
        cases e3
      · obtain ⟨bm, om, m1, m2, m3, m4, m5, m6⟩ := mod
        have free : H bm = none := apart m3 (fun us n y => by rw [m6] at y; cases y) (fun us y => by rw [m6] at y; cases y)
        refine ⟨bm, om, m1, m2, fun z => ?_, fun z => ?_, hidT_get m3 free, m4, m5, m6⟩
        · obtain ⟨o, es, ep, e, d, _⟩ := glob
          rw [z, e] at m3
          cases m3
          rw [d] at m6
          cases m6
        · rw [z, tq] at m3
          cases m3
          cases m6
      · obtain ⟨o, es, ep, e, d, _⟩ := glob
        rw [z, tq] at e
        cases e
        cases d
    have e0 : Env0 P w K mg (hidT s₁.heap H) callerA [] s₁ H :=
      ⟨rfl, modOk, fun b o e => of_hidT e, Nat.le_of_eq (hidT_size _ _), trivial, fun b z => absurd (show b ∈ ([] : List Addr) from z) (by simp), hok, .of_eq gens⟩
    refine codeAny_mono ((F _ inB (nsOf glob) tabB).run callerA [] s₁ H ⟨[.ref a], []⟩ [.ref a] [.ref a] (fun v _ => v = .bl true) (fun _ _ _ => False) rfl ⟨rfl, by decide, by decide⟩ e0 (bind s₁ (.ref a)) (.cons rfl .nil) ⟨a, ns, rfl, sq, few, bits, fun _ => rfl⟩) fun r s' z => ?_
    cases r with
    | error e => exact z.elim
    | ok fl =>
      cases fl with
      | next => exact z.elim
      | brk => exact z.elim
      | cont => exact z.elim
      | ret u =>
        obtain ⟨v, H', eos, bare, un, hok', rv, ev⟩ := z
        have ev2 : v = .bl true := ev
        subst ev2
        obtain rfl : u = Value.bool true := rv
        have now : ∀ b ∈ Ts.map (·.2), ∃ more, s'.heap.get? b = some (PySem.W.tabObj (#[] ++ more)) := fun b hb => by
          obtain ⟨more, hm⟩ := un.tbls b #[] (hT b hb)
          exact ⟨more, hok' b _ hm⟩
        have stay : ∀ b o, b ∉ Ts.map (·.2) → s₁.heap.get? b = some o → s'.heap.get? b = some o := fun b o n e => by
          rcases only b n with c | ⟨_, ob, xs, c⟩
          · exact un.keep b o e c (fun z2 => absurd (show b ∈ ([] : List Addr) from z2) (by simp)) (by simp)
          · obtain ⟨x1, _⟩ := hok b _ c
            obtain ⟨x2, _⟩ := hok' b _ (un.frzs b ob _ c)
            rw [e] at x1
            cases x1
            exact x2
        refine ⟨rfl, ⟨fun b o e => ?_, fun b o e => ?_⟩, eos, bare⟩
        · by_cases c : b ∈ Ts.map (·.2)
          · obtain ⟨more, hn⟩ := now b c
            rw [tabB_ b c] at e
            cases e
            obtain ⟨q, hq, rfl⟩ := List.mem_map.mp c
            exact .inr (.inl ⟨((chd q hq).tab (tab q hq)).isCodeTable, rfl, #[], more, rfl, hn⟩)
          · exact .inl (stay b o c e)
        · by_cases c : b ∈ Ts.map (·.2)
          · obtain ⟨more, hn⟩ := now b c
            exact ⟨_, hn⟩
          · exact ⟨o, stay b o c e⟩
  cases known : K.lookup a with
  | some o =>
    have e := inK a o known
    rw [at_] at e
    cases e
    refine main (fun b => if b ∈ Ts.map (·.2) then some (.tbl #[]) else none) (fun b hb => if_pos hb) (fun b n => .inl (if_neg n)) (.inr ⟨_, vs.toArray, _, known, rfl, rfl, rfl, ?_, by simpa using rel⟩) (fun b u z => ?_) fun z => absurd (if_neg aPt) z
    · rw [List.size_toArray, lenV]
      exact small
    · by_cases c : b ∈ Ts.map (·.2)
      · have z2 := (if_pos c).symm.trans z
        cases z2
        exact tabB_ b c
      · have z2 := (if_neg c).symm.trans z
        cases z2
  | none =>
    refine main (fun b => if b ∈ Ts.map (·.2) then some (.tbl #[]) else if b = a then some (.frz { cls := .type "list", data := .seq vs.toArray } (.lst (ns.map V.int))) else none) (fun b hb => if_pos hb) (fun b n => ?_)
      (.inl (.inr ⟨{ cls := .type "list", data := .seq vs.toArray }, (if_neg aPt).trans (if_pos rfl)⟩)) (fun b u z => ?_) fun _ => known
    · by_cases c : b = a
      · exact .inr ⟨c, _, _, (if_neg n).trans (if_pos c)⟩
      · exact .inl ((if_neg n).trans (if_neg c))
    · by_cases c : b ∈ Ts.map (·.2)
      · have z2 := (if_pos c).symm.trans z
        cases z2
        exact tabB_ b c
      · have z1 := (if_neg c).symm.trans z
        by_cases c2 : b = a
        · have z2 := (if_pos c2).symm.trans z1
          cases z2
          subst c2
          exact ⟨at_, by rw [List.length_map]; exact small, vs, _, rel, at_⟩
        · have z2 := (if_neg c2).symm.trans z1
          cases z2
end
end Dk
set_option Elab.async false
set_option linter.all false
set_option maxRecDepth 100000
set_option maxHeartbeats 0
namespace Hn
open PySem PySem.Spec PyProof.Rows L2 Er Dk
open PySem.ErK (EC tA tB tS)
/-! ### what is looked at behind the top of k04 -/
def oxB (K : PySem.W.Frag) (C : Addr) : Bool := match K.lookup C with
  | some ⟨.type "type", _, .cls cd, sl⟩ => (match cd.mro, sl.toList with
    | .ref C' :: bm, [_, _, _, _, some (.builtin n), _] => C' == C && n == "ValueError.__new__" && !cd.hasDel && cd.hasDict && PySem.HandSPX.refsVE bm
    | _, _ => false)
  | _ => false
def eqB (a b : Option (Option Value)) : Bool := decide (a = b)
def xcB (K : PySem.W.Frag) (C : Addr) : Bool :=
  eqB (PySem.W.findIn K (.ref C) "__class__") (some (some (.builtin "object.__class__"))) && decide (PySem.W.mroIn K C (.type "object") = some true)
def ecB (K : PySem.W.Frag) (x f : Str) : Bool :=
  oxB K (He.ga K x) && (eqB (PySem.W.findIn K (.ref (He.ga K x)) "__setattr__") (some (some (.builtin "object.__setattr__"))) && (decide (PySem.W.typeIn K (.ref (He.ga K x)) = some (.type "type")) && (PySem.W.keepIn K (.ref (He.ga K x)) &&
    (eqB (PySem.W.findIn K (.ref (He.ga K x)) f) (some none) && (eqB (PySem.W.findIn K (.ref (He.ga K x)) "__init__") (some (some (.ref (He.ma K (He.ga K x) "__init__")))) &&
      (decide (PySem.W.typeIn K (.ref (He.ma K (He.ga K x) "__init__")) = some (.type "function")) && (xfB K (He.ga K x) && xcB K (He.ga K x))))))))
/-- a property's getter -/
def gAt (K : PySem.W.Frag) (x : Str) : Addr := match PySem.W.recIn K (He.ma K (He.ga K "Desk") x) "property" with
  | some (.ref g :: _) => g
  | _ => 0
def fnA (K : PySem.W.Frag) (a : Addr) : He.FnW := match K.lookup a with
  | some ⟨_, _, .func fd, _⟩ => some (fd.name, fd.qualname, fd.params, fd.body, fd.scope, fd.globals, fd.closure, fd.builtins)
  | _ => none
def okA (K : PySem.W.Frag) (a : Addr) (qual : Str) : Bool := PySem.W.keepIn K (.ref a) && (match K.lookup a with
  | some ⟨_, _, .func fd, _⟩ => PySem.W.codeIn K fd.code qual && He.dflB K fd.defaults []
  | _ => false)
def prB (K : PySem.W.Frag) (x : Str) : Bool :=
  eqB (PySem.W.findIn K (.ref (He.ga K "Desk")) x) (some (some (.ref (He.ma K (He.ga K "Desk") x)))) && (eqB (PySem.W.specialIn K (.ref (He.ma K (He.ga K "Desk") x)) "__get__") (some (some (.builtin "property.__get__"))) &&
    (decide (PySem.W.takesIn K (.ref (He.ma K (He.ga K "Desk") x)) = some true) && ((match PySem.W.recIn K (He.ma K (He.ga K "Desk") x) "property" with
      | some (.ref _ :: _) => true
      | _ => false) && okA K (gAt K x) ("Desk." ++ x))))
def dkB (K : PySem.W.Frag) : Bool :=
  eqB (PySem.W.findIn K (.ref (He.ga K "Desk")) "__class__") (some (some (.builtin "object.__class__"))) && (decide (PySem.W.mroIn K (He.ga K "Desk") (.type "object") = some true) &&
    (decide (PySem.W.kitOne K (.ref (He.ga K "Desk")) (.ref (He.ga K "Desk")) = some true) && (["NoneType", "int", "str", "list", "tuple", "dict", "bool"].all (fun t => decide (PySem.W.kitOne K (.type t) (.ref (He.ga K "Desk")) = some false) && PySem.W.notFirst K (He.ga K "Desk") (.type t)) &&
      (eqB (PySem.W.findIn K (.ref (He.ga K "Desk")) "__eq__") (some (some (.ref (He.ma K (He.ga K "Desk") "__eq__")))) && (PySem.W.isFn K (.ref (He.ma K (He.ga K "Desk") "__eq__")) && eqB (PySem.W.findIn K (.ref (He.ga K "Desk")) "__ne__") (some (some (.builtin "object.__ne__"))))))))
def isD : Option Obj → Bool
  | some ⟨_, _, .dict _ _, _⟩ => true
  | _ => false
def kLB (K : PySem.W.Frag) : Bool := decide (PySem.W.kitOne K (.ref (He.ga K "Desk")) (.type "list") = some false)
def myB (K : PySem.W.Frag) : Bool := dkB K && (prB K "standings" && (prB K "deeds" && (isD (K.lookup sysModules) && kLB K)))
abbrev Fn2 : Type := He.FnW × He.FnW
def getS (K : PySem.W.Frag) : Fn2 := (fnA K (gAt K "standings"), fnA K (gAt K "deeds"))
def getSV : Fn2 := (some ("standings", "Desk.standings", defArgs (meth 1), .stmts (defBody (meth 1)), defScope (meth 1), mainGlobals, [], builtinsNs), some ("deeds", "Desk.deeds", defArgs (meth 2), .stmts (defBody (meth 2)), defScope (meth 2), mainGlobals, [], builtinsNs))
/-- no code object keeps a table here -/
def tL (K : PySem.W.Frag) : List (Addr × Addr) := []
def tab1 (g : Addr → Option Obj) (K : PySem.W.Frag) (q : Addr × Addr) : Bool := PySem.W.codeHdIn K q.1 q.2 && (match g q.2 with
  | some o => He.emptyTab o
  | none => false)
def tabH (g : Addr → Option Obj) (K : PySem.W.Frag) : Bool := (tL K).all (tab1 g K) && decide ((tL K).map (·.2)).Nodup
/-- the part of the heap that is looked at: no empty table stands in it -/
def frS (n : Nat) (g : Addr → Option Obj) : PySem.W.Frag := He.frT g (sysModules :: He.asD g n)
abbrev AlN : Type := He.AlD × (Bool × Fn2)
def dfn (x : Str) (st : Stmt) : He.DefD := ⟨(x, none), x, x, defArgs st, defBody st, defScope st, [], []⟩
def fn : List He.DefD := [
  dfn "is_name" (top 9), dfn "is_one_of" (top 10), dfn "are_different" (top 11), dfn "is_table" (top 12), dfn "numbered" (top 15), dfn "lot_numbers" (top 16), dfn "count_lots" (top 17), dfn "gathered" (top 18), dfn "are_standings" (top 21), dfn "are_deeds" (top 22), dfn "is_lead" (top 23), dfn "are_sights" (top 24), dfn "desk_leads" (top 25), dfn "desk_moves" (top 26), dfn "desk_sights" (top 27), dfn "lots" (top 29), dfn "desk_lots" (top 30), dfn "is_likeness" (top 31), dfn "is_parting" (top 32), dfn "keeps_together" (top 33), dfn "_law_source" (top 35), dfn "_law_draw" (top 36), dfn "_law_pick" (top 37), dfn "_law_mixed" (top 38), dfn "_law_word" (top 39), dfn "_law_names" (top 40), dfn "_law_twins" (top 41), dfn "_law_leads" (top 42), dfn "_law_sights" (top 43), dfn "_law_desk" (top 44), dfn "_law_turned" (top 45), dfn "_law_made" (top 46), dfn "_law_nexts" (top 47), dfn "_law_apart" (top 48), dfn "_law_groups" (top 49), dfn "_law_stranger" (top 50), dfn "_law_is_likeness" (top 51), dfn "_law_value" (top 52), dfn "_law_spoilt" (top 53), dfn "law" (top 54),
  ⟨("Desk", some "__init__"), "__init__", "Desk.__init__", defArgs (meth 0), defBody (meth 0), defScope (meth 0), [], []⟩,
  ⟨("Desk", some "lead"), "lead", "Desk.lead", defArgs (meth 4), defBody (meth 4), defScope (meth 4), [], []⟩,
  ⟨("Desk", some "sight"), "sight", "Desk.sight", defArgs (meth 5), defBody (meth 5), defScope (meth 5), [], []⟩,
  ⟨("Desk", some "__eq__"), "__eq__", "Desk.__eq__", defArgs (meth 7), defBody (meth 7), defScope (meth 7), [], []⟩]
def fa : List He.Fa := [
  .glo "is_name", .glo "is_one_of", .glo "are_different", .glo "is_table", .glo "numbered", .glo "lot_numbers", .glo "count_lots", .glo "gathered", .glo "are_standings", .glo "are_deeds", .glo "is_lead", .glo "are_sights", .glo "desk_leads", .glo "desk_moves", .glo "desk_sights", .glo "lots", .glo "desk_lots", .glo "is_likeness", .glo "is_parting", .glo "keeps_together", .glo "_law_source", .glo "_law_draw", .glo "_law_pick", .glo "_law_mixed", .glo "_law_word", .glo "_law_names", .glo "_law_twins", .glo "_law_leads", .glo "_law_sights", .glo "_law_desk", .glo "_law_turned", .glo "_law_made", .glo "_law_nexts", .glo "_law_apart", .glo "_law_groups", .glo "_law_stranger", .glo "_law_is_likeness", .glo "_law_value", .glo "_law_spoilt", .glo "law", .glo "Desk",
  .free "isinstance", .free "int", .free "str", .free "list", .free "tuple", .free "dict", .free "set", .free "len", .free "all", .free "range", .free "max", .free "min", .free "enumerate", .free "repr",
  .cls "Desk", .noat "Desk" "_standings", .noat "Desk" "_leads", .noat "Desk" "_sights", .mkr "Desk", .meth "Desk" "lead", .meth "Desk" "sight"]
def names : List PySem.Str := (["_wall", "DeskError", "BadStandings", "BadDeeds", "BadSights", "BadStanding", "BadRow", "is_name", "is_one_of", "are_different", "is_table", "add_new"] : List PySem.Str) ++ (["reached", "numbered", "lot_numbers", "count_lots", "gathered", "Desk", "are_standings", "are_deeds", "is_lead", "are_sights", "desk_leads", "desk_moves"] : List PySem.Str) ++ (["desk_sights", "lots", "desk_lots", "is_likeness", "is_parting", "keeps_together", "_law_source", "_law_draw", "_law_pick", "_law_mixed", "_law_word", "_law_names"] : List PySem.Str) ++ (["_law_twins", "_law_leads", "_law_sights", "_law_desk", "_law_turned", "_law_made", "_law_nexts", "_law_apart", "_law_groups", "_law_stranger", "_law_is_likeness", "_law_value"] : List PySem.Str) ++ (["_law_spoilt"] : List PySem.Str)
def obN (n : Nat) (g : Addr → Option Obj) : AlN := (He.obsD fa fn (frS n g), myB (frS n g) && tabH g (frS n g), getS (frS n g))
abbrev R : PySem.W.OpenRow := PySem.W.OpenLaw.row PySem.Challenge.rw_lateeditions_k04_lots_and_likenesses
structure Told (h : Heap) (K : PySem.W.Frag) : Prop where
  d : He.SaysD fa fn K
  b : myB K = true
  g : getS K = getSV
  hd : ∀ q ∈ tL K, PySem.W.codeHdIn K q.1 q.2 = true
  out : ∀ q ∈ tL K, K.lookup q.2 = none
  tab : ∀ q ∈ tL K, h.get? q.2 = some (PySem.W.tabObj #[])
  nd : ((tL K).map (·.2)).Nodup
theorem told_of {n : Nat} {h : Heap} (e : obN n h.get? = (He.valD fn, true, getSV)) : Told h (frS n h.get?) := by
  have e1 := congrArg (fun z : AlN => z.1) e
  have e2 := congrArg (fun z : AlN => z.2.1) e
  have e3 := congrArg (fun z : AlN => z.2.2) e
  obtain ⟨b1, b2⟩ := Bool.and_eq_true_iff.mp (show (myB (frS n h.get?) && tabH h.get? (frS n h.get?)) = true from e2)
  unfold tabH at b2
  obtain ⟨b3, b4⟩ := Bool.and_eq_true_iff.mp b2
  have each : ∀ q ∈ tL (frS n h.get?), PySem.W.codeHdIn (frS n h.get?) q.1 q.2 = true ∧ (frS n h.get?).lookup q.2 = none ∧ h.get? q.2 = some (PySem.W.tabObj #[]) := fun q hq => by
    have z := List.all_eq_true.mp b3 q hq
    unfold tab1 at z
    obtain ⟨z1, z2⟩ := Bool.and_eq_true_iff.mp z
    cases y : h.get? q.2 with
    | none =>
      rw [y] at z2
      cases z2
    | some o =>
      rw [y] at z2
      exact ⟨z1, He.frT_none y z2, by rw [He.emptyTab_eq z2]⟩
  exact ⟨e1, b1, e3, fun q hq => (each q hq).1, fun q hq => (each q hq).2.1, fun q hq => (each q hq).2.2, of_decide_eq_true b4⟩
def hk : PySem.W.Hook where
  α := AlN
  obs := fun s => obN 5 s.heap.get?
  val := fun _ => (He.valD fn, true, getSV)
  says := fun _ h => ∃ K : PySem.W.Frag, K.In h ∧ Told h K
  of := fun _ _ e => ⟨_, He.frT_in, told_of e⟩
  keeps := fun _ _ _ ⟨K, hK, c⟩ k => ⟨K, PySem.W.Frag.In.keeps hK k, ⟨c.d, c.b, c.g, c.hd, c.out, fun q hq => k _ _ (c.tab q hq), c.nd⟩⟩
def ob (s : PySem.W.SharedT) : AlN := obN 5 (HandSHeadRun.getT s)
theorem ob_eq (s : PySem.W.SharedT) : ob s = hk.obs s.abs := by
  have e : HandSHeadRun.getT s = s.abs.heap.get? := funext (HandSHeadRun.getT_eq s)
  show obN 5 (HandSHeadRun.getT s) = obN 5 s.abs.heap.get?
  rw [e]
end Hn
set_option Elab.async false
set_option linter.all false
set_option maxRecDepth 100000
set_option maxHeartbeats 8000000
namespace Hn
open PySem PySem.Spec PyProof.Rows L2 Er Dk LamX NdefX
open PySem.ErK (EC tA tB tS)
/-! ### from what was looked at to what is asked -/
theorem cls_hn (K : PySem.W.Frag) : PySem.W.specialIn K (.builtin "object.__class__") "__get__" = some (some (.builtin "getset_descriptor.__get__")) := by
  kernel_rfl
theorem cls_ht (K : PySem.W.Frag) : PySem.W.takesIn K (.builtin "object.__class__") = some true := by
  kernel_rfl
def FnAt (K : PySem.W.Frag) (x f : Str) : Prop := ∃ (oc : Value) (od : Option Addr) (kV doc pm : Value) (an : Option Addr) (cdv ct : Value) (osl : Array (Option Value)) (ql : Str) (p1 p2 q1 q2 q3 q4 : Pos),
  K.lookup (He.ma K (He.ga K x) "__init__") = some ⟨oc, od, .func (PySem.W.fnOf "__init__" ql (tA f p1 p2) (tB f q1 q2 q3 q4) (tS f) .none kV doc pm an cdv ct), osl⟩ ∧ PySem.W.codeIn K cdv ql = true
theorem fnAt_of {K : PySem.W.Frag} {st : Stmt} {x f ql : Str} (F : ∃ fd, FunD K "__init__" ql (defArgs st) (defBody st) (defScope st) [] [] (He.ma K (He.ga K x) "__init__") fd)
    (ha : ∃ p1 p2, defArgs st = tA f p1 p2) (hb : ∃ q1 q2 q3 q4, defBody st = tB f q1 q2 q3 q4) (hs : defScope st = tS f) : FnAt K x f := by
  obtain ⟨fd, F⟩ := F
  obtain ⟨oc, od, dV, kV, doc, pm, an, cdv, ct, osl, rfl, lk, hcd, hD, _⟩ := F.ex
  obtain ⟨p1, p2, ea⟩ := ha
  obtain ⟨q1, q2, q3, q4, eb⟩ := hb
  rcases hD with ⟨_, rfl⟩ | ⟨e, _⟩
  · rw [ea, eb, hs] at lk
    exact ⟨oc, od, kV, doc, pm, an, cdv, ct, osl, ql, p1, p2, q1, q2, q3, q4, lk, hcd⟩
  · exact absurd rfl e
theorem ox_of {K : PySem.W.Frag} {C : Addr} (h : oxB K C = true) : ∃ nm q N bs bm sn sub ab col dd k0 k1 k2 k3 k5, K.lookup C = some (excClassObj nm q C N bs bm true sn sub ab col dd k0 k1 k2 k3 k5 "ValueError.__new__") ∧ PySem.HandSPX.refsVE bm = true := by
  unfold oxB at h
  split at h
  · rename_i dd cd sl ho
    split at h
    · rename_i C' bm k0 k1 k2 k3 n k5 hm hs
      simp only [Bool.and_eq_true, beq_iff_eq, Bool.not_eq_true'] at h
      obtain ⟨⟨⟨⟨rfl, rfl⟩, hdel⟩, hdct⟩, hr⟩ := h
      obtain ⟨nm, bs, mro, ns, qn, hd, sn, sub, ab, col, del⟩ := cd
      dsimp only at hm hdel hdct
      subst hm hdel hdct
      have esl : sl = #[k0, k1, k2, k3, some (.builtin "ValueError.__new__"), k5] := by
        obtain ⟨l⟩ := sl
        simp only at hs
        rw [hs]
      subst esl
      exact ⟨nm, qn, ns, bs, bm, sn, sub, ab, col, dd, k0, k1, k2, k3, k5, ho, hr⟩
    · cases h
  · cases h
theorem ec_of {K : PySem.W.Frag} {x f : Str} (b : ecB K x f = true) (fa : FnAt K x f) (fl : f ∈ PySem.ErK.fields) : EC K x f (He.ga K x) (He.ma K (He.ga K x) "__init__") := by
  unfold ecB eqB at b
  simp only [Bool.and_eq_true, decide_eq_true_eq] at b
  obtain ⟨b1, b2, b3, b4, b5, b6, b7, b8, b9⟩ := b
  have xf := xfB_ok b8
  unfold xcB eqB at b9
  simp only [Bool.and_eq_true, decide_eq_true_eq] at b9
  exact ⟨⟨ox_of b1, b2, xf.exC, b3, b4⟩, b5, b6, b7, xf, ⟨xf.ga, xf.gg, xf.exC, xf.hdC, b9.1, cls_hn K, cls_ht K, b9.2⟩, fl, fa⟩
theorem fun_of {K : PySem.W.Frag} {a : Addr} {x qual : Str} {params : Arguments} {body : List Stmt} {scope : Scope} (e : fnA K a = some (x, qual, params, .stmts body, scope, mainGlobals, [], builtinsNs)) (c : okA K a qual = true) : ∃ fd, FunD K x qual params body scope [] [] a fd := by
  obtain ⟨kp, c2⟩ := Bool.and_eq_true_iff.mp c
  unfold fnA at e
  cases q : K.lookup a with
  | none =>
    rw [q] at c2
    cases c2
  | some o =>
    obtain ⟨oc, od, dt, osl⟩ := o
    rw [q] at c2 e
    cases dt with
    | func fd =>
      obtain ⟨n1, n2, n3, n4, n5, n6, n7, n8, n9, n10, n11, n12, n13, n14, n15⟩ := fd
      have e2 := Option.some.inj e
      simp only [Prod.mk.injEq] at e2
      obtain ⟨h1, h2, h3, h4, h5, h6, h7, h8⟩ := e2
      subst h1 h2 h3 h4 h5 h6 h7 h8
      obtain ⟨k1, k2⟩ := Bool.and_eq_true_iff.mp (show (PySem.W.codeIn K n13 n2 && He.dflB K n8 []) = true from c2)
      exact ⟨_, ⟨oc, od, n8, n9, n10, n11, n12, n13, n14, osl, rfl, q, k1, He.dflB_ok k2, .inl rfl⟩, kp⟩
    | _ => cases c2
theorem prop_of {K : PySem.W.Frag} {x : Str} (h : prB K x = true) : PropOf K (He.ga K "Desk") x (He.ma K (He.ga K "Desk") x) (gAt K x) ∧ okA K (gAt K x) ("Desk." ++ x) = true := by
  unfold prB eqB at h
  obtain ⟨h1, h⟩ := Bool.and_eq_true_iff.mp h
  obtain ⟨h2, h⟩ := Bool.and_eq_true_iff.mp h
  obtain ⟨h3, h⟩ := Bool.and_eq_true_iff.mp h
  obtain ⟨h4, h5⟩ := Bool.and_eq_true_iff.mp h
  refine ⟨⟨of_decide_eq_true h1, of_decide_eq_true h2, of_decide_eq_true h3, ?_⟩, h5⟩
  cases q : PySem.W.recIn K (He.ma K (He.ga K "Desk") x) "property" with
  | none =>
    rw [q] at h4
    cases h4
  | some l =>
    rw [q] at h4
    cases l with
    | nil => cases h4
    | cons v r =>
      cases v with
      | ref g =>
        refine ⟨r, ?_⟩
        unfold gAt
        rw [q]
      | _ => cases h4
theorem sys_of {K : PySem.W.Frag} (h : isD (K.lookup sysModules) = true) : IsSys K := by
  cases e : K.lookup sysModules with
  | none =>
    rw [e] at h
    cases h
  | some o =>
    rw [e] at h
    obtain ⟨oc, od, dt, sl⟩ := o
    unfold isD at h
    split at h
    · rename_i heq
      cases heq
      exact ⟨_, _, _, e, rfl⟩
    · cases h
theorem lk_of {K : PySem.W.Frag} {h : Heap} {mg : Str → Option Value} (inK : K.In h) (G : h.Ns mainGlobals mg) (Y : Told h K) : Lk K mg (He.ga K "Desk") := by
  have c := Y.d
  have has : ∀ (i : Nat) (x : Str) (st : Stmt), fn[i]? = some (dfn x st) → fa[i]? = some (.glo x) → Has K mg x st := fun i x st e1 e2 => by
    obtain ⟨d, F⟩ := c.def_ i (d := dfn x st) e1
    exact ⟨_, d, F, He.glo_ok inK G (c.fact i e2)⟩
  have g : ∀ (i : Nat) (x : Str), fa[i]? = some (.glo x) → mg x = some (.ref (He.ga K x)) := fun i x e => He.glo_ok inK G (c.fact i e)
  have n : ∀ (i : Nat) (x : Str), fa[i]? = some (.free x) → mg x = none := fun i x e => He.free_ok inK G (c.fact i e)
  obtain ⟨dI, FI⟩ := c.def_ 40 (d := ⟨("Desk", some "__init__"), "__init__", "Desk.__init__", defArgs (meth 0), defBody (meth 0), defScope (meth 0), [], []⟩) rfl
  obtain ⟨dL, FL⟩ := c.def_ 41 (d := ⟨("Desk", some "lead"), "lead", "Desk.lead", defArgs (meth 4), defBody (meth 4), defScope (meth 4), [], []⟩) rfl
  obtain ⟨dS, FS⟩ := c.def_ 42 (d := ⟨("Desk", some "sight"), "sight", "Desk.sight", defArgs (meth 5), defBody (meth 5), defScope (meth 5), [], []⟩) rfl
  obtain ⟨dE, FE⟩ := c.def_ 43 (d := ⟨("Desk", some "__eq__"), "__eq__", "Desk.__eq__", defArgs (meth 7), defBody (meth 7), defScope (meth 7), [], []⟩) rfl
  have b := Y.b
  unfold myB at b
  obtain ⟨b3, b⟩ := Bool.and_eq_true_iff.mp b
  obtain ⟨b4, b⟩ := Bool.and_eq_true_iff.mp b
  obtain ⟨b5, b⟩ := Bool.and_eq_true_iff.mp b
  obtain ⟨b6, b7⟩ := Bool.and_eq_true_iff.mp b
  unfold kLB at b7
  unfold dkB eqB at b3
  obtain ⟨p1, b3⟩ := Bool.and_eq_true_iff.mp b3
  obtain ⟨p2, b3⟩ := Bool.and_eq_true_iff.mp b3
  obtain ⟨p3, b3⟩ := Bool.and_eq_true_iff.mp b3
  obtain ⟨p4, b3⟩ := Bool.and_eq_true_iff.mp b3
  obtain ⟨p5, b3⟩ := Bool.and_eq_true_iff.mp b3
  obtain ⟨p6, p7⟩ := Bool.and_eq_true_iff.mp b3
  have ty : ∀ t ∈ eqTypes, PySem.W.kitOne K (.type t) (.ref (He.ga K "Desk")) = some false ∧ PySem.W.notFirst K (He.ga K "Desk") (.type t) = true := fun t ht => by
    obtain ⟨z1, z2⟩ := Bool.and_eq_true_iff.mp (List.all_eq_true.mp p4 t ((by decide : ∀ t ∈ eqTypes, t ∈ ["NoneType", "int", "str", "list", "tuple", "dict", "bool"]) t ht))
    exact ⟨of_decide_eq_true z1, z2⟩
  obtain ⟨PS, o1⟩ := prop_of b4
  obtain ⟨PD, o2⟩ := prop_of b5
  have gg := Y.g
  have gg1 := congrArg (fun z : Fn2 => z.1) gg
  have gg2 := congrArg (fun z : Fn2 => z.2) gg
  obtain ⟨dG, FG⟩ := fun_of gg1 o1
  obtain ⟨dD, FD⟩ := fun_of gg2 o2
  exact {
    h9 := has 0 _ _ rfl rfl, h10 := has 1 _ _ rfl rfl, h11 := has 2 _ _ rfl rfl, h12 := has 3 _ _ rfl rfl, h15 := has 4 _ _ rfl rfl, h16 := has 5 _ _ rfl rfl, h17 := has 6 _ _ rfl rfl, h18 := has 7 _ _ rfl rfl, h21 := has 8 _ _ rfl rfl, h22 := has 9 _ _ rfl rfl, h23 := has 10 _ _ rfl rfl, h24 := has 11 _ _ rfl rfl, h25 := has 12 _ _ rfl rfl, h26 := has 13 _ _ rfl rfl, h27 := has 14 _ _ rfl rfl, h29 := has 15 _ _ rfl rfl, h30 := has 16 _ _ rfl rfl, h31 := has 17 _ _ rfl rfl, h32 := has 18 _ _ rfl rfl, h33 := has 19 _ _ rfl rfl, h35 := has 20 _ _ rfl rfl, h36 := has 21 _ _ rfl rfl, h37 := has 22 _ _ rfl rfl, h38 := has 23 _ _ rfl rfl, h39 := has 24 _ _ rfl rfl, h40 := has 25 _ _ rfl rfl, h41 := has 26 _ _ rfl rfl, h42 := has 27 _ _ rfl rfl, h43 := has 28 _ _ rfl rfl, h44 := has 29 _ _ rfl rfl, h45 := has 30 _ _ rfl rfl, h46 := has 31 _ _ rfl rfl, h47 := has 32 _ _ rfl rfl, h48 := has 33 _ _ rfl rfl, h49 := has 34 _ _ rfl rfl, h50 := has 35 _ _ rfl rfl, h51 := has 36 _ _ rfl rfl, h52 := has 37 _ _ rfl rfl, h53 := has 38 _ _ rfl rfl
    mi := n 41 _ rfl, mn := n 42 _ rfl, ms := n 43 _ rfl, mL := n 44 _ rfl, mT := n 45 _ rfl, md := n 46 _ rfl, mS := n 47 _ rfl, ml := n 48 _ rfl, ma := n 49 _ rfl, mR := n 50 _ rfl, mx := n 51 _ rfl, mm := n 52 _ rfl, me := n 53 _ rfl, mr := n 54 _ rfl
    T := ⟨He.cls_ok (c.fact 55 (f := .cls "Desk") rfl), of_decide_eq_true p1, cls_hn K, cls_ht K, of_decide_eq_true p2, of_decide_eq_true p3, He.noat_ok (c.fact 56 (f := .noat "Desk" "_standings") rfl), He.noat_ok (c.fact 57 (f := .noat "Desk" "_leads") rfl), He.noat_ok (c.fact 58 (f := .noat "Desk" "_sights") rfl), g 40 _ rfl⟩
    N := fun t ht => (ty t ht).2, kN := fun t ht => (ty t ht).1, kL := of_decide_eq_true b7
    eq := ⟨_, dE, FE, of_decide_eq_true p5, p6⟩
    ini_ := ⟨_, dI, FI, He.mkr_ok (c.fact 59 (f := .mkr "Desk") rfl)⟩
    lead_ := ⟨_, dL, FL, He.meth_ok (c.fact 60 (f := .meth "Desk" "lead") rfl)⟩
    sight_ := ⟨_, dS, FS, He.meth_ok (c.fact 61 (f := .meth "Desk" "sight") rfl)⟩
    std := ⟨_, _, dG, FG, PS⟩
    dds := ⟨_, _, dD, FD, PD⟩
    sys := sys_of b6 }
end Hn
set_option Elab.async false
set_option linter.all false
set_option maxRecDepth 100000
set_option maxHeartbeats 0
namespace Hn
open PySem PySem.W PySem.Calls PyProof.Rows HandSHeadRun
noncomputable section
abbrev GG (s : SharedT) : Addr → Option Obj := HandSHeadRun.getT s
abbrev KK (s : SharedT) : Frag := frS 5 (GG s)
theorem tH1 (w : World) (os : OsState) : (endF (stepQ (denQ tabQ) R.prog w) 60000 R.prog w os).map (fun s => (looksF R.prog (boot_heap w.params) s.abs, seenQ (PySem.W.view R.prog [54]) names (importedModules R.prog.main.body) (fun s => xlAt (PySem.W.view R.prog [54]) [] s && recOk R.toRowW.records s) s.abs)) = some (true, PySem.W.openGood (PySem.W.view R.prog [54]) names) := by
  kernel_rfl
theorem tH2 (w : World) (os : OsState) : (endF (stepQ (denQ tabQ) R.prog w) 60000 R.prog w os).map (fun s => ((fa.all fun f => f.ok (KK s)) && fn.all fun d => d.ok (KK s))) = some true := by
  kernel_rfl
theorem tH3 (w : World) (os : OsState) : (endF (stepQ (denQ tabQ) R.prog w) 60000 R.prog w os).map (fun s => (fn.map fun d => He.fnW (KK s) d.at_)) = some (fn.map He.DefD.val) := by
  kernel_rfl
theorem tH4 (w : World) (os : OsState) : (endF (stepQ (denQ tabQ) R.prog w) 60000 R.prog w os).map (fun s => (myB (KK s) && tabH (GG s) (KK s))) = some true := by
  kernel_rfl
theorem tH5 (w : World) (os : OsState) : (endF (stepQ (denQ tabQ) R.prog w) 60000 R.prog w os).map (fun s => getS (KK s)) = some getSV := by
  kernel_rfl
end
end Hn
set_option Elab.async false
set_option linter.all false
set_option maxRecDepth 100000
set_option maxHeartbeats 0
namespace Hn
open PySem PySem.W PySem.Calls PyProof.Rows HandSHeadRun
theorem run (w : World) : RunEq R (PySem.W.view R.prog [54]) hk ob 60000 names w := by
  intro os
  have t1 := tH1 w os
  have t2 := tH2 w os
  have t3 := tH3 w os
  have t4 := tH4 w os
  have t5 := tH5 w os
  cases e : endF (stepQ (denQ tabQ) R.prog w) 60000 R.prog w os with
  | none =>
    rw [e] at t1
    cases t1
  | some s =>
    rw [e] at t1 t2 t3 t4 t5
    have u1 := Option.some.inj t1
    have u2 := Option.some.inj t2
    have u3 := Option.some.inj t3
    have u4 := Option.some.inj t4
    have u5 := Option.some.inj t5
    have v1 := congrArg (fun z => z.1) u1
    have v2 := congrArg (fun z => z.2) u1
    have o : ob s = ((true, fn.map He.DefD.val), true, getSV) := Prod.ext (Prod.ext u2 u3) (Prod.ext u4 u5)
    exact congrArg some (Prod.ext v1 (Prod.ext v2 o))
end Hn
open PySem PySem.W PySem.Calls PyProof.Rows
theorem PySem.Challenge.cw_lateeditions_k04_lots_and_likenesses_holds : PySem.Challenge.rw_lateeditions_k04_lots_and_likenesses.Holds := by
  w_on; o_law
  refine HandSHeadRun.head_any (r := OpenLaw.row PySem.Challenge.rw_lateeditions_k04_lots_and_likenesses) (q := view (OpenLaw.row PySem.Challenge.rw_lateeditions_k04_lots_and_likenesses).prog [54]) (H := Hn.hk) (ob := Hn.ob) (M := 60000) (loose := Hn.names) (d := HandSHeadRun.topDef (OpenLaw.row PySem.Challenge.rw_lateeditions_k04_lots_and_likenesses).prog 54) (kwd := []) Hn.ob_eq
    (by kernel_rfl) (fun s => by kernel_rfl) Hn.run (by kernel_rfl) (by kernel_rfl) (by kernel_rfl) (by rfl) (by first | assumption | decide +kernel) (by decide +kernel) ⟨rfl, rfl, rfl, rfl, rfl, by decide +kernel⟩ ?hw ?hc
  case hw => w_witness2
  case hc =>
    refine Att.attach_callB (l := PySem.Challenge.rw_lateeditions_k04_lots_and_likenesses) (n := 63) rfl (by kernel_rfl) fun w s₀ s₁ mg mb fa o pm cd doc a vs ns G Y ho hd hcd hmg hobj hints hlen hbits hg => ?_
    obtain ⟨K, inK, Y⟩ := Y
    have L := Hn.lk_of inK G.T.g Y
    obtain ⟨fd, F⟩ := Y.d.def_ 39 (d := Hn.dfn "law" (Dk.top 54)) rfl
    have hmg2 : mg ("law" : PySem.Str) = some (.ref fa) := by
      have e : (HandSHeadRun.topDef (OpenLaw.row PySem.Challenge.rw_lateeditions_k04_lots_and_likenesses).prog 54).name = ("law" : PySem.Str) := by kernel_rfl
      rw [← e]
      exact hmg
    have at_ := hmg2.symm.trans (He.glo_ok inK G.T.g (Y.d.fact 39 (f := .glo "law") rfl))
    cases at_
    have bind := L2.FunD.bindsA (ps := ["_law_script"]) F fun _ _ _ _ _ _ us hl => match us, hl with
      | [_], _ => rfl
    exact Dk.top_callL (Ts := Hn.tL K) (fun base _ _ _ => Dk.ok_law F L) (fun s u => bind s [u] rfl) inK G.T.g G.T.b G.T.builtins G.T.nolimit hg G.T.bmain Y.tab Y.out (fun q hq => PySem.W.codeHd_of_K inK (Y.hd q hq)) hobj hints hlen hbits
