import PyProof.Rows.All
import Wide.All
import OpenK.AllK
import Wide.FinOn
import HandS.ForMost
import HandS.ForExc
import HandS.ExcInit
import PyProof.ExcBaseAll.LookupError
import KE.KExcIs
import HandS.IsInst
import KE.GoesEnum
import PyProof.ReprRoads
import PySem.Challenge.RW_houseslessties_k09_whole_hands_that_come
import HandS.TryMany
import HandS.Lambda
import HandS.Nested
import HandS.EndTab
import HandS.DictTup
import HandS.OwnEq
import HandS.Strs
import HandS.Conv
import HandS.TupAny
import HandS.TupMul
import HandS.SortInts
import HandS.Style
import HandS.MakeKw
import HandS.Defaults
import HandS.TupLe
import HandS.SetKeys
import HandS.SetFor
import HandS.RaiseMore
import KE.KDictDisplayH
import HandS.ExcField
import HandS.Iter
import KE.KDictWalk
import HandS.BoundDict
import HandS.CallLocal
import HandS.TryOnly
import HandS.MakeKwOnly
import HandS.CallSlots
import HandS.EndBits
set_option Elab.async false
set_option linter.all false
set_option maxRecDepth 100000
set_option maxHeartbeats 4000000
/-! exceptions of own classes whose base may be ValueError or KeyError: what is asked of the chain of classes stands as premises -/
namespace K1
open PySem PySem.HandSPX Builtin Builtin.ObjectAttr
/-- what the chain of classes behind the own one must be -/
structure Mro (B : String) (bm : List Value) : Prop where
  b : bm.contains (.type B) = true
  a : bm.contains (.type "AttributeError") = false
  n : bm.contains (.type "NameError") = false
  o : bm.contains (.type "object") = true
  p : ∀ self : Value, refuseLoop self "__setattr__" bm = pure ()
section
variable {prog : Program} {w : World} {A : Around} {E : Value → Shared → Prop} {R : Result → Shared → Prop} {h : Heap} {g : Array GenState} {d : Drawn} {t : Nat} {os : OsState}
variable {nm q : Str} {C N : Addr} {bs bm bmB : List Value} {hdct : Bool} {sn : List Str} {sub : List Value} {ab : Bool} {col : Option Bool} {dd : Option Addr} {k0 k1 k2 k3 k5 : Option Value} {B newId initId : String}
theorem check_newG {M : Model} (F : ExcBaseFacts B newId initId bmB) (T : Mro B bm) {rest : List Value} {Q : Unit → Shared → Prop}
    (hC : h.get? C = some (excClassObj nm q C N bs bm hdct sn sub ab col dd k0 k1 k2 k3 k5 newId)) (hq : Q () ⟨h, g, d, t, os⟩) : wpAny M A (checkBuiltinCall newId ⟨.ref C :: rest, []⟩) Q E ⟨h, g, d, t, os⟩ := by
  have hcont : (Value.ref C :: bm).contains (.type B) = true := by rw [List.contains_cons, T.b, Bool.or_true]
  have hstar := F.noStar
  simp only [checkBuiltinCall, F.newKind, F.newSplit, F.newRow]
  repeat (first | refine wpAny_loadPart_at hC ?_ | (refine wpAny_isSubtype_exc hC ?_; rw [hcont]) | refine wpAny_staticBase_exc hC ?_ | refine wpAny_madeBy_exc hC ?_ | simp only [bne_self_eq_false, Bool.false_eq_true, if_false] | wp_step)
  exact hq
theorem newG (F : ExcBaseFacts B newId initId bmB) (T : Mro B bm) {rest : List Value}
    (hC : h.get? C = some (excClassObj nm q C N bs bm hdct sn sub ab col dd k0 k1 k2 k3 k5 newId))
    (hq : R (.ok (.ret (.ref (h.objs.size + 1)))) ⟨(h.push { cls := .type "tuple", data := .seq rest.toArray }).push
      { cls := .ref C, data := .fields #[.ref h.objs.size, .none, .none, .none, .bool false, .none] }, g, d, t, os⟩) (hrest : rest.length ≤ sizeLine) :
    codeAny (model prog w) A (.builtin newId ⟨.ref C :: rest, []⟩) R ⟨h, g, d, t, os⟩ := by
  have hends := F.ends
  have hcB : (Value.ref C :: bm).contains (.type B) = true := by rw [List.contains_cons, T.b, Bool.or_true]
  have hcA : (Value.ref C :: bm).contains (.type "AttributeError") = false := by rw [List.contains_cons, T.a]; rfl
  have hcN : (Value.ref C :: bm).contains (.type "NameError") = false := by rw [List.contains_cons, T.n]; rfl
  refine codeAny_builtinAt F.entry ?_
  unfold Builtin.«BaseException.__new__»
  refine wpAt_bind ?_
  show wpAt _ _ _ (stack >>= _) _ _ _
  refine wpAt_bind (wpAt_stack fun p below => wpAt_of_wpAny ?_)
  wp_walk
  refine wpAt_of_wpAny ?_
  rw [F.owner]
  repeat (first | with_reducible refine wpAny_madeHere_exc F.canon hC ?_ | with_reducible refine wpAny_loadPart_at hC ?_ | (with_reducible refine wpAny_isSubtype_exc hC ?_; first | rw [hcB] | rw [hcA] | rw [hcN]) | wp_step)
  show R _ _
  rw [Heap.size_push]
  exact hq
theorem type_callG (F : ExcBaseFacts B newId initId bmB) (T : Mro B bm) {rest : List Value} {fI : Addr} {Q : Fin → Shared → Prop}
    (hC : h.get? C = some (excClassObj nm q C N bs bm hdct sn sub ab col dd k0 k1 k2 k3 k5 newId))
    (hi : W.Looks (model prog w) h (typeLookup (.ref C) "__init__") (some (.ref fI))) (hb : ∀ self, W.Looks (model prog w) h (bindSpecial (.ref fI) self) (.ref fI, [self])) (hrest : rest.length ≤ sizeLine)
    (hq : codeAny (model prog w) A (.call (.ref fI) ⟨.ref (h.objs.size + 1) :: rest, []⟩)
      (fun r s' => match r with | .ok (.ret v) => v = .none ∧ Q (.done (.ret (.ref (h.objs.size + 1)))) s' | .ok _ => False | .error e => E e s')
      ⟨(h.push (W.kdv_tup rest)).push (excO C h.objs.size), g, d, t, os⟩) :
    wpAny (model prog w) A (Builtin.«type.__call__» ⟨.ref C :: rest, []⟩) Q E ⟨h, g, d, t, os⟩ := by
  repeat (first | with_reducible refine wpAny_loadPart_at hC ?_ | with_reducible refine wpAny_madeBy_exc hC ?_ | wp_step)
  refine codeAny_call_builtin_code (Code.quiet_builtin _ F.quiet) (check_newG F T hC ?_)
  refine newG F T hC ?_ hrest
  show wpAny _ _ _ _ _ _
  have k : ∀ b o, h.get? b = some o → ((h.push (W.kdv_tup rest)).push (excO C h.objs.size)).get? b = some o := fun b o e => Heap.get?_push_of_some _ (Heap.get?_push_of_some _ e)
  have hC₁ := k _ _ hC
  have hget : ((h.push (W.kdv_tup rest)).push (excO C h.objs.size)).get? (h.objs.size + 1) = some (excO C h.objs.size) := by heap_get
  have hcC : (Value.ref C :: bm).contains (.ref C) = true := by simp
  have i1 := hi.keeps k
  have b1 := (hb (.ref (h.objs.size + 1))).keeps k
  unfold isInstance
  repeat (first | with_reducible refine wpAny_loadPart_at hget ?_ | (with_reducible refine wpAny_isSubtype_exc hC₁ ?_; rw [hcC]) | wp_step)
  show wpAny _ _ (typeLookup (.ref C) _) _ _ _
  refine i1.at ?_
  refine wpAny_holding (wpAny_bind (b1.at ?_))
  refine wpAny_bind (wpAny_call (codeAny_mono hq fun r s' z => ?_))
  rcases r with e | (v | _ | _ | _) <;> first | exact z | exact z.elim | skip
  obtain ⟨rfl, z⟩ := z
  first
    | exact wpAny_pure (wpAny_pure z)
    | (wp_walk; exact z)
theorem call_ownG (F : ExcBaseFacts B newId initId bmB) (T : Mro B bm) {rest : List Value} {fI : Addr}
    (hC : h.get? C = some (excClassObj nm q C N bs bm hdct sn sub ab col dd k0 k1 k2 k3 k5 newId))
    (hi : W.Looks (model prog w) h (typeLookup (.ref C) "__init__") (some (.ref fI))) (hb : ∀ self, W.Looks (model prog w) h (bindSpecial (.ref fI) self) (.ref fI, [self])) (hrest : rest.length ≤ sizeLine)
    (hq : codeAny (model prog w) (A.under (.builtin "type.__call__" ⟨.ref C :: rest, []⟩)) (.call (.ref fI) ⟨.ref (h.objs.size + 1) :: rest, []⟩) (W.InitBack (h.objs.size + 1) R)
      ⟨(h.push (W.kdv_tup rest)).push (excO C h.objs.size), g, d, t, os⟩) :
    codeAny (model prog w) A (.call (.ref C) ⟨rest, []⟩) R ⟨h, g, d, t, os⟩ := by
  have f1 := tc_lookup
  have f2 := tc_bind (.ref C)
  have hTy : (⟨h, g, d, t, os⟩ : Shared).TypeIs (.ref C) "type" := ⟨_, hC, rfl⟩
  refine codeAny_of_tree ?_
  show wpAny _ _ (callAny (.ref C) _) _ _ _
  repeat (any_goals (first | assumption | with_reducible refine wpAny_loadPart_at hC ?_ | wp_step))
  refine ⟨rfl, ?_⟩
  refine codeAny_call_builtin_at (Code.quiet_builtin _ (by decide +kernel)) entry_typeCall (wpAny_check_type_call_sub hC (type_callG F T hC hi hb hrest ?_))
  refine codeAny_mono hq fun r s' z => ?_
  rcases r with e | (v | _ | _ | _) <;> exact z
end
section
variable {prog : Program} {w : World} {A : Around} {E : Value → Shared → Prop} {R : Result → Shared → Prop} {hp : Heap} {g : Array GenState} {d : Drawn} {t : Nat} {os : OsState}
theorem exc_osaG {K : W.Frag} {name : Str} {tk : Tok} {v : Value} {x C : Addr} {fv : Array Value} {cd : ClassData} {B : String} {bm : List Value}
    (X : K.In hp) (hx : hp.get? x = some { cls := .ref C, data := .fields fv }) (hcd : W.clsIn K C = some cd) (hm : cd.mro = .ref C :: bm) (T : Mro B bm) (hh : cd.hasDict = true) (ha : W.findIn K (.ref C) name = some none)
    (hq : ∀ h' tk' dx, (∀ b o, b ≠ x → hp.get? b = some o → h'.get? b = some o) → hp.objs.size ≤ dx → dx ≠ x → h'.get? x = some { cls := .ref C, dict := some dx, data := .fields fv } →
      h'.Ns1 dx (fun y => if y = name then some v else none) → R (.ok (.ret .none)) ⟨h', g, d, tk', os⟩) :
    codeAny (model prog w) A (.call (.builtin "object.__setattr__") ⟨[.ref x, .str name tk, v], []⟩) R ⟨hp, g, d, t, os⟩ := by
  have I : W.InstAt hp x { cls := .ref C, data := .fields fv } C none := ⟨hx, rfl, rfl, trivial⟩
  have SF := F.store_object
  have ne : cd.mro.isEmpty = false := by rw [hm]; rfl
  have hob : cd.mro.contains (.type "object") = true := by rw [hm, List.contains_cons, T.o, Bool.or_true]
  have hxs : x ≠ hp.objs.size := Nat.ne_of_lt (Heap.lt_size hx)
  have sub : W.Looks (model prog w) hp (isInstance (.ref x) (.type "object")) true := I.type.andThen (W.looks_mroIn X (by unfold W.mroIn; rw [hcd, Option.bind_some, if_neg (by rw [ne]; decide), hob]))
  refine codeAny_call_builtin SF.slot.plain SF.entry (@W.check_slot (model prog w) _ _ ⟨hp, g, d, t, os⟩ "object.__setattr__" "object" "__setattr__" (.ref x) [.str name tk, v] [] _ SF.kind SF.split sub (SF.args (.ref x) (.str name tk) v) ?_)
  have hmr : W.Looks (model prog w) hp (mroOf (.ref C)) cd.mro := (W.looks_clsIn X hcd).andThen .now
  have L3 : W.Looks (model prog w) hp (storeTaker? none) none := .now
  have hcls : W.Looks (model prog w) hp (classData C) cd := W.looks_clsIn X hcd
  rw [W.osa_eq, refuse_eq]
  refine wpAny_bind (wpAny_bind (I.type.at (wpAny_bind (hmr.at ?_))))
  rw [hm, refuseLoop_ref, T.p]
  refine wpAny_pure (wpAny_bind (I.type.at (wpAny_bind ((W.looks_findIn X ha).at (wpAny_bind (L3.at ?_))))))
  show wpAny _ _ (storeInOwnDict (.ref x) (.ref C) (.str name tk) name v false) _ _ _
  obtain ⟨nm, bs, mro, ns, qn, hd, sn, sb, ab, col, del⟩ := cd
  dsimp only at hh
  subst hh
  unfold storeInOwnDict ownDictForStores
  repeat (first | with_reducible refine store_in_new ?_ ?_ | with_reducible refine wpAny_loadPart_at hx ?_ | with_reducible refine hcls.at ?_ | wp_step)
  · exact ⟨_, #[], _, (Heap.get?_update_ne _ _ _ _ hxs.symm).trans (Heap.get?_push_at rfl rfl), rfl, fun e he => absurd he (by simp), fun _ => rfl⟩
  · intro h' tk' hn' hs
    have hx₁ : (hp.push { cls := .type "dict", data := .dict #[] }).get? x = some { cls := .ref C, data := .fields fv } := Heap.get?_push_of_some _ hx
    refine hq h' tk' hp.objs.size (fun b o hb ho => ?_) (Nat.le_refl _) hxs.symm ?_ hn'
    · exact (hs.2 b (Nat.ne_of_lt (Heap.lt_size ho))).trans ((Heap.get?_update_ne _ _ _ _ hb).trans (Heap.get?_push_of_some _ ho))
    · exact (hs.2 x hxs).trans (Heap.get?_update_self _ hx₁ rfl)
end
abbrev veT : List Value := [.type "ValueError", .type "Exception", .type "BaseException", .type "object"]
abbrev keT : List Value := [.type "KeyError", .type "LookupError", .type "Exception", .type "BaseException", .type "object"]
theorem mro_ve (c : Addr) : Mro "ValueError" (.ref c :: veT) := ⟨rfl, rfl, rfl, rfl, fun self => by rw [refuseLoop_ref]; exact F.store_ValueError.passes self⟩
theorem ke_pass (self : Value) : refuseLoop self "__setattr__" keT = pure () := by kernel_rfl
theorem mro_ke : Mro "LookupError" keT := ⟨by decide +kernel, by decide +kernel, by decide +kernel, by decide +kernel, ke_pass⟩
end K1
/-! own exception classes whose __init__ stores one field -/

namespace K1
open PySem PySem.W PySem.Calls PyProof.Rows PySem.HandSPX
theorem one_le (v : Value) : [v].length ≤ sizeLine := by
  rw [sizeLine_eq]
  exact (by decide : 1 ≤ 16777216)
theorem ldE {M : Model} {s : Shared} {name : Str} {scope : Scope} {L a : Addr} {cd : Value} {m : Str → Option Value} {x : Str} {pos : Pos} {v : Value} {Q : Value → Shared → Prop} {A : Around} {E : Value → Shared → Prop} (hn : s.heap.Ns L m) (hv : m x = some v) (h : Q v s)
    (hk : scope.kind = .function := by rfl) (hl : (envOfC name scope L a cd).kindOf x = some .local := by rfl) (hd : (x == ("__debug__" : Str)) = false := by decide) :
    wpAny M A (eval (.Name x pos) (envOfC name scope L a cd)) Q E s := wpAny_Name (wpAny_loadName_local hk hl hn hv h) hd
end K1
namespace K1
open PySem PySem.Spec PyProof.Rows L2
theorem relO_one {v : V} {v' : Value} {g : Str} (r : RelV v v') (f : Str) : RelO (List.lookup f [(g, v)]) (if f = g then some v' else none) := by
  by_cases hw : f = g
  · subst hw
    rw [if_pos rfl]
    have q : List.lookup f [(f, v)] = some v := by simp [List.lookup]
    rw [q]
    exact r
  · rw [if_neg hw]
    have qw : (f == g) = false := by simpa using hw
    have q2 : List.lookup f [(g, v)] = none := by simp [List.lookup, qw]
    rw [q2]
    trivial
/-- C(e), C's __init__ storing e as the field g -/
def tMkF (g : Str) (C : Addr) (ta : TA) : L2.St → Hp → XK → Prop := fun σ H Q => ta σ H fun vs H1 => ∃ v, vs = [v] ∧ ∀ d, H1 d = none → Q (.ref C) (some d) (upd H1 d (.xd [(g, v)]))
def tRaiseF (g : Str) (C : Addr) (W : WX) (ta : TA) : TS := fun _ σ H => tMkF g C ta σ H fun cls d H' => W cls d σ H'
def tByF (g : Str) (C : Addr) (a : Addr) (cls : Value) (d : Option Addr) (te : TE) : TE := fun σ H Q => te σ H fun x H1 => x = .ref a ∧ cls = .ref C ∧ ∃ (dd : Addr) (v : V), d = some dd ∧ H1 dd = some (.xd [(g, v)]) ∧ Q v H1
end K1

namespace K1
namespace LAt
open PySem PySem.W PySem.Calls PyProof.Rows PySem.HandSPX
/-- the text of __init__ -/
def iA (p1 p2 : Pos) : Arguments := { posonlyargs := [], args := [{ arg := "self", annotation := none, pos := p1 }, { arg := "at", annotation := none, pos := p2 }], vararg := none, kwonlyargs := [], kw_defaults := [], kwarg := none, defaults := [] }
def iB (q1 q2 q3 q4 : Pos) : List Stmt := [.Assign [.Attribute (.Name "self" q1) "at" q2] (.Name "at" q3) q4]
def iS : Scope := { kind := .function, names := [(PySem.Str.ofString "self", .local), (PySem.Str.ofString "at", .local)], isGenerator := false, isCoroutine := false, more := [] }
/-- what the written part says of the class at C (named cn), of its chain bm, and of its __init__, at fI -/
structure Txt (K : Frag) (mg : Str → Option Value) (cn ql : Str) (bm : List Value) (C fI : Addr) : Prop where
  gC : mg cn = some (.ref C)
  cls : ∃ nm q N bs sn sub ab col dd k0 k1 k2 k3 k5, K.lookup C = some (excClassObj nm q C N bs bm true sn sub ab col dd k0 k1 k2 k3 k5 "ValueError.__new__")
  mr : Mro "ValueError" bm
  sa : findIn K (.ref C) "__setattr__" = some (some (.builtin "object.__setattr__"))
  ga : findIn K (.ref C) "__getattribute__" = some (some (.builtin "BaseException.__getattribute__"))
  gg : findIn K (.ref C) "__getattr__" = some none
  noN : findIn K (.ref C) "at" = some none
  iC : findIn K (.ref C) "__init__" = some (some (.ref fI))
  tC : typeIn K (.ref fI) = some (.type "function")
  kC : keepIn K (.ref C) = true
  exC : subIn K (.ref C) (.type "BaseException") = some true
  tyC : typeIn K (.ref C) = some (.type "type")
  hdC : hasDictIn K C = true
  fn : ∃ (oc : Value) (od : Option Addr) (doc pm : Value) (an : Option Addr) (cdv ct : Value) (osl : Array (Option Value)) (p1 p2 q1 q2 q3 q4 : Pos),
    K.lookup fI = some ⟨oc, od, .func (fnOf "__init__" ql (iA p1 p2) (iB q1 q2 q3 q4) iS .none .none doc pm an cdv ct), osl⟩ ∧ codeIn K cdv ql = true
/-- what __init__ leaves of a fresh exception at x -/
structure InitEnd (h h' : Heap) (x C dx t1 : Addr) (v : Value) : Prop where
  keep : ∀ b o, b ≠ x → h.get? b = some o → h'.get? b = some o
  obj : h'.get? x = some { cls := .ref C, dict := some dx, data := .fields #[.ref t1, .none, .none, .none, .bool false, .none] }
  dbig : h.objs.size ≤ dx
  dne : dx ≠ x
  ns : h'.Ns1 dx (fun y => if y = "at" then some v else none)
structure OwnMade (h h' : Heap) (e C d : Addr) (v : Value) : Prop where
  keep : ∀ b o, h.get? b = some o → h'.get? b = some o
  new : h.objs.size ≤ e
  obj : ∃ oe vs, h'.get? e = some oe ∧ oe.cls = .ref C ∧ oe.dict = some d ∧ oe.data = .fields vs ∧ vs[1]? = some .none
  dbig : h.objs.size ≤ d
  dne : d ≠ e
  ns : h'.Ns1 d (fun y => if y = "at" then some v else none)
section
variable {prog : Program} {w : World} {A : Around} {E : Value → Shared → Prop} {R : Result → Shared → Prop} {s : Shared} {K : Frag} {mg : Str → Option Value} {cn ql : Str} {bm : List Value} {C fI : Addr}
theorem init (T : Txt K mg cn ql bm C fI) {x t0 : Addr} {v : Value} (X : K.In s.heap) (hlim : s.heap.NoLimit) (hx : s.heap.get? x = some (excO C t0)) (hnx : K.lookup x = none) (hroom : A.depth < recursionLimit)
    (hq : ∀ h' tk dx, InitEnd s.heap h' x C dx t0 v → R (.ok (.ret .none)) { s with heap := h', toks := tk }) :
    codeAny (model prog w) A (.call (.ref fI) ⟨[.ref x, v], []⟩) R s := by
  obtain ⟨oc, od, doc, pm, an, cdv, ct, osl, p1, p2, q1, q2, q3, q4, ho, hcd⟩ := T.fn
  obtain ⟨nm, q, N, bs, sn, sub, ab, col, dd, k0, k1, k2, k3, k5, hC⟩ := T.cls
  have hcl : clsIn K C = some { name := nm, bases := bs, mro := .ref C :: bm, ns := N, qualname := q, hasDict := true, slotNames := sn, subclasses := sub, abstract := ab, collection := col, hasDel := false } := by unfold clsIn; rw [hC] <;> rfl
  refine Att.call_fn (binds := [("self", .ref x), ("at", v)]) X hlim ho hcd hroom (BindsTo.of_eq (by first | rfl | with_unfolding_all rfl)) (by first | rfl | decide | with_unfolding_all rfl) (fun s₁ IC => ?_) rfl rfl rfl
  obtain ⟨h₁, tk₁, rfl⟩ := IC.toInCall.same
  have k : ∀ b o, s.heap.get? b = some o → h₁.get? b = some o := IC.toInCall.keep
  have hn := IC.toInCall.ns
  have X₁ : K.In h₁ := X.keeps k
  have hx₁ := k _ _ hx
  show wpAny _ _ (execs _ _) _ _ _
  refine wpAny_execs_cons (plainObj_wpAny_Assign_Attribute ?_)
  refine ldE (v := v) hn (by first | rfl | with_unfolding_all rfl | kernel_rfl) (ldE (v := .ref x) hn (by first | rfl | with_unfolding_all rfl | kernel_rfl) ?_)
  refine set_plain X₁ (ox := excO C t0) (od := none) ⟨hx₁, rfl, rfl, trivial⟩ T.sa ?_
  refine exc_osaG X₁ hx₁ hcl rfl T.mr rfl T.noN (fun h₃ tk₃ dx k₃ dn dne hx₃ hn₃ => ?_)
  show wpAny _ _ (execs _ _) _ _ _
  have z : s.heap.objs.size < h₁.objs.size := hn.lt
  exact wpAny_execs_nil (hq h₃ tk₃ dx ⟨fun b o hb e => k₃ b o hb (k b o e), hx₃, Nat.le_of_lt (Nat.lt_of_lt_of_le z dn), dne, hn₃⟩)
theorem made (T : Txt K mg cn ql bm C fI) {v : Value} (X : K.In s.heap) (hlim : s.heap.NoLimit) (hroom : A.depth + 1 < recursionLimit)
    (hq : ∀ h' tk e d, OwnMade s.heap h' e C d v → R (.ok (.ret (.ref e))) { s with heap := h', toks := tk }) :
    codeAny (model prog w) A (.call (.ref C) ⟨[v], []⟩) R s := by
  obtain ⟨nm, q, N, bs, sn, sub, ab, col, dd, k0, k1, k2, k3, k5, hC⟩ := T.cls
  obtain ⟨hp, g, dr, tk, os⟩ := s
  have k : ∀ b o, hp.get? b = some o → ((hp.push (kdv_tup [v])).push (excO C hp.objs.size)).get? b = some o := fun b o e => Heap.get?_push_of_some _ (Heap.get?_push_of_some _ e)
  have hget : ((hp.push (kdv_tup [v])).push (excO C hp.objs.size)).get? (hp.objs.size + 1) = some (excO C hp.objs.size) := by heap_get
  have hnx : K.lookup (hp.objs.size + 1) = none := by
    cases e : K.lookup (hp.objs.size + 1) with
    | none => rfl
    | some o =>
      have z : hp.get? (hp.objs.size + 1) = some o := X _ _ e
      exact absurd (Nat.lt_of_succ_lt (Heap.lt_size z)) (Nat.lt_irrefl _)
  refine call_ownG F.excBase_ValueError T.mr (X _ _ hC) (looks_findIn X T.iC) (fun self => bind_fn X self T.tC) (one_le v) ?_
  refine init (s := ⟨(hp.push (kdv_tup [v])).push (excO C hp.objs.size), g, dr, tk, os⟩) T (X.keeps k) (hlim.keeps k) hget hnx ?_ fun h' tk' dx ⟨k', hx, dn, dne, hns⟩ => ?_
  · show A.depth + 1 < recursionLimit
    exact hroom
  · have old : ∀ b o, hp.get? b = some o → h'.get? b = some o := fun b o e => k' b o (Nat.ne_of_lt (Nat.lt_succ_of_lt (Heap.lt_size e))) (k b o e)
    have z : hp.objs.size + 1 + 1 ≤ dx := by
      first
        | (simpa only [Heap.size_push] using dn)
        | exact dn
        | (have q := dn; rw [Heap.size_push, Heap.size_push] at q; exact q)
    exact ⟨rfl, hq h' tk' (hp.objs.size + 1) dx ⟨old, Nat.le_succ _, ⟨_, _, hx, rfl, rfl, rfl, rfl⟩, Nat.le_trans (Nat.le_trans (Nat.le_succ _) (Nat.le_succ _)) z, dne, hns⟩⟩
end
end LAt
end K1
namespace K1
open PySem PySem.Spec PyProof.Rows L2
section
variable {X : Cx} {cn ql : Str} {bm : List Value} {C fI : Addr}
theorem pmk_LAt {a : Expr} {ta : TA} {p pos : Pos} {k : Nat} (T : LAt.Txt X.K X.mg cn ql bm C fI) (hr : Room k X.A) (ha : PA X [a] ta) (hg : Gl X cn := by rfl)
    (he : starEach (a :: []) X.env = (false, eval a X.env) :: starEach [] X.env := by rfl) (hpl : (backTo pos (starEach [] X.env)).any (·.1) = false := by rfl) (hdb : (cn == ("__debug__" : Str)) = false := by decide) :
    PMk X (.Call (.Name cn p) [a] [] pos) (tMkF "at" C ta) := by
  intro pins s σ H Q I h
  refine wpAny_Call_Name_kw (ld_glob I hg T.gC ?_ hdb)
  refine PySem.W.callWith_K (h₀ := X.base) I.ok.mod.kin T.kC (thn (ha.run pos pins s σ H _ I h) fun us s1 hh => ?_) he hpl
  obtain ⟨vs, H1, I1, r1, v, ev, q1⟩ := hh
  subst ev
  refine ⟨I1.kIn, ?_⟩
  cases r1 with
  | cons rv rn =>
    rename_i v' us'
    cases rn
    show wpAny _ _ (call (.ref C) [v']) _ _ _
    have hlim := I1.nolimit
    obtain ⟨hp, g, dr, tk, os⟩ := s1
    refine wpAny_call (LAt.made T I1.kIn hlim (by have := hr.dp; omega) fun h' tk' e d M => ?_)
    show MkP X pins σ Q (.ref e) ⟨h', g, dr, tk', os⟩
    obtain ⟨oe, fv, hoe, hc, hd, hdat, h1⟩ := M.obj
    have hns := M.ns
    obtain ⟨G', g1, g2⟩ := restrict h' fun b => decide (b ≠ e)
    have gk : ∀ b, b ≠ e → G'.get? b = h'.get? b := fun b hb => g1 b (decide_eq_true hb)
    have ge : G'.get? e = none := g2 e (by simp)
    have old : ∀ b o, hp.get? b = some o → G'.get? b = some o := fun b o q => (gk b (Nat.ne_of_lt (Nat.lt_of_lt_of_le (Heap.lt_size q) M.new))).trans (M.keep b o q)
    have ob : ObjOk X.prog X.w (upd H1 d (.xd [(("at" : Str), v)])) G' d (.xd [(("at" : Str), v)]) :=
      ⟨_, hns.at (fun o q => (gk d M.dne).trans q), fun f => relO_one rv f⟩
    have J : Inv X pins σ (upd H1 d (.xd [(("at" : Str), v)])) ⟨G', g, dr, tk', os⟩ := I1.laid (t' := tk') old M.dbig ob
    refine ⟨e, oe, fv, ⟨G', g, dr, tk', os⟩, _, .ref C, some d, rfl, J, fun b o q => ?_, ge, hoe, ⟨hc, hd⟩, hdat, h1, ?_, rfl, I1.bare, raises_own T.exC T.tyC, q1 d (I1.hok.fresh M.dbig)⟩
    · by_cases hb : b = e
      · have q' : G'.get? b = some o := q
        rw [hb, ge] at q'; cases q'
      · exact (gk b hb).symm.trans q
    · rw [upd_ne (Ne.symm M.dne)]
      exact I1.hok.fresh M.new
theorem ps_raise_LAt {a : Expr} {ta : TA} {W : WX} {p pos pos2 : Pos} {k : Nat} (hc : X.calm = true) (T : LAt.Txt X.K X.mg cn ql bm C fI) (hr : Room k X.A) (tk : Takes X W) (ha : PA X [a] ta) (hg : Gl X cn := by rfl)
    (he : starEach (a :: []) X.env = (false, eval a X.env) :: starEach [] X.env := by rfl) (hpl : (backTo pos (starEach [] X.env)).any (·.1) = false := by rfl) (hdb : (cn == ("__debug__" : Str)) = false := by decide) :
    PS X (.Raise (some (.Call (.Name cn p) [a] [] pos)) none pos2) (tRaiseF "at" C W ta) := ps_raise hc tk (pmk_LAt T hr ha hg he hpl hdb)
theorem pe_by_LAt {a : Addr} {oe : Obj} {cls : Value} {d : Option Addr} {pn : List (Addr × Obj)} {e : Expr} {te : TE} {pos : Pos} (T : LAt.Txt X.K X.mg cn ql bm C fI) (hz : Zc cls d oe) (hf : ∃ vs, oe.data = .fields vs) (he : PE (X.suite a ((a, oe) :: pn)) e te)
    (hb : attributeBase e "at" X.env (eval e X.env) = eval e X.env := by rfl) :
    PE (X.suite a ((a, oe) :: pn)) (.Attribute e "at" pos) (tByF "at" C a cls d te) := by
  refine ⟨fun pins s σ H Q I h => ?_⟩
  refine attr_of hb (thn (he.run pins s σ H _ I h) fun u s1 hh => ?_)
  obtain ⟨x, H1, I1, rx, ex, ec, dd, v, ed, ea, q⟩ := hh
  subst ex
  obtain rfl : u = Value.ref a := rx
  subst ec
  subst ed
  obtain ⟨ha, _⟩ := I1.pin (a, oe) (List.mem_append_left _ List.mem_cons_self)
  obtain ⟨vs, hd⟩ := hf
  have hx : ObjOk X.prog X.w H1 s1.heap dd (.xd [(("at" : Str), v)]) := I1.hok dd _ ea
  obtain ⟨mA, hns, hr⟩ := hx
  obtain ⟨od, ho, hl⟩ := lookIn_ns hns
  have l : List.lookup ("at" : Str) [(("at" : Str), v)] = some v := by simp [List.lookup]
  obtain ⟨u, hu, ru⟩ := RelO.some_of (v := v) (o := mA "at") (by rw [← l]; exact hr "at")
  have J : PySem.W.InstAt s1.heap a oe C (some od) := ⟨ha, hz.1, by unfold PySem.W.notCls; rw [hd] <;> rfl, by rw [hz.2]; exact ho⟩
  exact HandSPX.exc_get I1.kIn J T.ga T.gg T.exC (PySem.W.findObj_own T.hdC T.noN rfl (by rw [hl, hu])) (handed_of ru) ⟨v, H1, I1.tok _, ru, q⟩
end
end K1

namespace K1
namespace LState
open PySem PySem.W PySem.Calls PyProof.Rows PySem.HandSPX
/-- the text of __init__ -/
def iA (p1 p2 : Pos) : Arguments := { posonlyargs := [], args := [{ arg := "self", annotation := none, pos := p1 }, { arg := "state", annotation := none, pos := p2 }], vararg := none, kwonlyargs := [], kw_defaults := [], kwarg := none, defaults := [] }
def iB (q1 q2 q3 q4 : Pos) : List Stmt := [.Assign [.Attribute (.Name "self" q1) "state" q2] (.Name "state" q3) q4]
def iS : Scope := { kind := .function, names := [(PySem.Str.ofString "self", .local), (PySem.Str.ofString "state", .local)], isGenerator := false, isCoroutine := false, more := [] }
/-- what the written part says of the class at C (named cn), of its chain bm, and of its __init__, at fI -/
structure Txt (K : Frag) (mg : Str → Option Value) (cn ql : Str) (bm : List Value) (C fI : Addr) : Prop where
  gC : mg cn = some (.ref C)
  cls : ∃ nm q N bs sn sub ab col dd k0 k1 k2 k3 k5, K.lookup C = some (excClassObj nm q C N bs bm true sn sub ab col dd k0 k1 k2 k3 k5 "LookupError.__new__")
  mr : Mro "LookupError" bm
  sa : findIn K (.ref C) "__setattr__" = some (some (.builtin "object.__setattr__"))
  ga : findIn K (.ref C) "__getattribute__" = some (some (.builtin "BaseException.__getattribute__"))
  gg : findIn K (.ref C) "__getattr__" = some none
  noN : findIn K (.ref C) "state" = some none
  iC : findIn K (.ref C) "__init__" = some (some (.ref fI))
  tC : typeIn K (.ref fI) = some (.type "function")
  kC : keepIn K (.ref C) = true
  exC : subIn K (.ref C) (.type "BaseException") = some true
  tyC : typeIn K (.ref C) = some (.type "type")
  hdC : hasDictIn K C = true
  fn : ∃ (oc : Value) (od : Option Addr) (doc pm : Value) (an : Option Addr) (cdv ct : Value) (osl : Array (Option Value)) (p1 p2 q1 q2 q3 q4 : Pos),
    K.lookup fI = some ⟨oc, od, .func (fnOf "__init__" ql (iA p1 p2) (iB q1 q2 q3 q4) iS .none .none doc pm an cdv ct), osl⟩ ∧ codeIn K cdv ql = true
/-- what __init__ leaves of a fresh exception at x -/
structure InitEnd (h h' : Heap) (x C dx t1 : Addr) (v : Value) : Prop where
  keep : ∀ b o, b ≠ x → h.get? b = some o → h'.get? b = some o
  obj : h'.get? x = some { cls := .ref C, dict := some dx, data := .fields #[.ref t1, .none, .none, .none, .bool false, .none] }
  dbig : h.objs.size ≤ dx
  dne : dx ≠ x
  ns : h'.Ns1 dx (fun y => if y = "state" then some v else none)
structure OwnMade (h h' : Heap) (e C d : Addr) (v : Value) : Prop where
  keep : ∀ b o, h.get? b = some o → h'.get? b = some o
  new : h.objs.size ≤ e
  obj : ∃ oe vs, h'.get? e = some oe ∧ oe.cls = .ref C ∧ oe.dict = some d ∧ oe.data = .fields vs ∧ vs[1]? = some .none
  dbig : h.objs.size ≤ d
  dne : d ≠ e
  ns : h'.Ns1 d (fun y => if y = "state" then some v else none)
section
variable {prog : Program} {w : World} {A : Around} {E : Value → Shared → Prop} {R : Result → Shared → Prop} {s : Shared} {K : Frag} {mg : Str → Option Value} {cn ql : Str} {bm : List Value} {C fI : Addr}
theorem init (T : Txt K mg cn ql bm C fI) {x t0 : Addr} {v : Value} (X : K.In s.heap) (hlim : s.heap.NoLimit) (hx : s.heap.get? x = some (excO C t0)) (hnx : K.lookup x = none) (hroom : A.depth < recursionLimit)
    (hq : ∀ h' tk dx, InitEnd s.heap h' x C dx t0 v → R (.ok (.ret .none)) { s with heap := h', toks := tk }) :
    codeAny (model prog w) A (.call (.ref fI) ⟨[.ref x, v], []⟩) R s := by
  obtain ⟨oc, od, doc, pm, an, cdv, ct, osl, p1, p2, q1, q2, q3, q4, ho, hcd⟩ := T.fn
  obtain ⟨nm, q, N, bs, sn, sub, ab, col, dd, k0, k1, k2, k3, k5, hC⟩ := T.cls
  have hcl : clsIn K C = some { name := nm, bases := bs, mro := .ref C :: bm, ns := N, qualname := q, hasDict := true, slotNames := sn, subclasses := sub, abstract := ab, collection := col, hasDel := false } := by unfold clsIn; rw [hC] <;> rfl
  refine Att.call_fn (binds := [("self", .ref x), ("state", v)]) X hlim ho hcd hroom (BindsTo.of_eq (by first | rfl | with_unfolding_all rfl)) (by first | rfl | decide | with_unfolding_all rfl) (fun s₁ IC => ?_) rfl rfl rfl
  obtain ⟨h₁, tk₁, rfl⟩ := IC.toInCall.same
  have k : ∀ b o, s.heap.get? b = some o → h₁.get? b = some o := IC.toInCall.keep
  have hn := IC.toInCall.ns
  have X₁ : K.In h₁ := X.keeps k
  have hx₁ := k _ _ hx
  show wpAny _ _ (execs _ _) _ _ _
  refine wpAny_execs_cons (plainObj_wpAny_Assign_Attribute ?_)
  refine ldE (v := v) hn (by first | rfl | with_unfolding_all rfl | kernel_rfl) (ldE (v := .ref x) hn (by first | rfl | with_unfolding_all rfl | kernel_rfl) ?_)
  refine set_plain X₁ (ox := excO C t0) (od := none) ⟨hx₁, rfl, rfl, trivial⟩ T.sa ?_
  refine exc_osaG X₁ hx₁ hcl rfl T.mr rfl T.noN (fun h₃ tk₃ dx k₃ dn dne hx₃ hn₃ => ?_)
  show wpAny _ _ (execs _ _) _ _ _
  have z : s.heap.objs.size < h₁.objs.size := hn.lt
  exact wpAny_execs_nil (hq h₃ tk₃ dx ⟨fun b o hb e => k₃ b o hb (k b o e), hx₃, Nat.le_of_lt (Nat.lt_of_lt_of_le z dn), dne, hn₃⟩)
theorem made (T : Txt K mg cn ql bm C fI) {v : Value} (X : K.In s.heap) (hlim : s.heap.NoLimit) (hroom : A.depth + 1 < recursionLimit)
    (hq : ∀ h' tk e d, OwnMade s.heap h' e C d v → R (.ok (.ret (.ref e))) { s with heap := h', toks := tk }) :
    codeAny (model prog w) A (.call (.ref C) ⟨[v], []⟩) R s := by
  obtain ⟨nm, q, N, bs, sn, sub, ab, col, dd, k0, k1, k2, k3, k5, hC⟩ := T.cls
  obtain ⟨hp, g, dr, tk, os⟩ := s
  have k : ∀ b o, hp.get? b = some o → ((hp.push (kdv_tup [v])).push (excO C hp.objs.size)).get? b = some o := fun b o e => Heap.get?_push_of_some _ (Heap.get?_push_of_some _ e)
  have hget : ((hp.push (kdv_tup [v])).push (excO C hp.objs.size)).get? (hp.objs.size + 1) = some (excO C hp.objs.size) := by heap_get
  have hnx : K.lookup (hp.objs.size + 1) = none := by
    cases e : K.lookup (hp.objs.size + 1) with
    | none => rfl
    | some o =>
      have z : hp.get? (hp.objs.size + 1) = some o := X _ _ e
      exact absurd (Nat.lt_of_succ_lt (Heap.lt_size z)) (Nat.lt_irrefl _)
  refine call_ownG F.excBase_LookupError T.mr (X _ _ hC) (looks_findIn X T.iC) (fun self => bind_fn X self T.tC) (one_le v) ?_
  refine init (s := ⟨(hp.push (kdv_tup [v])).push (excO C hp.objs.size), g, dr, tk, os⟩) T (X.keeps k) (hlim.keeps k) hget hnx ?_ fun h' tk' dx ⟨k', hx, dn, dne, hns⟩ => ?_
  · show A.depth + 1 < recursionLimit
    exact hroom
  · have old : ∀ b o, hp.get? b = some o → h'.get? b = some o := fun b o e => k' b o (Nat.ne_of_lt (Nat.lt_succ_of_lt (Heap.lt_size e))) (k b o e)
    have z : hp.objs.size + 1 + 1 ≤ dx := by
      first
        | (simpa only [Heap.size_push] using dn)
        | exact dn
        | (have q := dn; rw [Heap.size_push, Heap.size_push] at q; exact q)
    exact ⟨rfl, hq h' tk' (hp.objs.size + 1) dx ⟨old, Nat.le_succ _, ⟨_, _, hx, rfl, rfl, rfl, rfl⟩, Nat.le_trans (Nat.le_trans (Nat.le_succ _) (Nat.le_succ _)) z, dne, hns⟩⟩
end
end LState
end K1
namespace K1
open PySem PySem.Spec PyProof.Rows L2
section
variable {X : Cx} {cn ql : Str} {bm : List Value} {C fI : Addr}
theorem pmk_LState {a : Expr} {ta : TA} {p pos : Pos} {k : Nat} (T : LState.Txt X.K X.mg cn ql bm C fI) (hr : Room k X.A) (ha : PA X [a] ta) (hg : Gl X cn := by rfl)
    (he : starEach (a :: []) X.env = (false, eval a X.env) :: starEach [] X.env := by rfl) (hpl : (backTo pos (starEach [] X.env)).any (·.1) = false := by rfl) (hdb : (cn == ("__debug__" : Str)) = false := by decide) :
    PMk X (.Call (.Name cn p) [a] [] pos) (tMkF "state" C ta) := by
  intro pins s σ H Q I h
  refine wpAny_Call_Name_kw (ld_glob I hg T.gC ?_ hdb)
  refine PySem.W.callWith_K (h₀ := X.base) I.ok.mod.kin T.kC (thn (ha.run pos pins s σ H _ I h) fun us s1 hh => ?_) he hpl
  obtain ⟨vs, H1, I1, r1, v, ev, q1⟩ := hh
  subst ev
  refine ⟨I1.kIn, ?_⟩
  cases r1 with
  | cons rv rn =>
    rename_i v' us'
    cases rn
    show wpAny _ _ (call (.ref C) [v']) _ _ _
    have hlim := I1.nolimit
    obtain ⟨hp, g, dr, tk, os⟩ := s1
    refine wpAny_call (LState.made T I1.kIn hlim (by have := hr.dp; omega) fun h' tk' e d M => ?_)
    show MkP X pins σ Q (.ref e) ⟨h', g, dr, tk', os⟩
    obtain ⟨oe, fv, hoe, hc, hd, hdat, h1⟩ := M.obj
    have hns := M.ns
    obtain ⟨G', g1, g2⟩ := restrict h' fun b => decide (b ≠ e)
    have gk : ∀ b, b ≠ e → G'.get? b = h'.get? b := fun b hb => g1 b (decide_eq_true hb)
    have ge : G'.get? e = none := g2 e (by simp)
    have old : ∀ b o, hp.get? b = some o → G'.get? b = some o := fun b o q => (gk b (Nat.ne_of_lt (Nat.lt_of_lt_of_le (Heap.lt_size q) M.new))).trans (M.keep b o q)
    have ob : ObjOk X.prog X.w (upd H1 d (.xd [(("state" : Str), v)])) G' d (.xd [(("state" : Str), v)]) :=
      ⟨_, hns.at (fun o q => (gk d M.dne).trans q), fun f => relO_one rv f⟩
    have J : Inv X pins σ (upd H1 d (.xd [(("state" : Str), v)])) ⟨G', g, dr, tk', os⟩ := I1.laid (t' := tk') old M.dbig ob
    refine ⟨e, oe, fv, ⟨G', g, dr, tk', os⟩, _, .ref C, some d, rfl, J, fun b o q => ?_, ge, hoe, ⟨hc, hd⟩, hdat, h1, ?_, rfl, I1.bare, raises_own T.exC T.tyC, q1 d (I1.hok.fresh M.dbig)⟩
    · by_cases hb : b = e
      · have q' : G'.get? b = some o := q
        rw [hb, ge] at q'; cases q'
      · exact (gk b hb).symm.trans q
    · rw [upd_ne (Ne.symm M.dne)]
      exact I1.hok.fresh M.new
theorem ps_raise_LState {a : Expr} {ta : TA} {W : WX} {p pos pos2 : Pos} {k : Nat} (hc : X.calm = true) (T : LState.Txt X.K X.mg cn ql bm C fI) (hr : Room k X.A) (tk : Takes X W) (ha : PA X [a] ta) (hg : Gl X cn := by rfl)
    (he : starEach (a :: []) X.env = (false, eval a X.env) :: starEach [] X.env := by rfl) (hpl : (backTo pos (starEach [] X.env)).any (·.1) = false := by rfl) (hdb : (cn == ("__debug__" : Str)) = false := by decide) :
    PS X (.Raise (some (.Call (.Name cn p) [a] [] pos)) none pos2) (tRaiseF "state" C W ta) := ps_raise hc tk (pmk_LState T hr ha hg he hpl hdb)
theorem pe_by_LState {a : Addr} {oe : Obj} {cls : Value} {d : Option Addr} {pn : List (Addr × Obj)} {e : Expr} {te : TE} {pos : Pos} (T : LState.Txt X.K X.mg cn ql bm C fI) (hz : Zc cls d oe) (hf : ∃ vs, oe.data = .fields vs) (he : PE (X.suite a ((a, oe) :: pn)) e te)
    (hb : attributeBase e "state" X.env (eval e X.env) = eval e X.env := by rfl) :
    PE (X.suite a ((a, oe) :: pn)) (.Attribute e "state" pos) (tByF "state" C a cls d te) := by
  refine ⟨fun pins s σ H Q I h => ?_⟩
  refine attr_of hb (thn (he.run pins s σ H _ I h) fun u s1 hh => ?_)
  obtain ⟨x, H1, I1, rx, ex, ec, dd, v, ed, ea, q⟩ := hh
  subst ex
  obtain rfl : u = Value.ref a := rx
  subst ec
  subst ed
  obtain ⟨ha, _⟩ := I1.pin (a, oe) (List.mem_append_left _ List.mem_cons_self)
  obtain ⟨vs, hd⟩ := hf
  have hx : ObjOk X.prog X.w H1 s1.heap dd (.xd [(("state" : Str), v)]) := I1.hok dd _ ea
  obtain ⟨mA, hns, hr⟩ := hx
  obtain ⟨od, ho, hl⟩ := lookIn_ns hns
  have l : List.lookup ("state" : Str) [(("state" : Str), v)] = some v := by simp [List.lookup]
  obtain ⟨u, hu, ru⟩ := RelO.some_of (v := v) (o := mA "state") (by rw [← l]; exact hr "state")
  have J : PySem.W.InstAt s1.heap a oe C (some od) := ⟨ha, hz.1, by unfold PySem.W.notCls; rw [hd] <;> rfl, by rw [hz.2]; exact ho⟩
  exact HandSPX.exc_get I1.kIn J T.ga T.gg T.exC (PySem.W.findObj_own T.hdC T.noN rfl (by rw [hl, hu])) (handed_of ru) ⟨v, H1, I1.tok _, ru, q⟩
end
end K1

namespace K1
namespace LDeed
open PySem PySem.W PySem.Calls PyProof.Rows PySem.HandSPX
/-- the text of __init__ -/
def iA (p1 p2 : Pos) : Arguments := { posonlyargs := [], args := [{ arg := "self", annotation := none, pos := p1 }, { arg := "deed", annotation := none, pos := p2 }], vararg := none, kwonlyargs := [], kw_defaults := [], kwarg := none, defaults := [] }
def iB (q1 q2 q3 q4 : Pos) : List Stmt := [.Assign [.Attribute (.Name "self" q1) "deed" q2] (.Name "deed" q3) q4]
def iS : Scope := { kind := .function, names := [(PySem.Str.ofString "self", .local), (PySem.Str.ofString "deed", .local)], isGenerator := false, isCoroutine := false, more := [] }
/-- what the written part says of the class at C (named cn), of its chain bm, and of its __init__, at fI -/
structure Txt (K : Frag) (mg : Str → Option Value) (cn ql : Str) (bm : List Value) (C fI : Addr) : Prop where
  gC : mg cn = some (.ref C)
  cls : ∃ nm q N bs sn sub ab col dd k0 k1 k2 k3 k5, K.lookup C = some (excClassObj nm q C N bs bm true sn sub ab col dd k0 k1 k2 k3 k5 "LookupError.__new__")
  mr : Mro "LookupError" bm
  sa : findIn K (.ref C) "__setattr__" = some (some (.builtin "object.__setattr__"))
  ga : findIn K (.ref C) "__getattribute__" = some (some (.builtin "BaseException.__getattribute__"))
  gg : findIn K (.ref C) "__getattr__" = some none
  noN : findIn K (.ref C) "deed" = some none
  iC : findIn K (.ref C) "__init__" = some (some (.ref fI))
  tC : typeIn K (.ref fI) = some (.type "function")
  kC : keepIn K (.ref C) = true
  exC : subIn K (.ref C) (.type "BaseException") = some true
  tyC : typeIn K (.ref C) = some (.type "type")
  hdC : hasDictIn K C = true
  fn : ∃ (oc : Value) (od : Option Addr) (doc pm : Value) (an : Option Addr) (cdv ct : Value) (osl : Array (Option Value)) (p1 p2 q1 q2 q3 q4 : Pos),
    K.lookup fI = some ⟨oc, od, .func (fnOf "__init__" ql (iA p1 p2) (iB q1 q2 q3 q4) iS .none .none doc pm an cdv ct), osl⟩ ∧ codeIn K cdv ql = true
/-- what __init__ leaves of a fresh exception at x -/
structure InitEnd (h h' : Heap) (x C dx t1 : Addr) (v : Value) : Prop where
  keep : ∀ b o, b ≠ x → h.get? b = some o → h'.get? b = some o
  obj : h'.get? x = some { cls := .ref C, dict := some dx, data := .fields #[.ref t1, .none, .none, .none, .bool false, .none] }
  dbig : h.objs.size ≤ dx
  dne : dx ≠ x
  ns : h'.Ns1 dx (fun y => if y = "deed" then some v else none)
structure OwnMade (h h' : Heap) (e C d : Addr) (v : Value) : Prop where
  keep : ∀ b o, h.get? b = some o → h'.get? b = some o
  new : h.objs.size ≤ e
  obj : ∃ oe vs, h'.get? e = some oe ∧ oe.cls = .ref C ∧ oe.dict = some d ∧ oe.data = .fields vs ∧ vs[1]? = some .none
  dbig : h.objs.size ≤ d
  dne : d ≠ e
  ns : h'.Ns1 d (fun y => if y = "deed" then some v else none)
section
variable {prog : Program} {w : World} {A : Around} {E : Value → Shared → Prop} {R : Result → Shared → Prop} {s : Shared} {K : Frag} {mg : Str → Option Value} {cn ql : Str} {bm : List Value} {C fI : Addr}
theorem init (T : Txt K mg cn ql bm C fI) {x t0 : Addr} {v : Value} (X : K.In s.heap) (hlim : s.heap.NoLimit) (hx : s.heap.get? x = some (excO C t0)) (hnx : K.lookup x = none) (hroom : A.depth < recursionLimit)
    (hq : ∀ h' tk dx, InitEnd s.heap h' x C dx t0 v → R (.ok (.ret .none)) { s with heap := h', toks := tk }) :
    codeAny (model prog w) A (.call (.ref fI) ⟨[.ref x, v], []⟩) R s := by
  obtain ⟨oc, od, doc, pm, an, cdv, ct, osl, p1, p2, q1, q2, q3, q4, ho, hcd⟩ := T.fn
  obtain ⟨nm, q, N, bs, sn, sub, ab, col, dd, k0, k1, k2, k3, k5, hC⟩ := T.cls
  have hcl : clsIn K C = some { name := nm, bases := bs, mro := .ref C :: bm, ns := N, qualname := q, hasDict := true, slotNames := sn, subclasses := sub, abstract := ab, collection := col, hasDel := false } := by unfold clsIn; rw [hC] <;> rfl
  refine Att.call_fn (binds := [("self", .ref x), ("deed", v)]) X hlim ho hcd hroom (BindsTo.of_eq (by first | rfl | with_unfolding_all rfl)) (by first | rfl | decide | with_unfolding_all rfl) (fun s₁ IC => ?_) rfl rfl rfl
  obtain ⟨h₁, tk₁, rfl⟩ := IC.toInCall.same
  have k : ∀ b o, s.heap.get? b = some o → h₁.get? b = some o := IC.toInCall.keep
  have hn := IC.toInCall.ns
  have X₁ : K.In h₁ := X.keeps k
  have hx₁ := k _ _ hx
  show wpAny _ _ (execs _ _) _ _ _
  refine wpAny_execs_cons (plainObj_wpAny_Assign_Attribute ?_)
  refine ldE (v := v) hn (by first | rfl | with_unfolding_all rfl | kernel_rfl) (ldE (v := .ref x) hn (by first | rfl | with_unfolding_all rfl | kernel_rfl) ?_)
  refine set_plain X₁ (ox := excO C t0) (od := none) ⟨hx₁, rfl, rfl, trivial⟩ T.sa ?_
  refine exc_osaG X₁ hx₁ hcl rfl T.mr rfl T.noN (fun h₃ tk₃ dx k₃ dn dne hx₃ hn₃ => ?_)
  show wpAny _ _ (execs _ _) _ _ _
  have z : s.heap.objs.size < h₁.objs.size := hn.lt
  exact wpAny_execs_nil (hq h₃ tk₃ dx ⟨fun b o hb e => k₃ b o hb (k b o e), hx₃, Nat.le_of_lt (Nat.lt_of_lt_of_le z dn), dne, hn₃⟩)
theorem made (T : Txt K mg cn ql bm C fI) {v : Value} (X : K.In s.heap) (hlim : s.heap.NoLimit) (hroom : A.depth + 1 < recursionLimit)
    (hq : ∀ h' tk e d, OwnMade s.heap h' e C d v → R (.ok (.ret (.ref e))) { s with heap := h', toks := tk }) :
    codeAny (model prog w) A (.call (.ref C) ⟨[v], []⟩) R s := by
  obtain ⟨nm, q, N, bs, sn, sub, ab, col, dd, k0, k1, k2, k3, k5, hC⟩ := T.cls
  obtain ⟨hp, g, dr, tk, os⟩ := s
  have k : ∀ b o, hp.get? b = some o → ((hp.push (kdv_tup [v])).push (excO C hp.objs.size)).get? b = some o := fun b o e => Heap.get?_push_of_some _ (Heap.get?_push_of_some _ e)
  have hget : ((hp.push (kdv_tup [v])).push (excO C hp.objs.size)).get? (hp.objs.size + 1) = some (excO C hp.objs.size) := by heap_get
  have hnx : K.lookup (hp.objs.size + 1) = none := by
    cases e : K.lookup (hp.objs.size + 1) with
    | none => rfl
    | some o =>
      have z : hp.get? (hp.objs.size + 1) = some o := X _ _ e
      exact absurd (Nat.lt_of_succ_lt (Heap.lt_size z)) (Nat.lt_irrefl _)
  refine call_ownG F.excBase_LookupError T.mr (X _ _ hC) (looks_findIn X T.iC) (fun self => bind_fn X self T.tC) (one_le v) ?_
  refine init (s := ⟨(hp.push (kdv_tup [v])).push (excO C hp.objs.size), g, dr, tk, os⟩) T (X.keeps k) (hlim.keeps k) hget hnx ?_ fun h' tk' dx ⟨k', hx, dn, dne, hns⟩ => ?_
  · show A.depth + 1 < recursionLimit
    exact hroom
  · have old : ∀ b o, hp.get? b = some o → h'.get? b = some o := fun b o e => k' b o (Nat.ne_of_lt (Nat.lt_succ_of_lt (Heap.lt_size e))) (k b o e)
    have z : hp.objs.size + 1 + 1 ≤ dx := by
      first
        | (simpa only [Heap.size_push] using dn)
        | exact dn
        | (have q := dn; rw [Heap.size_push, Heap.size_push] at q; exact q)
    exact ⟨rfl, hq h' tk' (hp.objs.size + 1) dx ⟨old, Nat.le_succ _, ⟨_, _, hx, rfl, rfl, rfl, rfl⟩, Nat.le_trans (Nat.le_trans (Nat.le_succ _) (Nat.le_succ _)) z, dne, hns⟩⟩
end
end LDeed
end K1
namespace K1
open PySem PySem.Spec PyProof.Rows L2
section
variable {X : Cx} {cn ql : Str} {bm : List Value} {C fI : Addr}
theorem pmk_LDeed {a : Expr} {ta : TA} {p pos : Pos} {k : Nat} (T : LDeed.Txt X.K X.mg cn ql bm C fI) (hr : Room k X.A) (ha : PA X [a] ta) (hg : Gl X cn := by rfl)
    (he : starEach (a :: []) X.env = (false, eval a X.env) :: starEach [] X.env := by rfl) (hpl : (backTo pos (starEach [] X.env)).any (·.1) = false := by rfl) (hdb : (cn == ("__debug__" : Str)) = false := by decide) :
    PMk X (.Call (.Name cn p) [a] [] pos) (tMkF "deed" C ta) := by
  intro pins s σ H Q I h
  refine wpAny_Call_Name_kw (ld_glob I hg T.gC ?_ hdb)
  refine PySem.W.callWith_K (h₀ := X.base) I.ok.mod.kin T.kC (thn (ha.run pos pins s σ H _ I h) fun us s1 hh => ?_) he hpl
  obtain ⟨vs, H1, I1, r1, v, ev, q1⟩ := hh
  subst ev
  refine ⟨I1.kIn, ?_⟩
  cases r1 with
  | cons rv rn =>
    rename_i v' us'
    cases rn
    show wpAny _ _ (call (.ref C) [v']) _ _ _
    have hlim := I1.nolimit
    obtain ⟨hp, g, dr, tk, os⟩ := s1
    refine wpAny_call (LDeed.made T I1.kIn hlim (by have := hr.dp; omega) fun h' tk' e d M => ?_)
    show MkP X pins σ Q (.ref e) ⟨h', g, dr, tk', os⟩
    obtain ⟨oe, fv, hoe, hc, hd, hdat, h1⟩ := M.obj
    have hns := M.ns
    obtain ⟨G', g1, g2⟩ := restrict h' fun b => decide (b ≠ e)
    have gk : ∀ b, b ≠ e → G'.get? b = h'.get? b := fun b hb => g1 b (decide_eq_true hb)
    have ge : G'.get? e = none := g2 e (by simp)
    have old : ∀ b o, hp.get? b = some o → G'.get? b = some o := fun b o q => (gk b (Nat.ne_of_lt (Nat.lt_of_lt_of_le (Heap.lt_size q) M.new))).trans (M.keep b o q)
    have ob : ObjOk X.prog X.w (upd H1 d (.xd [(("deed" : Str), v)])) G' d (.xd [(("deed" : Str), v)]) :=
      ⟨_, hns.at (fun o q => (gk d M.dne).trans q), fun f => relO_one rv f⟩
    have J : Inv X pins σ (upd H1 d (.xd [(("deed" : Str), v)])) ⟨G', g, dr, tk', os⟩ := I1.laid (t' := tk') old M.dbig ob
    refine ⟨e, oe, fv, ⟨G', g, dr, tk', os⟩, _, .ref C, some d, rfl, J, fun b o q => ?_, ge, hoe, ⟨hc, hd⟩, hdat, h1, ?_, rfl, I1.bare, raises_own T.exC T.tyC, q1 d (I1.hok.fresh M.dbig)⟩
    · by_cases hb : b = e
      · have q' : G'.get? b = some o := q
        rw [hb, ge] at q'; cases q'
      · exact (gk b hb).symm.trans q
    · rw [upd_ne (Ne.symm M.dne)]
      exact I1.hok.fresh M.new
theorem ps_raise_LDeed {a : Expr} {ta : TA} {W : WX} {p pos pos2 : Pos} {k : Nat} (hc : X.calm = true) (T : LDeed.Txt X.K X.mg cn ql bm C fI) (hr : Room k X.A) (tk : Takes X W) (ha : PA X [a] ta) (hg : Gl X cn := by rfl)
    (he : starEach (a :: []) X.env = (false, eval a X.env) :: starEach [] X.env := by rfl) (hpl : (backTo pos (starEach [] X.env)).any (·.1) = false := by rfl) (hdb : (cn == ("__debug__" : Str)) = false := by decide) :
    PS X (.Raise (some (.Call (.Name cn p) [a] [] pos)) none pos2) (tRaiseF "deed" C W ta) := ps_raise hc tk (pmk_LDeed T hr ha hg he hpl hdb)
theorem pe_by_LDeed {a : Addr} {oe : Obj} {cls : Value} {d : Option Addr} {pn : List (Addr × Obj)} {e : Expr} {te : TE} {pos : Pos} (T : LDeed.Txt X.K X.mg cn ql bm C fI) (hz : Zc cls d oe) (hf : ∃ vs, oe.data = .fields vs) (he : PE (X.suite a ((a, oe) :: pn)) e te)
    (hb : attributeBase e "deed" X.env (eval e X.env) = eval e X.env := by rfl) :
    PE (X.suite a ((a, oe) :: pn)) (.Attribute e "deed" pos) (tByF "deed" C a cls d te) := by
  refine ⟨fun pins s σ H Q I h => ?_⟩
  refine attr_of hb (thn (he.run pins s σ H _ I h) fun u s1 hh => ?_)
  obtain ⟨x, H1, I1, rx, ex, ec, dd, v, ed, ea, q⟩ := hh
  subst ex
  obtain rfl : u = Value.ref a := rx
  subst ec
  subst ed
  obtain ⟨ha, _⟩ := I1.pin (a, oe) (List.mem_append_left _ List.mem_cons_self)
  obtain ⟨vs, hd⟩ := hf
  have hx : ObjOk X.prog X.w H1 s1.heap dd (.xd [(("deed" : Str), v)]) := I1.hok dd _ ea
  obtain ⟨mA, hns, hr⟩ := hx
  obtain ⟨od, ho, hl⟩ := lookIn_ns hns
  have l : List.lookup ("deed" : Str) [(("deed" : Str), v)] = some v := by simp [List.lookup]
  obtain ⟨u, hu, ru⟩ := RelO.some_of (v := v) (o := mA "deed") (by rw [← l]; exact hr "deed")
  have J : PySem.W.InstAt s1.heap a oe C (some od) := ⟨ha, hz.1, by unfold PySem.W.notCls; rw [hd] <;> rfl, by rw [hz.2]; exact ho⟩
  exact HandSPX.exc_get I1.kIn J T.ga T.gg T.exC (PySem.W.findObj_own T.hdC T.noN rfl (by rw [hl, hu])) (handed_of ru) ⟨v, H1, I1.tok _, ru, q⟩
end
end K1
/-! enumerate over a tuple, repr of data of any depth, isinstance of a held exception -/
namespace K1
open PySem PySem.Spec PyProof.Rows L2
theorem meets_enum1 {v : Value} {o : Obj} {H : Heap → Prop} (B : Begins v o H) :
    Meets (Builtin.«enumerate.__new__» ⟨[.type "enumerate", v], []⟩) (fun _ R s => H s.heap ∧
      R (.ok (.ret (.ref (s.heap.push o).objs.size))) { s with heap := (s.heap.push o).push { cls := .type "enumerate", data := .fields #[.none, .bool false, .ref s.heap.objs.size, rawInt 0, .none, .none] } }) :=
  .of_wp fun prog w A R s h => by
    obtain ⟨hp, g, d, tk, os⟩ := s
    obtain ⟨h1, h⟩ := h
    have hsub := sub_enumerate
    have q1 : ∀ {A' : Around} {E : Value → Shared → Prop} {Q : Value → Shared → Prop}, Q (.ref hp.objs.size) ⟨hp.push o, g, d, tk, os⟩ → wpAny (model prog w) A' (pyIter v) Q E ⟨hp, g, d, tk, os⟩ :=
      fun q => B.iter prog w _ _ ⟨hp, g, d, tk, os⟩ _ h1 q
    wp_walk using q1
    refine wpAny_stack_any fun st => wpAny_pure ?_
    split
    · rename_i c _ _ _ _ _
      cases (c == Value.type "enumerate") <;> (wp_walk using q1; exact ⟨_, rfl, h⟩)
    · wp_walk using q1
      exact ⟨_, rfl, h⟩
theorem enum_begins1 {prog : Program} {w : World} {A : Around} {E : Value → Shared → Prop} {s : Shared} {v : Value} {o : Obj} {H : Heap → Prop} {Q : Value → Shared → Prop} (B : Begins v o H) (h1 : H s.heap)
    (h : ∀ h', IsEnum h' (s.heap.objs.size + 1) s.heap.objs.size 0 .none → h'.get? s.heap.objs.size = some o → h'.objs.size = s.heap.objs.size + 2 →
      (∀ b o, s.heap.get? b = some o → h'.get? b = some o) → Q (.ref (s.heap.objs.size + 1)) { s with heap := h' }) :
    wpAny (model prog w) A (call (.type "enumerate") [v]) Q E s := by
  refine callType_new F.called_enumerate (by decide) (F.typeCall_enumerate_1 _) (F.newCall_enumerate_1 _) (fun obj => F.args_object_init_2 obj _) F.entry_enumerate_new (meets_enum1 B) ⟨h1, ?_⟩
  have hz : (s.heap.push o).objs.size = s.heap.objs.size + 1 := Heap.size_push ..
  show _ ∧ _
  rw [hz]
  have he := Heap.get?_push_size (s.heap.push o) (o := { cls := .type "enumerate", data := .fields #[.none, .bool false, .ref s.heap.objs.size, rawInt 0, .none, .none] }) rfl
  rw [hz] at he
  exact ⟨⟨_, he, rfl⟩, h _ he (Heap.get?_push_of_some _ (Heap.get?_push_size _ B.free)) (by rw [Heap.size_push, hz]) fun b o x => Heap.get?_push_of_some _ (Heap.get?_push_of_some _ x)⟩
/-- the tuple at a, each item in a new pair -/
def IteT (K : PySem.W.Frag) (a : Addr) : It :=
  ⟨fun i H => ∃ (xs : List V) (x : V), SqT K H a xs ∧ xs[i]? = some x, fun i H v H' => ∃ T x, v = .ref T ∧ H T = none ∧ H' = upd H T (.tup [.int (i : Nat), x]) ∧ ∀ xs, SqT K H a xs → xs[i]? = some x, fun i H => ∃ xs : List V, SqT K H a xs ∧ xs.length ≤ i⟩
theorem turn_enumT {P : Program} {w : World} {K : PySem.W.Frag} {elts : List Expr} {kk : Nat} {tpos : Pos} (a e it : Addr) :
    Turn P w K (.Tuple elts kk tpos) (IteT K a) [e, it] e (fun i h => (∃ old, IsEnum h e it ((i : Nat) : Int) old) ∧ h.IsTupleIter it a i ∧ e ≠ it ∧ e ≠ a ∧ a ≠ it) where
  mem := by simp
  obj := fun i h st b hb => by
    obtain ⟨⟨old, he⟩, ⟨o, ho, hc, hd⟩, _⟩ := st
    rcases (show b = e ∨ b = it by simpa using hb) with z | z
    · rw [z]; exact ⟨_, he, fun v q => nomatch q⟩
    · rw [z]; exact ⟨o, ho, fun v q => by rw [hd] at q; cases q⟩
  keep := fun i h h' st k => let ⟨⟨old, he⟩, hi, hne⟩ := st; ⟨⟨old, k e (by simp) _ he⟩, hi.at fun o q => k it (by simp) o q, hne⟩
  item := by
    intro X hP hw hK hc i pins s σ H E I hf st hg
    subst hP hw hK
    obtain ⟨⟨old, he⟩, hit, hne, nea, nai⟩ := st
    obtain ⟨xs, x, hq, hx⟩ := hg
    obtain ⟨its, rv, p, hz⟩ := I.tuple hq
    obtain ⟨u, hu, ru⟩ := rv.get hx
    have hil' := (List.getElem?_eq_some_iff.mp hu).1
    have hel : e < s.heap.objs.size := Heap.lt_size he
    have hil : it < s.heap.objs.size := by obtain ⟨_, q, _⟩ := hit; exact Heap.lt_size q
    have D := Draws.tuple (prog := X.prog) (w := X.w) (A := X.A.in1) (show X.A.in1.handled = none from I.ok.hd hc) it a nai its.toArray
    refine wpAny_pyNext_enum_itemD D he ⟨hit, (show s.heap.IsTuple a its.toArray from p)⟩ (by simpa using hil') hne (by simp [hne, nea]) fun y h' tk hy ho hst hT hsz hk => ?_
    have ey : y = u := by
      have z : its[i]? = some y := by simpa using hy
      rw [hu] at z
      exact (Option.some.inj z).symm
    subst ey
    refine ⟨_, rfl, wpAny_letOwnedTupleGo_enum (s := { s with heap := h', toks := tk + 1 }) ho fun h'' he' sb => ?_⟩
    have hT2 : h''.get? s.heap.objs.size = some { cls := .type "tuple", data := .seq #[.int i tk, y] } := (sb.2 _ (Nat.ne_of_gt hel)).trans hT
    have new : ObjOk X.prog X.w (upd H s.heap.objs.size (.tup [.int (i : Nat), x])) h'' s.heap.objs.size (.tup [.int (i : Nat), x]) :=
      ⟨by show 2 ≤ sizeLine; decide, [.int i tk, y], .cons ⟨_, rfl⟩ (.cons ru .nil), ⟨_, hT2, rfl, _, rfl⟩⟩
    have I1 : Inv X pins σ (upd H s.heap.objs.size (.tup [.int (i : Nat), x])) { s with heap := h'', toks := tk + 1 } :=
      I.turnedNew (ch := [e, it]) (fun b ob hb q => (sb.2 b (fun z => hb (by simp [z]))).trans (hk b ob (fun z => hb (by simp [z])) (fun z => hb (by simp [z])) q)) hf (Nat.le_refl _) new
    refine ⟨.ref s.heap.objs.size, _, I1, rfl, ⟨_, x, rfl, I.hok.fresh (Nat.le_refl _), rfl, fun ys hy => by rw [I.tuple_inj hy hq]; exact hx⟩, ⟨⟨y, ?_⟩, hst.1.at fun o q => (sb.2 it (Ne.symm hne)).trans q, hne, nea, nai⟩, fun b hb => ?_⟩
    · have e1 : ((i + 1 : Nat) : Int) = (i : Int) + 1 := by omega
      rw [e1]; exact he'
    · have hb' : b < s.heap.objs.size := by
        rcases (show b = e ∨ b = it by simpa using hb) with z | z
        · rw [z]; exact hel
        · rw [z]; exact hil
      rw [upd_ne (Nat.ne_of_lt hb')]
      exact (hf b hb).1
  done := by
    intro X hP hw hK hc i pins s σ H E I hf st hg
    subst hP hw hK
    obtain ⟨⟨old, he⟩, hit, hne, nea, nai⟩ := st
    obtain ⟨xs, hq, hx⟩ := hg
    obtain ⟨its, rv, p, hz⟩ := I.tuple hq
    obtain ⟨f0, f1, f2, f3, f4, f5⟩ := hf it (by simp)
    have hl := rv.length
    have hTs : s.TypeIs (.ref e) "enumerate" := ⟨_, he, rfl⟩
    unfold pyNext
    refine wpAny_bind (wpAny_attempt (wpAny_callSpecial?_slot (name := Str.ofString "__next__") hTs F.slot_enumerate_next
      (wpAny_call_entry F.slot_enumerate_next hTs F.entry_enumerate_next ?_ (F.args_enumerate_next_1 _))))
    show wpAny _ _ (field (.ref e) 2 >>= _) _ _ _
    refine wpAny_bind (wpAny_field he rfl (x := .ref it) rfl ?_)
    refine wpAny_bind (wpAny_nextOf_tuple_end (show X.A.in1.handled = none from I.ok.hd hc) hit (show s.heap.IsTuple a its.toArray from p) (by simp; omega) fun h' y eb hx' => ?_)
    obtain ⟨o, ho, hc'⟩ := hx'
    refine wpAny_bind (wpAny_isInstance (T := "StopIteration") (b := true) ⟨o, ho, hc'⟩ isSubtype_stop ?_)
    exact wpAny_pure ⟨rfl, I.turned (t' := s.toks) (fun b o hb q => eb b o hb q) f0 f1 f3 f4 f5⟩
  self := fun A i s Q E st h => let ⟨⟨_, he⟩, _⟩ := st; wpAny_pyIter_enum he h
def iEnumA (K : PySem.W.Frag) (ta : TA) : TI := fun σ H R => ta σ H fun vs H1 => ∃ a, vs = [.ref a] ∧ ((∃ xs, SqL K H1 a xs ∧ R (Ite K a) H1) ∨ (∃ xs, SqT K H1 a xs ∧ R (IteT K a) H1))
theorem pi_enumA {X : Cx} {e : Expr} {ta : TA} {p pos tpos : Pos} {elts : List Expr} {kk : Nat} (hg : Gl X "enumerate") (hm : X.mg "enumerate" = none) (ha : PA X [e] ta) (hs : starEach [e] X.env = [(false, eval e X.env)] := by rfl) :
    PI X (.Tuple elts kk tpos) (.Call (.Name "enumerate" p) [e] [] pos) (iEnumA X.K ta) := by
  refine ⟨fun pins s σ H R I h => ?_⟩
  refine Call_ (ld_blt I hg hm boot_enumerate (PyProof.Rows.callWith_type1 (thn (ha.run pos pins s σ H _ I h) fun us s1 ⟨vs, H1, I1, r1, q1⟩ => ?_) hs rfl))
  obtain ⟨a, ex, q⟩ := q1
  subst ex
  cases r1 with
  | cons r rr =>
    cases rr
    cases r
    have big : ∀ b ∈ [s1.heap.objs.size + 1, s1.heap.objs.size], s1.heap.objs.size ≤ b := fun b hb => by
      rcases (show b = s1.heap.objs.size + 1 ∨ b = s1.heap.objs.size by simpa using hb) with z | z
      · rw [z]; exact Nat.le_add_right _ _
      · rw [z]; exact Nat.le_refl _
    rcases q with ⟨xs, hq, q⟩ | ⟨xs, hq, q⟩
    · obtain ⟨its, rv, p', hz⟩ := I1.list hq
      refine call_enumerate_list p'.isList fun h' he hit hsz hk => wpAny_pyIter_enum he ?_
      have I2 : Inv X pins σ H1 { s1 with heap := h' } := I1.kept (t' := s1.toks) hk
      exact ⟨s1.heap.objs.size + 1, [s1.heap.objs.size + 1, s1.heap.objs.size], _, _, H1, rfl, I2, turn_enum a (s1.heap.objs.size + 1) s1.heap.objs.size, ⟨⟨.none, he⟩, hit, Nat.succ_ne_self _⟩, fun b hb => I1.fpOk (big b hb) (I1.hok.fresh (big b hb)), q⟩
    · obtain ⟨its, rv, p', hz⟩ := I1.tuple hq
      have hp : s1.heap.IsTuple a its.toArray := p'
      have hal : a < s1.heap.objs.size := by obtain ⟨_, q, _⟩ := hp; exact Heap.lt_size q
      refine enum_begins1 (begins_tuple a its.toArray) hp fun h' he hit hsz hk => wpAny_pyIter_enum he ?_
      have I2 : Inv X pins σ H1 { s1 with heap := h' } := I1.kept (t' := s1.toks) hk
      exact ⟨s1.heap.objs.size + 1, [s1.heap.objs.size + 1, s1.heap.objs.size], _, _, H1, rfl, I2, turn_enumT a (s1.heap.objs.size + 1) s1.heap.objs.size, ⟨⟨.none, he⟩, ⟨_, hit, rfl, rfl⟩, Nat.succ_ne_self _, Nat.ne_of_gt (Nat.lt_succ_of_lt hal), Nat.ne_of_lt hal⟩, fun b hb => I1.fpOk (big b hb) (I1.hok.fresh (big b hb)), q⟩
section
variable {K : PySem.W.Frag} {a : Addr} {xs : List V} {g : TG} {tb : TS} {D : Ends} {σ : L2.St} {H : Hp}
theorem for_enumL (Pv : Nat → L2.St → Hp → Prop) (h0 : Pv 0 σ H) (hl : ∀ i σ H, i ≤ xs.length → Pv i σ H → SqL K H a xs)
    (hs : ∀ i x T σ H, xs[i]? = some x → H T = none → Pv i σ H → g (.ref T) σ (upd H T (.tup [.int (i : Nat), x])) fun σ2 H2 => tb { D with nx := Pv (i + 1), ct := Pv (i + 1), bk := D.nx } σ2 H2) (hd : ∀ σ H, Pv xs.length σ H → D.nx σ H) :
    ∃ W : Nat → Nat → L2.St → Hp → Prop, (∃ m, W 0 m σ H) ∧ ∀ i m σ H, W i m σ H →
      ((Ite K a).stop i H ∧ D.nx σ H) ∨ ((Ite K a).go i H ∧ ∃ N : L2.St → Hp → Prop, (∀ σ' H', N σ' H' → ∃ m', m' < m ∧ W (i + 1) m' σ' H') ∧ ∀ x H', (Ite K a).yld i H x H' → g x σ H' fun σ2 H2 => tb { D with nx := N, ct := N, bk := D.nx } σ2 H2) := by
  refine ⟨fun i m σ H => m = xs.length - i ∧ i ≤ xs.length ∧ Pv i σ H, ⟨xs.length, by simp, Nat.zero_le _, h0⟩, ?_⟩
  rintro i m σ H ⟨rfl, hi, p⟩
  have q := hl i σ H hi p
  by_cases hlt : i < xs.length
  · refine .inr ⟨⟨xs, xs[i], q, by simp [hlt]⟩, Pv (i + 1), fun σ' H' p' => ⟨xs.length - (i + 1), by omega, rfl, hlt, p'⟩, fun x H' y => ?_⟩
    obtain ⟨T, x', e1, e2, e3, e4⟩ := y
    subst e1 e3
    exact hs i x' T σ H (e4 xs q) e2 p
  · have e : i = xs.length := by omega
    subst e
    exact .inl ⟨⟨xs, q, Nat.le_refl _⟩, hd σ H p⟩
theorem for_enumT (Pv : Nat → L2.St → Hp → Prop) (h0 : Pv 0 σ H) (hl : ∀ i σ H, i ≤ xs.length → Pv i σ H → SqT K H a xs)
    (hs : ∀ i x T σ H, xs[i]? = some x → H T = none → Pv i σ H → g (.ref T) σ (upd H T (.tup [.int (i : Nat), x])) fun σ2 H2 => tb { D with nx := Pv (i + 1), ct := Pv (i + 1), bk := D.nx } σ2 H2) (hd : ∀ σ H, Pv xs.length σ H → D.nx σ H) :
    ∃ W : Nat → Nat → L2.St → Hp → Prop, (∃ m, W 0 m σ H) ∧ ∀ i m σ H, W i m σ H →
      ((IteT K a).stop i H ∧ D.nx σ H) ∨ ((IteT K a).go i H ∧ ∃ N : L2.St → Hp → Prop, (∀ σ' H', N σ' H' → ∃ m', m' < m ∧ W (i + 1) m' σ' H') ∧ ∀ x H', (IteT K a).yld i H x H' → g x σ H' fun σ2 H2 => tb { D with nx := N, ct := N, bk := D.nx } σ2 H2) := by
  refine ⟨fun i m σ H => m = xs.length - i ∧ i ≤ xs.length ∧ Pv i σ H, ⟨xs.length, by simp, Nat.zero_le _, h0⟩, ?_⟩
  rintro i m σ H ⟨rfl, hi, p⟩
  have q := hl i σ H hi p
  by_cases hlt : i < xs.length
  · refine .inr ⟨⟨xs, xs[i], q, by simp [hlt]⟩, Pv (i + 1), fun σ' H' p' => ⟨xs.length - (i + 1), by omega, rfl, hlt, p'⟩, fun x H' y => ?_⟩
    obtain ⟨T, x', e1, e2, e3, e4⟩ := y
    subst e1 e3
    exact hs i x' T σ H (e4 xs q) e2 p
  · have e : i = xs.length := by omega
    subst e
    exact .inl ⟨⟨xs, q, Nat.le_refl _⟩, hd σ H p⟩
end
/-! ### repr -/
/-- repr of what is no object -/
def rReprS : List V → Hp → VK → Prop := fun xs H Q => ∃ v, xs = [v] ∧ ((v = .non ∧ Q (.str "None") H) ∨ (∃ b : Bool, v = .bl b ∧ Q (.str (if b then "True" else "False")) H) ∨ (∃ i : Int, v = .int i ∧ i.natAbs.log2 < 1920 ∧ Q (.str (toString i)) H) ∨
  ∃ x : Str, v = .str x ∧ (reprText x).length ≤ sizeLine ∧ Q (.str (reprText x)) H)
theorem call_reprS {X : Cx} : CallR X (.builtin "repr") rReprS := by
  intro pins s σ H xs us Q I r h
  obtain ⟨v, rfl, h⟩ := h
  obtain ⟨u, rfl, rv⟩ := vals1 r
  rcases h with ⟨rfl, q⟩ | ⟨b, rfl, q⟩ | ⟨i, rfl, hz, q⟩ | ⟨x, rfl, hz, q⟩
  · cases rv
    exact PySem.P.repr_of_none ⟨.str _, H, I.tok _, ⟨_, rfl⟩, q⟩
  · cases rv
    exact PySem.P.repr_of_bool ⟨.str _, H, I.tok _, ⟨_, rfl⟩, q⟩
  · obtain ⟨t, rfl⟩ := rv
    exact PySem.P.repr_of_int hz ⟨.str _, H, I.tok _, ⟨_, rfl⟩, q⟩
  · obtain ⟨t, rfl⟩ := rv
    exact PySem.P.repr_of_str (t := t) ⟨.str _, H, I.tok _, ⟨_, rfl⟩, q⟩ hz
/-- repr of a list or tuple: plain data without dicts -/
def rRepr (K : PySem.W.Frag) : List V → Hp → VK → Prop := fun xs H Q => ∃ a d, xs = [.ref a] ∧ Dp K H (.ref a) d ∧ PyData.showable d = true ∧ PyData.hasDict d = false ∧ PyData.depth d ≤ 40 ∧ d.shown.length ≤ sizeLine ∧ Q (.str d.shown) H
theorem call_repr {X : Cx} (hg : X.A.guards = some []) (hu : X.A.units + 64 < cLine) : CallR X (.builtin "repr") (rRepr X.K) := by
  intro pins s σ H xs us Q I r h
  obtain ⟨a, d, rfl, hd, h1, h2, h3, h4, q⟩ := h
  obtain ⟨u, rfl, rv⟩ := vals1 r
  obtain ⟨as, R⟩ := Dp.reads I d _ u hd rv
  cases rv
  exact repr_of_reads' R h1 (PyData.noDict_hsm h2) hg (by omega) (fun _ _ e => e) (fun h' u' tk k => ⟨.str _, H, I.kept (t' := tk) k, ⟨_, rfl⟩, q⟩) h4
/-! ### isinstance of the exception that a suite holds, its own dict at d -/
structure ExcK (K : PySem.W.Frag) (C : Addr) : Prop where
  cl : (PySem.W.clsIn K C).isSome = true
  ga : PySem.W.findIn K (.ref C) "__getattribute__" = some (some (.builtin "BaseException.__getattribute__"))
  gt : PySem.W.findIn K (.ref C) "__getattr__" = some none
  sb : PySem.W.subIn K (.ref C) (.type "BaseException") = some true
  ca : PySem.W.findIn K (.ref C) "__class__" = some (some (.builtin "object.__class__"))
  sp : PySem.W.specialIn K (.builtin "object.__class__") "__get__" = some (some (.builtin "getset_descriptor.__get__"))
  tk : PySem.W.takesIn K (.builtin "object.__class__") = some true
  mo : PySem.W.mroIn K C (.type "object") = some true
def rIsD (K : PySem.W.Frag) (C d a : Addr) : List V → Hp → VK → Prop := fun xs H Q => ∃ (N : Addr) (g : Str) (v : V) (b : Bool), xs = [.ref a, .ref N] ∧ H d = some (.xd [(g, v)]) ∧ PySem.W.kitOne K (.ref C) (.ref N) = some b ∧ Q (.bl b) H
theorem call_isD {X : Cx} {a C d : Addr} {oe : Obj} {pn : List (Addr × Obj)} (T : ExcK X.K C) (hz : Zc (.ref C) (some d) oe) (hf : ∃ vs, oe.data = .fields vs) : CallR (X.suite a ((a, oe) :: pn)) (.builtin "isinstance") (rIsD X.K C d a) := by
  intro pins s σ H xs us Q I r h
  obtain ⟨N, g, v, b, rfl, hx, e, q⟩ := h
  obtain ⟨u1, u2, rfl, r1, r2⟩ := vals2 r
  cases r1
  cases r2
  obtain ⟨hget, _⟩ := I.pin (a, oe) (List.mem_append.mpr (.inl List.mem_cons_self))
  obtain ⟨vs, hd⟩ := hf
  have hx' : ObjOk X.prog X.w H s.heap d (.xd [(g, v)]) := I.hok d _ hx
  obtain ⟨mA, hns, hr⟩ := hx'
  obtain ⟨od, ho, hl⟩ := lookIn_ns hns
  have J : PySem.W.InstAt s.heap a oe C (some od) := ⟨hget, hz.1, by unfold PySem.W.notCls; rw [hd] <;> rfl, by rw [hz.2]; exact ho⟩
  exact PySem.W.kia_one (PySem.W.kitx_exc T.cl T.ga T.gt T.sb T.ca T.sp T.tk T.mo) I.kIn J e (fun z => nomatch z) fun tk => ⟨.bl b, H, I.kept (t' := tk) fun _ _ z => z, rfl, q⟩
/-! ### defs whose bodies show lists: they are told where nothing is being shown -/
structure FnG (P : Program) (w : World) (K : PySem.W.Frag) (mg : Str → Option Value) (base : Heap) (k : Nat) (f : Addr) (fd : FuncData) (ps : List Str) (sp : Sp) : Prop where
  len : ∀ vs H Q E, sp vs H Q E → vs.length = ps.length
  run : ∀ (A : Around) (outer : List Env) (s : Shared) (H : Hp) (args : Args) (us : List Value) (vs : List V) (Q : VK) (E : XK), Room k A → A.guards = some [] → Env0 P w K mg base A outer s H → BindsTo s fd args (ps.zip us) → Vals vs us → sp vs H Q E →
    codeAny (model P w) A (.call (.ref f) args) (CR CX0 outer P w H s Q E) s
end K1
/-! the text by places; short words for calls -/
namespace K1
open PySem PySem.Spec PyProof.Rows L2
def top (i : Nat) : Stmt := PySem.Challenge.pw_houseslessties_k09_whole_hands_that_come.main.body.getD i (.Pass ⟨0, 0, 0, 0⟩)
abbrev sWhole : Stmt := top 7
abbrev sBelow : Stmt := top 8
abbrev sSeq : Stmt := top 9
abbrev sFnb : Stmt := top 10
abbrev sMInit : Stmt := inClass (top 14) 0
abbrev sMEq : Stmt := inClass (top 14) 1
abbrev sIsTab : Stmt := top 15
abbrev sChk : Stmt := top 16
abbrev sNeedS : Stmt := top 17
abbrev sFirst : Stmt := top 18
abbrev sBox : Stmt := top 25
abbrev sTake : Stmt := top 26
abbrev sPick : Stmt := top 27
abbrev sTabs : Stmt := top 28
abbrev sLaw : Stmt := top 35
abbrev sJoin : Stmt := top 20
abbrev sNeedSs : Stmt := top 21
abbrev sJoined : Stmt := top 22
abbrev sJAll : Stmt := top 23
abbrev sMaps : Stmt := top 29
abbrev sLTells : Stmt := top 30
abbrev sLTelling : Stmt := top 31
abbrev sLLed : Stmt := top 32
abbrev sAll : Stmt := top 33
abbrev sFaults : Stmt := top 34
abbrev sUInit : Stmt := inClass (top 4) 0
/-- a def of the text: its object, its name in the module, how its arguments bind -/
structure Df (K : PySem.W.Frag) (mg : Str → Option Value) (x : Str) (st : Stmt) (ps : List Str) (f : Addr) (fd : FuncData) : Prop where
  F : Fun K x x st f fd
  g : mg x = some (.ref f)
  b : Binds K fd ps []
section
variable {X : Cx} {CX : CXT} {k : Nat} {f : Addr} {fd : FuncData} {ps : List Str} {sp : Sp} {E : XK} {x : Str} {st : Stmt} {p pos : Pos} {e : Expr} {es : List Expr} {t : TA}
/-- x(e, ..) -/
theorem pc (D : Df X.K X.mg x st ps f fd) (G : FnOk X.prog X.w X.K X.mg X.base CX k f fd ps sp) (hr : Room k X.A) (hx : Passes CX X E) (ha : PA X (e :: es) t) (hg : Gl X x := by rfl)
    (hdb : (x == ("__debug__" : Str)) = false := by decide) (he : starEach (e :: es) X.env = (false, eval e X.env) :: starEach es X.env := by rfl) (hpl : (backTo pos (starEach es X.env)).any (·.1) = false := by rfl) :
    PE X (.Call (.Name x p) (e :: es) [] pos) (tCall sp [] E t) := pe_call G hr hg D.g D.F.kp D.b .nil hx ha hdb he hpl
end
/-- what a def that raises may let out at its caller's def -/
theorem pass1 {X : Cx} {E : XK} (tk : Takes X (fun cls d _ H => E cls d H)) : Passes (L2.CX X.prog X.w) X E := passes_call tk fun _ _ _ _ h => h
/-! ### tests by cases -/
theorem ifD {c : Bool} {A B : Prop} (h1 : c = true → A) (h2 : c = false → B) : if c = true then A else B := by
  cases c with
  | true => exact iteT (h1 rfl)
  | false => exact iteF (h2 rfl)
theorem eqv {α : Type} {P : α → Prop} {a b : α} (e : a = b) (h : P b) : P a := e ▸ h
theorem qbl {Q : VK} {H : Hp} {a b : Bool} (e : a = b) (h : Q (.bl b) H) : Q (.bl a) H := e ▸ h
/-! ### values of any kind -/
/-- what a value is: some items for a list or a tuple, none for the others -/
inductive KV (K : PySem.W.Frag) (H : Hp) : V → Option (List V) → Prop
  | int (i : Int) : KV K H (.int i) none
  | bl (b : Bool) : KV K H (.bl b) none
  | non : KV K H .non none
  | str (x : Str) : KV K H (.str x) none
  | lst {a : Addr} {xs : List V} (h : H a = some (.lst xs)) : KV K H (.ref a) (some xs)
  | tup {a : Addr} {xs : List V} (h : H a = some (.tup xs)) : KV K H (.ref a) (some xs)
theorem KV.same {K : PySem.W.Frag} {H H' : Hp} {v : V} {o : Option (List V)} (h : KV K H v o) (s : Same H H') : KV K H' v o := by
  cases h with
  | int i => exact .int i
  | bl b => exact .bl b
  | non => exact .non
  | str x => exact .str x
  | lst h => exact .lst (s _ _ h)
  | tup h => exact .tup (s _ _ h)
def wholeB : V → Bool | .int _ => true | _ => false
def boolB : V → Bool | .bl _ => true | _ => false
inductive Tg where | i | b | n | s | l | t
def Tg.nm : Tg → String | .i => "int" | .b => "bool" | .n => "NoneType" | .s => "str" | .l => "list" | .t => "tuple"
def Tg.isI : Tg → Bool | .i => true | _ => false
def Tg.isB : Tg → Bool | .b => true | _ => false
def Tg.isQ : Tg → Bool | .l => true | .t => true | _ => false
theorem KV.ty {K : PySem.W.Frag} {H : Hp} {v : V} {o : Option (List V)} (h : KV K H v o) : ∃ g : Tg, TyX K H v (.type g.nm) ∧ g.isI = wholeB v ∧ g.isB = boolB v ∧ g.isQ = o.isSome := by
  cases h with
  | int i => exact ⟨.i, .base (.int i), rfl, rfl, rfl⟩
  | bl b => exact ⟨.b, .base (.bl b), rfl, rfl, rfl⟩
  | non => exact ⟨.n, .base .non, rfl, rfl, rfl⟩
  | str x => exact ⟨.s, .base (.str x), rfl, rfl, rfl⟩
  | lst h => exact ⟨.l, .base (.lst h), rfl, rfl, rfl⟩
  | tup h => exact ⟨.t, .base (.tup h), rfl, rfl, rfl⟩
theorem kit_I (K : PySem.W.Frag) (g : Tg) : PySem.W.kitOne K (.type g.nm) (.type "int") = some (g.isI || g.isB) := by
  cases g <;> exact kit_ty (by decide +kernel)
theorem kit_B (K : PySem.W.Frag) (g : Tg) : PySem.W.kitOne K (.type g.nm) (.type "bool") = some g.isB := by
  cases g <;> exact kit_ty (by decide +kernel)
def Tg.isL : Tg → Bool | .l => true | _ => false
def Tg.isT : Tg → Bool | .t => true | _ => false
theorem kit_L (K : PySem.W.Frag) (g : Tg) : PySem.W.kitOne K (.type g.nm) (.type "list") = some g.isL := by
  cases g <;> exact kit_ty (by decide +kernel)
theorem kit_T (K : PySem.W.Frag) (g : Tg) : PySem.W.kitOne K (.type g.nm) (.type "tuple") = some g.isT := by
  cases g <;> exact kit_ty (by decide +kernel)
theorem kit_Q (K : PySem.W.Frag) (g : Tg) : PySem.W.kitAny K (.type g.nm) [.type "list", .type "tuple"] = some g.isQ := by
  refine kitAny_cons (kit_L K g) (fun e => kitAny_cons (kit_T K g) (fun e2 => ?_) fun e2 => ?_) fun e => ?_
  all_goals (cases g <;> first | rfl | (cases e; done) | (cases e2; done))
/-- the built-in names that the text uses are the built-in ones -/
structure Bt (mg : Str → Option Value) : Prop where
  isinstance : mg "isinstance" = none
  int : mg "int" = none
  bool : mg "bool" = none
  list : mg "list" = none
  tuple : mg "tuple" = none
  len : mg "len" = none
  enumerate : mg "enumerate" = none
  range : mg "range" = none
  sorted : mg "sorted" = none
  set : mg "set" = none
  repr : mg "repr" = none
  abs : mg "abs" = none
  min : mg "min" = none
  max : mg "max" = none
end K1
namespace K1
open PySem PySem.Spec PyProof.Rows L2
def belowB (v : V) (lim : Int) : Bool := match v with | .int i => decide (0 ≤ i) && decide (i < lim) | _ => false
def seqB (o : Option (List V)) (least most : Int) : Bool := match o with | some xs => decide (least ≤ (xs.length : Int)) && decide ((xs.length : Int) ≤ most) | none => false
def spWhole (K : PySem.W.Frag) : Sp := fun vs H Q _ => ∃ v o, vs = [v] ∧ KV K H v o ∧ Q (.bl (wholeB v)) H
def spBelow (K : PySem.W.Frag) : Sp := fun vs H Q _ => ∃ v o lim, vs = [v, .int lim] ∧ KV K H v o ∧ Q (.bl (belowB v lim)) H
def spSeq (K : PySem.W.Frag) : Sp := fun vs H Q _ => ∃ v o least most, vs = [v, .int least, .int most] ∧ KV K H v o ∧ ∀ H', Same H H' → Q (.bl (seqB o least most)) H'
section
variable {P : Program} {w : World} {K : PySem.W.Frag} {mg : Str → Option Value} {base : Heap}
theorem scW : FnScope ["value"] ["value"] (defScope sWhole) := ⟨rfl, rfl, rfl, by decide +kernel, rfl, by decide +kernel, by decide +kernel⟩
theorem ok_whole {f : Addr} {fd : FuncData} (D : Df K mg "is_whole" sWhole ["value"] f fd) (B : Bt mg) : FnOk P w K mg base CX0 1 f fd ["value"] (spWhole K) := by
  refine D.F.ok scW (fun vs H Q E h => ?_) (fun cdv A outer s H vs Q E hr h => ?_)
  · obtain ⟨v, o, rfl, _⟩ := h
    rfl
  · obtain ⟨v, o, rfl, kv, q⟩ := h
    obtain ⟨g, ty, eI, eB, eQ⟩ := kv.ty
    refine ⟨_, pss_one (ps_ret (pe_and (pe_callB call_isi (by rfl) B.isinstance (by decide +kernel) (pa_cons (pv 0) (pa_cons (pe_bltn (v := .ty "int") (by rfl) B.int PyProof.Rows.boot_int rfl) pa_nil)))
      (pe_one (pe_not (pe_callB call_isi (by rfl) B.isinstance (by decide +kernel) (pa_cons (pv 0) (pa_cons (pe_bltn (v := .ty "bool") (by rfl) B.bool PyProof.Rows.boot_bool rfl) pa_nil))))))), ?_⟩
    refine ⟨_, rfl, _, _, _, _, _, rfl, .ty _, ty, kit_I K g, _, rfl, ifD (fun e => ?_) fun e => ?_⟩
    · refine ⟨_, rfl, _, _, _, _, _, rfl, .ty _, ty, kit_B K g, _, rfl, ?_⟩
      have z : (!g.isB) = wholeB v := by rw [← eI]; cases g <;> first | rfl | cases e
      exact qbl z q
    · have z : false = wholeB v := by rw [← eI]; cases g <;> first | rfl | cases e
      exact qbl z q
theorem scB : FnScope ["value", "limit"] ["value", "limit"] (defScope sBelow) := ⟨rfl, rfl, rfl, by decide +kernel, rfl, by decide +kernel, by decide +kernel⟩
theorem ok_below {f fW : Addr} {fd fdW : FuncData} (D : Df K mg "is_below" sBelow ["value", "limit"] f fd) (DW : Df K mg "is_whole" sWhole ["value"] fW fdW) (B : Bt mg) : FnOk P w K mg base CX0 2 f fd ["value", "limit"] (spBelow K) := by
  have GW : FnOk P w K mg base CX0 1 fW fdW ["value"] (spWhole K) := ok_whole DW B
  refine D.F.ok scB (fun vs H Q E h => ?_) (fun cdv A outer s H vs Q E hr h => ?_)
  · obtain ⟨v, o, lim, rfl, _⟩ := h
    rfl
  · obtain ⟨v, o, lim, rfl, kv, q⟩ := h
    refine ⟨_, pss_one (ps_ret (pe_and (pc DW GW hr pass0 (pa_cons (pv 0) pa_nil)) (pe_one (pe_chain op_le op_lt pe_int (pv 0) (pv 1))))), ?_⟩
    refine ⟨_, rfl, _, _, rfl, kv, _, rfl, ifD (fun e => ?_) fun e => ?_⟩
    · obtain ⟨i, rfl⟩ : ∃ i, v = .int i := by
        cases v <;> first | exact ⟨_, rfl⟩ | cases e
      refine ⟨_, rfl, _, _, rfl, rfl, _, rfl, ifD (fun e2 => ?_) fun e2 => ?_⟩
      · refine ⟨_, rfl, _, _, rfl, rfl, ?_⟩
        have z : decide (i < lim) = belowB (.int i) lim := by
          show _ = (decide (0 ≤ i) && decide (i < lim))
          rw [e2]; rfl
        exact qbl z q
      · have z : false = belowB (.int i) lim := by
          show _ = (decide (0 ≤ i) && decide (i < lim))
          rw [e2]; rfl
        exact qbl z q
    · have z : false = belowB v lim := by cases v <;> first | rfl | cases e
      exact qbl z q
theorem scS : FnScope ["value", "least", "most"] ["value", "least", "most"] (defScope sSeq) := ⟨rfl, rfl, rfl, by decide +kernel, rfl, by decide +kernel, by decide +kernel⟩
theorem ok_seq {f : Addr} {fd : FuncData} (D : Df K mg "is_sequence" sSeq ["value", "least", "most"] f fd) (B : Bt mg) : FnOk P w K mg base CX0 1 f fd ["value", "least", "most"] (spSeq K) := by
  refine D.F.ok scS (fun vs H Q E h => ?_) (fun cdv A outer s H vs Q E hr h => ?_)
  · obtain ⟨v, o, least, most, rfl, _⟩ := h
    rfl
  · obtain ⟨v, o, least, most, rfl, kv, q⟩ := h
    refine ⟨_, pss_one (ps_ret (pe_and (pe_callB call_isiT (by rfl) B.isinstance (by decide +kernel) (pa_cons (pv 0) (pa_cons (pe_tup (pa_cons (pe_bltn (v := .ty "list") (by rfl) B.list PyProof.Rows.boot_list rfl) (pa_cons (pe_bltn (v := .ty "tuple") (by rfl) B.tuple PyProof.Rows.boot_tuple rfl) pa_nil))) pa_nil)))
      (pe_one (pe_chain op_le op_le (pv 1) (pe_callB call_len_seq (by rfl) B.len PySem.boot_len (pa_cons (pv 0) pa_nil)) (pv 2))))), ?_⟩
    refine ⟨_, rfl, (by show 2 ≤ sizeLine; decide), fun p hp => ?_⟩
    have sm : Same H (upd H p (.tup [.ty "list", .ty "tuple"])) := fun b o e => by rw [upd_ne (ne_of_none e hp)]; exact e
    obtain ⟨g, ty, eI, eB, eQ⟩ := (kv.same sm).ty
    refine ⟨_, _, _, _, _, _, rfl, upd_same, .cons (.ty _) (.cons (.ty _) .nil), ty, kit_Q K g, _, rfl, ifD (fun e => ?_) fun e => ?_⟩
    · have kv2 := kv.same sm
      generalize hH1 : upd H p (.tup [.ty "list", .ty "tuple"]) = H1 at *
      rw [eQ] at e
      have q2 := q _ sm
      cases kv with
      | lst h =>
        rename_i a xs
        have h1 : H1 a = some (.lst xs) := sm _ _ h
        refine ⟨_, rfl, _, rfl, _, _, rfl, .inl (SqL.of h1), _, _, rfl, rfl, _, rfl, ifD (fun e2 => ?_) fun e2 => ?_⟩
        · refine ⟨_, rfl, _, _, rfl, rfl, qbl ?_ q2⟩
          show _ = (decide (least ≤ (xs.length : Int)) && decide ((xs.length : Int) ≤ most))
          rw [e2]; rfl
        · refine qbl ?_ q2
          show _ = (decide (least ≤ (xs.length : Int)) && decide ((xs.length : Int) ≤ most))
          rw [e2]; rfl
      | tup h =>
        rename_i a xs
        have h1 : H1 a = some (.tup xs) := sm _ _ h
        refine ⟨_, rfl, _, rfl, _, _, rfl, .inr (SqT.of h1), _, _, rfl, rfl, _, rfl, ifD (fun e2 => ?_) fun e2 => ?_⟩
        · refine ⟨_, rfl, _, _, rfl, rfl, qbl ?_ q2⟩
          show _ = (decide (least ≤ (xs.length : Int)) && decide ((xs.length : Int) ≤ most))
          rw [e2]; rfl
        · refine qbl ?_ q2
          show _ = (decide (least ≤ (xs.length : Int)) && decide ((xs.length : Int) ≤ most))
          rw [e2]; rfl
      | _ => cases e
    · rw [eQ] at e
      have z : o = none := by cases o <;> first | rfl | cases e
      subst z
      exact q _ sm
end
end K1
namespace K1
open PySem PySem.Spec PyProof.Rows L2
def fnb (xs : List V) (lim : Int) : V := match xs.findIdx? (fun x => !belowB x lim) with | some i => .int (i : Nat) | none => .non
theorem fnb_at {xs : List V} {lim : Int} {i : Nat} {x : V} (hx : xs[i]? = some x) (hn : belowB x lim = false) (hb : ∀ j y, j < i → xs[j]? = some y → belowB y lim = true) : fnb xs lim = .int (i : Nat) := by
  obtain ⟨hi, ex⟩ := List.getElem?_eq_some_iff.mp hx
  have e : xs.findIdx? (fun x => !belowB x lim) = some i := by
    rw [List.findIdx?_eq_some_iff_getElem]
    refine ⟨hi, by rw [ex, hn]; rfl, fun j hj => ?_⟩
    have hj' : j < xs.length := Nat.lt_trans hj hi
    have := hb j xs[j] hj (by simp [hj'])
    simp [this]
  unfold fnb
  rw [e]
theorem fnb_none {xs : List V} {lim : Int} (hb : ∀ j y, j < xs.length → xs[j]? = some y → belowB y lim = true) : fnb xs lim = .non := by
  have e : xs.findIdx? (fun x => !belowB x lim) = none := by
    rw [List.findIdx?_eq_none_iff]
    intro x hx
    obtain ⟨j, hj, e⟩ := List.mem_iff_getElem.mp hx
    have := hb j xs[j] hj (by simp [hj])
    rw [← e, this]; rfl
  unfold fnb
  rw [e]
/-- a list or tuple at a -/
def SeqA (H : Hp) (a : Addr) (xs : List V) : Prop := H a = some (.lst xs) ∨ H a = some (.tup xs)
theorem SeqA.same {H H' : Hp} {a : Addr} {xs : List V} (h : SeqA H a xs) (s : Same H H') : SeqA H' a xs := h.elim (fun h => .inl (s _ _ h)) fun h => .inr (s _ _ h)
theorem SeqA.kv {K : PySem.W.Frag} {H : Hp} {a : Addr} {xs : List V} (h : SeqA H a xs) : KV K H (.ref a) (some xs) := h.elim .lst .tup
/-- each item is of some kind -/
def Kinds (K : PySem.W.Frag) (H : Hp) (xs : List V) : Prop := ∀ x ∈ xs, ∃ o, KV K H x o
theorem Kinds.same {K : PySem.W.Frag} {H H' : Hp} {xs : List V} (h : Kinds K H xs) (s : Same H H') : Kinds K H' xs := fun x hx => let ⟨o, k⟩ := h x hx; ⟨o, k.same s⟩
theorem same_new {H : Hp} {p : Addr} {o : HO} (hp : H p = none) : Same H (upd H p o) := fun b u e => by rw [upd_ne (ne_of_none e hp)]; exact e
def spFnb (K : PySem.W.Frag) : Sp := fun vs H Q _ => ∃ a xs lim, vs = [.ref a, .int lim] ∧ SeqA H a xs ∧ Kinds K H xs ∧ ∀ H', Same H H' → Q (fnb xs lim) H'
section
variable {P : Program} {w : World} {K : PySem.W.Frag} {mg : Str → Option Value} {base : Heap}
theorem scF : FnScope ["items", "limit", "at", "item"] ["items", "limit"] (defScope sFnb) := ⟨rfl, rfl, rfl, by decide +kernel, rfl, by decide +kernel, by decide +kernel⟩
/-- one turn of the search, and the way behind it: the iterator is a list's or a tuple's -/
theorem ok_fnb {f fB : Addr} {fd fdB : FuncData} (D : Df K mg "first_not_below" sFnb ["items", "limit"] f fd) (DB : Df K mg "is_below" sBelow ["value", "limit"] fB fdB) (B : Bt mg)
    (GB : FnOk P w K mg base CX0 2 fB fdB ["value", "limit"] (spBelow K)) : FnOk P w K mg base CX0 3 f fd ["items", "limit"] (spFnb K) := by
  refine D.F.ok scF (fun vs H Q E h => ?_) (fun cdv A outer s H vs Q E hr h => ?_)
  · obtain ⟨a, xs, lim, rfl, _⟩ := h
    rfl
  · obtain ⟨a, xs, lim, rfl, hS, hK, q⟩ := h
    refine ⟨_, pss_cons (ps_for PassesOwn.never rfl (pi_enumA (by rfl) B.enumerate (pa_cons (pv 0) pa_nil))
        (pg_tup rfl (pgs_cons (pg_name (i := 2) scF.nd rfl (.inl rfl)) (pgs_cons (pg_name (i := 3) scF.nd rfl (.inl rfl)) pgs_nil)))
        (pss_one (ps_if (pt_not (pt_val (pc DB GB hr pass0 (pa_cons (pv 3) (pa_cons (pv 1) pa_nil))))) (pss_one (ps_ret (pv 2))) pss_nil)))
      (pss_one (ps_ret pe_non)), ?_⟩
    let Pv : Nat → L2.St → Hp → Prop := fun i σ H' => ∃ v2 v3 : Option V, σ = [some (.ref a), some (.int lim), v2, v3] ∧ Same H H' ∧ ∀ j y, j < i → xs[j]? = some y → belowB y lim = true
    have end_ : ∀ σ H', Pv xs.length σ H' → Q .non H' := fun σ H' ⟨v2, v3, _, sm, hb⟩ => by
      have := q H' sm
      rw [fnb_none hb] at this
      exact this
    refine ⟨_, rfl, a, rfl, ?_⟩
    rcases hS with hS | hS
    · refine .inl ⟨xs, SqL.of hS, for_enumL (K := K) Pv ⟨none, none, rfl, Same.refl H, fun j y hj => absurd hj (Nat.not_lt_zero _)⟩ (fun i σ H' _ ⟨_, _, _, sm, _⟩ => SqL.of (sm _ _ hS)) ?_ end_⟩
      rintro i x T σ H' hx hT ⟨v2, v3, rfl, sm, hb⟩
      have sm2 : Same H (upd H' T (.tup [.int (i : Nat), x])) := sm.trans (same_new hT)
      obtain ⟨o, kv⟩ := hK x (List.mem_of_getElem? hx)
      refine ⟨T, _, rfl, SqT.of upd_same, rfl, _, _, rfl, _, _, rfl, rfl, ?_⟩
      refine ⟨_, rfl, _, rfl, _, o, lim, rfl, kv.same sm2, _, rfl, ?_⟩
      refine ifD (fun e => ?_) fun e => ?_
      · refine ⟨_, rfl, ?_⟩
        have e' : belowB x lim = false := by simpa using e
        have := q _ sm2
        rw [fnb_at hx e' hb] at this
        exact this
      · have e' : belowB x lim = true := by simpa using e
        refine ⟨_, _, rfl, sm2, fun j y hj hy => ?_⟩
        rcases Nat.lt_succ_iff_lt_or_eq.mp hj with z | z
        · exact hb j y z hy
        · subst z
          rw [hx] at hy
          rw [← Option.some.inj hy]
          exact e'
    · refine .inr ⟨xs, SqT.of hS, for_enumT (K := K) Pv ⟨none, none, rfl, Same.refl H, fun j y hj => absurd hj (Nat.not_lt_zero _)⟩ (fun i σ H' _ ⟨_, _, _, sm, _⟩ => SqT.of (sm _ _ hS)) ?_ end_⟩
      rintro i x T σ H' hx hT ⟨v2, v3, rfl, sm, hb⟩
      have sm2 : Same H (upd H' T (.tup [.int (i : Nat), x])) := sm.trans (same_new hT)
      obtain ⟨o, kv⟩ := hK x (List.mem_of_getElem? hx)
      refine ⟨T, _, rfl, SqT.of upd_same, rfl, _, _, rfl, _, _, rfl, rfl, ?_⟩
      refine ⟨_, rfl, _, rfl, _, o, lim, rfl, kv.same sm2, _, rfl, ?_⟩
      refine ifD (fun e => ?_) fun e => ?_
      · refine ⟨_, rfl, ?_⟩
        have e' : belowB x lim = false := by simpa using e
        have := q _ sm2
        rw [fnb_at hx e' hb] at this
        exact this
      · have e' : belowB x lim = true := by simpa using e
        refine ⟨_, _, rfl, sm2, fun j y hj hy => ?_⟩
        rcases Nat.lt_succ_iff_lt_or_eq.mp hj with z | z
        · exact hb j y z hy
        · subst z
          rw [hx] at hy
          rw [← Option.some.inj hy]
          exact e'
end
end K1
namespace K1
open PySem PySem.Spec PyProof.Rows L2
/-- the module's numbers -/
structure Ct (mg : Str → Option Value) : Prop where
  tabs : ∃ t, mg "MOST_TABLES" = some (.int 8 t)
  states : ∃ t, mg "MOST_STATES" = some (.int 12 t)
/-- a walk over a list or a tuple -/
def iSeqA (K : PySem.W.Frag) (tl : TE) : TI := fun σ H R => tl σ H fun x H1 => ∃ a, x = .ref a ∧ ((∃ xs, SqL K H1 a xs ∧ R (Itl K a) H1) ∨ (∃ xs, SqT K H1 a xs ∧ R (Itt K a) H1))
theorem pi_seqA {X : Cx} {tg l : Expr} {tl : TE} (hl : PE X l tl) : PI X tg l (iSeqA X.K tl) := by
  refine ⟨fun pins s σ H R I h => ?_⟩
  refine thn (hl.run pins s σ H _ I h) fun v s1 ⟨x, H1, I1, r1, q1⟩ => ?_
  obtain ⟨a, e, q⟩ := q1
  subst e
  cases r1
  rcases q with ⟨xs, hq, q⟩ | ⟨xs, hq, q⟩
  · obtain ⟨its, rv, p, hz⟩ := I1.list hq
    refine wpAny_pyIter_list p.isList ?_
    refine ⟨s1.heap.objs.size, [s1.heap.objs.size], _, _, H1, rfl, I1.kept (t' := s1.toks) fun b o e => Heap.get?_push_of_some _ e, turn_list a _, ⟨_, Heap.get?_push_size _ rfl, rfl, rfl⟩, fun b hb => ?_, q⟩
    have e : b = s1.heap.objs.size := by simpa using hb
    subst e
    exact I1.fpOk (Nat.le_refl _) (I1.hok.fresh (Nat.le_refl _))
  · obtain ⟨its, rv, p, hz⟩ := I1.tuple hq
    refine wpAny_pyIter_tuple (show s1.heap.IsTuple a its.toArray from p) ?_
    refine ⟨s1.heap.objs.size, [s1.heap.objs.size], _, _, H1, rfl, I1.kept (t' := s1.toks) fun b o e => Heap.get?_push_of_some _ e, turn_tuple a _, ⟨_, Heap.get?_push_size _ rfl, rfl, rfl⟩, fun b hb => ?_, q⟩
    have e : b = s1.heap.objs.size := by simpa using hb
    subst e
    exact I1.fpOk (Nat.le_refl _) (I1.hok.fresh (Nat.le_refl _))
/-- a table of n states, by its items (none: no sequence) -/
def isTab (r : Option (List V)) (n : Int) : Bool := seqB r n n && match r with | some ys => decide (fnb ys n = V.non) | none => false
/-- a value and, if it is a sequence, the kinds of its items -/
structure Rw (K : PySem.W.Frag) (H : Hp) (x : V) (r : Option (List V)) : Prop where
  kv : KV K H x r
  ks : ∀ ys, r = some ys → Kinds K H ys
theorem Rw.same {K : PySem.W.Frag} {H H' : Hp} {x : V} {r : Option (List V)} (h : Rw K H x r) (s : Same H H') : Rw K H' x r := ⟨h.kv.same s, fun ys e => (h.ks ys e).same s⟩
theorem KV.seqA {K : PySem.W.Frag} {H : Hp} {x : V} {ys : List V} (h : KV K H x (some ys)) : ∃ a, x = .ref a ∧ SeqA H a ys := by
  cases h with
  | lst h => exact ⟨_, rfl, .inl h⟩
  | tup h => exact ⟨_, rfl, .inr h⟩
def spIsTab (K : PySem.W.Frag) : Sp := fun vs H Q _ => ∃ x r n, vs = [x, .int n] ∧ Rw K H x r ∧ ∀ H', Same H H' → Q (.bl (isTab r n)) H'
section
variable {P : Program} {w : World} {K : PySem.W.Frag} {mg : Str → Option Value} {base : Heap}
theorem scIT : FnScope ["value", "states"] ["value", "states"] (defScope sIsTab) := ⟨rfl, rfl, rfl, by decide +kernel, rfl, by decide +kernel, by decide +kernel⟩
theorem ok_istab {f fS fF : Addr} {fd fdS fdF : FuncData} (D : Df K mg "is_table" sIsTab ["value", "states"] f fd) (DS : Df K mg "is_sequence" sSeq ["value", "least", "most"] fS fdS) (DF : Df K mg "first_not_below" sFnb ["items", "limit"] fF fdF)
    (GS : FnOk P w K mg base CX0 1 fS fdS ["value", "least", "most"] (spSeq K)) (GF : FnOk P w K mg base CX0 3 fF fdF ["items", "limit"] (spFnb K)) : FnOk P w K mg base CX0 4 f fd ["value", "states"] (spIsTab K) := by
  refine D.F.ok scIT (fun vs H Q E h => ?_) (fun cdv A outer s H vs Q E hr h => ?_)
  · obtain ⟨x, r, n, rfl, _⟩ := h
    rfl
  · obtain ⟨x, r, n, rfl, hw, q⟩ := h
    refine ⟨_, pss_one (ps_ret (pe_and (pc DS GS (hr.mono (by decide)) pass0 (pa_cons (pv 0) (pa_cons (pv 1) (pa_cons (pv 1) pa_nil)))) (pe_one (pe_cmp (pc_isN (pc DF GF hr pass0 (pa_cons (pv 0) (pa_cons (pv 1) pa_nil)))) rfl)))), ?_⟩
    refine ⟨_, rfl, _, rfl, _, rfl, _, r, n, n, rfl, hw.kv, fun H1 sm => ⟨_, rfl, ifD (fun e => ?_) fun e => ?_⟩⟩
    · cases r with
      | none => cases e
      | some ys =>
        obtain ⟨a, rfl, hS⟩ := hw.kv.seqA
        refine ⟨_, rfl, _, rfl, a, ys, n, rfl, hS.same sm, (hw.ks ys rfl).same sm, fun H2 sm2 => qbl ?_ (q _ (sm.trans sm2))⟩
        show _ = (seqB (some ys) n n && _)
        rw [e]; rfl
    · refine qbl ?_ (q _ sm)
      show _ = (seqB r n n && _)
      rw [e]; rfl
end
end K1
namespace K1
open PySem PySem.Spec PyProof.Rows L2
/-- the items of a lot of tables, each with what it holds -/
structure Rws (K : PySem.W.Frag) (H : Hp) (xs : List V) (rs : List (Option (List V))) : Prop where
  len : xs.length = rs.length
  at_ : ∀ (i : Nat) x r, xs[i]? = some x → rs[i]? = some r → Rw K H x r
theorem Rws.same {K : PySem.W.Frag} {H H' : Hp} {xs : List V} {rs : List (Option (List V))} (h : Rws K H xs rs) (s : Same H H') : Rws K H' xs rs := ⟨h.len, fun i x r e1 e2 => (h.at_ i x r e1 e2).same s⟩
theorem Rws.get {K : PySem.W.Frag} {H : Hp} {xs : List V} {rs : List (Option (List V))} (h : Rws K H xs rs) {i : Nat} {x : V} (e : xs[i]? = some x) : ∃ r, rs[i]? = some r ∧ Rw K H x r := by
  have hi : i < rs.length := h.len ▸ (List.getElem?_eq_some_iff.mp e).1
  exact ⟨rs[i], by simp [hi], h.at_ i x _ e (by simp [hi])⟩
/-- what is told of a value that is no machine: none for a machine's tables (xs of the value, by their items) -/
def chkAt (o : Option (List (Option (List V)))) : Option Int :=
  match o with
  | none => some (-1)
  | some rs => if rs.length < 1 ∨ 8 < rs.length then some (-1) else
    match rs[0]? with
    | some (some y0) => if y0.length < 1 ∨ 12 < y0.length then some 0 else (rs.findIdx? fun r => !isTab r (y0.length : Int)).map fun i => (i : Int)
    | _ => some 0
/-- a value that may be a machine's tables; of its items nothing is known where there are too many, or none -/
inductive Mv (K : PySem.W.Frag) (H : Hp) : V → Option (List (Option (List V))) → Prop
  | no {v : V} (h : KV K H v none) : Mv K H v none
  | yes {v : V} {xs : List V} {rs : List (Option (List V))} (h : KV K H v (some xs)) (r : Rws K H xs rs) : Mv K H v (some rs)
theorem Mv.same {K : PySem.W.Frag} {H H' : Hp} {v : V} {o : Option (List (Option (List V)))} (h : Mv K H v o) (s : Same H H') : Mv K H' v o := by
  cases h with
  | no h => exact .no (h.same s)
  | yes h r => exact .yes (h.same s) (r.same s)
/-- tables that stand at ta, each as a tuple -/
def TabsAt (H : Hp) (ta : Addr) (ts : List (List V)) : Prop := ∃ as : List Addr, H ta = some (.tup (as.map V.ref)) ∧ as.length = ts.length ∧ ∀ (i : Nat) a t, as[i]? = some a → ts[i]? = some t → H a = some (.tup t)
theorem TabsAt.same {H H' : Hp} {ta : Addr} {ts : List (List V)} (h : TabsAt H ta ts) (s : Same H H') : TabsAt H' ta ts := let ⟨as, h1, h2, h3⟩ := h; ⟨as, s _ _ h1, h2, fun i a t e1 e2 => s _ _ (h3 i a t e1 e2)⟩
/-- an error of the class at C, its field f at v -/
def Rz (C : Addr) (f : Str) (v : V) (H : Hp) (E : XK) : Prop := ∀ d H', Same H H' → H d = none → H' d = some (.xd [(f, v)]) → E (.ref C) (some d) H'
/-- checked_tables: the tables, or the error -/
def spChk (K : PySem.W.Frag) (C : Addr) : Sp := fun vs H Q E => ∃ v o, vs = [v] ∧ Mv K H v o ∧ (∀ z, chkAt o = some z → Rz C "at" (.int z) H E) ∧
  (chkAt o = none → ∀ (ts : List (List V)), o = some (ts.map some) → ∀ ta H', Same H H' → TabsAt H' ta ts → Q (.ref ta) H')
theorem chk_neg {o : Option (List (Option (List V)))} (h : seqB (o.map fun rs => rs.map fun _ => V.non) 1 8 = false) : chkAt o = some (-1) := by
  cases o with
  | none => rfl
  | some rs =>
    have z : rs.length < 1 ∨ 8 < rs.length := by
      have e : (decide ((1 : Int) ≤ ((rs.map fun _ => V.non).length : Int)) && decide (((rs.map fun _ => V.non).length : Int) ≤ 8)) = false := h
      rw [List.length_map] at e
      simp only [Bool.and_eq_false_iff, decide_eq_false_iff_not] at e
      omega
    show (if rs.length < 1 ∨ 8 < rs.length then some (-1) else _) = _
    rw [if_pos z]
theorem chk_zero {rs : List (Option (List V))} {r0 : Option (List V)} (h1 : seqB (some (rs.map fun _ => V.non)) 1 8 = true) (h0 : rs[0]? = some r0) (h : seqB r0 1 12 = false) : chkAt (some rs) = some 0 := by
  have e : (decide ((1 : Int) ≤ ((rs.map fun _ => V.non).length : Int)) && decide (((rs.map fun _ => V.non).length : Int) ≤ 8)) = true := h1
  rw [List.length_map] at e
  simp only [Bool.and_eq_true, decide_eq_true_eq] at e
  have z : ¬ (rs.length < 1 ∨ 8 < rs.length) := by omega
  show (if rs.length < 1 ∨ 8 < rs.length then some (-1) else _) = _
  rw [if_neg z, h0]
  cases r0 with
  | none => rfl
  | some y0 =>
    have e : (decide ((1 : Int) ≤ (y0.length : Int)) && decide ((y0.length : Int) ≤ 12)) = false := h
    simp only [Bool.and_eq_false_iff, decide_eq_false_iff_not] at e
    have z : y0.length < 1 ∨ 12 < y0.length := by omega
    show (if y0.length < 1 ∨ 12 < y0.length then some 0 else _) = _
    rw [if_pos z]
theorem chk_in {rs : List (Option (List V))} {y0 : List V} (h1 : seqB (some (rs.map fun _ => V.non)) 1 8 = true) (h0 : rs[0]? = some (some y0)) (h : seqB (some y0) 1 12 = true) : chkAt (some rs) = (rs.findIdx? fun r => !isTab r (y0.length : Int)).map fun i => (i : Int) := by
  have e : (decide ((1 : Int) ≤ ((rs.map fun _ => V.non).length : Int)) && decide (((rs.map fun _ => V.non).length : Int) ≤ 8)) = true := h1
  rw [List.length_map] at e
  simp only [Bool.and_eq_true, decide_eq_true_eq] at e
  have z : ¬ (rs.length < 1 ∨ 8 < rs.length) := by omega
  have e2 : (decide ((1 : Int) ≤ (y0.length : Int)) && decide ((y0.length : Int) ≤ 12)) = true := h
  simp only [Bool.and_eq_true, decide_eq_true_eq] at e2
  have z2 : ¬ (y0.length < 1 ∨ 12 < y0.length) := by omega
  show (if rs.length < 1 ∨ 8 < rs.length then some (-1) else _) = _
  rw [if_neg z, h0]
  show (if y0.length < 1 ∨ 12 < y0.length then some 0 else _) = _
  rw [if_neg z2]
theorem find_at {α : Type} {rs : List α} {p : α → Bool} {i : Nat} {r : α} (hr : rs[i]? = some r) (hn : p r = true) (hb : ∀ (j : Nat) y, j < i → rs[j]? = some y → p y = false) : rs.findIdx? p = some i := by
  obtain ⟨hi, ex⟩ := List.getElem?_eq_some_iff.mp hr
  rw [List.findIdx?_eq_some_iff_getElem]
  refine ⟨hi, by rw [ex, hn], fun j hj => ?_⟩
  have hj' : j < rs.length := Nat.lt_trans hj hi
  have := hb j rs[j] hj (by simp [hj'])
  simp [this]
theorem find_none {α : Type} {rs : List α} {p : α → Bool} (hb : ∀ (j : Nat) y, j < rs.length → rs[j]? = some y → p y = false) : rs.findIdx? p = none := by
  rw [List.findIdx?_eq_none_iff]
  intro x hx
  obtain ⟨j, hj, e⟩ := List.mem_iff_getElem.mp hx
  exact e ▸ hb j rs[j] hj (by simp [hj])
theorem isTab_some {r : Option (List V)} {n : Int} (h : isTab r n = true) : ∃ ys, r = some ys := by
  cases r with
  | none => cases h
  | some ys => exact ⟨ys, rfl⟩
/-- tuple(x) -/
def rTup (K : PySem.W.Frag) : List V → Hp → VK → Prop := fun xs H Q => ∃ p ys, xs = [.ref p] ∧ ((SqL K H p ys ∧ ∀ l, H l = none → Q (.ref l) (upd H l (.tup ys))) ∨ (SqT K H p ys ∧ Q (.ref p) H))
theorem ctup {X : Cx} {K : PySem.W.Frag} (h : X.K = K) : CallR X (.type "tuple") (rTup K) := by
  subst h
  exact call_tuple_of
section
variable {P : Program} {w : World} {K : PySem.W.Frag} {mg : Str → Option Value} {base : Heap}
theorem scC : FnScope ["value", "states", "at", "table"] ["value"] (defScope sChk) := ⟨rfl, rfl, rfl, by decide +kernel, rfl, by decide +kernel, by decide +kernel⟩
theorem ok_chk {f fS fI C cI : Addr} {fd fdS fdI : FuncData} {bm : List Value} {ql : Str} (D : Df K mg "checked_tables" sChk ["value"] f fd) (DS : Df K mg "is_sequence" sSeq ["value", "least", "most"] fS fdS) (DI : Df K mg "is_table" sIsTab ["value", "states"] fI fdI)
    (B : Bt mg) (c : Ct mg) (T : LAt.Txt K mg "BadMachine" ql bm C cI) (GS : FnOk P w K mg base CX0 1 fS fdS ["value", "least", "most"] (spSeq K)) (GI : FnOk P w K mg base CX0 4 fI fdI ["value", "states"] (spIsTab K)) :
    FnOk P w K mg base (L2.CX P w) 5 f fd ["value"] (spChk K C) := by
  obtain ⟨t1, hc1⟩ := c.tabs
  obtain ⟨t2, hc2⟩ := c.states
  refine D.F.okX scC (fun vs H Q E h => ?_) (fun cdv A outer s H vs Q E hr h => ?_)
  · obtain ⟨v, o, rfl, _⟩ := h
    rfl
  · obtain ⟨v, o, rfl, hm, qE, qQ⟩ := h
    have hr1 : Room 1 _ := hr.mono (by decide)
    refine ⟨_, pss_cons (ps_if (pt_not (pt_val (pc DS GS hr1 pass0 (pa_cons (pv 0) (pa_cons pe_int (pa_cons (pe_glob (v := .int 8) (by rfl) hc1 ⟨_, rfl⟩) pa_nil)))))) (pss_one (ps_raise_LAt rfl T hr (takes_of rfl rfl rfl rfl) (pa_cons (pe_un un_neg pe_int) pa_nil))) pss_nil)
      (pss_cons (ps_if (pt_not (pt_val (pc DS GS hr1 pass0 (pa_cons (pe_ix ix_seq (pv 0) pe_int (fun _ _ => rfl)) (pa_cons pe_int (pa_cons (pe_glob (v := .int 12) (by rfl) hc2 ⟨_, rfl⟩) pa_nil)))))) (pss_one (ps_raise_LAt rfl T hr (takes_of rfl rfl rfl rfl) (pa_cons pe_int pa_nil))) pss_nil)
      (pss_cons (ps_set (i := 1) scC.nd rfl (.inl rfl) (pe_callB call_len_seq (by rfl) B.len PySem.boot_len (pa_cons (pe_ix ix_seq (pv 0) pe_int (fun _ _ => rfl)) pa_nil)))
      (pss_cons (ps_for (passes_of rfl) rfl (pi_enumA (by rfl) B.enumerate (pa_cons (pv 0) pa_nil)) (pg_tup rfl (pgs_cons (pg_name (i := 2) scC.nd rfl (.inl rfl)) (pgs_cons (pg_name (i := 3) scC.nd rfl (.inl rfl)) pgs_nil)))
        (pss_one (ps_if (pt_not (pt_val (pc DI GI hr pass0 (pa_cons (pv 3) (pa_cons (pv 1) pa_nil))))) (pss_one (ps_raise_LAt rfl T hr (takes_of rfl rfl rfl rfl) (pa_cons (pv 2) pa_nil))) pss_nil)))
      (pss_one (ps_ret (pe_callTy call_tuple_of (by rfl) B.tuple (by decide +kernel) (pa_cons
        (pe_lc (own := [("table", 3)]) (g := gName 3) (tt := tYes) rfl scC.nd (pi_seqA (pv 0)) (blkOk_by (N := ["value", "states", "at", "table"]) (sc := defScope sChk) (by decide +kernel)) (fun _ _ _ _ _ => pg_name (i := 3) scC.nd rfl (Or.inl rfl)) (fun _ _ _ _ _ => pts_nil)
          (fun _ _ _ _ _ => pe_callTy (ctup (K := K) rfl) (by rfl) B.tuple PyProof.Rows.boot_tuple (pa_cons (pv 3) pa_nil))) pa_nil))))))), ?_⟩
    cases hm with
    | no kv =>
      refine ⟨_, rfl, _, none, 1, 8, rfl, kv, fun H1 s1 => ⟨_, rfl, ?_⟩⟩
      exact iteT ⟨_, rfl, _, rfl, fun d hd => qE (-1) rfl d _ (s1.trans (same_new hd)) (s1.free hd) upd_same⟩
    | yes kv R =>
      rename_i xs rs
      have eqs : ∀ l m, seqB (some xs) l m = seqB (some (rs.map fun _ => V.non)) l m := fun l m => by
        show (_ && _) = (_ && _)
        rw [List.length_map, R.len]
      refine ⟨_, rfl, _, some xs, 1, 8, rfl, kv, fun H1 s1 => ⟨_, rfl, ifD (fun e1 => ?_) fun e1 => ?_⟩⟩
      · have e1' : seqB (some xs) 1 8 = false := by simpa using e1
        rw [eqs] at e1'
        exact ⟨_, rfl, _, rfl, fun d hd => qE (-1) (chk_neg (o := some rs) e1') d _ (s1.trans (same_new hd)) (s1.free hd) upd_same⟩
      · have e1' : seqB (some xs) 1 8 = true := by simpa using e1
        have e1r := e1'
        rw [eqs] at e1r
        have hx0 : ∃ x0, xs[0]? = some x0 := by
          have z : (decide ((1 : Int) ≤ (xs.length : Int)) && decide ((xs.length : Int) ≤ 8)) = true := e1'
          simp only [Bool.and_eq_true, decide_eq_true_eq] at z
          exact ⟨xs[0]'(by omega), by simp⟩
        obtain ⟨x0, hx0⟩ := hx0
        obtain ⟨r0, hr0, W0⟩ := R.get hx0
        obtain ⟨a, rfl, hS⟩ := kv.seqA
        have ixr : ∀ {H' : Hp} {Qv : VK}, Same H H' → Qv x0 H' → rIx K (.ref a) (.int 0) H' Qv := fun {H' Qv} sm q => by
          rcases hS.same sm with h | h
          · exact .inl ⟨a, xs, 0, x0, rfl, rfl, SqL.of h, atI_nat (j := 0) hx0, q⟩
          · exact .inr (.inl ⟨a, xs, 0, x0, rfl, rfl, SqT.of h, atI_nat (j := 0) hx0, q⟩)
        refine ⟨_, rfl, ixr s1 ?_⟩
        refine ⟨_, r0, 1, 12, rfl, W0.kv.same s1, fun H2 s2 => ⟨_, rfl, ifD (fun e2 => ?_) fun e2 => ?_⟩⟩
        · have e2' : seqB r0 1 12 = false := by simpa using e2
          exact ⟨_, rfl, fun d hd => qE 0 (chk_zero e1r hr0 e2') d _ ((s1.trans s2).trans (same_new hd)) ((s1.trans s2).free hd) upd_same⟩
        · have e2' : seqB r0 1 12 = true := by simpa using e2
          have s12 := s1.trans s2
          obtain ⟨y0, rfl⟩ : ∃ y0, r0 = some y0 := by
            cases r0 with
            | none => cases e2'
            | some y0 => exact ⟨y0, rfl⟩
          have hc := chk_in e1r hr0 e2'
          obtain ⟨a0, rfl, hS0⟩ := W0.kv.seqA
          refine ⟨_, rfl, ixr s12 ⟨a0, y0, rfl, (hS0.same s12).elim (fun h => .inl (SqL.of h)) (fun h => .inr (SqT.of h)), ?_⟩⟩
          -- the loop
          let Pv : Nat → L2.St → Hp → Prop := fun i σ H' => ∃ v2 v3 : Option V, σ = [some (.ref a), some (.int (y0.length : Int)), v2, v3] ∧ Same H H' ∧ ∀ (j : Nat) r, j < i → rs[j]? = some r → isTab r (y0.length : Int) = true
          refine ⟨_, rfl, a, rfl, ?_⟩
          have P0 : Pv 0 [some (.ref a), some (.int (y0.length : Int)), none, none] H2 := ⟨none, none, rfl, s12, fun j r hj => absurd hj (Nat.not_lt_zero _)⟩
          rcases hS with hS | hS
          · refine .inl ⟨xs, SqL.of (s12 _ _ hS), for_enumL (K := K) Pv P0 (fun i σ H' _ ⟨_, _, _, sm, _⟩ => SqL.of (sm _ _ hS)) ?_ ?_⟩
            · rintro i x T σ H' hx hT ⟨v2, v3, rfl, sm, hb⟩
              have sm2 : Same H (upd H' T (.tup [.int (i : Nat), x])) := sm.trans (same_new hT)
              obtain ⟨r, hr', W⟩ := R.get hx
              refine ⟨T, _, rfl, SqT.of upd_same, rfl, _, _, rfl, _, _, rfl, rfl, ?_⟩
              refine ⟨_, rfl, _, rfl, x, r, (y0.length : Int), rfl, W.same sm2, fun H3 s3 => ⟨_, rfl, ifD (fun e => ?_) fun e => ?_⟩⟩
              · have e' : isTab r (y0.length : Int) = false := by simpa using e
                have hz : chkAt (some rs) = some (i : Int) := by
                  rw [hc, find_at hr' (by rw [e']; rfl) fun j y hj hy => by rw [hb j y hj hy]; rfl]; rfl
                exact ⟨_, rfl, _, rfl, fun d hd => qE _ hz d _ ((sm2.trans s3).trans (same_new hd)) ((sm2.trans s3).free hd) upd_same⟩
              · have e' : isTab r (y0.length : Int) = true := by simpa using e
                refine ⟨_, _, rfl, sm2.trans s3, fun j y hj hy => ?_⟩
                rcases Nat.lt_succ_iff_lt_or_eq.mp hj with z | z
                · exact hb j y z hy
                · subst z
                  rw [hr'] at hy
                  rw [← Option.some.inj hy]
                  exact e'
            · rintro σ H' ⟨v2, v3, rfl, sm, hb⟩
              have hz : chkAt (some rs) = none := by
                rw [hc, find_none fun j y hj hy => by rw [hb j y (by rw [R.len]; exact hj) hy]; rfl]; rfl
              have hsome : ∀ (i : Nat) r, rs[i]? = some r → ∃ ys, r = some ys := fun i r hi => isTab_some (hb i r (by rw [R.len]; exact (List.getElem?_eq_some_iff.mp hi).1) hi)
              have hts : some rs = some ((rs.map fun r => r.getD []).map some) := by
                congr 1
                rw [List.map_map]
                refine (List.map_id rs).symm.trans (List.map_congr_left fun r hr => ?_)
                obtain ⟨i, hi, e⟩ := List.mem_iff_getElem.mp hr
                obtain ⟨ys, rfl⟩ := hsome i r (by rw [← e]; simp [hi])
                rfl
              have qq := qQ hz _ hts
              have gett : ∀ (i : Nat) x, xs[i]? = some x → ∃ b ys, x = .ref b ∧ rs[i]? = some (some ys) ∧ SeqA H b ys := fun i x hx => by
                obtain ⟨r, h1, W⟩ := R.get hx
                obtain ⟨ys, rfl⟩ := hsome i r h1
                obtain ⟨b, rfl, h2⟩ := W.kv.seqA
                exact ⟨b, ys, rfl, h1, h2⟩
              let Lv : Addr → Nat → Hp → Prop := fun D i H2 => ∃ as : List Addr, as.length = i ∧ Same H' H2 ∧ H2 D = some (.lst (as.map V.ref)) ∧ ∀ (j : Nat) b t, as[j]? = some b → rs[j]? = some (some t) → H2 b = some (.tup t)
              refine ⟨_, rfl, a, rfl, .inl ⟨xs, SqL.of (sm _ _ hS), fun D hD => lc_list (K := K) (a := a) (xs := xs) (Lv D) ⟨[], rfl, same_new hD, upd_same, fun j b t z => nomatch z⟩ (fun i H2 _ ⟨as, _, s5, _⟩ => SqL.of (s5 _ _ (sm _ _ hS))) ?_ ?_⟩⟩
              · rintro i x H2 hx ⟨as, hl, s5, hD2, hA⟩
                obtain ⟨b, ys, rfl, h1, h2⟩ := gett i x hx
                have nD : ∀ c o, H' c = some o → c ≠ D := fun c o e => ne_of_none e hD
                have hlen : (as.map V.ref).length < sizeLine := by
                  rw [List.length_map, hl, sizeLine_eq]
                  have := (List.getElem?_eq_some_iff.mp hx).1
                  have z : (decide ((1 : Int) ≤ (xs.length : Int)) && decide ((xs.length : Int) ≤ 8)) = true := e1'
                  simp only [Bool.and_eq_true, decide_eq_true_eq] at z
                  omega
                have fin : ∀ (l : Addr) (H3 : Hp), Same H2 H3 → H3 l = some (.tup ys) → H3 D = some (.lst (as.map V.ref)) → l ≠ D → Lv D (i + 1) (upd H3 D (.lst (as.map V.ref ++ [.ref l]))) := fun l H3 s6 hl3 hD3 hne => by
                  have keep : ∀ c o, H3 c = some o → c ≠ D → upd H3 D (.lst (as.map V.ref ++ [.ref l])) c = some o := fun c o e n => by rw [upd_ne n]; exact e
                  refine ⟨as ++ [l], by rw [List.length_append, hl]; rfl, fun c o e => keep c o (s6 _ _ (s5 _ _ e)) (nD c o e), by rw [upd_same, List.map_append]; rfl, fun j b t hb ht => ?_⟩
                  by_cases hj : j < as.length
                  · rw [List.getElem?_append_left hj] at hb
                    have z := s6 _ _ (hA j b t hb ht)
                    exact keep _ _ z (ne_of z hD3 (by intro q; cases q))
                  · have hj2 : j = as.length := by
                      have := (List.getElem?_eq_some_iff.mp hb).1
                      rw [List.length_append] at this
                      have q : ([l] : List Addr).length = 1 := rfl
                      omega
                    subst hj2
                    rw [List.getElem?_append_right (Nat.le_refl _), Nat.sub_self] at hb
                    have eb : l = b := Option.some.inj hb
                    subst eb
                    rw [hl, h1] at ht
                    rw [← Option.some.inj (Option.some.inj ht)]
                    exact keep _ _ hl3 hne
                refine ⟨rfl, _, rfl, b, ys, rfl, ?_⟩
                rcases h2 with h2 | h2
                · have hb2 := s5 _ _ (sm _ _ h2)
                  refine .inl ⟨SqL.of hb2, fun l hl2 => ?_⟩
                  have nlD : l ≠ D := fun e => by rw [e, hD2] at hl2; cases hl2
                  exact ⟨_, (upd_ne nlD.symm).trans hD2, hlen, fin l _ (same_new hl2) upd_same ((upd_ne nlD.symm).trans hD2) nlD⟩
                · have hb2 := s5 _ _ (sm _ _ h2)
                  refine .inr ⟨SqT.of hb2, ?_⟩
                  exact ⟨_, hD2, hlen, fin b _ (Same.refl _) hb2 hD2 (ne_of hb2 hD2 (by intro q; cases q))⟩
              · rintro H2 ⟨as, hl, s5, hD2, hA⟩
                refine ⟨D, _, rfl, .inl ⟨SqL.of hD2, fun ta hta => ?_⟩⟩
                have s7 : Same H (upd H2 ta (.tup (as.map V.ref))) := (sm.trans s5).trans (same_new hta)
                refine qq ta _ s7 ⟨as, upd_same, by rw [hl, List.length_map, R.len], fun j b t hb ht => ?_⟩
                have hj : rs[j]? = some (some t) := by
                  rw [List.getElem?_map] at ht
                  cases e : rs[j]? with
                  | none => rw [e] at ht; cases ht
                  | some r =>
                    obtain ⟨ys, rfl⟩ := hsome j r e
                    rw [e] at ht
                    rw [← Option.some.inj ht]; rfl
                exact same_new hta _ _ (hA j b t hb hj)
          · refine .inr ⟨xs, SqT.of (s12 _ _ hS), for_enumT (K := K) Pv P0 (fun i σ H' _ ⟨_, _, _, sm, _⟩ => SqT.of (sm _ _ hS)) ?_ ?_⟩
            · rintro i x T σ H' hx hT ⟨v2, v3, rfl, sm, hb⟩
              have sm2 : Same H (upd H' T (.tup [.int (i : Nat), x])) := sm.trans (same_new hT)
              obtain ⟨r, hr', W⟩ := R.get hx
              refine ⟨T, _, rfl, SqT.of upd_same, rfl, _, _, rfl, _, _, rfl, rfl, ?_⟩
              refine ⟨_, rfl, _, rfl, x, r, (y0.length : Int), rfl, W.same sm2, fun H3 s3 => ⟨_, rfl, ifD (fun e => ?_) fun e => ?_⟩⟩
              · have e' : isTab r (y0.length : Int) = false := by simpa using e
                have hz : chkAt (some rs) = some (i : Int) := by
                  rw [hc, find_at hr' (by rw [e']; rfl) fun j y hj hy => by rw [hb j y hj hy]; rfl]; rfl
                exact ⟨_, rfl, _, rfl, fun d hd => qE _ hz d _ ((sm2.trans s3).trans (same_new hd)) ((sm2.trans s3).free hd) upd_same⟩
              · have e' : isTab r (y0.length : Int) = true := by simpa using e
                refine ⟨_, _, rfl, sm2.trans s3, fun j y hj hy => ?_⟩
                rcases Nat.lt_succ_iff_lt_or_eq.mp hj with z | z
                · exact hb j y z hy
                · subst z
                  rw [hr'] at hy
                  rw [← Option.some.inj hy]
                  exact e'
            · rintro σ H' ⟨v2, v3, rfl, sm, hb⟩
              have hz : chkAt (some rs) = none := by
                rw [hc, find_none fun j y hj hy => by rw [hb j y (by rw [R.len]; exact hj) hy]; rfl]; rfl
              have hsome : ∀ (i : Nat) r, rs[i]? = some r → ∃ ys, r = some ys := fun i r hi => isTab_some (hb i r (by rw [R.len]; exact (List.getElem?_eq_some_iff.mp hi).1) hi)
              have hts : some rs = some ((rs.map fun r => r.getD []).map some) := by
                congr 1
                rw [List.map_map]
                refine (List.map_id rs).symm.trans (List.map_congr_left fun r hr => ?_)
                obtain ⟨i, hi, e⟩ := List.mem_iff_getElem.mp hr
                obtain ⟨ys, rfl⟩ := hsome i r (by rw [← e]; simp [hi])
                rfl
              have qq := qQ hz _ hts
              have gett : ∀ (i : Nat) x, xs[i]? = some x → ∃ b ys, x = .ref b ∧ rs[i]? = some (some ys) ∧ SeqA H b ys := fun i x hx => by
                obtain ⟨r, h1, W⟩ := R.get hx
                obtain ⟨ys, rfl⟩ := hsome i r h1
                obtain ⟨b, rfl, h2⟩ := W.kv.seqA
                exact ⟨b, ys, rfl, h1, h2⟩
              let Lv : Addr → Nat → Hp → Prop := fun D i H2 => ∃ as : List Addr, as.length = i ∧ Same H' H2 ∧ H2 D = some (.lst (as.map V.ref)) ∧ ∀ (j : Nat) b t, as[j]? = some b → rs[j]? = some (some t) → H2 b = some (.tup t)
              refine ⟨_, rfl, a, rfl, .inr ⟨xs, SqT.of (sm _ _ hS), fun D hD => lc_tup (K := K) (a := a) (xs := xs) (Lv D) ⟨[], rfl, same_new hD, upd_same, fun j b t z => nomatch z⟩ (fun i H2 _ ⟨as, _, s5, _⟩ => SqT.of (s5 _ _ (sm _ _ hS))) ?_ ?_⟩⟩
              · rintro i x H2 hx ⟨as, hl, s5, hD2, hA⟩
                obtain ⟨b, ys, rfl, h1, h2⟩ := gett i x hx
                have nD : ∀ c o, H' c = some o → c ≠ D := fun c o e => ne_of_none e hD
                have hlen : (as.map V.ref).length < sizeLine := by
                  rw [List.length_map, hl, sizeLine_eq]
                  have := (List.getElem?_eq_some_iff.mp hx).1
                  have z : (decide ((1 : Int) ≤ (xs.length : Int)) && decide ((xs.length : Int) ≤ 8)) = true := e1'
                  simp only [Bool.and_eq_true, decide_eq_true_eq] at z
                  omega
                have fin : ∀ (l : Addr) (H3 : Hp), Same H2 H3 → H3 l = some (.tup ys) → H3 D = some (.lst (as.map V.ref)) → l ≠ D → Lv D (i + 1) (upd H3 D (.lst (as.map V.ref ++ [.ref l]))) := fun l H3 s6 hl3 hD3 hne => by
                  have keep : ∀ c o, H3 c = some o → c ≠ D → upd H3 D (.lst (as.map V.ref ++ [.ref l])) c = some o := fun c o e n => by rw [upd_ne n]; exact e
                  refine ⟨as ++ [l], by rw [List.length_append, hl]; rfl, fun c o e => keep c o (s6 _ _ (s5 _ _ e)) (nD c o e), by rw [upd_same, List.map_append]; rfl, fun j b t hb ht => ?_⟩
                  by_cases hj : j < as.length
                  · rw [List.getElem?_append_left hj] at hb
                    have z := s6 _ _ (hA j b t hb ht)
                    exact keep _ _ z (ne_of z hD3 (by intro q; cases q))
                  · have hj2 : j = as.length := by
                      have := (List.getElem?_eq_some_iff.mp hb).1
                      rw [List.length_append] at this
                      have q : ([l] : List Addr).length = 1 := rfl
                      omega
                    subst hj2
                    rw [List.getElem?_append_right (Nat.le_refl _), Nat.sub_self] at hb
                    have eb : l = b := Option.some.inj hb
                    subst eb
                    rw [hl, h1] at ht
                    rw [← Option.some.inj (Option.some.inj ht)]
                    exact keep _ _ hl3 hne
                refine ⟨rfl, _, rfl, b, ys, rfl, ?_⟩
                rcases h2 with h2 | h2
                · have hb2 := s5 _ _ (sm _ _ h2)
                  refine .inl ⟨SqL.of hb2, fun l hl2 => ?_⟩
                  have nlD : l ≠ D := fun e => by rw [e, hD2] at hl2; cases hl2
                  exact ⟨_, (upd_ne nlD.symm).trans hD2, hlen, fin l _ (same_new hl2) upd_same ((upd_ne nlD.symm).trans hD2) nlD⟩
                · have hb2 := s5 _ _ (sm _ _ h2)
                  refine .inr ⟨SqT.of hb2, ?_⟩
                  exact ⟨_, hD2, hlen, fin b _ (Same.refl _) hb2 hD2 (ne_of hb2 hD2 (by intro q; cases q))⟩
              · rintro H2 ⟨as, hl, s5, hD2, hA⟩
                refine ⟨D, _, rfl, .inl ⟨SqL.of hD2, fun ta hta => ?_⟩⟩
                have s7 : Same H (upd H2 ta (.tup (as.map V.ref))) := (sm.trans s5).trans (same_new hta)
                refine qq ta _ s7 ⟨as, upd_same, by rw [hl, List.length_map, R.len], fun j b t hb ht => ?_⟩
                have hj : rs[j]? = some (some t) := by
                  rw [List.getElem?_map] at ht
                  cases e : rs[j]? with
                  | none => rw [e] at ht; cases ht
                  | some r =>
                    obtain ⟨ys, rfl⟩ := hsome j r e
                    rw [e] at ht
                    rw [← Option.some.inj ht]; rfl
                exact same_new hta _ _ (hA j b t hb hj)
end
end K1
namespace K1
open PySem PySem.Spec PyProof.Rows L2
/-! ### the machine's object -/
def mf (ta : Addr) (n k : Int) : List (Str × V) := putF "states" (.int k) (putF "deeds" (.int n) (putF "tables" (.ref ta) []))
theorem mf_t (ta : Addr) (n k : Int) : (mf ta n k).lookup ("tables" : Str) = some (.ref ta) := by
  unfold mf
  rw [lookup_putF, if_neg (by decide +kernel), lookup_putF, if_neg (by decide +kernel), lookup_putF, if_pos rfl]
theorem mf_d (ta : Addr) (n k : Int) : (mf ta n k).lookup ("deeds" : Str) = some (.int n) := by
  unfold mf
  rw [lookup_putF, if_neg (by decide +kernel), lookup_putF, if_pos rfl]
theorem mf_s (ta : Addr) (n k : Int) : (mf ta n k).lookup ("states" : Str) = some (.int k) := by
  unfold mf
  rw [lookup_putF, if_pos rfl]
/-- the machine at m, of the class at M: tables that stand at ta -/
def MachAt (M : Addr) (H : Hp) (m ta : Addr) (ts : List (List V)) : Prop :=
  (∃ (dx : Addr) (t0 : List V), ts[0]? = some t0 ∧ H m = some (.ins M dx (mf ta (ts.length : Int) (t0.length : Int)))) ∧ TabsAt H ta ts
theorem MachAt.same {M : Addr} {H H' : Hp} {m ta : Addr} {ts : List (List V)} (h : MachAt M H m ta ts) (s : Same H H') : MachAt M H' m ta ts :=
  let ⟨⟨dx, t0, h0, h1⟩, h2⟩ := h
  ⟨⟨dx, t0, h0, s _ _ h1⟩, h2.same s⟩
/-- what the walk asks of the class Machine, at M -/
structure McT (K : PySem.W.Frag) (mg : Str → Option Value) (M : Addr) : Prop where
  cl : Cls K M
  nT : NoAttr K M "tables"
  nD : NoAttr K M "deeds"
  nS : NoAttr K M "states"
  g : mg "Machine" = some (.ref M)
  ca : PySem.W.findIn K (.ref M) "__class__" = some (some (.builtin "object.__class__"))
  sp : PySem.W.specialIn K (.builtin "object.__class__") "__get__" = some (some (.builtin "getset_descriptor.__get__"))
  tk : PySem.W.takesIn K (.builtin "object.__class__") = some true
  mo : PySem.W.mroIn K M (.type "object") = some true
/-- __init__ of a fresh machine -/
def spMInit (K : PySem.W.Frag) (C M : Addr) : Sp := fun vs H Q E => ∃ m dx v o, vs = [.ref m, v] ∧ H m = some (.ins M dx []) ∧ Mv K H v o ∧ (∀ z, chkAt o = some z → Rz C "at" (.int z) H E) ∧
  (chkAt o = none → ∀ (ts : List (List V)), o = some (ts.map some) → ∀ ta H', (∀ b u, H b = some u → b ≠ m → H' b = some u) → MachAt M H' m ta ts → Q .non H')
theorem chk_first {ts : List (List V)} (h : chkAt (some (ts.map some)) = none) : ∃ t0, ts[0]? = some t0 := by
  cases ts with
  | nil =>
    have z : chkAt (some ([] : List (Option (List V)))) = some (-1) := rfl
    rw [show (([] : List (List V)).map some) = [] from rfl, z] at h
    cases h
  | cons a r => exact ⟨a, rfl⟩
section
variable {P : Program} {w : World} {K : PySem.W.Frag} {mg : Str → Option Value} {base : Heap}
theorem scMI : FnScope ["self", "tables"] ["self", "tables"] (defScope sMInit) := ⟨rfl, rfl, rfl, by decide +kernel, rfl, by decide +kernel, by decide +kernel⟩
theorem ok_minit {f fC C M : Addr} {fd fdC : FuncData} (F : Fun K "__init__" "Machine.__init__" sMInit f fd) (DC : Df K mg "checked_tables" sChk ["value"] fC fdC) (B : Bt mg) (T : McT K mg M)
    (GC : FnOk P w K mg base (L2.CX P w) 5 fC fdC ["value"] (spChk K C)) : FnOk P w K mg base (L2.CX P w) 6 f fd ["self", "tables"] (spMInit K C M) := by
  refine F.okX scMI (fun vs H Q E h => ?_) (fun cdv A outer s H vs Q E hr h => ?_)
  · obtain ⟨m, dx, v, o, rfl, _⟩ := h
    rfl
  · obtain ⟨m, dx, v, o, rfl, hm, mv, qE, qQ⟩ := h
    refine ⟨_, pss_cons (ps_fld (pv 0) (pc DC GC hr (pass1 (takes_of rfl rfl rfl rfl)) (pa_cons (pv 1) pa_nil)) rfl)
      (pss_cons (ps_fld (pv 0) (pe_callB call_len_seq (by rfl) B.len PySem.boot_len (pa_cons (pe_fld (pv 0) rfl) pa_nil)) rfl)
      (pss_one (ps_fld (pv 0) (pe_callB call_len_seq (by rfl) B.len PySem.boot_len (pa_cons (pe_ix ix_tup (pe_fld (pv 0) rfl) pe_int (fun _ _ => rfl)) pa_nil)) rfl))), ?_⟩
    refine ⟨_, rfl, v, o, rfl, mv, fun z hz d H' sm hd he => qE z hz d H' sm hd he, fun hz ts hts ta H' sm hT => ?_⟩
    subst hts
    obtain ⟨t0, h0⟩ := chk_first hz
    have hm1 := sm _ _ hm
    obtain ⟨as, ha1, ha2, ha3⟩ := hT
    have nma : m ≠ ta := ne_of hm1 ha1 (by intro q; cases q)
    have k1 : ∀ {fs : List (Str × V)}, (upd H' m (.ins M dx fs)) ta = some (.tup (as.map V.ref)) := fun {fs} => by rw [upd_ne nma.symm]; exact ha1
    obtain ⟨a0, ea0⟩ : ∃ a0, as[0]? = some a0 := by
      have : 0 < as.length := by rw [ha2]; exact (List.getElem?_eq_some_iff.mp h0).1
      exact ⟨as[0], by simp [this]⟩
    have hA0 := ha3 0 a0 t0 ea0 h0
    have nm0 : m ≠ a0 := ne_of hm1 hA0 (by intro q; cases q)
    refine ⟨_, rfl, m, M, dx, [], rfl, hm1, T.cl, T.nT, (by show 0 < 1000; decide), ?_⟩
    refine ⟨_, rfl, m, M, dx, _, _, rfl, upd_same, T.cl, T.nT, (by rw [lookup_putF, if_pos rfl]), ta, _, rfl, .inr (SqT.of k1), _, rfl, m, M, dx, _, rfl, upd_same, T.cl, T.nD, (by show 1 < 1000; decide), ?_⟩
    rw [upd_upd]
    refine ⟨_, rfl, m, M, dx, _, _, rfl, upd_same, T.cl, T.nT, (by rw [lookup_putF, if_neg (by decide +kernel), lookup_putF, if_pos rfl]), ta, _, 0, _, rfl, rfl, SqT.of k1, atI_nat (j := 0) (by rw [List.getElem?_map, ea0]; rfl), a0, t0, rfl, .inr (SqT.of (by rw [upd_ne nm0.symm]; exact hA0)), _, rfl, m, M, dx, _, rfl, upd_same, T.cl, T.nS, (by show 2 < 1000; decide), ?_⟩
    rw [upd_upd]
    refine qQ hz ts rfl ta _ (fun b u e hb => ?_) ⟨⟨dx, t0, h0, ?_⟩, as, k1, ha2, fun i a t e1 e2 => ?_⟩
    · rw [upd_ne hb]
      exact sm _ _ e
    · rw [upd_same]
      show some (HO.ins M dx (putF "states" (.int t0.length) (putF "deeds" (.int ((as.map V.ref).length : Int)) (putF "tables" (.ref ta) [])))) = _
      rw [List.length_map, ha2]
      rfl
    · have z := ha3 i a t e1 e2
      rw [upd_ne (ne_of z hm1 (by intro q; cases q))]
      exact z
end
end K1
namespace K1
open PySem PySem.Spec PyProof.Rows L2
/-- x == y by x's own __eq__: y another such instance, or a tuple -/
def rEqOwn (C : Addr) (sp : Sp) : R2 := fun x y H Q => ∃ (a : Addr) (dx : Addr) (fs : List (Str × V)), x = .ref a ∧ H a = some (.ins C dx fs) ∧ ((∃ (b dy : Addr) (gs : List (Str × V)), y = .ref b ∧ H b = some (.ins C dy gs)) ∨ ∃ (b : Addr) (ys : List V), y = .ref b ∧ H b = some (.tup ys)) ∧
  sp [x, y] H (fun v H' => ∃ k, v = .bl k ∧ Q v H') E0
theorem op_eqOwn {X : Cx} {n : Nat} {C f : Addr} {fd : FuncData} {ps : List Str} {sp : Sp} (F : FnOk X.prog X.w X.K X.mg X.base CX0 n f fd ps sp) (hr : Room n X.A)
    (hs : PySem.W.findIn X.K (.ref C) "__eq__" = some (some (.ref f))) (hf : PySem.W.isFn X.K (.ref f) = true) (hb : Binds X.K fd ps []) (nf : PySem.W.notFirst X.K C (.type "tuple") = true) : OpR X (compareOp .Eq) (rEqOwn C sp) := by
  intro pins s σ H x y v u Q I rx ry hq
  obtain ⟨a, dx, fs, rfl, ha, hy, hsp⟩ := hq
  cases rx
  show wpAny (model X.prog X.w) X.A (richCompare .Eq (.ref a) u) (EP X pins σ Q) X.xe s
  obtain ⟨mA, J, _⟩ := ins_get I.hok ha
  obtain ⟨od, J, _⟩ := J.look
  obtain ⟨m, hF⟩ := I.fr
  have tl : ∃ tb, PySem.W.Looks (model X.prog X.w) s.heap (typeOf u) tb ∧ PySem.W.notFirst X.K C tb = true := by
    rcases hy with ⟨b, dy, gs, rfl, hb'⟩ | ⟨b, ys, rfl, hb'⟩
    · cases ry
      obtain ⟨mB, J', _⟩ := ins_get I.hok hb'
      obtain ⟨od', J', _⟩ := J'.look
      exact ⟨.ref C, J'.type, by simp [PySem.W.notFirst]⟩
    · cases ry
      obtain ⟨_, its, rv, o, h1, h2, _⟩ := (show ObjOk X.prog X.w H s.heap b (.tup ys) from I.hok b _ hb')
      exact ⟨.type "tuple", h2 ▸ (PySem.W.Looks.ld h1).andThen .now, nf⟩
  obtain ⟨tb, tl, hn⟩ := tl
  refine PySem.W.cmp_K (op := .Eq) (tb := tb) hr.units0 hF I.ok.mod.kin J tl hn hs hf ?_
  have hl := F.len _ _ _ _ hsp
  have r2 : Vals [V.ref a, y] [Value.ref a, u] := .cons rfl (.cons ry .nil)
  refine wpAny_call (codeAny_mono (F.run X.A X.stack s H ⟨[.ref a, u], []⟩ [.ref a, u] [.ref a, y] _ E0 hr I.env0 (by
    have := hb s [.ref a, u] I.kIn (by simpa using hl)
    simpa using this) r2 hsp) fun r s' hq => ?_)
  cases r with
  | error e => exact (show False from hq).elim
  | ok fl =>
    cases fl with
    | ret w =>
      obtain ⟨z, H', I', rz, k, ez, q⟩ := I.after hq
      subst ez
      cases rz
      exact ⟨.bl k, H', I', rfl, q⟩
    | next => exact False.elim hq
    | brk => exact False.elim hq
    | cont => exact False.elim hq
/-! ### whole numbers by rows -/
/-- the tables of a machine as lists of whole numbers -/
abbrev Ts := List (List Int)
def vrow (t : List Int) : List V := t.map V.int
def vts (ts : Ts) : List (List V) := ts.map vrow
def dI (t : List Int) : List PyData := t.map PyData.int
def dT (ts : Ts) : PyData := .tuple (ts.map fun t => .tuple (dI t))
section
variable {K : PySem.W.Frag} {H : Hp}
theorem dp_ints : ∀ t : List Int, DpAll K H (vrow t) (dI t)
  | [] => .nil
  | i :: r => .cons (.int i) (dp_ints r)
theorem dp_tup {a : Addr} {t : List Int} (h : H a = some (.tup (vrow t))) : Dp K H (.ref a) (.tuple (dI t)) := .tup (SqT.of h) (dp_ints t)
theorem dp_refs : ∀ (as : List Addr) (ts : Ts), as.length = ts.length → (∀ (i : Nat) a t, as[i]? = some a → (vts ts)[i]? = some t → H a = some (.tup t)) → DpAll K H (as.map V.ref) (ts.map fun t => PyData.tuple (dI t))
  | [], [], _, _ => .nil
  | a :: as, t :: ts, hl, h => .cons (dp_tup (h 0 a (vrow t) rfl rfl)) (dp_refs as ts (Nat.succ.inj hl) fun i b u e1 e2 => h (i + 1) b u e1 e2)
  | [], _ :: _, hl, _ => nomatch hl
  | _ :: _, [], hl, _ => nomatch hl
theorem TabsAt.dp {ta : Addr} {ts : Ts} (h : TabsAt H ta (vts ts)) : Dp K H (.ref ta) (dT ts) := by
  obtain ⟨as, h1, h2, h3⟩ := h
  exact .tup (SqT.of h1) (dp_refs as ts (by rw [h2]; exact List.length_map _) h3)
end
/-- plain data: shown shortly, compared by what they hold -/
structure Pl (d : PyData) (n w : Nat) : Prop where
  lay : d.canLay0 = true
  sh : d.showable = true
  nd : d.hasDict = false
  dp : d.depth ≤ n
  wt : d.weight ≤ w
  sr : d.leavesShort 20 = true
structure PlA (ds : List PyData) (n w : Nat) : Prop where
  lay : PyData.canLayAll0 ds = true
  sh : PyData.showableAll ds = true
  nd : PyData.hasDictAll ds = false
  dp : PyData.depthAll ds ≤ n
  wt : PyData.weightAll ds ≤ w
  sr : PyData.leavesShortAll 20 ds = true
theorem Pl.int {i : Int} (h : i.natAbs < 10 ^ 19) : Pl (.int i) 0 64 := by
  have h3 : i.natAbs ≠ 0 → i.natAbs.log2 < 64 := fun z => (Nat.log2_lt z).mpr (Nat.lt_of_lt_of_le h (by decide))
  refine ⟨by simp only [PyData.canLay0], ?_, by simp only [PyData.hasDict], by simp only [PyData.depth]; omega, ?_, ?_⟩
  · simp only [PyData.showable, decide_eq_true_eq]
    by_cases z : i.natAbs = 0
    · rw [z]; decide
    · have := h3 z
      omega
  · simp only [PyData.weight]
    split
    · omega
    · rename_i z
      have := h3 (fun e => z (by rw [Int.natAbs_eq_zero.mp e]; rfl))
      omega
  · have e := int_text_length_le10 (a := i) (k := 19) (by decide) h
    simp only [PyData.leavesShort, decide_eq_true_eq, PyData.shown]
    exact decide_eq_true (Nat.le_trans (Nat.le_of_eq (PySem.ofString_length _)) e)
theorem Pl.bl (b : Bool) : Pl (.bool b) 0 0 := ⟨by simp only [PyData.canLay0], by simp only [PyData.showable], by simp only [PyData.hasDict], by simp only [PyData.depth]; omega, by simp only [PyData.weight]; omega, by simp only [PyData.leavesShort]⟩
theorem PlA.nil : PlA [] 0 0 := ⟨by simp only [PyData.canLayAll0], by simp only [PyData.showableAll], by simp only [PyData.hasDictAll], by simp only [PyData.depthAll]; omega, by simp only [PyData.weightAll]; omega, by simp only [PyData.leavesShortAll]⟩
theorem PlA.cons {d : PyData} {ds : List PyData} {n m u v : Nat} (a : Pl d n u) (b : PlA ds m v) : PlA (d :: ds) (max n m) (u + 1 + v) := by
  refine ⟨by simp only [PyData.canLayAll0, a.lay, b.lay, Bool.and_self], by simp only [PyData.showableAll, a.sh, b.sh, Bool.and_self], by simp only [PyData.hasDictAll, a.nd, b.nd, Bool.or_self], ?_, ?_, by simp only [PyData.leavesShortAll, a.sr, b.sr, Bool.and_self]⟩
  · have h1 := a.dp; have h2 := b.dp
    simp only [PyData.depthAll]; omega
  · have h1 := a.wt; have h2 := b.wt
    simp only [PyData.weightAll]; omega
theorem Pl.list {ds : List PyData} {n w : Nat} (a : PlA ds n w) : Pl (.list ds) (n + 1) w := by
  refine ⟨by simp only [PyData.canLay0, a.lay], by simp only [PyData.showable, a.sh], by simp only [PyData.hasDict, a.nd], ?_, ?_, by simp only [PyData.leavesShort, a.sr]⟩
  · have h1 := a.dp
    simp only [PyData.depth]; omega
  · have h1 := a.wt
    simp only [PyData.weight]; omega
theorem Pl.tuple {ds : List PyData} {n w : Nat} (a : PlA ds n w) : Pl (.tuple ds) (n + 1) w := by
  refine ⟨by simp only [PyData.canLay0, a.lay], by simp only [PyData.showable, a.sh], by simp only [PyData.hasDict, a.nd], ?_, ?_, by simp only [PyData.leavesShort, a.sr]⟩
  · have h1 := a.dp
    simp only [PyData.depth]; omega
  · have h1 := a.wt
    simp only [PyData.weight]; omega
theorem Pl.mono {d : PyData} {n w m v : Nat} (a : Pl d n w) (h1 : n ≤ m) (h2 : w ≤ v) : Pl d m v := ⟨a.lay, a.sh, a.nd, Nat.le_trans a.dp h1, Nat.le_trans a.wt h2, a.sr⟩
theorem PlA.mono {d : List PyData} {n w m v : Nat} (a : PlA d n w) (h1 : n ≤ m) (h2 : w ≤ v) : PlA d m v := ⟨a.lay, a.sh, a.nd, Nat.le_trans a.dp h1, Nat.le_trans a.wt h2, a.sr⟩
theorem Pl.shaped {d : PyData} {n w : Nat} (a : Pl d n w) (h : n ≤ 40) : SeqAt.shaped d = true := by
  have := a.dp
  unfold SeqAt.shaped
  rw [a.lay, decide_eq_true (by omega)]; rfl
theorem Pl.short {d : PyData} {n w : Nat} (a : Pl d n w) (h : w ≤ 100000) : d.shown.length ≤ sizeLine := by
  have h1 := PyData.shown_le 20 (by decide) d a.sr
  have h2 := a.wt
  rw [sizeLine_eq]
  omega
/-- rows of whole numbers below 10 ^ 19 -/
theorem pla_ints : ∀ t : List Int, (∀ i ∈ t, i.natAbs < 10 ^ 19) → PlA (dI t) 0 (t.length * 65)
  | [], _ => PlA.nil
  | i :: r, h => (PlA.cons (Pl.int (h i List.mem_cons_self)) (pla_ints r fun j hj => h j (List.mem_cons_of_mem _ hj))).mono (by omega) (by show 64 + 1 + r.length * 65 ≤ (r.length + 1) * 65; omega)
theorem pla_rows {n : Nat} : ∀ ts : Ts, (∀ t ∈ ts, t.length ≤ n ∧ ∀ i ∈ t, i.natAbs < 10 ^ 19) → PlA (ts.map fun t => PyData.tuple (dI t)) 1 (ts.length * (n * 65 + 1))
  | [], _ => PlA.nil.mono (by omega) (by omega)
  | t :: r, h => by
    obtain ⟨h1, h2⟩ := h t List.mem_cons_self
    refine (PlA.cons (Pl.tuple (pla_ints t h2)) (pla_rows r fun u hu => h u (List.mem_cons_of_mem _ hu))).mono (by omega) ?_
    show t.length * 65 + 1 + r.length * (n * 65 + 1) ≤ (r.length + 1) * (n * 65 + 1)
    rw [Nat.add_mul]
    omega
theorem pl_dT {n : Nat} {ts : Ts} (h : ∀ t ∈ ts, t.length ≤ n ∧ ∀ i ∈ t, i.natAbs < 10 ^ 19) : Pl (dT ts) 2 (ts.length * (n * 65 + 1)) := Pl.tuple (pla_rows ts h)
end K1
namespace K1
open PySem PySem.Spec PyProof.Rows L2
/-- tables that are shown and compared: few, of few states -/
def Few (ts : Ts) : Prop := ts.length ≤ 8 ∧ ∀ t ∈ ts, t.length ≤ 12 ∧ ∀ i ∈ t, i.natAbs < 10 ^ 19
theorem Few.pl {ts : Ts} (h : Few ts) : Pl (dT ts) 2 10000 := (pl_dT h.2).mono (Nat.le_refl _) (by have := h.1; have : ts.length * (12 * 65 + 1) ≤ 8 * (12 * 65 + 1) := Nat.mul_le_mul_right _ h.1; omega)
/-- machine == other: another machine with the same tables, or a tuple -/
def spMEq (M : Addr) : Sp := fun vs H Q _ => ∃ m ta ts v, vs = [.ref m, v] ∧ MachAt M H m ta (vts ts) ∧ Few ts ∧
  ((∃ m2 ta2, v = .ref m2 ∧ MachAt M H m2 ta2 (vts ts) ∧ Q (.bl true) H) ∨ (∃ a xs, v = .ref a ∧ H a = some (.tup xs) ∧ Q (.bl false) H))
/-- which answers isinstance gives of the class -/
structure McI (K : PySem.W.Frag) (M : Addr) : Prop where
  y : PySem.W.kitOne K (.ref M) (.ref M) = some true
  n : PySem.W.kitOne K (.type "tuple") (.ref M) = some false
def spNeed (M C : Addr) (fld : Str) (g : Ts → Nat) : Sp := fun vs H Q E => ∃ m ta ts v, vs = [.ref m, v] ∧ MachAt M H m ta (vts ts) ∧ (∃ (K : PySem.W.Frag) (o : Option (List V)), KV K H v o) ∧
  (belowB v (g ts : Int) = true → Q v H) ∧ (belowB v (g ts : Int) = false → Rz C fld v H E)
theorem ints_of {t0 : List V} {ts : Ts} (h : (vts ts)[0]? = some t0) : ∃ r : List Int, ts[0]? = some r ∧ t0 = vrow r := by
  rw [vts, List.getElem?_map] at h
  cases e : ts[0]? with
  | none => rw [e] at h; cases h
  | some r =>
    rw [e] at h
    exact ⟨r, rfl, (Option.some.inj h).symm⟩
/-- how many states -/
def nS (ts : Ts) : Nat := (ts[0]?.getD []).length
theorem MachAt.fs {M : Addr} {H : Hp} {m ta : Addr} {ts : Ts} (h : MachAt M H m ta (vts ts)) : ∃ dx : Addr, H m = some (.ins M dx (mf ta (ts.length : Int) (nS ts : Int))) := by
  obtain ⟨⟨dx, t0, h0, h1⟩, _⟩ := h
  obtain ⟨r, hr, rfl⟩ := ints_of h0
  refine ⟨dx, ?_⟩
  rw [h1]
  have e1 : (vts ts).length = ts.length := List.length_map _
  have e2 : (vrow r).length = nS ts := by
    unfold nS
    rw [hr]
    exact List.length_map _
  rw [e1, e2]
section
variable {P : Program} {w : World} {K : PySem.W.Frag} {mg : Str → Option Value} {base : Heap}
theorem scME : FnScope ["self", "other"] ["self", "other"] (defScope sMEq) := ⟨rfl, rfl, rfl, by decide +kernel, rfl, by decide +kernel, by decide +kernel⟩
theorem ok_meq {f M : Addr} {fd : FuncData} (F : Fun K "__eq__" "Machine.__eq__" sMEq f fd) (B : Bt mg) (T : McT K mg M) (T2 : McI K M) : FnOk P w K mg base CX0 1 f fd ["self", "other"] (spMEq M) := by
  refine F.ok scME (fun vs H Q E h => ?_) (fun cdv A outer s H vs Q E hr h => ?_)
  · obtain ⟨m, ta, ts, v, rfl, _⟩ := h
    rfl
  · obtain ⟨m, ta, ts, v, rfl, hM, hF, q⟩ := h
    refine ⟨_, pss_one (ps_ret (pe_and (pe_callB call_isi (by rfl) B.isinstance (by decide +kernel) (pa_cons (pv 1) (pa_cons (pe_glob (v := .ref M) (by rfl) T.g rfl) pa_nil)))
      (pe_one (pe_cmpR (op_eqD hr.units) (pe_fld (pv 0) rfl) (pe_fld (pv 1) rfl) (nomark _))))), ?_⟩
    obtain ⟨dx, h1⟩ := hM.fs
    rcases q with ⟨m2, ta2, rfl, hM2, q⟩ | ⟨a, xs, rfl, ha, q⟩
    · obtain ⟨dx2, h2⟩ := hM2.fs
      refine ⟨_, rfl, _, _, _, _, _, rfl, .own M, .base (.ins h2 T.cl T.ca T.sp T.tk T.mo), T2.y, _, rfl, iteT ?_⟩
      refine ⟨_, rfl, m, M, dx, _, _, rfl, h1, T.cl, T.nT, mf_t _ _ _, _, rfl, m2, M, dx2, _, _, rfl, h2, T.cl, T.nT, mf_t _ _ _, dT ts, dT ts, hM.2.dp, hM2.2.dp, hF.pl.shaped (by decide), hF.pl.shaped (by decide), qbl ?_ q⟩
      exact SeqAt.eqv_refl _ hF.pl.lay
    · refine ⟨_, rfl, _, _, _, _, _, rfl, .own M, .base (.tup ha), T2.n, _, rfl, iteF q⟩
theorem scNS : FnScope ["machine", "state"] ["machine", "state"] (defScope sNeedS) := ⟨rfl, rfl, rfl, by decide +kernel, rfl, by decide +kernel, by decide +kernel⟩
theorem ok_needS {f fB C M cI : Addr} {fd fdB : FuncData} {bm : List Value} {ql : Str} (D : Df K mg "need_state" sNeedS ["machine", "state"] f fd) (DB : Df K mg "is_below" sBelow ["value", "limit"] fB fdB) (T : McT K mg M) (TX : LState.Txt K mg "NoState" ql bm C cI)
    (GB : FnOk P w K mg base CX0 2 fB fdB ["value", "limit"] (spBelow K)) : FnOk P w K mg base (L2.CX P w) 3 f fd ["machine", "state"] (spNeed M C "state" nS) := by
  refine D.F.okX scNS (fun vs H Q E h => ?_) (fun cdv A outer s H vs Q E hr h => ?_)
  · obtain ⟨m, ta, ts, v, rfl, _⟩ := h
    rfl
  · obtain ⟨m, ta, ts, v, rfl, hM, ⟨K', o, kv⟩, q1, q2⟩ := h
    refine ⟨_, pss_cons (ps_if (pt_not (pt_val (pc DB GB hr pass0 (pa_cons (pv 1) (pa_cons (pe_fld (pv 0) rfl) pa_nil))))) (pss_one (ps_raise_LState rfl TX hr (takes_of rfl rfl rfl rfl) (pa_cons (pv 1) pa_nil))) pss_nil) (pss_one (ps_ret (pv 1))), ?_⟩
    obtain ⟨dx, h1⟩ := hM.fs
    have kv' : KV K H v o := by cases kv <;> first | exact .int _ | exact .bl _ | exact .non | exact .str _ | exact .lst (by assumption) | exact .tup (by assumption)
    refine ⟨_, rfl, _, rfl, m, M, dx, _, _, rfl, h1, T.cl, T.nS, mf_s _ _ _, v, o, _, rfl, kv', _, rfl, ifD (fun e => ?_) fun e => ?_⟩
    · exact ⟨_, rfl, _, rfl, fun d hd => q2 (by simpa using e) d _ (same_new hd) hd upd_same⟩
    · exact ⟨_, rfl, q1 (by simpa using e)⟩
end
end K1
namespace K1
open PySem PySem.Spec PyProof.Rows L2
def rowF (r : Option (List V)) (n : Int) : V := if seqB r 0 10000 = true then fnb (r.getD []) n else .int (-1)
theorem fnb_non {xs : List V} {lim : Int} (h : fnb xs lim = .non) : ∀ x ∈ xs, belowB x lim = true := by
  unfold fnb at h
  cases e : xs.findIdx? (fun x => !belowB x lim) with
  | some i => rw [e] at h; cases h
  | none =>
    rw [List.findIdx?_eq_none_iff] at e
    intro x hx
    simpa using e x hx
theorem fnb_all {xs : List V} {lim : Int} (h : ∀ x ∈ xs, belowB x lim = true) : fnb xs lim = .non := fnb_none fun j y _ hy => h y (List.mem_of_getElem? hy)
theorem rowF_non {r : Option (List V)} {n : Int} (h : rowF r n = .non) : ∃ xs, r = some xs ∧ ∀ x ∈ xs, belowB x n = true := by
  unfold rowF at h
  by_cases e : seqB r 0 10000 = true
  · rw [if_pos e] at h
    cases r with
    | none => cases e
    | some xs => exact ⟨xs, rfl, fnb_non h⟩
  · rw [if_neg e] at h
    cases h
/-- where a deed leads a state; where a row leads it -/
def stp (ts : Ts) (s d : Int) : Int := ((ts[d.toNat]?.getD [])[s.toNat]?).getD 0
def run (ts : Ts) (s : Int) (row : List Int) : Int := row.foldl (stp ts) s
/-- well made tables -/
structure Wf (ts : Ts) : Prop where
  t1 : 1 ≤ ts.length
  t8 : ts.length ≤ 8
  s1 : 1 ≤ nS ts
  s12 : nS ts ≤ 12
  row : ∀ t ∈ ts, t.length = nS ts ∧ ∀ i ∈ t, 0 ≤ i ∧ i < (nS ts : Int)
theorem Wf.few {ts : Ts} (h : Wf ts) : Few ts := ⟨h.t8, fun t ht => ⟨by rw [(h.row t ht).1]; exact h.s12, fun i hi => by
  have := (h.row t ht).2 i hi
  have := h.s12
  omega⟩⟩
theorem Wf.at_ {ts : Ts} (h : Wf ts) {s d : Int} (hd : 0 ≤ d ∧ d < ts.length) (hs : 0 ≤ s ∧ s < (nS ts : Int)) : ∃ t, ts[d.toNat]? = some t ∧ t[s.toNat]? = some (stp ts s d) ∧ 0 ≤ stp ts s d ∧ stp ts s d < (nS ts : Int) := by
  have h1 : d.toNat < ts.length := by omega
  have ht : ts[d.toNat]? = some ts[d.toNat] := by simp [h1]
  have hm : ts[d.toNat] ∈ ts := List.getElem_mem h1
  obtain ⟨r1, r2⟩ := h.row _ hm
  have h2 : s.toNat < ts[d.toNat].length := by rw [r1]; omega
  have e : stp ts s d = ts[d.toNat][s.toNat] := by
    unfold stp
    rw [ht]
    simp [h2]
  refine ⟨_, ht, by rw [e]; simp [h2], ?_⟩
  rw [e]
  exact r2 _ (List.getElem_mem h2)
theorem Wf.run {ts : Ts} (h : Wf ts) : ∀ (row : List Int) (s : Int), (∀ d ∈ row, 0 ≤ d ∧ d < (ts.length : Int)) → 0 ≤ s ∧ s < (nS ts : Int) → 0 ≤ run ts s row ∧ run ts s row < (nS ts : Int)
  | [], s, _, hs => hs
  | d :: r, s, hd, hs => by
    obtain ⟨t, _, _, h3⟩ := h.at_ (hd d List.mem_cons_self) hs
    exact Wf.run h r (stp ts s d) (fun e he => hd e (List.mem_cons_of_mem _ he)) h3
theorem run_snoc (ts : Ts) (s : Int) (row : List Int) (d : Int) : run ts s (row ++ [d]) = stp ts (run ts s row) d := by
  unfold run
  rw [List.foldl_append]; rfl
theorem take_succ {α : Type} {l : List α} {i : Nat} {x : α} (h : l[i]? = some x) : l.take (i + 1) = l.take i ++ [x] := by
  rw [List.take_add_one, h]; rfl
end K1
namespace K1
/-! ### rows: the shorter ones ahead, then by their deeds -/
def LL : List Int → List Int → Prop
  | _, [] => False
  | [], _ :: _ => True
  | a :: r, b :: q => a < b ∨ (a = b ∧ LL r q)
theorem LL.irrefl : ∀ r, ¬ LL r r
  | [], h => h
  | a :: r, h => by
    rcases h with h | ⟨_, h⟩
    · omega
    · exact LL.irrefl r h
theorem LL.trans : ∀ {r q s : List Int}, LL r q → LL q s → LL r s
  | _, _, [], _, h => by
    cases ‹List Int› <;> exact absurd h (by simp [LL])
  | _, [], _ :: _, h, _ => by
    cases ‹List Int› <;> exact absurd h (by simp [LL])
  | [], _ :: _, _ :: _, _, _ => True.intro
  | a :: r, b :: q, c :: s, h1, h2 => by
    rcases h1 with h1 | ⟨rfl, h1⟩
    · rcases h2 with h2 | ⟨rfl, h2⟩
      · exact .inl (by omega)
      · exact .inl h1
    · rcases h2 with h2 | ⟨rfl, h2⟩
      · exact .inl h2
      · exact .inr ⟨rfl, h1.trans h2⟩
theorem LL.tri : ∀ {r q : List Int}, r.length = q.length → r = q ∨ LL r q ∨ LL q r
  | [], [], _ => .inl rfl
  | a :: r, b :: q, h => by
    by_cases e1 : a < b
    · exact .inr (.inl (.inl e1))
    · by_cases e2 : b < a
      · exact .inr (.inr (.inl e2))
      · obtain rfl : a = b := by omega
        rcases LL.tri (r := r) (q := q) (by simpa using h) with e | e | e
        · exact .inl (by rw [e])
        · exact .inr (.inl (.inr ⟨rfl, e⟩))
        · exact .inr (.inr (.inr ⟨rfl, e⟩))
  | [], _ :: _, h => by cases h
  | _ :: _, [], h => by cases h
theorem LL.app : ∀ {r q : List Int} (s t : List Int), r.length = q.length → LL r q → LL (r ++ s) (q ++ t)
  | [], [], _, _, _, h => h.elim
  | a :: r, b :: q, s, t, hl, h => by
    rcases h with h | ⟨e, h⟩
    · exact .inl h
    · exact .inr ⟨e, LL.app s t (by simpa using hl) h⟩
  | [], _ :: _, _, _, h, _ => by cases h
  | _ :: _, [], _, _, h, _ => by cases h
theorem LL.app' : ∀ (r : List Int) {s t : List Int}, LL s t → LL (r ++ s) (r ++ t)
  | [], _, _, h => h
  | _ :: r, _, _, h => .inr ⟨rfl, LL.app' r h⟩
def rlt (r q : List Int) : Prop := r.length < q.length ∨ (r.length = q.length ∧ LL r q)
theorem rlt.irrefl (r : List Int) : ¬ rlt r r := fun h => by
  rcases h with h | ⟨_, h⟩
  · omega
  · exact LL.irrefl r h
theorem rlt.trans {r q s : List Int} (a : rlt r q) (b : rlt q s) : rlt r s := by
  rcases a with a | ⟨a1, a2⟩ <;> rcases b with b | ⟨b1, b2⟩
  · exact .inl (by omega)
  · exact .inl (by omega)
  · exact .inl (by omega)
  · exact .inr ⟨by omega, a2.trans b2⟩
theorem rlt.tri (r q : List Int) : r = q ∨ rlt r q ∨ rlt q r := by
  by_cases e1 : r.length < q.length
  · exact .inr (.inl (.inl e1))
  · by_cases e2 : q.length < r.length
    · exact .inr (.inr (.inl e2))
    · have e : r.length = q.length := by omega
      rcases LL.tri e with h | h | h
      · exact .inl h
      · exact .inr (.inl (.inr ⟨e, h⟩))
      · exact .inr (.inr (.inr ⟨e.symm, h⟩))
theorem rlt.app {r q : List Int} (d e : Int) (h : rlt r q) : rlt (r ++ [d]) (q ++ [e]) := by
  rcases h with h | ⟨h1, h2⟩
  · exact .inl (by simp only [List.length_append, List.length_cons, List.length_nil]; omega)
  · exact .inr ⟨by simp only [List.length_append, List.length_cons, List.length_nil]; omega, LL.app _ _ h1 h2⟩
theorem rlt.last (r : List Int) {d e : Int} (h : d < e) : rlt (r ++ [d]) (r ++ [e]) := .inr ⟨by simp, LL.app' r (.inl h)⟩
theorem rlt.nil {r : List Int} (h : r ≠ []) : rlt [] r := .inl (by cases r with | nil => exact absurd rfl h | cons a r => simp)
def rle (r q : List Int) : Prop := r = q ∨ rlt r q
theorem rle.trans {r q s : List Int} (a : rle r q) (b : rle q s) : rle r s := by
  rcases a with rfl | a
  · exact b
  · rcases b with rfl | b
    · exact .inr a
    · exact .inr (a.trans b)
theorem rle.anti {r q : List Int} (a : rle r q) (b : rle q r) : r = q := by
  rcases a with rfl | a
  · rfl
  · rcases b with rfl | b
    · rfl
    · exact absurd (a.trans b) (rlt.irrefl _)
theorem rle.app {r q : List Int} (d : Int) (h : rle r q) : rle (r ++ [d]) (q ++ [d]) := by
  rcases h with rfl | h
  · exact .inl rfl
  · exact .inr (h.app d d)
/-! ### the search by rows, told without a heap -/
abbrev KR := List Int × List Int
def path (act : List Int → Int → List Int) (s : List Int) (r : List Int) : List Int := r.foldl act s
theorem path_snoc (act : List Int → Int → List Int) (s r : List Int) (d : Int) : path act s (r ++ [d]) = act (path act s r) d := by
  unfold path
  rw [List.foldl_append]; rfl
/-- all deeds of the first i things, and the first d deeds of the next one, are done -/
structure Bf (act : List Int → Int → List Int) (n : Nat) (s : List Int) (F : List KR) (i d : Nat) : Prop where
  nd : (F.map (·.1)).Nodup
  h0 : F[0]? = some (s, [])
  pth : ∀ (j : Nat) k r, F[j]? = some (k, r) → k = path act s r ∧ (∀ e ∈ r, 0 ≤ e ∧ e < (n : Int)) ∧ r.length ≤ j
  asc : ∀ (j j' : Nat) k k' r r', j < j' → F[j]? = some (k, r) → F[j']? = some (k', r') → rlt r r'
  old : ∀ (j : Nat) k r, F[j]? = some (k, r) → r = [] ∨ ∃ (p : Nat) (kp rp : List Int) (e : Int), F[p]? = some (kp, rp) ∧ r = rp ++ [e] ∧ 0 ≤ e ∧ (p < i ∨ (p = i ∧ e < (d : Int)))
  cl : ∀ (p : Nat) kp rp (e : Int), F[p]? = some (kp, rp) → 0 ≤ e → e < (n : Int) → (p < i ∨ (p = i ∧ e < (d : Int))) → ∃ (j : Nat) (r : List Int), F[j]? = some (act kp e, r) ∧ rle r (rp ++ [e])
variable {act : List Int → Int → List Int} {n : Nat} {s : List Int} {F : List KR} {i d : Nat}
theorem Bf.init : Bf act n s [(s, [])] 0 0 := by
  have one : ∀ (j : Nat) k r, ([(s, [])] : List KR)[j]? = some (k, r) → j = 0 ∧ k = s ∧ r = [] := fun j k r h => by
    cases j with
    | zero =>
      have e : (s, []) = (k, r) := Option.some.inj h
      injection e with e1 e2
      exact ⟨rfl, e1.symm, e2.symm⟩
    | succ j => cases h
  refine ⟨by simp, rfl, fun j k r h => ?_, fun j j' k k' r r' hj h h' => ?_, fun j k r h => .inl (one j k r h).2.2, fun p kp rp e h _ _ z => ?_⟩
  · obtain ⟨rfl, rfl, rfl⟩ := one j k r h
    exact ⟨rfl, fun e he => absurd he (by simp), Nat.zero_le _⟩
  · have := (one j' k' r' h').1
    omega
  · obtain ⟨rfl, rfl, rfl⟩ := one p kp rp h
    omega
/-- a row of the search against the row that is looked at -/
theorem Bf.ahead (b : Bf act n s F i d) {ki ri : List Int} (hi : F[i]? = some (ki, ri)) {j : Nat} {k r : List Int} (h : F[j]? = some (k, r)) : rlt r (ri ++ [(d : Int)]) := by
  rcases b.old j k r h with rfl | ⟨p, kp, rp, e, hp, rfl, _, z⟩
  · exact rlt.nil (by simp)
  · rcases z with z | ⟨rfl, z⟩
    · exact (b.asc p i kp ki rp ri z hp hi).app _ _
    · rw [hp] at hi
      have e2 : (kp, rp) = (ki, ri) := Option.some.inj hi
      injection e2 with _ e2
      subst e2
      exact rlt.last _ z
theorem Bf.more (b : Bf act n s F i d) {j : Nat} {k r : List Int} {ki ri : List Int} (hi : F[i]? = some (ki, ri)) (h : F[j]? = some (k, r)) (hk : k = act ki d) : Bf act n s F i (d + 1) := by
  refine ⟨b.nd, b.h0, b.pth, b.asc, fun j k r h => ?_, fun p kp rp e hp h0 hn z => ?_⟩
  · rcases b.old j k r h with e | ⟨p, kp, rp, e, hp, e1, e2, z⟩
    · exact .inl e
    · exact .inr ⟨p, kp, rp, e, hp, e1, e2, by omega⟩
  · by_cases q : p < i ∨ (p = i ∧ e < (d : Int))
    · exact b.cl p kp rp e hp h0 hn q
    · obtain ⟨rfl, rfl⟩ : p = i ∧ e = (d : Int) := by omega
      rw [hi] at hp
      have e2 : (ki, ri) = (kp, rp) := Option.some.inj hp
      injection e2 with e1 e2
      subst e1
      subst e2
      subst hk
      exact ⟨j, r, h, .inr (b.ahead hi h)⟩
theorem Bf.put (b : Bf act n s F i d) {ki ri : List Int} (hi : F[i]? = some (ki, ri)) (hn : act ki d ∉ F.map (·.1)) (hd : d < n) : Bf act n s (F ++ [(act ki d, ri ++ [(d : Int)])]) i (d + 1) := by
  have hil : i < F.length := (List.getElem?_eq_some_iff.mp hi).1
  have at_ : ∀ (j : Nat) k r, (F ++ [(act ki d, ri ++ [(d : Int)])])[j]? = some (k, r) → F[j]? = some (k, r) ∨ (j = F.length ∧ k = act ki d ∧ r = ri ++ [(d : Int)]) := fun j k r h => by
    by_cases hj : j < F.length
    · rw [List.getElem?_append_left hj] at h
      exact .inl h
    · rw [List.getElem?_append_right (by omega)] at h
      cases e : j - F.length with
      | zero =>
        rw [e] at h
        have e2 : (act ki d, ri ++ [(d : Int)]) = (k, r) := Option.some.inj h
        injection e2 with e1 e2
        exact .inr ⟨by omega, e1.symm, e2.symm⟩
      | succ q => rw [e] at h; cases h
  have up : ∀ (j : Nat) x, F[j]? = some x → (F ++ [(act ki d, ri ++ [(d : Int)])])[j]? = some x := fun j x h => by
    rw [List.getElem?_append_left (List.getElem?_eq_some_iff.mp h).1]; exact h
  have new : (F ++ [(act ki d, ri ++ [(d : Int)])])[F.length]? = some (act ki d, ri ++ [(d : Int)]) := by
    rw [List.getElem?_append_right (Nat.le_refl _), Nat.sub_self]; rfl
  refine ⟨?_, up _ _ b.h0, fun j k r h => ?_, fun j j' k k' r r' hj h h' => ?_, fun j k r h => ?_, fun p kp rp e hp h0 hne z => ?_⟩
  · rw [List.map_append, List.nodup_append]
    exact ⟨b.nd, by simp, fun y hy z hz e => by
      rw [List.map_cons, List.map_nil, List.mem_singleton] at hz
      rw [e, hz] at hy
      exact hn hy⟩
  · rcases at_ j k r h with h | ⟨rfl, rfl, rfl⟩
    · exact b.pth j k r h
    · obtain ⟨p1, p2, p3⟩ := b.pth i ki ri hi
      refine ⟨by rw [path_snoc, ← p1], fun e he => ?_, by simp only [List.length_append, List.length_cons, List.length_nil]; omega⟩
      rcases List.mem_append.mp he with he | he
      · exact p2 e he
      · rw [List.mem_singleton.mp he]; omega
  · rcases at_ j' k' r' h' with h' | ⟨rfl, rfl, rfl⟩
    · have hj' := (List.getElem?_eq_some_iff.mp h').1
      rcases at_ j k r h with h | ⟨rfl, _, _⟩
      · exact b.asc j j' k k' r r' hj h h'
      · omega
    · rcases at_ j k r h with h | ⟨rfl, _, _⟩
      · exact b.ahead hi h
      · omega
  · rcases at_ j k r h with h | ⟨rfl, rfl, rfl⟩
    · rcases b.old j k r h with e | ⟨p, kp, rp, e, hp, e1, e2, z⟩
      · exact .inl e
      · exact .inr ⟨p, kp, rp, e, up _ _ hp, e1, e2, by omega⟩
    · exact .inr ⟨i, ki, ri, d, up _ _ hi, rfl, by omega, by omega⟩
  · rcases at_ p kp rp hp with hp | ⟨rfl, _, _⟩
    · by_cases q : p < i ∨ (p = i ∧ e < (d : Int))
      · obtain ⟨j, r, h1, h2⟩ := b.cl p kp rp e hp h0 hne q
        exact ⟨j, r, up _ _ h1, h2⟩
      · obtain ⟨rfl, rfl⟩ : p = i ∧ e = (d : Int) := by omega
        rw [hi] at hp
        have e2 : (ki, ri) = (kp, rp) := Option.some.inj hp
        injection e2 with e1 e2
        subst e1
        subst e2
        exact ⟨F.length, _, new, .inl rfl⟩
    · omega
theorem Bf.next (b : Bf act n s F i n) : Bf act n s F (i + 1) 0 := by
  refine ⟨b.nd, b.h0, b.pth, b.asc, fun j k r h => ?_, fun p kp rp e hp h0 hn z => b.cl p kp rp e hp h0 hn (by omega)⟩
  rcases b.old j k r h with e | ⟨p, kp, rp, e, hp, e1, e2, z⟩
  · exact .inl e
  · exact .inr ⟨p, kp, rp, e, hp, e1, e2, by omega⟩
/-- all rows' first ones, ascending -/
structure Fst (act : List Int → Int → List Int) (n : Nat) (s : List Int) (F : List KR) : Prop where
  nd : (F.map (·.1)).Nodup
  h0 : F[0]? = some (s, [])
  pth : ∀ (j : Nat) k r, F[j]? = some (k, r) → k = path act s r ∧ (∀ e ∈ r, 0 ≤ e ∧ e < (n : Int)) ∧ r.length ≤ j
  asc : ∀ (j j' : Nat) k k' r r', j < j' → F[j]? = some (k, r) → F[j']? = some (k', r') → rlt r r'
  all : ∀ r : List Int, (∀ e ∈ r, 0 ≤ e ∧ e < (n : Int)) → ∃ (j : Nat) (r' : List Int), F[j]? = some (path act s r, r') ∧ rle r' r
theorem Bf.done (b : Bf act n s F i 0) (hi : F.length ≤ i) : Fst act n s F := by
  refine ⟨b.nd, b.h0, b.pth, b.asc, fun r => ?_⟩
  generalize hm : r.length = m
  induction m generalizing r with
  | zero =>
    intro _
    obtain rfl : r = [] := List.eq_nil_of_length_eq_zero hm
    exact ⟨0, [], b.h0, .inl rfl⟩
  | succ m ih =>
    intro hr
    rcases List.eq_nil_or_concat r with rfl | ⟨q, e, rfl⟩
    · cases hm
    · have hq : q.length = m := by
        simp only [List.concat_eq_append, List.length_append, List.length_cons, List.length_nil] at hm
        omega
      rw [List.concat_eq_append] at hr ⊢
      obtain ⟨j, r', h1, h2⟩ := ih q hq fun x hx => hr x (List.mem_append_left _ hx)
      have he := hr e (List.mem_append_right _ (List.mem_singleton.mpr rfl))
      have hj := (List.getElem?_eq_some_iff.mp h1).1
      obtain ⟨j2, r2, h3, h4⟩ := b.cl j _ _ e h1 he.1 he.2 (.inl (by omega))
      exact ⟨j2, r2, by rw [path_snoc]; exact h3, h4.trans (h2.app e)⟩
end K1
namespace K1
open PySem PySem.Spec PyProof.Rows L2
/-! ### {k: v}, k a tuple -/
def tDispT (tk tv : TE) : TE := fun σ H Q => ∀ p, H p = none → tk σ (upd H p (.dT [])) fun x H1 => tv σ H1 fun y H2 => ∃ b k, x = .ref b ∧ H2 b = some (.tup (k.map kV)) ∧ H2 p = some (.dT []) ∧ Q (.ref p) (upd H2 p (.dT [(k, y)]))
theorem pe_dispT {X : Cx} {pos : Pos} {ke ve : Expr} {tk tv : TE} (hu : X.A.units < cLine) (hk : PE X ke tk) (hv : PE X ve tv) : PE X (.Dict [some ke] [ve] pos) (tDispT tk tv) := by
  refine ⟨fun pins s σ H Q I q => ?_⟩
  have hn := I.hok.fresh (Nat.le_refl s.heap.objs.size)
  have I1 := I.laid (a := s.heap.objs.size) (o := .dT []) (h' := s.heap.push { cls := .type "dict", data := .dict #[] }) (t' := s.toks) (fun _ _ q => Heap.get?_push_of_some _ q) (Nat.le_refl _) (dt_empty s.heap I.big)
  have P := pps_cons (pos := pos) hk hv pps_nil
  rw [arm_eval_Dict, zip_pairTrees [some ke] [ve] X.env pos rfl rfl, dictDisplay_pairs _ (by intro e; cases e) (by show 1 < 17; decide)]
  refine wpAny_bind (wpAny_standAt (wpAny_bind (wpAny_subDictH (knd := tupleKind (mixKind X.prog X.w)) (Q := fun d s' => wpAny (model X.prog X.w) X.A (pure (Value.ref d)) (EP X pins σ Q) X.xe s') hu (by show 1 ≤ 15; decide) ?_)))
  let Φ : V → V → Hp → Prop := fun x y H2 => ∃ b k, x = .ref b ∧ H2 b = some (.tup (k.map kV)) ∧ H2 s.heap.objs.size = some (.dT []) ∧ Q (.ref s.heap.objs.size) (upd H2 s.heap.objs.size (.dT [(k, y)]))
  refine thn (P.run pins _ σ _ (fun ps H2 => match ps with | [(x, y)] => Φ x y H2 | _ => False) I1 (q _ hn)) fun ws s2 hh => ?_
  obtain ⟨ps, H2, I2, rel, hh⟩ := hh
  match ps, hh with
  | [(x, y)], ⟨b, k, ex, hb, hp, q2⟩ =>
    cases rel with
    | cons r1 r2 =>
      cases r2
      rename_i u
      obtain ⟨u1, u2⟩ := u
      obtain ⟨rx, ry⟩ := r1
      subst ex
      obtain rfl : u1 = Value.ref b := rx
      obtain ⟨z, hd, xs, kt, dd⟩ := dt_of I2.hok hp
      cases kt
      refine ⟨[(k, b, u2)], ⟨rfl, rfl, key_of I2.hok hb, trivial⟩, dd, fun h' tk' dd' hs => wpAny_pure ?_⟩
      have dd2 : h'.DictOfH (tupleKind (mixKind X.prog X.w)) s.heap.objs.size [(k, b, u2)] := dd'
      have he : ∃ q, h'.get? s.heap.objs.size = some q := let ⟨q, _, _, hq, _⟩ := dd2; ⟨q, hq⟩
      obtain ⟨ob, es, ep, hq, h2, h3, h4, _, h5⟩ := dd2
      have nb : b ≠ s.heap.objs.size := ne_of hb hp (fun z => nomatch z)
      have kt2 : KT (upd H2 s.heap.objs.size (.dT [(k, y)])) [(k, y)] [(k, b, u2)] := .cons ⟨rfl, by rw [upd_ne nb]; exact hb, ry⟩ .nil
      refine ⟨.ref s.heap.objs.size, _, d_write (ob := .dT [(k, y)]) I2 (by rw [hp]; exact True.intro) hs he ⟨by show 1 ≤ sizeLine; decide, hd, _, kt2, ob, es, ep, hq, h2, h3, h4, h5⟩, rfl, q2⟩
/-! ### the keys of a dict that nobody else sees: locked for good -/
def iKeysF (td : TE) : TI := fun σ H R => td σ H fun x H1 => ∃ d kvs, x = .ref d ∧ H1 d = some (.dT kvs) ∧ ∀ o, R (Itkt d o kvs) (upd H1 d (.frz o (.dT kvs)))
theorem pi_keysF {X : Cx} {tg e : Expr} {td : TE} (he : PE X e td) : PI X tg e (iKeysF td) := by
  refine ⟨fun pins s σ H R I h => ?_⟩
  refine thn (he.run pins s σ H _ I h) fun u s1 ⟨x, H1, I1, rx, d, kvs, ex, hd0, q⟩ => ?_
  subst ex
  obtain rfl : u = Value.ref d := rx
  obtain ⟨o, I2⟩ := I1.lock hd0 trivial
  obtain ⟨hs, hgd, hx, es, ep, hdt, hsz, ent⟩ := I2.frzT upd_same
  refine iter_keys hs hgd hx hdt (pi_one (tk := s1.toks) I2 _ (turn_keysT _ hdt) ⟨_, Heap.get?_push_size _ rfl, rfl, ?_⟩ (q o))
  rw [hsz] <;> rfl
theorem lc_keysF {d : Addr} {o : Obj} {kvs : List (List Key × V)} {g : TG} {tt : TT} {te : TE} {vs : List Nat} {σ : L2.St} {H1 : Hp} {D : Addr} {Qd : Hp → Prop} (Pv : Nat → Hp → Prop) (h0 : Pv 0 (upd H1 D (.lst []))) (hl : ∀ i H, i ≤ kvs.length → Pv i H → H d = some (.frz o (.dT kvs)))
    (hs : ∀ (i : Nat) k v q H, kvs[i]? = some (k, v) → H q = some (.tup (k.map kV)) → Pv i H → g (.ref q) (wipe σ vs) H fun σ2 H2 => wipe σ2 vs = wipe σ vs ∧ tt σ2 H2 fun b H3 =>
      if b = true then te σ2 H3 fun y H4 => ∃ acc, H4 D = some (.lst acc) ∧ acc.length < sizeLine ∧ Pv (i + 1) (upd H4 D (.lst (acc ++ [y]))) else Pv (i + 1) H3) (hd : ∀ H, Pv kvs.length H → Qd H) :
    ∃ W : Nat → Nat → Hp → Prop, (∃ m, W 0 m (upd H1 D (.lst []))) ∧ ∀ i m H, W i m H →
      ((Itkt d o kvs).stop i H ∧ Qd H) ∨ ((Itkt d o kvs).go i H ∧ ∃ Nx : Hp → Prop, (∀ H', Nx H' → ∃ m', m' < m ∧ W (i + 1) m' H') ∧ ∀ x H', (Itkt d o kvs).yld i H x H' → g x (wipe σ vs) H' fun σ2 H2 => wipe σ2 vs = wipe σ vs ∧ tt σ2 H2 fun b H3 =>
        if b = true then te σ2 H3 fun y H4 => ∃ acc, H4 D = some (.lst acc) ∧ acc.length < sizeLine ∧ Nx (upd H4 D (.lst (acc ++ [y]))) else Nx H3) := by
  refine ⟨fun i m H => m = kvs.length - i ∧ i ≤ kvs.length ∧ Pv i H, ⟨kvs.length, by simp, Nat.zero_le _, h0⟩, ?_⟩
  rintro i m H ⟨rfl, hi, p⟩
  have q := hl i H hi p
  by_cases hlt : i < kvs.length
  · refine .inr ⟨⟨q, hlt⟩, Pv (i + 1), fun H' p' => ⟨kvs.length - (i + 1), by omega, rfl, hlt, p'⟩, fun x H' y => ?_⟩
    obtain ⟨e, k, v, b, e1, e2, e3⟩ := y
    subst e e2
    exact hs i k v b _ e1 e3 p
  · have e : i = kvs.length := by omega
    subst e
    exact .inl ⟨⟨q, Nat.le_refl _⟩, hd H p⟩
end K1
namespace K1
open PySem PySem.Spec PyProof.Rows L2
/-- at most as many as there are numbers -/
theorem nodup_le : ∀ (n : Nat) (L : List Int), L.Nodup → (∀ x ∈ L, 0 ≤ x ∧ x < (n : Int)) → L.length ≤ n
  | 0, L, _, h => by
    cases L with
    | nil => exact Nat.le_refl _
    | cons a r => have := h a List.mem_cons_self; omega
  | n + 1, L, nd, h => by
    have ih := nodup_le n (L.erase (n : Int)) (nd.erase _) fun x hx => by
      have h1 := h x (List.mem_of_mem_erase hx)
      have h2 : x ≠ (n : Int) := fun e => by
        rw [e] at hx
        exact (List.Nodup.mem_erase_iff nd).mp hx |>.1 rfl
      omega
    have h3 : L.length ≤ (L.erase (n : Int)).length + 1 := by
      by_cases hm : (n : Int) ∈ L
      · rw [List.length_erase_of_mem hm]; omega
      · rw [List.erase_of_not_mem hm]; omega
    omega
theorem val_some {kvs : List (List Key × V)} {k : List Key} {v : V} (h : valV kvs k = some v) : ∃ i : Nat, kvs[i]? = some (k, v) := by
  unfold valV at h
  cases e : kvs.find? (fun kv => decide (kv.1 = k)) with
  | none => rw [e] at h; cases h
  | some p =>
    rw [e] at h
    have h1 := List.find?_some e
    have h2 := List.mem_of_find?_eq_some e
    obtain ⟨i, hi, ep⟩ := List.mem_iff_getElem.mp h2
    refine ⟨i, ?_⟩
    rw [List.getElem?_eq_getElem hi, ep]
    obtain ⟨p1, p2⟩ := p
    have e1 : p1 = k := of_decide_eq_true h1
    have e2 : p2 = v := Option.some.inj h
    rw [e1, e2]
theorem ixTK {X : Cx} {K : PySem.W.Frag} (h : X.K = K) : IxR X (rIxT K) := by
  subst h
  exact ix_tup

/-- keys of some states; where a deed leads them -/
def kK (xs : List Int) : List Key := xs.map Sum.inl
theorem kK_v (xs : List Int) : (kK xs).map kV = vrow xs := by
  unfold kK vrow
  rw [List.map_map]; rfl
theorem kK_inj : ∀ {a b : List Int}, kK a = kK b → a = b
  | [], [], _ => rfl
  | [], _ :: _, h => by cases h
  | _ :: _, [], h => by cases h
  | x :: a, y :: b, h => by
    have h : (Sum.inl x :: kK a : List Key) = Sum.inl y :: kK b := h
    injection h with h1 h2
    injection h1 with h1
    rw [h1, kK_inj h2]
def actL (ts : Ts) (x : List Int) (d : Int) : List Int := x.map fun s => stp ts s d
theorem path_run (ts : Ts) : ∀ (r x : List Int), path (actL ts) x r = x.map fun s => run ts s r
  | [], x => by
    show x = x.map fun s => s
    rw [List.map_id']
  | d :: r, x => by
    show path (actL ts) (actL ts x d) r = _
    rw [path_run ts r, actL, List.map_map]; rfl
/-- how the search stands: its dict, its queue -/
structure DQ (H : Hp) (d q : Addr) (F : List KR) (kvs : List (List Key × V)) (as : List Addr) : Prop where
  hd : H d = some (.dT kvs)
  ky : kvs.map (·.1) = F.map fun e => kK e.1
  vl : ∀ (i : Nat) k v x r, kvs[i]? = some (k, v) → F[i]? = some (x, r) → ∃ a, v = .ref a ∧ H a = some (.tup (vrow r))
  hq : H q = some (.lst (as.map V.ref))
  ln : as.length = F.length
  it : ∀ (i : Nat) a x r, as[i]? = some a → F[i]? = some (x, r) → H a = some (.tup (vrow x))
theorem DQ.same {H H' : Hp} {d q : Addr} {F : List KR} {kvs : List (List Key × V)} {as : List Addr} (b : DQ H d q F kvs as) (s : Same H H') : DQ H' d q F kvs as :=
  ⟨s _ _ b.hd, b.ky, fun i k v x r e1 e2 => let ⟨a, h1, h2⟩ := b.vl i k v x r e1 e2; ⟨a, h1, s _ _ h2⟩, s _ _ b.hq, b.ln, fun i a x r e1 e2 => s _ _ (b.it i a x r e1 e2)⟩
theorem DQ.klen {H : Hp} {d q : Addr} {F : List KR} {kvs : List (List Key × V)} {as : List Addr} (b : DQ H d q F kvs as) : kvs.length = F.length := by
  have := congrArg List.length b.ky
  simpa using this
theorem DQ.none {H : Hp} {d q : Addr} {F : List KR} {kvs : List (List Key × V)} {as : List Addr} (b : DQ H d q F kvs as) {x : List Int} : valV kvs (kK x) = none ↔ x ∉ F.map (·.1) := by
  have e := valV_any (kK x) kvs
  have h : (kvs.any fun kv => decide (kv.1 = kK x)) = true ↔ x ∈ F.map (·.1) := by
    have z : (kvs.any fun kv => decide (kv.1 = kK x)) = ((kvs.map (·.1)).any fun k => decide (k = kK x)) := by rw [List.any_map]; rfl
    rw [z, b.ky, List.any_map, List.any_eq_true]
    constructor
    · rintro ⟨y, hy, e⟩
      have e' : kK y.1 = kK x := of_decide_eq_true e
      exact List.mem_map.mpr ⟨y, hy, kK_inj e'⟩
    · intro hx
      obtain ⟨y, hy, e⟩ := List.mem_map.mp hx
      exact ⟨y, hy, decide_eq_true (congrArg kK e)⟩
  constructor
  · intro hn hx
    rw [hn] at e
    rw [h.mpr hx] at e
    cases e
  · intro hx
    cases q : valV kvs (kK x) with
    | none => rfl
    | some v =>
      rw [q] at e
      exact absurd (h.mp e) hx
theorem DQ.look {H : Hp} {d q : Addr} {F : List KR} {kvs : List (List Key × V)} {as : List Addr} (b : DQ H d q F kvs as) (nd : (F.map (·.1)).Nodup) {x r : List Int} {i : Nat} (hi : F[i]? = some (x, r)) : ∃ a, valV kvs (kK x) = some (.ref a) ∧ H a = some (.tup (vrow r)) := by
  cases e : valV kvs (kK x) with
  | none => exact absurd (List.mem_map.mpr ⟨_, List.mem_of_getElem? hi, rfl⟩) (b.none.mp e)
  | some v =>
    obtain ⟨j, hj⟩ := val_some e
    have hk : (kvs.map (·.1))[j]? = some (kK x) := by rw [List.getElem?_map, hj]; rfl
    rw [b.ky, List.getElem?_map] at hk
    cases e2 : F[j]? with
    | none => rw [e2] at hk; cases hk
    | some y =>
      rw [e2] at hk
      have e3 : y.1 = x := kK_inj (Option.some.inj hk)
      have hij : j = i := by
        have f1 : (F.map (·.1))[j]? = some x := by rw [List.getElem?_map, e2]; exact congrArg some e3
        have f2 : (F.map (·.1))[i]? = some x := by rw [List.getElem?_map, hi]; rfl
        obtain ⟨g1, e5⟩ := List.getElem?_eq_some_iff.mp f1
        obtain ⟨g2, e6⟩ := List.getElem?_eq_some_iff.mp f2
        exact (List.getElem_inj nd).mp (e5.trans e6.symm)
      subst hij
      obtain ⟨a, e4, h4⟩ := b.vl j _ _ _ _ hj hi
      exact ⟨a, by rw [e4], h4⟩
theorem DQ.put {H : Hp} {d q : Addr} {F : List KR} {kvs : List (List Key × V)} {as : List Addr} (b : DQ H d q F kvs as) {x r : List Int} {e a : Addr} (hx : x ∉ F.map (·.1)) (he : H e = some (.tup (vrow x))) (ha : H a = some (.tup (vrow r))) :
    DQ (upd (upd H d (.dT (putK kvs (kK x) (.ref a)))) q (.lst (as.map V.ref ++ [.ref e]))) d q (F ++ [(x, r)]) (kvs ++ [(kK x, .ref a)]) (as ++ [e]) := by
  have ndq : d ≠ q := ne_of b.hd b.hq (by intro z; cases z)
  have keep : ∀ c ys, H c = some (.tup ys) → (upd (upd H d (.dT (putK kvs (kK x) (.ref a)))) q (.lst (as.map V.ref ++ [.ref e]))) c = some (.tup ys) := fun c ys h => by
    rw [upd_ne (ne_of h b.hq (by intro z; cases z)), upd_ne (ne_of h b.hd (by intro z; cases z))]; exact h
  have lk := b.klen
  have ll := b.ln
  refine ⟨?_, ?_, fun i k v y s h h' => ?_, ?_, ?_, fun i c y s h h' => ?_⟩
  · rw [upd_ne ndq, upd_same, putK_new _ (b.none.mpr hx)]
  · rw [List.map_append, b.ky, List.map_append]; rfl
  · by_cases hi : i < F.length
    · rw [List.getElem?_append_left (by omega)] at h
      rw [List.getElem?_append_left hi] at h'
      obtain ⟨c, e1, e2⟩ := b.vl i k v y s h h'
      exact ⟨c, e1, keep _ _ e2⟩
    · have hi2 : i = F.length := by
        have := (List.getElem?_eq_some_iff.mp h').1
        simp only [List.length_append, List.length_cons, List.length_nil] at this
        omega
      subst hi2
      rw [← lk, List.getElem?_append_right (Nat.le_refl _), Nat.sub_self] at h
      rw [List.getElem?_append_right (Nat.le_refl _), Nat.sub_self] at h'
      have e1 : (kK x, V.ref a) = (k, v) := Option.some.inj h
      have e2 : (x, r) = (y, s) := Option.some.inj h'
      injection e1 with _ e1
      injection e2 with _ e2
      subst e2
      exact ⟨a, e1.symm, keep _ _ ha⟩
  · rw [upd_same, List.map_append]; rfl
  · rw [List.length_append, List.length_append, b.ln]; rfl
  · by_cases hi : i < F.length
    · rw [List.getElem?_append_left (by omega)] at h
      rw [List.getElem?_append_left hi] at h'
      exact keep _ _ (b.it i c y s h h')
    · have hi2 : i = F.length := by
        have := (List.getElem?_eq_some_iff.mp h').1
        simp only [List.length_append, List.length_cons, List.length_nil] at this
        omega
      subst hi2
      rw [← ll, List.getElem?_append_right (Nat.le_refl _), Nat.sub_self] at h
      rw [List.getElem?_append_right (Nat.le_refl _), Nat.sub_self] at h'
      have e2 : (x, r) = (y, s) := Option.some.inj h'
      injection e2 with e2 _
      subst e2
      rw [← Option.some.inj h]
      exact keep _ _ he
/-- what the search tells: a dict of keys with their first rows -/
def DAt (H : Hp) (d : Addr) (F : List KR) : Prop := ∃ kvs : List (List Key × V), H d = some (.dT kvs) ∧ kvs.map (·.1) = (F.map fun e => kK e.1) ∧ ∀ (i : Nat) k v x r, kvs[i]? = some (k, v) → F[i]? = some (x, r) → ∃ a, v = .ref a ∧ H a = some (.tup (vrow r))
theorem actL_rng {ts : Ts} (w : Wf ts) {x : List Int} {d : Int} (hd : 0 ≤ d ∧ d < (ts.length : Int)) (hx : ∀ s ∈ x, 0 ≤ s ∧ s < (nS ts : Int)) : ∀ s ∈ actL ts x d, 0 ≤ s ∧ s < (nS ts : Int) := fun s hs => by
  obtain ⟨y, hy, rfl⟩ := List.mem_map.mp hs
  exact (w.at_ hd (hx y hy)).choose_spec.2.2
theorem path_rng {ts : Ts} (w : Wf ts) {x r : List Int} (hr : ∀ e ∈ r, 0 ≤ e ∧ e < (ts.length : Int)) (hx : ∀ s ∈ x, 0 ≤ s ∧ s < (nS ts : Int)) : ∀ s ∈ path (actL ts) x r, 0 ≤ s ∧ s < (nS ts : Int) := fun s hs => by
  rw [path_run] at hs
  obtain ⟨y, hy, rfl⟩ := List.mem_map.mp hs
  exact w.run r y hr (hx y hy)
/-- there are at most a thousand keys, however far the search has come -/
def FewK (ts : Ts) (ss : List Int) : Prop := ∀ (F : List KR), (F.map (·.1)).Nodup → (∀ e ∈ F, ∃ r : List Int, (∀ x ∈ r, 0 ≤ x ∧ x < (ts.length : Int)) ∧ e.1 = path (actL ts) ss r) → F.length ≤ 1000
theorem Bf.few {ts : Ts} {ss : List Int} {F : List KR} {i d : Nat} (f : FewK ts ss) (b : Bf (actL ts) ts.length ss F i d) : F.length ≤ 1000 := f F b.nd fun e he => by
  obtain ⟨j, hj⟩ := List.getElem?_of_mem he
  obtain ⟨h1, h2, _⟩ := b.pth j e.1 e.2 hj
  exact ⟨e.2, h2, h1⟩
def spFirst (M : Addr) : Sp := fun vs H Q _ => ∃ m ta ts ss p, vs = [.ref m, .ref p, .non, .non] ∧ MachAt M H m ta (vts ts) ∧ Wf ts ∧ (∀ s ∈ ss, 0 ≤ s ∧ s < (nS ts : Int)) ∧ ss.length ≤ 12 ∧ H p = some (.tup (vrow ss)) ∧ FewK ts ss ∧
  ∀ d F H', Same H H' → H d = none → DAt H' d F → Fst (actL ts) ts.length ss F → F.length ≤ 1000 → Q (.ref d) H'
section
variable {P : Program} {w : World} {K : PySem.W.Frag} {mg : Str → Option Value} {base : Heap}
/-- a def with two defaults that are None -/
structure DfF (K : PySem.W.Frag) (mg : Str → Option Value) (f : Addr) (fd : FuncData) : Prop where
  F : FunD K "first_rows" "first_rows" (defArgs sFirst) (defBody sFirst) (defScope sFirst) [.non, .non] [] f fd
  g : mg "first_rows" = some (.ref f)
theorem DfF.b {f : Addr} {fd : FuncData} (D : DfF K mg f fd) : ∃ ds, Vals [.non, .non] ds ∧ Binds K fd ["machine", "states", "out", "most"] ds :=
  D.F.binds1 2 0 (by simp) rfl fun T kV doc pm an cdv ct us its h1 h2 => match us, its, h1, h2 with | [_, _], [_, _], _, _ => ⟨_, rfl, rfl⟩
abbrev nFR : List Str := ["machine", "states", "out", "most", "rows", "queue", "at", "here", "deed", "table", "ends", "state"]
theorem scFR : FnScope nFR ["machine", "states", "out", "most"] (defScope sFirst) := ⟨rfl, rfl, rfl, by decide +kernel, rfl, by decide +kernel, by decide +kernel⟩
theorem iteE {c : Bool} {A B : Prop} (e : c = true) (h : A) : if c = true then A else B := by subst e; exact iteT h
theorem iteN {c : Bool} {A B : Prop} (e : c = false) (h : B) : if c = true then A else B := by subst e; exact iteF h
/-- a test that the proof never comes to -/
theorem pt_never {X : Cx} {e : Expr} : PT X e fun _ _ _ => False := ⟨fun _ _ _ _ _ _ h => h.elim⟩
theorem ok_first {f M : Addr} {fd : FuncData} (D : DfF K mg f fd) (B : Bt mg) (T : McT K mg M) : FnOk P w K mg base CX0 1 f fd ["machine", "states", "out", "most"] (spFirst M) := by
  refine D.F.ok scFR (fun vs H Q E h => ?_) (fun cdv A outer s H vs Q E hr h => ?_)
  · obtain ⟨m, ta, ts, ss, p, rfl, _⟩ := h
    rfl
  · obtain ⟨m, ta, ts, ss, p, rfl, hM, hW, hs, hs12, hp, few, q⟩ := h
    have hu := hu_of hr
    suffices z : ∃ t, PSs (cxOf CX0 P w K mg base nFR "first_rows" (defScope sFirst) f cdv A outer s H E).nox (defBody sFirst) t ∧ t { nx := fun _ H' => Q .non H', rt := Q } (start nFR [.ref m, .ref p, .non, .non]) H from
      let ⟨t, h1, h2⟩ := z
      ⟨t, h1.nox, h2⟩
    refine ⟨_, pss_cons (ps_set (i := 4) scFR.nd rfl (.inl rfl) (pe_dispT (Nat.lt_of_succ_lt hu) (pv 1) (pe_tup pa_nil)))
      (pss_cons (ps_set (i := 5) scFR.nd rfl (.inl rfl) (pe_lst (pa_cons (pv 1) pa_nil)))
      (pss_cons (ps_set (i := 6) scFR.nd rfl (.inl rfl) pe_int)
      (pss_cons (ps_while PassesOwn.never (PW.pt (pw_and (pt_cmpR op_lt (pv 6) (pe_callB call_len_seq (by rfl) B.len PySem.boot_len (pa_cons (pv 5) pa_nil)) (nomark _))
          (pw_and1 (PW.pt (pw_or (pt_cmp (pc_isN (pv 2))) (pw_or1 pt_never))))))
        (pss_cons (ps_set (i := 7) scFR.nd rfl (.inl rfl) (pe_ix ix_list (pv 5) (pv 6) (fun _ _ => rfl)))
        (pss_cons (ps_for PassesOwn.never rfl (pi_enumA (by rfl) B.enumerate (pa_cons (pe_fld (pv 0) rfl) pa_nil)) (pg_tup rfl (pgs_cons (pg_name (i := 8) scFR.nd rfl (.inl rfl)) (pgs_cons (pg_name (i := 9) scFR.nd rfl (.inr rfl)) pgs_nil)))
          (pss_cons (ps_set (i := 10) scFR.nd rfl (.inl rfl) (pe_callTy call_tuple_of (by rfl) B.tuple PyProof.Rows.boot_tuple (pa_cons
              (pe_lc (own := [("state", 11)]) (g := gName 11) (tt := tYes) rfl scFR.nd (pi_tup (pv 7)) (blkOk_by (N := nFR) (sc := defScope sFirst) (by decide +kernel)) (fun _ _ _ _ _ => pg_name (i := 11) scFR.nd rfl (Or.inl rfl)) (fun _ _ _ _ _ => pts_nil)
                (fun _ _ _ _ _ => pe_ix (ixTK (K := K) rfl) (pv 9) (pv 11) (fun _ _ => rfl))) pa_nil)))
          (pss_one (ps_if (pt_cmp (pc_dnotin hu (pv 10) (pv 4))) (pss_cons (ps_dput hu (pv 4) (pv 10) (pe_op op_catA (pe_dget hu (pv 4) (pv 7) (fun _ _ => rfl)) (pe_tup (pa_cons (pv 8) pa_nil))) rfl)
            (pss_one (ps_expr (pe_bm PySem.F.plainAttrs_list PySem.F.slot_list_append PySem.F.type_list_append mt_append (pv 5) (pa_cons (pv 10) pa_nil))))) pss_nil))))
        (pss_cons (ps_if (PW.pt (pw_and (pt_cmp (pc_notN (pv 3))) (pw_and1 pt_never))) pss_never pss_nil)
        (pss_one (ps_aug (i := 6) scFR.nd rfl (.inl rfl) pe_int ip_add))))))
      (pss_one (ps_ret (pv 4)))))), ?_⟩
    intro d hd
    refine ⟨_, rfl, (by show 0 ≤ sizeLine; decide), fun e0 he0 => ?_⟩
    have ned : e0 ≠ d := fun z => by rw [z, upd_same] at he0; cases he0
    have se : Same H (upd (upd H d (.dT [])) e0 (.tup [])) := (same_new hd).trans (same_new he0)
    refine ⟨p, kK ss, rfl, by rw [kK_v]; exact se _ _ hp, by rw [upd_ne ned.symm, upd_same], ?_⟩
    generalize hH1 : upd (upd (upd H d (.dT [])) e0 (.tup [])) d (.dT [(kK ss, .ref e0)]) = H1
    have s1 : Same H H1 := fun b o e => by
      rw [← hH1, upd_ne (ne_of_none e hd)]
      exact se _ _ e
    have hd1' : H1 d = some (.dT [(kK ss, .ref e0)]) := by rw [← hH1, upd_same]
    have he1 : H1 e0 = some (.tup []) := by rw [← hH1, upd_ne ned, upd_same]
    refine ⟨_, rfl, (by show 1 ≤ sizeLine; decide), fun q0 hq0 => ?_⟩
    have s2 : Same H (upd H1 q0 (.lst [.ref p])) := s1.trans (same_new hq0)
    have b0 : DQ (upd H1 q0 (.lst [.ref p])) d q0 [(ss, [])] [(kK ss, .ref e0)] [p] := by
      have sm := same_new (o := HO.lst [.ref p]) hq0
      refine ⟨sm _ _ hd1', rfl, fun i k v x r h h' => ?_, upd_same, rfl, fun i a x r h1 h2 => ?_⟩
      · cases i with
        | zero =>
          have z : (kK ss, V.ref e0) = (k, v) := Option.some.inj h
          have z' : (ss, []) = (x, r) := Option.some.inj h'
          injection z with _ z
          injection z' with _ z'
          subst z'
          exact ⟨e0, z.symm, sm _ _ he1⟩
        | succ i => cases h
      · cases i with
        | zero =>
          obtain rfl : p = a := Option.some.inj h1
          have z' : (ss, []) = (x, r) := Option.some.inj h2
          injection z' with z' _
          subst z'
          exact s2 _ _ hp
        | succ i => cases h1
    have nd0 : H d = none := hd
    refine while_by (fun σ H' => ∃ (i : Nat) (F : List KR) (kvs : List (List Key × V)) (as : List Addr) (v5 v6 v7 v8 : Option V), σ = [some (.ref m), some (.ref p), some .non, some .non, some (.ref d), some (.ref q0), some (.int (i : Int)), v5, v6, v7, v8, none] ∧ Same H H' ∧ DQ H' d q0 F kvs as ∧ Bf (actL ts) ts.length ss F i 0 ∧ i ≤ F.length)
      (fun (σ : L2.St) _ => match σ[6]? with | some (some (V.int i)) => 1000 - i.toNat | _ => 0) ⟨0, _, _, _, none, none, none, none, rfl, s2, b0, Bf.init, Nat.zero_le _⟩ ?_
      (fun σ H Q Q' hQ ⟨v, h1, v3, h2, p, ys, h3, h4, i, j, h5, h6, k, h7, h8⟩ => by
        refine ⟨v, h1, v3, h2, p, ys, h3, h4, i, j, h5, h6, k, h7, ?_⟩
        cases k with
        | false => exact hQ _ _ h8
        | true =>
          obtain ⟨u, hu, c, hc, h9⟩ := h8
          refine ⟨u, hu, c, hc, ?_⟩
          cases c with
          | false => exact h9
          | true => exact hQ _ _ h9)
    rintro σ H' ⟨i, F, kvs, as, v5, v6, v7, v8, rfl, sm, b, bf, hi⟩
    refine ⟨_, rfl, _, rfl, q0, _, rfl, .inl (SqL.of b.hq), _, _, rfl, rfl, _, rfl, ifD (fun ec => ⟨_, rfl, _, rfl, iteE rfl (iteT ?_)⟩) fun ec => iteF ?_⟩
    · have hlt : i < F.length := by
        have z : (i : Int) < ((as.map V.ref).length : Int) := of_decide_eq_true ec
        rw [List.length_map, b.ln] at z
        omega
      obtain ⟨x, rx, hx⟩ : ∃ x rx, F[i]? = some (x, rx) := ⟨F[i].1, F[i].2, List.getElem?_eq_getElem hlt⟩
      obtain ⟨a, ha⟩ : ∃ a, as[i]? = some a := by
        have : i < as.length := by rw [b.ln]; exact hlt
        exact ⟨as[i], List.getElem?_eq_getElem this⟩
      have hax := b.it i a x rx ha hx
      obtain ⟨px, pv, pl⟩ := bf.pth i x rx hx
      have hxr : ∀ s ∈ x, 0 ≤ s ∧ s < (nS ts : Int) := by rw [px]; exact path_rng hW pv hs
      have hxl : x.length ≤ 12 := by rw [px, path_run, List.length_map]; exact hs12
      obtain ⟨dx, hm⟩ := hM.fs
      obtain ⟨tas, ht1, ht2, ht3⟩ := hM.2
      have ltas : tas.length = ts.length := by rw [ht2, vts, List.length_map]
      refine ⟨_, rfl, _, rfl, q0, _, (i : Int), .ref a, rfl, rfl, SqL.of b.hq, atI_nat (by rw [List.getElem?_map, ha]; rfl), ?_⟩
      refine ⟨_, rfl, m, M, dx, _, _, rfl, sm _ _ hm, T.cl, T.nT, mf_t _ _ _, ta, rfl, .inr ⟨_, SqT.of (sm _ _ ht1), for_enumT (K := K) (a := ta) (xs := tas.map V.ref)
        (fun j σ H' => ∃ (F : List KR) (kvs : List (List Key × V)) (as : List Addr) (v6 v7 v8 : Option V), σ = [some (.ref m), some (.ref p), some .non, some .non, some (.ref d), some (.ref q0), some (.int (i : Int)), some (.ref a), v6, v7, v8, none] ∧ Same H H' ∧ DQ H' d q0 F kvs as ∧ Bf (actL ts) ts.length ss F i j ∧ F[i]? = some (x, rx) ∧ H' a = some (.tup (vrow x)))
        ⟨F, kvs, as, _, _, _, rfl, sm, b, bf, hx, hax⟩ (fun j σ H' _ ⟨_, _, _, _, _, _, _, sm, _⟩ => SqT.of (sm _ _ ht1)) ?_ ?_⟩⟩
      · rintro j y T0 σ H' hy hT0 ⟨F, kvs, as, v6, v7, v8, rfl, sm, b, bf, hx, hax⟩
        obtain ⟨tj, htj, rfl⟩ : ∃ t, tas[j]? = some t ∧ y = V.ref t := by
          rw [List.getElem?_map] at hy
          cases e : tas[j]? with
          | none => rw [e] at hy; cases hy
          | some t => rw [e] at hy; exact ⟨t, rfl, (Option.some.inj hy).symm⟩
        have hjt : j < ts.length := by rw [← ltas]; exact (List.getElem?_eq_some_iff.mp htj).1
        have hdj : 0 ≤ (j : Int) ∧ (j : Int) < (ts.length : Int) := by omega
        obtain ⟨t, h1'⟩ : ∃ t, ts[j]? = some t := ⟨ts[j], List.getElem?_eq_getElem hjt⟩
        have hT := ht3 j tj (vrow t) htj (by rw [vts, List.getElem?_map, h1']; rfl)
        generalize hyy : actL ts x (j : Int) = yy
        have lyy : yy.length = x.length := by rw [← hyy, actL, List.length_map]
        have sT := same_new (o := HO.tup [.int (j : Nat), .ref tj]) hT0
        refine ⟨T0, _, rfl, SqT.of upd_same, rfl, _, _, rfl, _, _, rfl, rfl, ?_⟩
        generalize hH2 : upd H' T0 (.tup [.int (j : Nat), .ref tj]) = H2 at sT ⊢
        have b2 := b.same sT
        have sm2 := sm.trans sT
        have hax2 := sT _ _ hax
        -- ends
        refine ⟨_, rfl, a, rfl, ⟨_, SqT.of hax2⟩, fun D0 hD0 => lc_tup (K := K) (a := a) (xs := vrow x) (fun k H3 => Same H2 H3 ∧ H3 D0 = some (.lst ((vrow yy).take k))) ⟨same_new hD0, by rw [upd_same]; rfl⟩ (fun k H3 _ ⟨s3, _⟩ => SqT.of (s3 _ _ hax2)) ?_ ?_⟩
        · rintro k z H3 hz ⟨s3, hD3⟩
          obtain ⟨xk, hxk, rfl⟩ : ∃ xk, x[k]? = some xk ∧ z = V.int xk := by
            rw [vrow, List.getElem?_map] at hz
            cases e : x[k]? with
            | none => rw [e] at hz; cases hz
            | some xk => rw [e] at hz; exact ⟨xk, rfl, (Option.some.inj hz).symm⟩
          have hk : k < x.length := (List.getElem?_eq_some_iff.mp hxk).1
          have hxkr := hxr xk (List.mem_of_getElem? hxk)
          obtain ⟨t', g1, g2, _⟩ := hW.at_ hdj hxkr
          have g1' : ts[j]? = some t' := by simpa using g1
          obtain rfl : t = t' := Option.some.inj (h1'.symm.trans g1')
          refine ⟨rfl, _, rfl, _, rfl, tj, _, xk, .int (stp ts xk j), rfl, rfl, SqT.of (s3 _ _ (sm2 _ _ hT)), at_of (j := xk.toNat) (by omega) (by rw [vrow, List.getElem?_map, g2]; rfl), ?_⟩
          refine ⟨_, hD3, by rw [List.length_take, vrow, List.length_map, sizeLine_eq]; omega, ?_, ?_⟩
          · intro c o e
            rw [upd_ne (ne_of_none e hD0)]
            exact s3 _ _ e
          · have ez : (vrow yy)[k]? = some (V.int (stp ts xk j)) := by rw [← hyy, vrow, actL, List.map_map, List.getElem?_map, hxk]; rfl
            rw [upd_same, take_succ ez]
        · rintro H3 ⟨s3, hD3⟩
          have etk : (vrow yy).take (vrow x).length = vrow yy := by rw [List.take_of_length_le]; rw [vrow, vrow, List.length_map, List.length_map, lyy]; exact Nat.le_refl _
          rw [etk] at hD3
          refine ⟨D0, _, rfl, .inl ⟨SqL.of hD3, fun en hen => ?_⟩⟩
          have s4 := s3.trans (same_new (o := HO.tup (vrow yy)) hen)
          generalize hH4 : upd H3 en (.tup (vrow yy)) = H4
          have hen4 : H4 en = some (.tup (vrow yy)) := by rw [← hH4]; exact upd_same
          have s4' : Same H2 H4 := by rw [← hH4]; exact s4
          have b4 := b2.same s4'
          have sm4 := sm2.trans s4'
          have hax4 := s4' _ _ hax2
          have hsmall : F.length ≤ 1000 := bf.few few
          obtain ⟨_, pv', pl'⟩ := bf.pth i x rx hx
          have hil : i < F.length := (List.getElem?_eq_some_iff.mp hx).1
          refine ⟨_, rfl, _, rfl, d, _, rfl, DGet.t (k := kK yy) b4.hd (by rw [kK_v]; exact hen4), _, rfl, ?_⟩
          cases ev : valV kvs (kK yy) with
          | some v =>
            refine iteF ?_
            have hin : yy ∈ F.map (·.1) := by
              by_cases z : yy ∈ F.map (·.1)
              · exact z
              · rw [b4.none.mpr z] at ev; cases ev
            obtain ⟨e, he, e1⟩ := List.mem_map.mp hin
            obtain ⟨j2, hj2⟩ := List.getElem?_of_mem he
            exact ⟨F, kvs, as, _, _, _, rfl, sm4, b4, bf.more (j := j2) (k := e.1) (r := e.2) hx hj2 (by rw [hyy]; exact e1), hx, hax4⟩
          | none =>
            refine iteT ?_
            have hnin := b4.none.mp ev
            obtain ⟨ra, hv, hra⟩ := b4.look bf.nd hx
            refine ⟨_, rfl, _, rfl, d, .ref ra, rfl, by rw [← hv]; exact DGet.t b4.hd (by rw [kK_v]; exact hax4), _, rfl, (by show 1 ≤ sizeLine; decide), fun dt hdt => ?_⟩
            have s5 := same_new (o := HO.tup [V.int (j : Nat)]) hdt
            have bfn : Bf (actL ts) ts.length ss (F ++ [(yy, rx ++ [(j : Int)])]) i (j + 1) := by
              rw [← hyy]
              exact bf.put hx (by rw [hyy]; exact hnin) hjt
            have hx' : (F ++ [(yy, rx ++ [(j : Int)])])[i]? = some (x, rx) := by rw [List.getElem?_append_left hil]; exact hx
            -- whichever tuple stands for the row, the rest is the same
            have rest : ∀ (rb : Addr) (H6 : Hp), Same H4 H6 → H6 rb = some (.tup (vrow (rx ++ [(j : Int)]))) → DPut H6 d (.ref en) (.ref rb) (upd H6 d (.dT (putK kvs (kK yy) (.ref rb)))) ∧
                DQ (upd (upd H6 d (.dT (putK kvs (kK yy) (.ref rb)))) q0 (.lst (as.map V.ref ++ [.ref en]))) d q0 (F ++ [(yy, rx ++ [(j : Int)])]) (kvs ++ [(kK yy, .ref rb)]) (as ++ [en]) ∧ (upd H6 d (.dT (putK kvs (kK yy) (.ref rb)))) q0 = some (.lst (as.map V.ref)) ∧
                Same H (upd (upd H6 d (.dT (putK kvs (kK yy) (.ref rb)))) q0 (.lst (as.map V.ref ++ [.ref en]))) ∧ (upd (upd H6 d (.dT (putK kvs (kK yy) (.ref rb)))) q0 (.lst (as.map V.ref ++ [.ref en]))) a = some (.tup (vrow x)) := fun rb H6 s6 hrb => by
              have b6 := b4.same s6
              have hq6 := b6.hq
              have ndq : q0 ≠ d := ne_of hq6 b6.hd (by intro z; cases z)
              refine ⟨DPut.t b6.hd (by rw [kK_v]; exact s6 _ _ hen4) (by rw [b6.klen, sizeLine_eq]; omega), b6.put hnin (s6 _ _ hen4) hrb, by rw [upd_ne ndq]; exact hq6, fun c o e => ?_, ?_⟩
              · have hcq : c ≠ q0 := fun z => by rw [z, s1.free hq0] at e; cases e
                rw [upd_ne hcq, upd_ne (ne_of_none e nd0)]
                exact s6 _ _ (sm4 _ _ e)
              · have z := s6 _ _ hax4
                rw [upd_ne (ne_of z hq6 (by intro z; cases z)), upd_ne (ne_of z b6.hd (by intro z; cases z))]
                exact z
            have fin : (as.map V.ref).length < sizeLine := by
              rw [List.length_map, b4.ln, sizeLine_eq]; omega
            have hrl : (vrow rx).length ≤ 1000 := by rw [vrow, List.length_map]; omega
            refine ⟨ra, dt, vrow rx, [.int (j : Nat)], rfl, rfl, SqT.of (s5 _ _ hra), SqT.of upd_same, ?_, fun e => ?_, fun _ e => absurd e (by simp), fun _ _ pn hpn => ?_⟩
            · show (vrow rx).length + 1 ≤ sizeLine
              rw [sizeLine_eq]; omega
            · have e0 : rx = [] := by
                cases rx with
                | nil => rfl
                | cons z r => cases e
              subst e0
              obtain ⟨g1, g2, g3, g4, g5⟩ := rest dt _ s5 upd_same
              refine ⟨_, rfl, _, rfl, d, _, rfl, g1, ?_⟩
              refine ⟨_, rfl, .inl ⟨rfl, _, SqL.of g3⟩, _, rfl, q0, _, _, rfl, rfl, g3, fin, ?_⟩
              exact ⟨_, _, _, _, _, _, rfl, g4, g2, bfn, hx', g5⟩
            · have s6 := s5.trans (same_new (o := HO.tup (vrow rx ++ [V.int (j : Nat)])) hpn)
              obtain ⟨g1, g2, g3, g4, g5⟩ := rest pn _ s6 (by rw [upd_same, vrow, vrow, List.map_append]; rfl)
              refine ⟨_, rfl, _, rfl, d, _, rfl, g1, ?_⟩
              refine ⟨_, rfl, .inl ⟨rfl, _, SqL.of g3⟩, _, rfl, q0, _, _, rfl, rfl, g3, fin, ?_⟩
              exact ⟨_, _, _, _, _, _, rfl, g4, g2, bfn, hx', g5⟩
      · rintro σ H' ⟨F, kvs, as, v6, v7, v8, rfl, sm, b, bf, hx, hax⟩
        have hil : i < F.length := (List.getElem?_eq_some_iff.mp hx).1
        have hsmall : F.length ≤ 1000 := bf.few few
        rw [List.length_map, ltas] at bf
        refine ⟨_, rfl, _, rfl, iteN rfl (iteF ⟨_, rfl, _, _, rfl, rfl, ?_⟩)⟩
        refine ⟨⟨i + 1, F, kvs, as, some (.ref a), v6, v7, v8, ?_, sm, b, bf.next, by omega⟩, ?_⟩
        · have z : ((i + 1 : Nat) : Int) = (i : Int) + 1 := by omega
          rw [z]; rfl
        · show 1000 - ((i : Int) + 1).toNat < 1000 - (i : Int).toNat
          omega
    · have hge : F.length ≤ i := by
        have z : ¬ ((i : Int) < ((as.map V.ref).length : Int)) := of_decide_eq_false ec
        rw [List.length_map, b.ln] at z
        omega
      exact ⟨_, rfl, q d F H' sm nd0 ⟨kvs, b.hd, b.ky, b.vl⟩ (bf.done hge) (bf.few few)⟩
/-- first_rows(e, ..) with its defaults -/
theorem pcF {X : Cx} {CX : CXT} {k : Nat} {f : Addr} {fd : FuncData} {sp : Sp} {E : XK} {p pos : Pos} {e : Expr} {es : List Expr} {t : TA} {ds : List Value} (D : DfF X.K X.mg f fd) (G : FnOk X.prog X.w X.K X.mg X.base CX k f fd ["machine", "states", "out", "most"] sp) (hr : Room k X.A) (hx : Passes CX X E) (ha : PA X (e :: es) t)
    (hv : Vals [.non, .non] ds) (hb : Binds X.K fd ["machine", "states", "out", "most"] ds) (hg : Gl X "first_rows" := by rfl)
    (hdb : (("first_rows" : Str) == ("__debug__" : Str)) = false := by decide) (he : starEach (e :: es) X.env = (false, eval e X.env) :: starEach es X.env := by rfl) (hpl : (backTo pos (starEach es X.env)).any (·.1) = false := by rfl) :
    PE X (.Call (.Name "first_rows" p) (e :: es) [] pos) (tCall sp [.non, .non] E t) := pe_call G hr hg D.g D.F.kp hb hv hx ha hdb he hpl
end
end K1
namespace K1
open PySem PySem.Spec PyProof.Rows L2
abbrev uF (x y z : V) : List (Str × V) := [("there", z), ("here", y), ("archive", x)]
def spUInit (K : PySem.W.Frag) (C : Addr) : Sp := fun vs H Q _ => ∃ a x y z, vs = [.ref a, x, y, z] ∧ OexC K C ∧ H a = some (exo a C none) ∧
  ∀ d H', (∀ c o, H c = some o → c ≠ a → H' c = some o) → H d = none → d ≠ a → H' a = some (exo a C (some d)) → H' d = some (exd d (uF x y z)) → Q .non H'
section
variable {P : Program} {w : World} {K : PySem.W.Frag} {mg : Str → Option Value} {base : Heap}
theorem scUI : FnScope ["self", "archive", "here", "there"] ["self", "archive", "here", "there"] (defScope sUInit) := ⟨rfl, rfl, rfl, by decide +kernel, rfl, by decide +kernel, by decide +kernel⟩
structure UnC (K : PySem.W.Frag) (mg : Str → Option Value) (C : Addr) : Prop where
  x : OexC K C
  n1 : PySem.W.findIn K (.ref C) "archive" = some none
  n2 : PySem.W.findIn K (.ref C) "here" = some none
  n3 : PySem.W.findIn K (.ref C) "there" = some none
  f : XfC K C
  g : mg "Untold" = some (.ref C)
theorem ok_uinit {f C : Addr} {fd : FuncData} (F : Fun K "__init__" "Untold.__init__" sUInit f fd) (U : UnC K mg C) : FnOk P w K mg base CX0 1 f fd ["self", "archive", "here", "there"] (spUInit K C) := by
  refine F.ok scUI (fun vs H Q E h => ?_) (fun cdv A outer s H vs Q E hr h => ?_)
  · obtain ⟨a, x, y, z, rfl, _⟩ := h
    rfl
  · obtain ⟨a, x, y, z, rfl, hx, ha, q⟩ := h
    refine ⟨_, pss_cons (ps_ost (pv 0) (pv 1)) (pss_cons (ps_ost (pv 0) (pv 2)) (pss_one (ps_ost (pv 0) (pv 3)))), ?_⟩
    refine ⟨_, rfl, _, rfl, a, C, rfl, hx, U.n1, .inl ⟨ha, fun d hd ne => ?_⟩⟩
    refine ⟨_, rfl, _, rfl, a, C, rfl, hx, U.n2, .inr ⟨d, _, upd_same, by rw [upd_ne ne, upd_same], by show 1 ≤ 900; decide, ?_⟩⟩
    refine ⟨_, rfl, _, rfl, a, C, rfl, hx, U.n3, .inr ⟨d, _, by rw [upd_ne ne.symm, upd_same], upd_same, by show 2 ≤ 900; decide, ?_⟩⟩
    refine q d _ (fun c o e n => ?_) hd ne (by rw [upd_ne ne.symm, upd_ne ne.symm, upd_same]) upd_same
    have ncd := ne_of_none e hd
    rw [upd_ne ncd, upd_ne ncd, upd_ne n, upd_ne ncd]
    exact e
/-- the error Untold, its fields -/
def RzU (CU : Addr) (x a b : Int) (H : Hp) (E : XK) : Prop := ∀ d H', Same H H' → H d = none → H' d = some (.xd (uF (.int x) (.int a) (.int b))) → E (.ref CU) (some d) H'
end
end K1
namespace K1
open PySem PySem.Spec PyProof.Rows L2
/-! ### the pairs of a dict with tuple keys that nobody else sees -/
section
variable {X : Cx} {pins : List (Addr × Obj)} {σ : L2.St} {H : Hp} {s : Shared} {d : Addr} {o : Obj}
theorem frzT2 {kvs : List (List Key × V)} (I : Inv X pins σ H s) (h : H d = some (.frz o (.dT kvs))) :
    (d == sysModules) = false ∧ s.heap.get? d = some o ∧ o.ExactDict ∧ ∃ (es : Array DictEntry) (ep : Nat), o.data = .dict es ep ∧ es.size = kvs.length ∧
      ∀ (i : Nat) (k : List Key) (v : V), kvs[i]? = some (k, v) → ∃ (en : DictEntry) (q : Addr), es[i]? = some en ∧ en.key = .ref q ∧ H q = some (.tup (k.map kV)) ∧ RelV v en.val := by
  obtain ⟨hd, z, hs, xs, pr, o', es, ep, ho, hx, hdt, he, _⟩ := I.hok d _ h
  rw [hd] at ho
  cases ho
  refine ⟨hs, hd, hx, es, ep, hdt, ?_, fun i k v e => ?_⟩
  · have l1 : es.size = xs.length := size_of_entries he
    have l2 : kvs.length = xs.length := Paired.length pr
    omega
  · obtain ⟨b, hb, e1, e2, e3⟩ := paired_get pr e
    have q := entry_at he i
    rw [hb] at q
    exact ⟨_, b.2.1, q, rfl, e2, e3⟩
end
def Itit (d : Addr) (o : Obj) (kvs : List (List Key × V)) : It :=
  ⟨fun i H => H d = some (.frz o (.dT kvs)) ∧ i < kvs.length, fun i H x H' => ∃ (T q : Addr) (k : List Key) (v : V), kvs[i]? = some (k, v) ∧ x = .ref T ∧ H T = none ∧ H q = some (.tup (k.map kV)) ∧ H' = upd H T (.tup [.ref q, v]), fun i H => H d = some (.frz o (.dT kvs)) ∧ kvs.length ≤ i⟩
section
variable {P : Program} {w : World} {K : PySem.W.Frag} {d : Addr} {o : Obj} {es : Array DictEntry} {ep : Nat}
theorem turn_itemsT {kvs : List (List Key × V)} {elts : List Expr} {kk : Nat} {tpos : Pos} (it : Addr) (hod : o.data = .dict es ep) :
    Turn P w K (.Tuple elts kk tpos) (Itit d o kvs) [it] it (fun i h => ∃ ok ov, IsItemIter h it d i kvs.length ep ok ov) where
  mem := by simp
  obj := fun i h st b hb => by
    have e : b = it := by simpa using hb
    subst e
    obtain ⟨ok, ov, e⟩ := st
    exact ⟨_, e, fun v z => nomatch z⟩
  keep := fun i h h' st k => let ⟨ok, ov, e⟩ := st; ⟨ok, ov, k it (by simp) _ e⟩
  item := by
    intro X hP hw hK hc i pins s σ H E I hf st hg
    subst hP hw hK
    obtain ⟨hd, hi⟩ := hg
    obtain ⟨hs, hgd, hx, es', ep', hdt, hsz, ent⟩ := frzT2 I hd
    obtain ⟨rfl, rfl⟩ := dict_ep hod hdt
    obtain ⟨⟨k, v⟩, hkv⟩ : ∃ p, kvs[i]? = some p := ⟨kvs[i], List.getElem?_eq_getElem hi⟩
    obtain ⟨en, q, hen, hkey, hq, rv⟩ := ent i k v hkv
    have hm : s.heap.DictRaw d es' ep' := ⟨o, hgd, hx, hod⟩
    obtain ⟨ok, ov, he⟩ := st
    rw [← hsz] at he
    have hi' : i < es'.size := by omega
    have een : es'[i] = en := by
      rw [Array.getElem?_eq_getElem hi'] at hen
      exact Option.some.inj hen
    have hlt : it < s.heap.objs.size := Heap.lt_size he
    refine wpAny_pyNext_items_item_raw he hm hi' fun h' ho hT hz hk => ?_
    rw [een, hkey] at ho hT
    refine ⟨_, rfl, wpAny_letOwnedTupleGo_items (s := { s with heap := h' }) ho fun h'' he' sb => ?_⟩
    have hT2 : h''.get? s.heap.objs.size = some { cls := .type "tuple", data := .seq #[.ref q, en.val] } := (sb.2 _ (Nat.ne_of_gt hlt)).trans hT
    have new : ObjOk X.prog X.w (upd H s.heap.objs.size (.tup [.ref q, v])) h'' s.heap.objs.size (.tup [.ref q, v]) :=
      ⟨by show 2 ≤ sizeLine; decide, [.ref q, en.val], .cons rfl (.cons rv .nil), ⟨_, hT2, rfl, _, rfl⟩⟩
    have I1 : Inv X pins σ (upd H s.heap.objs.size (.tup [.ref q, v])) { s with heap := h'' } :=
      I.turnedNew (t' := s.toks) (ch := [it]) (fun b ob hb e => (sb.2 b (by simpa using hb)).trans (hk b ob (by simpa using hb) e)) hf (Nat.le_refl _) new
    refine ⟨.ref s.heap.objs.size, _, I1, rfl, ⟨_, q, k, v, hkv, rfl, I.hok.fresh (Nat.le_refl _), hq, rfl⟩, ⟨.ref q, en.val, ?_⟩, fun b hb => ?_⟩
    · rw [← hsz]; exact he'
    · have e : b = it := by simpa using hb
      rw [e, upd_ne (Nat.ne_of_lt hlt)]
      exact (hf it (by simp)).1
  done := by
    intro X hP hw hK hc i pins s σ H E I hf st hg
    subst hP hw hK
    obtain ⟨hd, hi⟩ := hg
    obtain ⟨f0, f1, f2, f3, f4, f5⟩ := hf it (by simp)
    obtain ⟨hs, hgd, hx, es', ep', hdt, hsz, ent⟩ := frzT2 I hd
    obtain ⟨rfl, rfl⟩ := dict_ep hod hdt
    obtain ⟨ok, ov, he⟩ := st
    rw [← hsz] at he
    exact wpAny_pyNext_items_end_raw (I.ok.hd hc) he ⟨o, hgd, hx, hod⟩ (by omega) fun h' eb => ⟨rfl, I.turned (t' := s.toks) (fun b ob hb e => eb b ob hb e) f0 f1 f3 f4 f5⟩
  self := fun A i s Q E st h => let ⟨_, _, e⟩ := st; PySem.W.kcp_self e h
end
def iItemsF (td : TE) : TI := fun σ H R => td σ H fun x H1 => ∃ d kvs, x = .ref d ∧ H1 d = some (.dT kvs) ∧ ∀ o, R (Itit d o kvs) (upd H1 d (.frz o (.dT kvs)))
theorem pi_itemsF {X : Cx} {e : Expr} {td : TE} {apos cpos : Pos} {elts : List Expr} {kk : Nat} {tpos : Pos} (he : PE X e td) (hbase : attributeBase e "items" X.env (eval e X.env) = eval e X.env := by rfl) (hline : (apos.endLine == cpos.line) = true := by rfl) :
    PI X (.Tuple elts kk tpos) (.Call (.Attribute e "items" apos) [] [] cpos) (iItemsF td) := by
  refine ⟨fun pins s σ H R I h => ?_⟩
  refine wpAny_Call_method (T := "dict") (id := "dict.items") hbase rfl hline F.plainAttrs_dict F.slot_dict_items F.type_dict_items (thn (he.run pins s σ H _ I h) fun u s1 ⟨x, H0, I0, rx, d, kvs, ex, hd0, q⟩ => ?_)
  subst ex
  obtain rfl : u = Value.ref d := rx
  obtain ⟨o, I1⟩ := I0.lock hd0 trivial
  obtain ⟨hs, hgd, hx, es, ep, hdt, hsz, ent⟩ := I1.frzT upd_same
  have hm : s1.heap.DictRaw d es ep := ⟨o, hgd, hx, hdt⟩
  refine ⟨hm.typeIs, fun a ea => ?_, ?_⟩
  · cases ea
    exact ⟨o, hgd, hx.2.1⟩
  have I2 : Inv X pins σ (upd H0 d (.frz o (.dT kvs))) { s1 with heap := s1.heap.push { cls := .type "dict_items", data := .fields #[.ref d] } } := I1.kept (t' := s1.toks) fun b ob q => Heap.get?_push_of_some _ q
  have fin : wpAny (model X.prog X.w) X.A (pyIter (.ref s1.heap.objs.size)) (PIE X pins σ (.Tuple elts kk tpos) R) X.xe { s1 with heap := s1.heap.push { cls := .type "dict_items", data := .fields #[.ref d] } } := by
    refine wpAny_pyIter_items_raw (d := d) ⟨_, Heap.get?_push_size _ rfl, rfl, rfl⟩ (hm.at fun ob e => Heap.get?_push_of_some _ e) (pi_one (tk := s1.toks) I2 _ (turn_itemsT _ hdt) ⟨.none, .none, ?_⟩ (q o))
    rw [← hsz]
    exact Heap.get?_push_size _ rfl
  show wpAny _ _ (callWith cpos (.builtin "dict.items") [.ref d] [] []) _ X.xe s1
  exact method_meetsIn F.slot_dict_items F.entry_dict_items rfl (PySem.evalArgs_none ⟨rfl, hm.typeIs, F.args_dict_items_1 _, _, meets_dict_items_raw d hs, ⟨es, ep, hm⟩, fin⟩)
theorem lc_itemsF {d : Addr} {o : Obj} {kvs : List (List Key × V)} {g : TG} {tt : TT} {te : TE} {vs : List Nat} {σ : L2.St} {H1 : Hp} {D : Addr} {Qd : Hp → Prop} (Pv : Nat → Hp → Prop) (h0 : Pv 0 (upd H1 D (.lst []))) (hl : ∀ i H, i ≤ kvs.length → Pv i H → H d = some (.frz o (.dT kvs)))
    (hs : ∀ (i : Nat) k v q T H, kvs[i]? = some (k, v) → H q = some (.tup (k.map kV)) → H T = none → Pv i H → g (.ref T) (wipe σ vs) (upd H T (.tup [.ref q, v])) fun σ2 H2 => wipe σ2 vs = wipe σ vs ∧ tt σ2 H2 fun b H3 =>
      if b = true then te σ2 H3 fun y H4 => ∃ acc, H4 D = some (.lst acc) ∧ acc.length < sizeLine ∧ Pv (i + 1) (upd H4 D (.lst (acc ++ [y]))) else Pv (i + 1) H3) (hd : ∀ H, Pv kvs.length H → Qd H) :
    ∃ W : Nat → Nat → Hp → Prop, (∃ m, W 0 m (upd H1 D (.lst []))) ∧ ∀ i m H, W i m H →
      ((Itit d o kvs).stop i H ∧ Qd H) ∨ ((Itit d o kvs).go i H ∧ ∃ Nx : Hp → Prop, (∀ H', Nx H' → ∃ m', m' < m ∧ W (i + 1) m' H') ∧ ∀ x H', (Itit d o kvs).yld i H x H' → g x (wipe σ vs) H' fun σ2 H2 => wipe σ2 vs = wipe σ vs ∧ tt σ2 H2 fun b H3 =>
        if b = true then te σ2 H3 fun y H4 => ∃ acc, H4 D = some (.lst acc) ∧ acc.length < sizeLine ∧ Nx (upd H4 D (.lst (acc ++ [y]))) else Nx H3) := by
  refine ⟨fun i m H => m = kvs.length - i ∧ i ≤ kvs.length ∧ Pv i H, ⟨kvs.length, by simp, Nat.zero_le _, h0⟩, ?_⟩
  rintro i m H ⟨rfl, hi, p⟩
  have q := hl i H hi p
  by_cases hlt : i < kvs.length
  · refine .inr ⟨⟨q, hlt⟩, Pv (i + 1), fun H' p' => ⟨kvs.length - (i + 1), by omega, rfl, hlt, p'⟩, fun x H' y => ?_⟩
    obtain ⟨T, r, k, v, e1, e2, e3, e4, e5⟩ := y
    subst e2
    rw [e5]
    exact hs i k v r T _ e1 e4 e3 p
  · have e : i = kvs.length := by omega
    subst e
    exact .inl ⟨⟨q, Nat.le_refl _⟩, hd H p⟩
end K1
namespace K1
open PySem PySem.Spec PyProof.Rows L2
theorem belowB_int {v : V} {n : Nat} (h : belowB v (n : Int) = true) : ∃ i : Int, v = .int i ∧ 0 ≤ i ∧ i < (n : Int) := by
  cases v with
  | int i =>
    have z : (decide (0 ≤ i) && decide (i < (n : Int))) = true := h
    rw [Bool.and_eq_true, decide_eq_true_eq, decide_eq_true_eq] at z
    exact ⟨i, rfl, z⟩
  | _ => cases h
theorem belowI {i : Int} {n : Nat} (h : 0 ≤ i ∧ i < (n : Int)) : belowB (.int i) (n : Int) = true := by
  show (decide (0 ≤ i) && decide (i < (n : Int))) = true
  rw [decide_eq_true h.1, decide_eq_true h.2]; rfl
/-- the first of some values that is no state -/
def FstBad (n : Nat) (xs : List V) (v : V) : Prop := ∃ i : Nat, xs[i]? = some v ∧ belowB v (n : Int) = false ∧ ∀ (j : Nat) y, j < i → xs[j]? = some y → belowB y (n : Int) = true
def spNeedSs (M CS : Addr) : Sp := fun vs H Q E => ∃ m ta ts p xs, vs = [.ref m, .ref p] ∧ MachAt M H m ta (vts ts) ∧ H p = some (.tup xs) ∧ (∀ x ∈ xs, ∃ (K : PySem.W.Frag) (o : Option (List V)), KV K H x o) ∧
  (∀ v, FstBad (nS ts) xs v → Rz CS "state" v H E) ∧ ((∀ x ∈ xs, belowB x (nS ts : Int) = true) → Q .non H)
/-! ### two states side by side -/
theorem nodup_of {α β : Type} {l : List α} {f : α → β} (h : (l.map f).Nodup) : l.Pairwise fun a b => f a ≠ f b := List.pairwise_map.mp h
theorem pair_few {ts : Ts} (w : Wf ts) {a h : Int} (ha : 0 ≤ a ∧ a < (nS ts : Int)) (hh : 0 ≤ h ∧ h < (nS ts : Int)) : FewK ts [a, h] := fun F nd hF => by
  have form : ∀ e ∈ F, ∃ x y : Int, e.1 = [x, y] ∧ 0 ≤ x ∧ x < 12 ∧ 0 ≤ y ∧ y < 12 := fun e he => by
    obtain ⟨r, hr, e1⟩ := hF e he
    have h1 := w.run r a hr ha
    have h2 := w.run r h hr hh
    have := w.s12
    rw [path_run] at e1
    exact ⟨run ts a r, run ts h r, e1, by omega, by omega, by omega, by omega⟩
  have nd2 : (F.map fun e => e.1.getD 0 0 * 12 + e.1.getD 1 0).Nodup := by
    refine List.pairwise_map.mpr (List.Pairwise.imp_of_mem (fun {e e'} he he' ne z => ?_) (nodup_of nd))
    obtain ⟨x, y, e1, _⟩ := form e he
    obtain ⟨x', y', e2, _⟩ := form e' he'
    rw [e1, e2] at z
    have z' : x * 12 + y = x' * 12 + y' := z
    obtain ⟨rfl, rfl⟩ : x = x' ∧ y = y' := by omega
    exact ne (e1.trans e2.symm)
  have := nodup_le 144 _ nd2 fun z hz => by
    obtain ⟨e, he, rfl⟩ := List.mem_map.mp hz
    obtain ⟨x, y, e1, _⟩ := form e he
    rw [e1]
    show 0 ≤ x * 12 + y ∧ x * 12 + y < ((144 : Nat) : Int)
    omega
  rw [List.length_map] at this
  omega
/-- the things whose first state is t -/
def onT (F : List KR) (t : Int) : List KR := F.filter fun e => decide (e.1.getD 0 0 = t)
def endsOf (F : List KR) (t : Int) : List Int := (onT F t).map fun e => e.1.getD 1 0
def rowsOf (F : List KR) (t : Int) : List (List Int) := (onT F t).map (·.2)
theorem onT_snoc {F : List KR} {t : Int} {i : Nat} {e : KR} (h : F[i]? = some e) : onT (F.take (i + 1)) t = onT (F.take i) t ++ (if e.1.getD 0 0 = t then [e] else []) := by
  rw [take_succ h, onT, List.filter_append]
  show _ = onT (F.take i) t ++ _
  unfold onT
  by_cases z : e.1.getD 0 0 = t
  · rw [if_pos z, List.filter_cons, if_pos (decide_eq_true z), List.filter_nil]
  · rw [if_neg z, List.filter_cons, if_neg (by simpa using z), List.filter_nil]
theorem onT_len (F : List KR) (t : Int) (i : Nat) : (onT (F.take i) t).length ≤ F.length := by
  refine Nat.le_trans (List.length_filter_le _ _) ?_
  rw [List.length_take]; omega
def spJoined (M CU : Addr) : Sp := fun vs H Q E => ∃ m ta ts a h t, vs = [.ref m, .int a, .int h, .int t] ∧ MachAt M H m ta (vts ts) ∧ Wf ts ∧ (0 ≤ a ∧ a < (nS ts : Int)) ∧ (0 ≤ h ∧ h < (nS ts : Int)) ∧
  ∀ F H', Same H H' → Fst (actL ts) ts.length [a, h] F → (∀ e, endsOf F t = [e] → Q (.int e) H') ∧ ((endsOf F t).length ≠ 1 → RzU CU a h t H' E)
def spJoin (M CS CU : Addr) : Sp := fun vs H Q E => ∃ m ta ts v1 v2 v3, vs = [.ref m, v1, v2, v3] ∧ MachAt M H m ta (vts ts) ∧ Wf ts ∧ (∀ x ∈ [v1, v2, v3], ∃ (K : PySem.W.Frag) (o : Option (List V)), KV K H x o) ∧ (∀ v H', Same H H' → FstBad (nS ts) [v1, v2, v3] v → Rz CS "state" v H' E) ∧
  (∀ a h t, v1 = .int a → v2 = .int h → v3 = .int t → (0 ≤ a ∧ a < (nS ts : Int)) → (0 ≤ h ∧ h < (nS ts : Int)) → (0 ≤ t ∧ t < (nS ts : Int)) → ∀ F H', Same H H' → Fst (actL ts) ts.length [a, h] F → (∀ e, endsOf F t = [e] → Q (.int e) H') ∧ ((endsOf F t).length ≠ 1 → RzU CU a h t H' E))
def UntV (H : Hp) (v : V) : List (List Int) → Prop
  | [] => ∃ p, v = .ref p ∧ H p = some (.tup [.str "none"])
  | [_] => v = .non
  | r1 :: r2 :: _ => ∃ p a b, v = .ref p ∧ H a = some (.tup (vrow r1)) ∧ H b = some (.tup (vrow r2)) ∧ H p = some (.tup [.str "rows", .ref a, .ref b])
def spUntold (M CS : Addr) : Sp := fun vs H Q E => ∃ m ta ts v1 v2 v3, vs = [.ref m, v1, v2, v3] ∧ MachAt M H m ta (vts ts) ∧ Wf ts ∧ (∀ x ∈ [v1, v2, v3], ∃ (K : PySem.W.Frag) (o : Option (List V)), KV K H x o) ∧ (∀ v H', Same H H' → FstBad (nS ts) [v1, v2, v3] v → Rz CS "state" v H' E) ∧
  (∀ a h t, v1 = .int a → v2 = .int h → v3 = .int t → (0 ≤ a ∧ a < (nS ts : Int)) → (0 ≤ h ∧ h < (nS ts : Int)) → (0 ≤ t ∧ t < (nS ts : Int)) → ∀ F u H', Same H H' → Fst (actL ts) ts.length [a, h] F → UntV H' u (rowsOf F t) → Q u H')
section
variable {P : Program} {w : World} {K : PySem.W.Frag} {mg : Str → Option Value} {base : Heap}
theorem scNSs : FnScope ["machine", "states", "state"] ["machine", "states"] (defScope sNeedSs) := ⟨rfl, rfl, rfl, by decide +kernel, rfl, by decide +kernel, by decide +kernel⟩
theorem ok_needSs {f fN CS M : Addr} {fd fdN : FuncData} (D : Df K mg "need_states" sNeedSs ["machine", "states"] f fd) (DN : Df K mg "need_state" sNeedS ["machine", "state"] fN fdN)
    (GN : FnOk P w K mg base (L2.CX P w) 3 fN fdN ["machine", "state"] (spNeed M CS "state" nS)) : FnOk P w K mg base (L2.CX P w) 4 f fd ["machine", "states"] (spNeedSs M CS) := by
  refine D.F.okX scNSs (fun vs H Q E h => ?_) (fun cdv A outer s H vs Q E hr h => ?_)
  · obtain ⟨m, ta, ts, p, xs, rfl, _⟩ := h
    rfl
  · obtain ⟨m, ta, ts, p, xs, rfl, hM, hp, kv, qb, qg⟩ := h
    refine ⟨_, pss_one (ps_for (passes_of rfl) rfl (pi_tup (pv 1)) (pg_name (i := 2) scNSs.nd rfl (.inl rfl)) (pss_one (ps_expr (pc DN GN hr (pass1 (takes_of rfl rfl rfl rfl)) (pa_cons (pv 0) (pa_cons (pv 2) pa_nil)))))), ?_⟩
    refine ⟨_, rfl, p, rfl, ⟨_, SqT.of hp⟩, for_tup (K := K) (a := p) (xs := xs) (fun i σ H' => ∃ v2, σ = [some (.ref m), some (.ref p), v2] ∧ H' = H ∧ ∀ (j : Nat) y, j < i → xs[j]? = some y → belowB y (nS ts : Int) = true) ⟨none, rfl, rfl, fun j y hj => absurd hj (Nat.not_lt_zero _)⟩ (fun i σ H' _ ⟨_, _, e, _⟩ => e ▸ SqT.of hp) ?_ ?_⟩
    · rintro i x σ H' hx ⟨v2, rfl, rfl, ok⟩
      refine ⟨_, rfl, _, rfl, m, ta, ts, x, rfl, hM, kv x (List.mem_of_getElem? hx), fun e => ?_, fun e => qb x ⟨i, hx, e, ok⟩⟩
      refine ⟨_, rfl, rfl, fun j y hj hy => ?_⟩
      rcases Nat.lt_succ_iff_lt_or_eq.mp hj with z | z
      · exact ok j y z hy
      · subst z
        rw [hx] at hy
        rw [← Option.some.inj hy]; exact e
    · rintro σ H' ⟨v2, rfl, rfl, ok⟩
      refine qg fun x hx => ?_
      obtain ⟨j, hj⟩ := List.getElem?_of_mem hx
      exact ok j x (List.getElem?_eq_some_iff.mp hj).1 hj
abbrev nJd : List Str := ["machine", "archive", "here", "there", "ends", "at", "end"]
theorem scJd : FnScope nJd ["machine", "archive", "here", "there"] (defScope sJoined) := ⟨rfl, rfl, rfl, by decide +kernel, rfl, by decide +kernel, by decide +kernel⟩
abbrev gPair (i j : Nat) (K : PySem.W.Frag) : TG := gTup K 2 (gCons (gName i) (gCons (gName j) gNil))
theorem ok_joined {f fF fI CU M : Addr} {fd fdF fdI : FuncData} (D : Df K mg "joined" sJoined ["machine", "archive", "here", "there"] f fd) (DF : DfF K mg fF fdF) (U : UnC K mg CU) (B : Bt mg)
    (iC : PySem.W.findIn K (.ref CU) "__init__" = some (some (.ref fI))) (tI : PySem.W.typeIn K (.ref fI) = some (.type "function")) (bI : Binds K fdI ["self", "archive", "here", "there"] [])
    (GI : FnOk P w K mg base CX0 1 fI fdI ["self", "archive", "here", "there"] (spUInit K CU)) (GF : FnOk P w K mg base CX0 1 fF fdF ["machine", "states", "out", "most"] (spFirst M)) :
    FnOk P w K mg base (L2.CX P w) 4 f fd ["machine", "archive", "here", "there"] (spJoined M CU) := by
  refine D.F.okX scJd (fun vs H Q E h => ?_) (fun cdv A outer s H vs Q E hr h => ?_)
  · obtain ⟨m, ta, ts, a, h, t, rfl, _⟩ := h
    rfl
  · obtain ⟨m, ta, ts, a, h, t, rfl, hM, hW, ha, hh, q⟩ := h
    obtain ⟨ds, vd, bd⟩ := DF.b
    refine ⟨_, pss_cons (ps_setLc (i := 4) (own := [("at", 5), ("end", 6)]) (g := gPair 5 6 K) rfl scJd.nd rfl rfl (sw_true rfl rfl rfl rfl) (pi_keysF (pcF DF GF (hr.mono (by decide)) pass0 (pa_cons (pv 0) (pa_cons (pe_tup (pa_cons (pv 1) (pa_cons (pv 2) pa_nil))) pa_nil)) vd bd)) (blkOk_by (N := nJd) (sc := defScope sJoined) (by decide +kernel))
          (fun _ _ _ _ _ => pg_tup rfl (pgs_cons (pg_name (i := 5) scJd.nd rfl (Or.inl rfl)) (pgs_cons (pg_name (i := 6) scJd.nd rfl (Or.inl rfl)) pgs_nil))) (fun _ _ _ _ _ => pts_one (pt_cmpR op_eq (pv 5) (pv 3) (nomark _))) (fun _ _ _ _ _ => pv 6))
      (pss_cons (ps_if (pt_cmpR op_ne (pe_callB call_len_seq (by rfl) B.len PySem.boot_len (pa_cons (pv 4) pa_nil)) pe_int (nomark _)) (pss_one (ps_raise rfl (takes_of rfl rfl rfl rfl) (pmk_oex (CX := CX0) U.x iC tI GI (hr.mono (show 2 ≤ 3 by decide)) bI .nil (fun _ _ _ _ _ _ _ h => h.elim) (by rfl) U.g (pa_cons (pv 1) (pa_cons (pv 2) (pa_cons (pv 3) pa_nil)))))) pss_nil)
      (pss_one (ps_ret (pe_ix ix_list (pv 4) pe_int (fun _ _ => rfl))))), ?_⟩
    refine ⟨_, rfl, _, rfl, _, rfl, (by show 2 ≤ sizeLine; decide), fun p hp => ?_⟩
    have s1 := same_new (o := HO.tup [V.int a, .int h]) hp
    have hss : ∀ s ∈ [a, h], 0 ≤ s ∧ s < (nS ts : Int) := fun s hs => by
      simp only [List.mem_cons, List.mem_nil_iff, or_false] at hs
      rcases hs with rfl | rfl <;> assumption
    refine ⟨m, ta, ts, [a, h], p, rfl, hM.same s1, hW, hss, (by show 2 ≤ 12; decide), upd_same, pair_few hW ha hh, fun d F H2 s2 hd ⟨kvs, hd2, ky, vl⟩ hF hf => ?_⟩
    have s12 := s1.trans s2
    have hd0 : H d = none := s1.free hd
    have lk : kvs.length = F.length := by simpa using congrArg List.length ky
    refine ⟨d, kvs, rfl, hd2, fun od D0 hD0 => ?_⟩
    have ndD : d ≠ D0 := fun z => by rw [← z, upd_same] at hD0; cases hD0
    have hD2 : H2 D0 = none := by rw [upd_ne ndD.symm] at hD0; exact hD0
    generalize hH3 : upd H2 d (.frz od (.dT kvs)) = H3
    have hd3 : H3 d = some (.frz od (.dT kvs)) := by rw [← hH3, upd_same]
    have s3 : Same H H3 := fun c o e => by
      rw [← hH3, upd_ne (ne_of_none e hd0)]
      exact s12 _ _ e
    have hD3 : H3 D0 = none := by rw [← hH3, upd_ne ndD.symm]; exact hD2
    refine lc_keysF (fun i H' => Same H3 H' ∧ H' D0 = some (.lst ((endsOf (F.take i) t).map V.int))) ⟨same_new hD3, upd_same⟩ (fun i H' _ ⟨s4, _⟩ => s4 _ _ hd3) ?_ ?_
    · rintro i k v qk H' hk hqk ⟨s4, hD4⟩
      obtain ⟨e, he, rfl⟩ : ∃ e, F[i]? = some e ∧ k = kK e.1 := by
        have z : (kvs.map (·.1))[i]? = some k := by rw [List.getElem?_map, hk]; rfl
        rw [ky, List.getElem?_map] at z
        cases e : F[i]? with
        | none => rw [e] at z; cases z
        | some x => rw [e] at z; exact ⟨x, rfl, (Option.some.inj z).symm⟩
      obtain ⟨pe, pv1, _⟩ := hF.pth i e.1 e.2 he
      rw [path_run] at pe
      have pe' : e.1 = [run ts a e.2, run ts h e.2] := pe
      rw [kK_v, pe'] at hqk
      refine ⟨qk, _, rfl, SqT.of hqk, rfl, _, _, rfl, _, _, rfl, rfl, ?_⟩
      refine ⟨rfl, _, rfl, _, rfl, rfl, _, rfl, ?_⟩
      have hon : e.1.getD 0 0 = run ts a e.2 := by rw [pe']; rfl
      have hen : e.1.getD 1 0 = run ts h e.2 := by rw [pe']; rfl
      have snoc := onT_snoc (t := t) he
      refine ifD (fun c => ?_) fun c => ?_
      · have c' : run ts a e.2 = t := by
          have := of_decide_eq_true c
          injection this
        rw [hon, if_pos c'] at snoc
        refine ⟨_, rfl, _, hD4, ?_, ?_, ?_⟩
        · rw [List.length_map, endsOf, List.length_map, sizeLine_eq]
          have := onT_len F t i
          omega
        · intro c o e
          rw [upd_ne (ne_of_none e hD3)]
          exact s4 _ _ e
        · rw [upd_same, endsOf, endsOf, snoc, List.map_append, List.map_append]
          show _ = some (HO.lst (_ ++ [V.int (e.1.getD 1 0)]))
          rw [hen]
      · have c' : run ts a e.2 ≠ t := fun z => by
          have := of_decide_eq_false c
          exact this (by rw [z])
        rw [hon, if_neg c', List.append_nil] at snoc
        refine ⟨s4, ?_⟩
        rw [endsOf, snoc]
        exact hD4
    · rintro H4 ⟨s4, hD4⟩
      rw [lk, List.take_length] at hD4
      obtain ⟨q1, q2⟩ := q F H4 (s3.trans s4) hF
      refine ⟨_, rfl, _, _, rfl, .inl (SqL.of hD4), rfl, _, rfl, ifD (fun c => ?_) fun c => ?_⟩
      · have c' : (endsOf F t).length ≠ 1 := fun z => by
          rw [List.length_map, z] at c
          cases c
        refine ⟨_, rfl, _, rfl, _, rfl, by show 3 ≤ 1000; decide, fun ea hea => ⟨ea, .int a, .int h, .int t, rfl, U.x, upd_same, fun d H5 k2 hd ne hea2 hd2 => ⟨rfl, d, _, hea2, hd2, ?_, ?_⟩⟩⟩
        · rw [upd_ne ne] at hd; exact hd
        · refine q2 c' d _ (fun c o e => ?_) (by rw [upd_ne ne] at hd; exact hd) upd_same
          have nce := ne_of_none e hea
          have ncd : c ≠ d := fun z => by rw [z] at e; rw [upd_ne ne, e] at hd; cases hd
          rw [upd_ne ncd]
          unfold L2.del
          rw [if_neg nce]
          exact k2 c o (by rw [upd_ne nce]; exact e) nce
      · obtain ⟨e, he⟩ : ∃ e, endsOf F t = [e] := by
          match hx : endsOf F t with
          | [] => rw [hx] at c; cases c
          | [e] => exact ⟨e, rfl⟩
          | a :: b :: r =>
            rw [hx] at c
            have z := of_decide_eq_true (show decide (V.int ((((a :: b :: r).map V.int).length : Nat) : Int) = V.int 1) = true by
              have := c
              simpa using this)
            injection z with z
            simp only [List.length_map, List.length_cons] at z
            omega
        rw [he] at hD4
        exact ⟨_, rfl, D0, _, 0, _, rfl, rfl, SqL.of hD4, atI_nat (j := 0) rfl, q1 e he⟩
end
end K1
namespace K1
open PySem PySem.Spec PyProof.Rows L2
/-- rows at addresses -/
def RowsAt (H : Hp) (as : List Addr) (rs : List (List Int)) : Prop := as.length = rs.length ∧ ∀ (i : Nat) a r, as[i]? = some a → rs[i]? = some r → H a = some (.tup (vrow r))
theorem RowsAt.same {H H' : Hp} {as : List Addr} {rs : List (List Int)} (h : RowsAt H as rs) (s : Same H H') : RowsAt H' as rs := ⟨h.1, fun i a r e1 e2 => s _ _ (h.2 i a r e1 e2)⟩
theorem RowsAt.snoc {H : Hp} {as : List Addr} {rs : List (List Int)} {a : Addr} {r : List Int} (h : RowsAt H as rs) (ha : H a = some (.tup (vrow r))) : RowsAt H (as ++ [a]) (rs ++ [r]) := by
  refine ⟨by rw [List.length_append, List.length_append, h.1]; rfl, fun i c q e1 e2 => ?_⟩
  by_cases hi : i < as.length
  · rw [List.getElem?_append_left hi] at e1
    rw [List.getElem?_append_left (by rw [← h.1]; exact hi)] at e2
    exact h.2 i c q e1 e2
  · have hl : i = as.length := by
      have := (List.getElem?_eq_some_iff.mp e1).1
      simp only [List.length_append, List.length_cons, List.length_nil] at this
      omega
    subst hl
    rw [List.getElem?_append_right (Nat.le_refl _), Nat.sub_self] at e1
    rw [h.1, List.getElem?_append_right (Nat.le_refl _), Nat.sub_self] at e2
    rw [← Option.some.inj e1, ← Option.some.inj e2]
    exact ha
section
variable {P : Program} {w : World} {K : PySem.W.Frag} {mg : Str → Option Value} {base : Heap}
theorem scJn : FnScope ["machine", "archive", "here", "there"] ["machine", "archive", "here", "there"] (defScope sJoin) := ⟨rfl, rfl, rfl, by decide +kernel, rfl, by decide +kernel, by decide +kernel⟩
theorem ok_join {f fN fJ CS CU M : Addr} {fd fdN fdJ : FuncData} (D : Df K mg "join" sJoin ["machine", "archive", "here", "there"] f fd) (DN : Df K mg "need_states" sNeedSs ["machine", "states"] fN fdN) (DJ : Df K mg "joined" sJoined ["machine", "archive", "here", "there"] fJ fdJ)
    (GN : FnOk P w K mg base (L2.CX P w) 4 fN fdN ["machine", "states"] (spNeedSs M CS)) (GJ : FnOk P w K mg base (L2.CX P w) 4 fJ fdJ ["machine", "archive", "here", "there"] (spJoined M CU)) : FnOk P w K mg base (L2.CX P w) 5 f fd ["machine", "archive", "here", "there"] (spJoin M CS CU) := by
  refine D.F.okX scJn (fun vs H Q E h => ?_) (fun cdv A outer s H vs Q E hr h => ?_)
  · obtain ⟨m, ta, ts, v1, v2, v3, rfl, _⟩ := h
    rfl
  · obtain ⟨m, ta, ts, v1, v2, v3, rfl, hM, hW, kv, qb, qg⟩ := h
    refine ⟨_, pss_cons (ps_expr (pc DN GN hr (pass1 (takes_of rfl rfl rfl rfl)) (pa_cons (pv 0) (pa_cons (pe_tup (pa_cons (pv 1) (pa_cons (pv 2) (pa_cons (pv 3) pa_nil)))) pa_nil))))
      (pss_one (ps_ret (pc DJ GJ hr (pass1 (takes_of rfl rfl rfl rfl)) (pa_cons (pv 0) (pa_cons (pv 1) (pa_cons (pv 2) (pa_cons (pv 3) pa_nil))))))), ?_⟩
    refine ⟨_, rfl, _, rfl, _, rfl, _, rfl, (by show 3 ≤ sizeLine; decide), fun p hp => ?_⟩
    have s1 := same_new (o := HO.tup [v1, v2, v3]) hp
    refine ⟨m, ta, ts, p, _, rfl, hM.same s1, upd_same, fun x hx => ?_, fun v hv => qb v _ s1 hv, fun ok => ?_⟩
    · obtain ⟨K', o, z⟩ := kv x hx
      exact ⟨K', o, z.same s1⟩
    · obtain ⟨a, rfl, ha⟩ := belowB_int (ok v1 (by simp))
      obtain ⟨h, rfl, hh⟩ := belowB_int (ok v2 (by simp))
      obtain ⟨t, rfl, ht⟩ := belowB_int (ok v3 (by simp))
      exact ⟨_, rfl, _, rfl, _, rfl, _, rfl, m, ta, ts, a, h, t, rfl, hM.same s1, hW, ha, hh, fun F H' s2 hF => qg a h t rfl rfl rfl ha hh ht F H' (s1.trans s2) hF⟩
end
end K1
namespace K1
open PySem PySem.Spec PyProof.Rows L2
theorem seqG {t u : TS} {D : Ends} {σ : L2.St} {H : Hp} (G : L2.St → Hp → Prop) (hu : ∀ σ H, G σ H → u D σ H) (ht : (∀ σ H, G σ H → u D σ H) → t { D with nx := u D } σ H) : tSeq t u D σ H := ht hu
theorem gn {i : Nat} {x : V} {σ : L2.St} {H : Hp} {Q : L2.St → Hp → Prop} (h : Q (σ.set i (some x)) H) : gName i x σ H Q := h
theorem nxP {D : Ends} {σ : L2.St} {H : Hp} (h : D.nx σ H) : tNext D σ H := h
/-- a source of draws -/
def BoxO (H : Hp) (b : Addr) : Prop := ∃ x y : Int, H b = some (.lst [.int x, .int y])
/-- all but the source stands, which is one again -/
def Bx (b : Addr) (H H' : Hp) : Prop := BoxO H' b ∧ ∀ c o, H c = some o → c ≠ b → H' c = some o
theorem Bx.refl {b : Addr} {H : Hp} (h : BoxO H b) : Bx b H H := ⟨h, fun _ _ e _ => e⟩
theorem Bx.trans {b : Addr} {H H1 H2 : Hp} (a : Bx b H H1) (c : Bx b H1 H2) : Bx b H H2 := ⟨c.1, fun d o e n => c.2 d o (a.2 d o e n) n⟩
theorem BoxO.same {b : Addr} {H H' : Hp} (h : BoxO H b) (s : Same H H') : BoxO H' b := let ⟨x, y, e⟩ := h; ⟨x, y, s _ _ e⟩
theorem Bx.same {b : Addr} {H H1 H2 : Hp} (a : Bx b H H1) (s : Same H1 H2) : Bx b H H2 := ⟨a.1.same s, fun d o e n => s _ _ (a.2 d o e n)⟩
theorem Same.bx {b : Addr} {H H1 H2 : Hp} (s : Same H H1) (a : Bx b H1 H2) : Bx b H H2 := ⟨a.1, fun d o e n => a.2 d o (s _ _ e) n⟩
theorem Bx.set {b : Addr} {H : Hp} {x y : Int} : Bx b H (upd H b (.lst [.int x, .int y])) := ⟨⟨x, y, upd_same⟩, fun c o e n => by rw [upd_ne n]; exact e⟩
theorem Bx.free {b c : Addr} {H H' : Hp} (a : Bx b H H') (hb : c ≠ b) (h : H' c = none) : H c = none := by
  cases q : H c with
  | none => rfl
  | some o => rw [a.2 c o q hb] at h; cases h
theorem BoxO.ne {b c : Addr} {H : Hp} {o : HO} (h : BoxO H b) (e : H c = some o) (n : ∀ xs, o ≠ .lst xs) : c ≠ b := fun z => by
  obtain ⟨x, y, hb⟩ := h
  rw [z, hb] at e
  exact n _ (Option.some.inj e).symm
theorem Bx.ne {b c : Addr} {H H' : Hp} (a : Bx b H H') (h : H' c = none) : c ≠ b := fun z => by
  obtain ⟨x, y, hb⟩ := a.1
  rw [z, hb] at h
  cases h
theorem Bx.new {b p : Addr} {H H' : Hp} {o : HO} (a : Bx b H H') (h : H' p = none) : Bx b H (upd H' p o) := a.same (same_new h)
theorem Bx.put {b p : Addr} {H H' : Hp} {o : HO} (a : Bx b H H') (hp : H p = none) (n : p ≠ b) : Bx b H (upd H' p o) := ⟨let ⟨x, y, e⟩ := a.1; ⟨x, y, by rw [upd_ne n.symm]; exact e⟩, fun c o' e n' => by rw [upd_ne (ne_of_none e hp)]; exact a.2 c o' e n'⟩
theorem Bx.tup {b c : Addr} {H H' : Hp} {xs : List V} (x : Bx b H H') (hb : BoxO H b) (h : H c = some (.tup xs)) : H' c = some (.tup xs) := x.2 _ _ h (hb.ne h fun xs => by intro z; cases z)
def spTake : Sp := fun vs H Q _ => ∃ b n, vs = [.ref b, .int n] ∧ BoxO H b ∧ 1 ≤ n ∧ n < 1073741824 ∧ ∀ r H', 0 ≤ r → r < n → Bx b H H' → Q (.int r) H'
def spPick : Sp := fun vs H Q _ => ∃ (b l : Addr) (xs : List V), vs = [.ref b, .ref l] ∧ BoxO H b ∧ H l = some (.lst xs) ∧ l ≠ b ∧ 1 ≤ xs.length ∧ xs.length ≤ 1000 ∧ ∀ (i : Nat) v H', xs[i]? = some v → Bx b H H' → Q v H'
def spBox (K : PySem.W.Frag) : Sp := fun vs H Q _ => ∃ (a : Addr) (ns : List Int) (k : Int), vs = [.ref a, .int k] ∧ SqL K H a (ns.map V.int) ∧ ns.length ≤ 63 ∧ 0 ≤ k ∧ k ≤ 100 ∧ ∀ b H', Same H H' → H b = none → BoxO H' b → Q (.ref b) H'
section
variable {P : Program} {w : World} {K : PySem.W.Frag} {mg : Str → Option Value} {base : Heap}
theorem scTk : FnScope ["_law_box_here", "_law_many", "_law_digit", "_law_raw"] ["_law_box_here", "_law_many"] (defScope sTake) := ⟨rfl, rfl, rfl, by decide +kernel, rfl, by decide +kernel, by decide +kernel⟩
theorem ok_take {f : Addr} {fd : FuncData} (D : Df K mg "_law_take" sTake ["_law_box_here", "_law_many"] f fd) (B : Bt mg) : FnOk P w K mg base CX0 1 f fd ["_law_box_here", "_law_many"] spTake := by
  refine D.F.ok scTk (fun vs H Q E h => ?_) (fun cdv A outer s H vs Q E hr h => ?_)
  · obtain ⟨b, n, rfl, _⟩ := h
    rfl
  · obtain ⟨b, n, rfl, ⟨x, y, hb⟩, h1, h2, q⟩ := h
    refine ⟨_, pss_cons (ps_if (pt_cmpR op_gt (pe_ix ix_list (pv 0) pe_int (fun _ _ => rfl)) pe_int (nomark _))
        (pss_cons (ps_set (i := 2) scTk.nd rfl (.inl rfl) (pe_op op_mod (pe_callTy call_int1 (by rfl) B.int PyProof.Rows.boot_int (pa_cons (pe_ix ix_list (pv 0) pe_int (fun _ _ => rfl)) pa_nil)) (pv 1)))
        (pss_cons (ps_asg (pe_op op_fdivN (pe_ix ix_list (pv 0) pe_int (fun _ _ => rfl)) (pv 1)) (pg_sub (pv 0) pe_int set_list))
        (pss_one (ps_ret (pv 2))))) pss_nil)
      (pss_cons (ps_set (i := 3) scTk.nd rfl (.inl rfl) (pe_op op_mod (pe_callTy call_int1 (by rfl) B.int PyProof.Rows.boot_int (pa_cons (pe_op op_add (pe_op op_mul (pe_ix ix_list (pv 0) pe_int (fun _ _ => rfl)) pe_int) pe_int) pa_nil)) pe_int))
      (pss_cons (ps_asg (pe_op op_add (pe_op op_mod (pe_callTy call_int1 (by rfl) B.int PyProof.Rows.boot_int (pa_cons (pe_op op_add (pe_op op_mul (pv 3) pe_int) pe_int) pa_nil)) pe_int) pe_int) (pg_sub (pv 0) pe_int set_list))
      (pss_one (ps_ret (pe_op op_mod (pe_callTy call_int1 (by rfl) B.int PyProof.Rows.boot_int (pa_cons (pe_op op_fdivN (pe_op op_add (pe_op op_mul (pv 3) pe_int) (pe_ix ix_list (pv 0) pe_int (fun _ _ => rfl))) pe_int) pa_nil)) (pv 1)))))), ?_⟩
    have a0 : ∀ {u v : Int}, atI [V.int u, V.int v] 0 = some (V.int u) := fun {u v} => atI_nat (j := 0) rfl
    have a1 : ∀ {u v : Int}, atI [V.int u, V.int v] 1 = some (V.int v) := fun {u v} => atI_nat (j := 1) rfl
    have np : 0 < n := by omega
    refine ⟨_, rfl, b, _, 0, .int x, rfl, rfl, SqL.of hb, a0, _, _, rfl, rfl, _, rfl, ifD (fun e => ?_) fun e => ?_⟩
    · refine ⟨_, rfl, b, _, 0, .int x, rfl, rfl, SqL.of hb, a0, .inl ⟨x, rfl, _, rfl, _, _, rfl, rfl, np, ?_⟩⟩
      refine ⟨_, rfl, b, _, 0, .int x, rfl, rfl, SqL.of hb, a0, _, rfl, _, _, rfl, rfl, ⟨by omega, by omega⟩, _, rfl, b, _, 0, 0, rfl, rfl, hb, rfl, ?_⟩
      exact ⟨_, rfl, q _ _ (Int.emod_nonneg _ (by omega)) (Int.emod_lt_of_pos _ np) Bx.set⟩
    · refine ⟨_, rfl, b, _, 1, .int y, rfl, rfl, SqL.of hb, a1, _, _, rfl, rfl, .inr ⟨by decide, by decide⟩, _, _, rfl, rfl, .inl ⟨_, rfl, _, _, rfl, rfl, (by decide : (0 : Int) < 2147483647), ?_⟩⟩
      refine ⟨_, rfl, _, _, rfl, rfl, .inr ⟨by decide, by decide⟩, _, _, rfl, rfl, .inl ⟨_, rfl, _, _, rfl, rfl, (by decide : (0 : Int) < 2147483399), _, _, rfl, rfl, _, rfl, b, _, 1, 1, rfl, rfl, hb, rfl, ?_⟩⟩
      generalize hH2 : upd H b _ = H2
      have hb2 : ∃ y', H2 b = some (.lst [.int x, .int y']) := ⟨_, by rw [← hH2, upd_same]; rfl⟩
      obtain ⟨y', hb2⟩ := hb2
      have bx : Bx b H H2 := ⟨⟨_, _, hb2⟩, fun c o e n => by rw [← hH2, upd_ne n]; exact e⟩
      refine ⟨_, rfl, _, _, rfl, rfl, .inr ⟨by decide, by decide⟩, _, rfl, b, _, 1, .int y', rfl, rfl, SqL.of hb2, a1, _, _, rfl, rfl, _, _, rfl, rfl, ⟨by decide, by decide⟩, .inl ⟨_, rfl, _, rfl, _, _, rfl, rfl, np, ?_⟩⟩
      exact q _ _ (Int.emod_nonneg _ (by omega)) (Int.emod_lt_of_pos _ np) bx
theorem scPi : FnScope ["_law_box_here", "_law_some"] ["_law_box_here", "_law_some"] (defScope sPick) := ⟨rfl, rfl, rfl, by decide +kernel, rfl, by decide +kernel, by decide +kernel⟩
theorem ok_pick {f fT : Addr} {fd fdT : FuncData} (D : Df K mg "_law_pick" sPick ["_law_box_here", "_law_some"] f fd) (DT : Df K mg "_law_take" sTake ["_law_box_here", "_law_many"] fT fdT) (B : Bt mg) (GT : FnOk P w K mg base CX0 1 fT fdT ["_law_box_here", "_law_many"] spTake) :
    FnOk P w K mg base CX0 2 f fd ["_law_box_here", "_law_some"] spPick := by
  refine D.F.ok scPi (fun vs H Q E h => ?_) (fun cdv A outer s H vs Q E hr h => ?_)
  · obtain ⟨b, l, xs, rfl, _⟩ := h
    rfl
  · obtain ⟨b, l, xs, rfl, hb, hl, hne, h1, h2, q⟩ := h
    refine ⟨_, pss_one (ps_ret (pe_ix ix_list (pv 1) (pc DT GT hr pass0 (pa_cons (pv 0) (pa_cons (pe_callB call_len_seq (by rfl) B.len PySem.boot_len (pa_cons (pv 1) pa_nil)) pa_nil))) (fun _ _ => rfl))), ?_⟩
    refine ⟨_, rfl, _, rfl, _, rfl, l, xs, rfl, .inl (SqL.of hl), b, _, rfl, hb, by omega, by omega, fun r H' r0 r1 bx => ?_⟩
    have hi : r.toNat < xs.length := by omega
    refine ⟨l, xs, r, xs[r.toNat], rfl, rfl, SqL.of (bx.2 _ _ hl hne), at_of (j := r.toNat) (by omega) (List.getElem?_eq_getElem hi), q r.toNat _ H' (List.getElem?_eq_getElem hi) bx⟩
theorem scBx : FnScope ["_law_script", "_law_k", "_law_cell", "_law_great"] ["_law_script", "_law_k"] (defScope sBox) := ⟨rfl, rfl, rfl, by decide +kernel, rfl, by decide +kernel, by decide +kernel⟩
theorem ok_box {f : Addr} {fd : FuncData} (D : Df K mg "_law_box" sBox ["_law_script", "_law_k"] f fd) (B : Bt mg) : FnOk P w K mg base CX0 1 f fd ["_law_script", "_law_k"] (spBox K) := by
  refine D.F.ok scBx (fun vs H Q E h => ?_) (fun cdv A outer s H vs Q E hr h => ?_)
  · obtain ⟨a, ns, k, rfl, _⟩ := h
    rfl
  · obtain ⟨a, ns, k, rfl, hS, hl, k0, k1, q⟩ := h
    refine ⟨_, pss_cons (ps_set (i := 2) scBx.nd rfl (.inl rfl) (pe_op op_add (pe_op op_mul pe_int (pv 1)) pe_int))
      (pss_cons (ps_if (pt_cmpR op_lt (pv 1) (pe_callB call_len_seq (by rfl) B.len PySem.boot_len (pa_cons (pv 0) pa_nil)) (nomark _))
        (pss_one (ps_set (i := 2) scBx.nd rfl (.inl rfl) (pe_callB call_abs (by rfl) B.abs (by decide +kernel) (pa_cons (pe_callTy call_int1 (by rfl) B.int PyProof.Rows.boot_int (pa_cons (pe_ix ix_list (pv 0) (pv 1) (fun _ _ => rfl)) pa_nil)) pa_nil))))
        (pss_one (ps_if (pt_cmpR op_gt (pe_callB call_len_seq (by rfl) B.len PySem.boot_len (pa_cons (pv 0) pa_nil)) pe_int (nomark _))
          (pss_one (ps_set (i := 2) scBx.nd rfl (.inl rfl) (pe_op op_add (pv 2) (pe_op op_mul (pe_op op_mod (pe_callTy call_int1 (by rfl) B.int PyProof.Rows.boot_int (pa_cons (pe_callB call_abs (by rfl) B.abs (by decide +kernel) (pa_cons (pe_callTy call_int1 (by rfl) B.int PyProof.Rows.boot_int (pa_cons (pe_ix ix_list (pv 0)
            (pe_op op_mod (pe_callTy call_int1 (by rfl) B.int PyProof.Rows.boot_int (pa_cons (pv 1) pa_nil)) (pe_callB call_len_seq (by rfl) B.len PySem.boot_len (pa_cons (pv 0) pa_nil))) (fun _ _ => rfl)) pa_nil)) pa_nil)) pa_nil)) pe_int) pe_int)))) pss_nil)))
      (pss_cons (ps_set (i := 3) scBx.nd rfl (.inl rfl) (pe_ifExp (pt_cmpR op_ge (pv 2) (pe_op op_pow pe_int pe_int) (nomark _)) (pv 2) pe_int))
      (pss_one (ps_ret (pe_lst (pa_cons (pv 3)
        (pa_cons (pe_op op_add (pe_op op_mod (pe_callTy call_int1 (by rfl) B.int PyProof.Rows.boot_int (pa_cons (pe_op op_add (pe_op op_mul (pe_op op_mod (pe_callTy call_int1 (by rfl) B.int PyProof.Rows.boot_int (pa_cons (pv 2) pa_nil)) pe_int) pe_int) (pe_op op_mul pe_int (pv 1))) pa_nil)) pe_int) pe_int) pa_nil))))))), ?_⟩
    have hget : ∀ (j : Int), 0 ≤ j → j < (ns.length : Int) → ∃ z : Int, atI (ns.map V.int) j = some (V.int z) := fun j h0 h1 => by
      have hj : j.toNat < ns.length := by omega
      exact ⟨ns[j.toNat], at_of (j := j.toNat) (by omega) (by rw [List.getElem?_map, List.getElem?_eq_getElem hj]; rfl)⟩
    refine ⟨_, rfl, _, _, rfl, rfl, .inl ⟨by decide, by decide⟩, _, _, rfl, rfl, ?_⟩
    refine gn ?_
    dsimp only
    refine seqG (fun σ H' => ∃ c : Int, σ = [some (.ref a), some (.int k), some (.int c), none] ∧ H' = H) ?_ (fun kk => ?_)
    · rintro σ H' ⟨c, rfl, rfl⟩
      refine seqG (fun σ H'' => ∃ g : Int, σ = [some (.ref a), some (.int k), some (.int c), some (.int g)] ∧ H'' = H') ?_ (fun k2 => ⟨_, rfl, _, _, rfl, rfl, ⟨by decide, by decide, by decide⟩, _, _, rfl, rfl, _, rfl, ifD (fun e => ⟨_, rfl, k2 _ _ ⟨_, rfl, rfl⟩⟩) fun e => k2 _ _ ⟨_, rfl, rfl⟩⟩)
      rintro σ H'' ⟨g, rfl, e⟩
      subst e
      refine ⟨_, rfl, _, rfl, .inl ⟨_, rfl, _, _, rfl, rfl, (by decide : (0 : Int) < 2147483563), _, _, rfl, rfl, .inr ⟨by decide, by decide⟩, _, rfl, _, _, rfl, rfl, .inl ⟨by decide, by decide⟩, _, _, rfl, rfl, .inl ⟨_, rfl, _, _, rfl, rfl, (by decide : (0 : Int) < 2147483563), _, _, rfl, rfl, (by show 2 ≤ sizeLine; decide), fun p hp => ?_⟩⟩⟩
      exact q p _ (same_new hp) hp ⟨_, _, upd_same⟩
    · refine ⟨_, rfl, _, rfl, a, _, rfl, .inl (hS), _, _, rfl, rfl, _, rfl, ifD (fun e => ?_) fun e => ?_⟩
      · have e' : k < (ns.length : Int) := by
          have z := of_decide_eq_true e
          rw [List.length_map] at z
          exact z
        obtain ⟨z, hz⟩ := hget k k0 e'
        refine ⟨_, rfl, _, rfl, a, _, k, _, rfl, rfl, hS, hz, ?_⟩
        refine .inl ⟨z, rfl, _, rfl, ?_⟩
        exact kk _ _ ⟨_, rfl, rfl⟩
      · refine ⟨_, rfl, a, _, rfl, .inl hS, _, _, rfl, rfl, _, rfl, ifD (fun e => ?_) fun e => ?_⟩
        · have e' : 0 < (ns.length : Int) := by
            have z := of_decide_eq_true e
            rw [List.length_map] at z
            omega
          have em : (k % ((ns.map V.int).length : Int)) = k % (ns.length : Int) := by rw [List.length_map]
          obtain ⟨z, hz⟩ := hget (k % (ns.length : Int)) (Int.emod_nonneg _ (by omega)) (Int.emod_lt_of_pos _ e')
          refine ⟨_, rfl, _, rfl, _, rfl, .inl ⟨_, rfl, _, rfl, a, _, rfl, .inl hS, _, _, rfl, rfl, (by rw [List.length_map]; exact e'), a, _, _, _, rfl, rfl, hS, (by rw [em]; exact hz), ?_⟩⟩
          refine .inl ⟨z, rfl, _, rfl, .inl ⟨_, rfl, _, _, rfl, rfl, (by decide : (0 : Int) < 2147483563), _, _, rfl, rfl, .inr ⟨by decide, by decide⟩, _, _, rfl, rfl, ?_⟩⟩
          exact kk _ _ ⟨_, rfl, rfl⟩
        · exact kk _ _ ⟨_, rfl, rfl⟩
end
end K1
namespace K1
open PySem PySem.Spec PyProof.Rows L2
/-- the values of g below k -/
def gL (g : Int → Int) (k : Nat) : List Int := (List.range k).map fun i : Nat => g (i : Int)
theorem gL_succ (g : Int → Int) (k : Nat) : gL g (k + 1) = gL g k ++ [g (k : Int)] := by
  unfold gL
  rw [List.range_succ, List.map_append]; rfl
theorem gL_len (g : Int → Int) (k : Nat) : (gL g k).length = k := by unfold gL; rw [List.length_map, List.length_range]
theorem gL_at {g : Int → Int} {k i : Nat} (h : i < k) : (gL g k)[i]? = some (g (i : Int)) := by
  unfold gL
  rw [List.getElem?_map, List.getElem?_range h]; rfl
theorem gL_mem {g : Int → Int} {k : Nat} {x : Int} (h : x ∈ gL g k) : ∃ i : Int, 0 ≤ i ∧ i < (k : Int) ∧ x = g i := by
  obtain ⟨i, hi, rfl⟩ := List.mem_map.mp h
  exact ⟨i, by omega, by have := List.mem_range.mp hi; omega, rfl⟩
theorem gL_congr {g f : Int → Int} {k : Nat} (h : ∀ i : Int, 0 ≤ i → i < (k : Int) → g i = f i) : gL g k = gL f k :=
  List.map_congr_left fun i hi => h _ (by omega) (by have := List.mem_range.mp hi; omega)
def idL (n : Nat) : List Int := gL (fun s => s) n
def FewM (ts : Ts) : Prop := FewK ts (idL (nS ts))
theorem few_of {ts : Ts} {ss : List Int} (Form : List Int → Prop) (code : List Int → Int) (N : Nat) (hN : N ≤ 1000) (h0 : Form ss) (hs : ∀ x d, Form x → (0 ≤ d ∧ d < (ts.length : Int)) → Form (actL ts x d)) (hc : ∀ x, Form x → 0 ≤ code x ∧ code x < (N : Int))
    (inj : ∀ x y, Form x → Form y → code x = code y → x = y) : FewK ts ss := fun F nd hF => by
  have form : ∀ e ∈ F, Form e.1 := fun e he => by
    obtain ⟨r, hr, e1⟩ := hF e he
    rw [e1]
    clear e1
    have : ∀ (r x : List Int), (∀ y ∈ r, 0 ≤ y ∧ y < (ts.length : Int)) → Form x → Form (path (actL ts) x r) := fun r => by
      induction r with
      | nil => exact fun x _ h => h
      | cons d r ih => exact fun x hr h => ih _ (fun y hy => hr y (List.mem_cons_of_mem _ hy)) (hs x d h (hr d List.mem_cons_self))
    exact this r ss hr h0
  have nd2 : (F.map fun e => code e.1).Nodup :=
    List.pairwise_map.mpr (List.Pairwise.imp_of_mem (fun {e e'} he he' ne z => ne (inj _ _ (form e he) (form e' he') z)) (nodup_of nd))
  have := nodup_le N _ nd2 fun z hz => by
    obtain ⟨e, he, rfl⟩ := List.mem_map.mp hz
    exact hc _ (form e he)
  rw [List.length_map] at this
  omega
theorem getD_rng {x : List Int} {n : Int} (h0 : 0 < n) (h : ∀ s ∈ x, 0 ≤ s ∧ s < n) (i : Nat) : 0 ≤ x.getD i 0 ∧ x.getD i 0 < n := by
  rw [List.getD_eq_getElem?_getD]
  cases e : x[i]? with
  | none => exact ⟨Int.le_refl _, h0⟩
  | some s => exact h s (List.mem_of_getElem? e)
theorem idL_rng {n : Nat} : ∀ s ∈ idL n, 0 ≤ s ∧ s < (n : Int) := fun s hs => by
  obtain ⟨i, h1, h2, rfl⟩ := gL_mem hs
  exact ⟨h1, h2⟩
/-- machines of at most four states -/
theorem few_small {ts : Ts} (w : Wf ts) (h4 : nS ts ≤ 4) : FewM ts := by
  refine few_of (fun x => x.length = nS ts ∧ ∀ s ∈ x, 0 ≤ s ∧ s < (nS ts : Int)) (fun x => x.getD 0 0 + 4 * x.getD 1 0 + 16 * x.getD 2 0 + 64 * x.getD 3 0) 256 (by decide) ⟨gL_len _ _, idL_rng⟩ (fun x d h hd => ⟨by rw [actL, List.length_map]; exact h.1, actL_rng w hd h.2⟩) (fun x h => ?_) (fun x y hx hy e => ?_)
  · have s1 := w.s1
    have b : ∀ i, 0 ≤ x.getD i 0 ∧ x.getD i 0 < 4 := fun i => by
      have := getD_rng (n := (nS ts : Int)) (by omega) h.2 i
      omega
    have b0 := b 0; have b1 := b 1; have b2 := b 2; have b3 := b 3
    show 0 ≤ x.getD 0 0 + 4 * x.getD 1 0 + 16 * x.getD 2 0 + 64 * x.getD 3 0 ∧ x.getD 0 0 + 4 * x.getD 1 0 + 16 * x.getD 2 0 + 64 * x.getD 3 0 < ((256 : Nat) : Int)
    omega
  · have s1 := w.s1
    have b : ∀ z : List Int, (∀ s ∈ z, 0 ≤ s ∧ s < (nS ts : Int)) → ∀ i, 0 ≤ z.getD i 0 ∧ z.getD i 0 < 4 := fun z h i => by
      have := getD_rng (n := (nS ts : Int)) (by omega) h i
      omega
    have x0 := b x hx.2 0; have x1 := b x hx.2 1; have x2 := b x hx.2 2; have x3 := b x hx.2 3
    have y0 := b y hy.2 0; have y1 := b y hy.2 1; have y2 := b y hy.2 2; have y3 := b y hy.2 3
    have e : x.getD 0 0 + 4 * x.getD 1 0 + 16 * x.getD 2 0 + 64 * x.getD 3 0 = y.getD 0 0 + 4 * y.getD 1 0 + 16 * y.getD 2 0 + 64 * y.getD 3 0 := e
    have d0 : x.getD 0 0 = y.getD 0 0 := by omega
    have d1 : x.getD 1 0 = y.getD 1 0 := by omega
    have d2 : x.getD 2 0 = y.getD 2 0 := by omega
    have d3 : x.getD 3 0 = y.getD 3 0 := by omega
    refine List.ext_getElem (hx.1.trans hy.1.symm) fun i h1 h2 => ?_
    have g : ∀ (z : List Int) (h : i < z.length), z.getD i 0 = z[i] := fun z h => by rw [List.getD_eq_getElem?_getD, List.getElem?_eq_getElem h]; rfl
    rw [← g x h1, ← g y h2]
    have hi : i < 4 := by rw [hx.1] at h1; omega
    rcases (show i = 0 ∨ i = 1 ∨ i = 2 ∨ i = 3 by omega) with rfl | rfl | rfl | rfl <;> assumption
/-- tables of one form -/
structure Gen (ts : Ts) (n : Nat) (bys : List Int) (G : Int → Int → Int) : Prop where
  e : ts = bys.map fun b => gL (G b) n
  b1 : 1 ≤ bys.length
  b8 : bys.length ≤ 8
  n1 : 1 ≤ n
  n12 : n ≤ 12
  rg : ∀ b ∈ bys, ∀ s : Int, 0 ≤ s → s < (n : Int) → 0 ≤ G b s ∧ G b s < (n : Int)
theorem Gen.len {ts : Ts} {n : Nat} {bys : List Int} {G : Int → Int → Int} (g : Gen ts n bys G) : ts.length = bys.length := by rw [g.e, List.length_map]
theorem Gen.nS {ts : Ts} {n : Nat} {bys : List Int} {G : Int → Int → Int} (g : Gen ts n bys G) : nS ts = n := by
  have hb := g.b1
  have e : ts[0]? = some (gL (G (bys[0]'(by omega))) n) := by rw [g.e, List.getElem?_map, List.getElem?_eq_getElem (by omega)]; rfl
  unfold K1.nS
  rw [e]
  exact gL_len _ _
theorem Gen.wf {ts : Ts} {n : Nat} {bys : List Int} {G : Int → Int → Int} (g : Gen ts n bys G) : Wf ts := by
  have h1 := g.b1; have h8 := g.b8; have n1 := g.n1; have n12 := g.n12; have l := g.len; have e := g.nS
  refine ⟨by omega, by omega, by omega, by omega, fun t ht => ?_⟩
  rw [g.e] at ht
  obtain ⟨b, hb, rfl⟩ := List.mem_map.mp ht
  refine ⟨by rw [gL_len, e], fun i hi => ?_⟩
  obtain ⟨s, s0, s1, rfl⟩ := gL_mem hi
  rw [e]
  exact g.rg b hb s s0 s1
theorem Gen.stp {ts : Ts} {n : Nat} {bys : List Int} {G : Int → Int → Int} (g : Gen ts n bys G) {d : Int} (hd : 0 ≤ d ∧ d < (ts.length : Int)) : ∃ b ∈ bys, ∀ s : Int, 0 ≤ s → s < (n : Int) → stp ts s d = G b s := by
  have l := g.len
  have h : d.toNat < bys.length := by omega
  refine ⟨bys[d.toNat], List.getElem_mem h, fun s s0 s1 => ?_⟩
  unfold K1.stp
  rw [g.e, List.getElem?_map, List.getElem?_eq_getElem h]
  show ((gL (G bys[d.toNat]) n)[s.toNat]?).getD 0 = _
  rw [gL_at (by omega)]
  show G bys[d.toNat] ((s.toNat : Nat) : Int) = _
  rw [show ((s.toNat : Nat) : Int) = s by omega]
theorem few_gen {ts : Ts} {n : Nat} {bys : List Int} {G : Int → Int → Int} (g : Gen ts n bys G) (M : Int → Int → Int) (Pc : Int → Prop) (c0 : Int) (h0 : Pc c0) (hid : ∀ s, 0 ≤ s → s < (n : Int) → M c0 s = s) (hr : ∀ c, Pc c → ∀ s, 0 ≤ s → s < (n : Int) → 0 ≤ M c s ∧ M c s < (n : Int))
    (hs : ∀ b ∈ bys, ∀ c, Pc c → ∃ c', Pc c' ∧ ∀ s, 0 ≤ s → s < (n : Int) → G b (M c s) = M c' s)
    (inj : ∀ c c', Pc c → Pc c' → M c 0 = M c' 0 → (2 ≤ n → M c 1 = M c' 1) → ∀ s, 0 ≤ s → s < (n : Int) → M c s = M c' s) : FewM ts := by
  have n1 := g.n1; have n12 := g.n12
  refine few_of (fun x => ∃ c, Pc c ∧ x = gL (M c) n) (fun x => x.getD 0 0 * 12 + x.getD 1 0) 144 (by decide) ⟨c0, h0, ?_⟩ (fun x d ⟨c, hc, e⟩ hd => ?_) (fun x ⟨c, hc, e⟩ => ?_) (fun x y ⟨c, hc, e⟩ ⟨c', hc', e'⟩ z => ?_)
  · rw [g.nS]
    exact gL_congr fun i i0 i1 => (hid i i0 i1).symm
  · obtain ⟨b, hb, hst⟩ := g.stp hd
    obtain ⟨c', hc', h⟩ := hs b hb c hc
    refine ⟨c', hc', ?_⟩
    subst e
    unfold actL gL
    rw [List.map_map]
    refine List.map_congr_left fun i hi => ?_
    have hi' := List.mem_range.mp hi
    have r := hr c hc (i : Int) (by omega) (by omega)
    show K1.stp ts (M c (i : Int)) d = M c' (i : Int)
    rw [hst _ r.1 r.2]
    exact h _ (by omega) (by omega)
  · subst e
    have b : ∀ i, 0 ≤ (gL (M c) n).getD i 0 ∧ (gL (M c) n).getD i 0 < 12 := fun i => by
      have := getD_rng (x := gL (M c) n) (n := (n : Int)) (by omega) (fun s hs => by
        obtain ⟨j, j0, j1, rfl⟩ := gL_mem hs
        exact hr c hc j j0 j1) i
      omega
    have b0 := b 0; have b1 := b 1
    show 0 ≤ (gL (M c) n).getD 0 0 * 12 + (gL (M c) n).getD 1 0 ∧ (gL (M c) n).getD 0 0 * 12 + (gL (M c) n).getD 1 0 < ((144 : Nat) : Int)
    omega
  · subst e
    subst e'
    have b : ∀ c, Pc c → ∀ i, 0 ≤ (gL (M c) n).getD i 0 ∧ (gL (M c) n).getD i 0 < 12 := fun c hc i => by
      have := getD_rng (x := gL (M c) n) (n := (n : Int)) (by omega) (fun s hs => by
        obtain ⟨j, j0, j1, rfl⟩ := gL_mem hs
        exact hr c hc j j0 j1) i
      omega
    have b0 := b c hc 0; have b1 := b c hc 1; have b0' := b c' hc' 0; have b1' := b c' hc' 1
    have z : (gL (M c) n).getD 0 0 * 12 + (gL (M c) n).getD 1 0 = (gL (M c') n).getD 0 0 * 12 + (gL (M c') n).getD 1 0 := z
    have z0 : (gL (M c) n).getD 0 0 = (gL (M c') n).getD 0 0 := by omega
    have z1 : (gL (M c) n).getD 1 0 = (gL (M c') n).getD 1 0 := by omega
    have at_ : ∀ (c : Int) (i : Nat), i < n → (gL (M c) n).getD i 0 = M c (i : Int) := fun c i hi => by rw [List.getD_eq_getElem?_getD, gL_at hi]; rfl
    refine gL_congr (inj c c' hc hc' ?_ fun h2 => ?_)
    · have := (at_ c 0 (by omega)).symm.trans (z0.trans (at_ c' 0 (by omega)))
      simpa using this
    · have := (at_ c 1 (by omega)).symm.trans (z1.trans (at_ c' 1 (by omega)))
      simpa using this
/-- turns -/
theorem few_turn {ts : Ts} {n : Nat} {bys : List Int} (g : Gen ts n bys fun b s => (s + b) % (n : Int)) : FewM ts := by
  have n1 := g.n1
  refine few_gen g (fun c s => (s + c) % (n : Int)) (fun c => 0 ≤ c ∧ c < (n : Int)) 0 ⟨by omega, by omega⟩ (fun s s0 s1 => ?_) (fun c hc s s0 s1 => ⟨Int.emod_nonneg _ (by omega), Int.emod_lt_of_pos _ (by omega)⟩) (fun b hb c hc => ⟨(c + b) % (n : Int), ⟨Int.emod_nonneg _ (by omega), Int.emod_lt_of_pos _ (by omega)⟩, fun s s0 s1 => ?_⟩) (fun c c' hc hc' h _ => ?_)
  · show (s + 0) % (n : Int) = s
    rw [Int.add_zero, Int.emod_eq_of_lt s0 s1]
  · show ((s + c) % (n : Int) + b) % (n : Int) = (s + (c + b) % (n : Int)) % (n : Int)
    rw [Int.emod_add_emod, Int.add_emod_emod, Int.add_assoc]
  · have h : (0 + c) % (n : Int) = (0 + c') % (n : Int) := h
    rw [Int.zero_add, Int.zero_add, Int.emod_eq_of_lt hc.1 hc.2, Int.emod_eq_of_lt hc'.1 hc'.2] at h
    subst h
    exact fun s _ _ => rfl
/-- stops -/
theorem few_stop {ts : Ts} {n : Nat} {bys : List Int} (g : Gen ts n bys fun b s => if s + b < (n : Int) - 1 then s + b else (n : Int) - 1) (hb0 : ∀ b ∈ bys, 0 ≤ b) : FewM ts := by
  have n1 := g.n1
  refine few_gen g (fun c s => if s + c < (n : Int) - 1 then s + c else (n : Int) - 1) (fun c => 0 ≤ c ∧ c < (n : Int)) 0 ⟨by omega, by omega⟩ (fun s s0 s1 => ?_) (fun c hc s s0 s1 => ?_) (fun b hb c hc => ⟨if c + b < (n : Int) - 1 then c + b else (n : Int) - 1, ?_, fun s s0 s1 => ?_⟩) (fun c c' hc hc' h _ => ?_)
  · show (if s + 0 < (n : Int) - 1 then s + 0 else (n : Int) - 1) = s
    split <;> omega
  · show 0 ≤ (if s + c < (n : Int) - 1 then s + c else (n : Int) - 1) ∧ (if s + c < (n : Int) - 1 then s + c else (n : Int) - 1) < (n : Int)
    split <;> omega
  · have := hb0 b hb
    split <;> omega
  · have := hb0 b hb
    show (if (if s + c < (n : Int) - 1 then s + c else (n : Int) - 1) + b < (n : Int) - 1 then (if s + c < (n : Int) - 1 then s + c else (n : Int) - 1) + b else (n : Int) - 1) = (if s + (if c + b < (n : Int) - 1 then c + b else (n : Int) - 1) < (n : Int) - 1 then s + (if c + b < (n : Int) - 1 then c + b else (n : Int) - 1) else (n : Int) - 1)
    by_cases h1 : s + c < (n : Int) - 1
    · rw [if_pos h1]
      by_cases h2 : c + b < (n : Int) - 1
      · rw [if_pos h2]
        by_cases h3 : s + c + b < (n : Int) - 1
        · rw [if_pos h3, if_pos (by omega)]; omega
        · rw [if_neg h3, if_neg (by omega)]
      · rw [if_neg h2, if_neg (by omega), if_neg (by omega)]
    · rw [if_neg h1]
      by_cases h2 : c + b < (n : Int) - 1
      · rw [if_pos h2, if_neg (show ¬ (s + (c + b) < (n : Int) - 1) by omega)]
        split <;> omega
      · rw [if_neg h2, if_neg (show ¬ (s + ((n : Int) - 1) < (n : Int) - 1) by omega)]
        split <;> omega
  · have h : (if 0 + c < (n : Int) - 1 then 0 + c else (n : Int) - 1) = (if 0 + c' < (n : Int) - 1 then 0 + c' else (n : Int) - 1) := h
    have e : c = c' := by
      by_cases h1 : 0 + c < (n : Int) - 1 <;> by_cases h2 : 0 + c' < (n : Int) - 1
      · rw [if_pos h1, if_pos h2] at h; omega
      · rw [if_pos h1, if_neg h2] at h; omega
      · rw [if_neg h1, if_pos h2] at h; omega
      · omega
    subst e
    exact fun s _ _ => rfl
/-- the greater of two -/
theorem few_max {ts : Ts} {n : Nat} {bys : List Int} (g : Gen ts n bys fun b s => if s < b then b else s) (hb0 : ∀ b ∈ bys, 0 ≤ b ∧ b < (n : Int)) : FewM ts := by
  have n1 := g.n1
  refine few_gen g (fun c s => if s < c then c else s) (fun c => 0 ≤ c ∧ c < (n : Int)) 0 ⟨by omega, by omega⟩ (fun s s0 s1 => ?_) (fun c hc s s0 s1 => ?_) (fun b hb c hc => ⟨if c < b then b else c, ?_, fun s s0 s1 => ?_⟩) (fun c c' hc hc' h _ => ?_)
  · show (if s < 0 then 0 else s) = s
    rw [if_neg (by omega)]
  · show 0 ≤ (if s < c then c else s) ∧ (if s < c then c else s) < (n : Int)
    split <;> omega
  · have := hb0 b hb
    split <;> omega
  · have := hb0 b hb
    show (if (if s < c then c else s) < b then b else (if s < c then c else s)) = (if s < (if c < b then b else c) then (if c < b then b else c) else s)
    by_cases h1 : s < c <;> by_cases h2 : c < b
    · rw [if_pos h1, if_pos h2, if_pos (by omega)]
    · rw [if_pos h1, if_neg h2, if_pos h1]
    · rw [if_neg h1, if_pos h2]
    · rw [if_neg h1, if_neg h2, if_neg h1, if_neg (by omega)]
  · have h : (if 0 < c then c else 0) = (if 0 < c' then c' else 0) := h
    have e : c = c' := by
      by_cases h1 : 0 < c <;> by_cases h2 : 0 < c'
      · rw [if_pos h1, if_pos h2] at h; exact h
      · rw [if_pos h1, if_neg h2] at h; omega
      · rw [if_neg h1, if_pos h2] at h; omega
      · omega
    subst e
    exact fun s _ _ => rfl
/-- resets -/
theorem few_const {ts : Ts} {n : Nat} {bys : List Int} (g : Gen ts n bys fun b _ => b) : FewM ts := by
  have n1 := g.n1
  have hb0 : ∀ b ∈ bys, 0 ≤ b ∧ b < (n : Int) := fun b hb => g.rg b hb 0 (Int.le_refl _) (by omega)
  refine few_gen g (fun c s => if c < 0 then s else c) (fun c => -1 ≤ c ∧ c < (n : Int)) (-1) ⟨by omega, by omega⟩ (fun s s0 s1 => rfl) (fun c hc s s0 s1 => ?_) (fun b hb c hc => ⟨b, ⟨by have := hb0 b hb; omega, (hb0 b hb).2⟩, fun s s0 s1 => ?_⟩) (fun c c' hc hc' h h2 => ?_)
  · show 0 ≤ (if c < 0 then s else c) ∧ (if c < 0 then s else c) < (n : Int)
    split <;> omega
  · have := hb0 b hb
    show b = (if b < 0 then s else b)
    rw [if_neg (by omega)]
  · intro s s0 s1
    have h : (if c < 0 then (0 : Int) else c) = (if c' < 0 then 0 else c') := h
    have h2 : 2 ≤ n → (if c < 0 then (1 : Int) else c) = (if c' < 0 then 1 else c') := h2
    show (if c < 0 then s else c) = (if c' < 0 then s else c')
    by_cases e1 : c < 0 <;> by_cases e2 : c' < 0
    · rw [if_pos e1, if_pos e2]
    · rw [if_pos e1, if_neg e2] at h h2 ⊢
      by_cases e3 : 2 ≤ n
      · have := h2 e3; omega
      · omega
    · rw [if_neg e1, if_pos e2] at h h2 ⊢
      by_cases e3 : 2 ≤ n
      · have := h2 e3; omega
      · omega
    · rw [if_neg e1, if_neg e2] at h ⊢
      exact h
end K1
namespace K1
open PySem PySem.Spec PyProof.Rows L2
/-- tables at a list -/
def TabL (H : Hp) (p : Addr) (ts : List (List V)) : Prop := ∃ as : List Addr, H p = some (.lst (as.map V.ref)) ∧ as.length = ts.length ∧ ∀ (i : Nat) a t, as[i]? = some a → ts[i]? = some t → H a = some (.tup t)
theorem TabL.same {H H' : Hp} {ta : Addr} {ts : List (List V)} (h : TabL H ta ts) (s : Same H H') : TabL H' ta ts := let ⟨as, h1, h2, h3⟩ := h; ⟨as, s _ _ h1, h2, fun i a t e1 e2 => s _ _ (h3 i a t e1 e2)⟩
theorem TabL.bx {b : Addr} {H H' : Hp} {p : Addr} {ts : List (List V)} (h : TabL H p ts) (n : p ≠ b) (hb : BoxO H b) (a : Bx b H H') : TabL H' p ts :=
  let ⟨as, h1, h2, h3⟩ := h
  ⟨as, a.2 _ _ h1 n, h2, fun i c t e1 e2 => a.tup hb (h3 i c t e1 e2)⟩
theorem tabL_snoc {H : Hp} {p l : Addr} {as : List Addr} {rs : Ts} {t : List Int} (h1 : H p = some (.lst (as.map V.ref))) (h2 : as.length = (vts rs).length) (h3 : ∀ (i : Nat) a t, as[i]? = some a → (vts rs)[i]? = some t → H a = some (.tup t)) (hl : H l = none) :
    TabL (upd (upd H l (.tup (vrow t))) p (.lst (as.map V.ref ++ [.ref l]))) p (vts (rs ++ [t])) := by
  have las : as.length = rs.length := by rw [h2, vts, List.length_map]
  have sl := same_new (o := HO.tup (vrow t)) hl
  refine ⟨as ++ [l], by rw [upd_same, List.map_append]; rfl, by simp only [vts, List.length_append, List.length_map, las]; rfl, ?_⟩
  intro j a u e1 e2
  have hne : ∀ (c : Addr) (u : List V), H c = some (.tup u) → c ≠ p := fun c u e z => by rw [z, h1] at e; cases e
  simp only [vts, List.map_append] at e2
  by_cases hj : j < as.length
  · rw [List.getElem?_append_left hj] at e1
    rw [List.getElem?_append_left (by rw [List.length_map, ← las]; exact hj)] at e2
    have z := h3 j a u e1 e2
    rw [upd_ne (hne a u z)]
    exact sl _ _ z
  · have ej : j = as.length := by
      have := (List.getElem?_eq_some_iff.mp e1).1
      rw [List.length_append] at this
      simp only [List.length_cons, List.length_nil] at this
      omega
    rw [ej, List.getElem?_append_right (Nat.le_refl _), Nat.sub_self] at e1
    rw [ej, List.getElem?_append_right (by rw [List.length_map, las]; omega), List.length_map, las, Nat.sub_self] at e2
    obtain rfl : l = a := Option.some.inj e1
    obtain rfl : vrow t = u := Option.some.inj e2
    rw [upd_ne (fun z => by rw [z, h1] at hl; cases hl), upd_same]
theorem rowPut {H6 H8 : Hp} {D1 l : Addr} {rs : Ts} {row : List Int} (s : Same H6 H8) (hD : H6 D1 = none) (tl : TabL H8 D1 (vts rs)) (hl : H8 l = none) (hr : rs.length ≤ 100) :
    ∃ acc, (upd H8 l (.tup (vrow row))) D1 = some (.lst acc) ∧ acc.length < sizeLine ∧ Same H6 (upd (upd H8 l (.tup (vrow row))) D1 (.lst (acc ++ [.ref l]))) ∧ TabL (upd (upd H8 l (.tup (vrow row))) D1 (.lst (acc ++ [.ref l]))) D1 (vts (rs ++ [row])) := by
  obtain ⟨as, a1, a2, a3⟩ := tl
  have las : as.length = rs.length := by rw [a2, vts, List.length_map]
  refine ⟨_, (same_new hl) _ _ a1, by rw [List.length_map, las, sizeLine_eq]; omega, fun c o e => ?_, tabL_snoc a1 a2 a3 hl⟩
  rw [upd_ne (ne_of_none e hD)]
  exact (same_new hl) _ _ (s _ _ e)
/-- a row that a comprehension makes -/
def Gp (H1 : Hp) (D : Addr) (g : Int → Int) (k : Nat) (H' : Hp) : Prop := Same H1 H' ∧ H' D = some (.lst (vrow (gL g k)))
theorem Gp.nil {H1 : Hp} {D : Addr} {g : Int → Int} (hD : H1 D = none) : Gp H1 D g 0 (upd H1 D (.lst [])) := ⟨same_new hD, upd_same⟩
theorem Gp.put {H1 H' : Hp} {D : Addr} {g : Int → Int} {k : Nat} {v : Int} (a : Gp H1 D g k H') (hD : H1 D = none) (hv : v = g (k : Int)) (hk : k < 1000) : ∃ acc, H' D = some (.lst acc) ∧ acc.length < sizeLine ∧ Gp H1 D g (k + 1) (upd H' D (.lst (acc ++ [.int v]))) := by
  obtain ⟨s, h⟩ := a
  refine ⟨_, h, by rw [vrow, List.length_map, gL_len, sizeLine_eq]; omega, fun c o e => ?_, ?_⟩
  · rw [upd_ne (ne_of_none e hD)]; exact s _ _ e
  · rw [upd_same, gL_succ, hv, vrow, vrow, List.map_append]; rfl
/-- the same, by a source that gives numbers below m -/
def Rg (b D : Addr) (H1 : Hp) (m : Int) (i : Nat) (H' : Hp) : Prop := ∃ ns : List Int, ns.length = i ∧ (∀ x ∈ ns, 0 ≤ x ∧ x < m) ∧ Bx b H1 H' ∧ H' D = some (.lst (vrow ns))
theorem Rg.nil {b D : Addr} {H1 : Hp} {m : Int} (hb : BoxO H1 b) (hD : H1 D = none) : Rg b D H1 m 0 (upd H1 D (.lst [])) := ⟨[], rfl, fun x hx => absurd hx (by simp), (Bx.refl hb).new hD, upd_same⟩
theorem Rg.box {b D : Addr} {H1 H' : Hp} {m : Int} {i : Nat} (g : Rg b D H1 m i H') : BoxO H' b := let ⟨_, _, _, a, _⟩ := g; a.1
theorem Rg.put {b D : Addr} {H1 H' H2 : Hp} {m x : Int} {i : Nat} (g : Rg b D H1 m i H') (hb : BoxO H1 b) (hD : H1 D = none) (a : Bx b H' H2) (hx : 0 ≤ x ∧ x < m) (hi : i < 1000) : ∃ acc, H2 D = some (.lst acc) ∧ acc.length < sizeLine ∧ Rg b D H1 m (i + 1) (upd H2 D (.lst (acc ++ [.int x]))) := by
  obtain ⟨ns, h1, h2, h3, h4⟩ := g
  have nD : D ≠ b := (Bx.refl hb).ne hD
  refine ⟨vrow ns, a.2 _ _ h4 nD, by rw [vrow, List.length_map, h1, sizeLine_eq]; omega, ns ++ [x], by rw [List.length_append, h1]; rfl, fun y hy => ?_, (h3.trans a).put hD nD, by rw [upd_same]; simp only [vrow, List.map_append]; rfl⟩
  rcases List.mem_append.mp hy with z | z
  · exact h2 y z
  · rw [List.mem_singleton.mp z]; exact hx
theorem inV_st {st : Int} (h : inV (.int st) [.int 0, .int 2, .int 3, .int 4] = true) : st = 0 ∨ st = 2 ∨ st = 3 ∨ st = 4 := by
  simp [inV, eqV] at h
  omega
theorem vrow_at {ns : List Int} {i : Nat} {x : V} (h : (vrow ns)[i]? = some x) : ∃ z, ns[i]? = some z ∧ x = V.int z := by
  rw [vrow, List.getElem?_map] at h
  cases e : ns[i]? with
  | none => rw [e] at h; cases h
  | some z => rw [e] at h; exact ⟨z, rfl, (Option.some.inj h).symm⟩
theorem pe_imp {X : Cx} {e : Expr} {t t' : TE} (h : PE X e t) (i : ∀ σ H Q, t' σ H Q → t σ H Q) : PE X e t' := ⟨fun pins s σ H Q I q => h.run pins s σ H Q I (i _ _ _ q)⟩
/-- how many deeds -/
def tCnt : TE := fun σ H Q => ∃ (b : Addr) (st n : Int), σ[0]? = some (some (.ref b)) ∧ σ[2]? = some (some (.int st)) ∧ σ[3]? = some (some (.int n)) ∧ BoxO H b ∧ ∀ (cnt : Int) H', 1 ≤ cnt → cnt ≤ 8 → Bx b H H' → Q (.int cnt) H'
def spTabs : Sp := fun vs H Q _ => ∃ (b : Addr), vs = [.ref b, .int 4] ∧ BoxO H b ∧ ∀ p ts H', Bx b H H' → H p = none → p ≠ b → TabL H' p (vts ts) → Wf ts → FewM ts → Q (.ref p) H'
section
variable {P : Program} {w : World} {K : PySem.W.Frag} {mg : Str → Option Value} {base : Heap}
abbrev nTb : List Str := ["_law_box_here", "_law_most", "_law_style", "_law_states", "_law_by", "_law_found", "_law_deed", "_law_other", "_law_s"]
theorem scTb : FnScope nTb ["_law_box_here", "_law_most"] (defScope sTabs) := ⟨rfl, rfl, rfl, by decide +kernel, rfl, by decide +kernel, by decide +kernel⟩
theorem ok_tabs {f fT fP : Addr} {fd fdT fdP : FuncData} (D : Df K mg "_law_tables" sTabs ["_law_box_here", "_law_most"] f fd) (DT : Df K mg "_law_take" sTake ["_law_box_here", "_law_many"] fT fdT) (DP : Df K mg "_law_pick" sPick ["_law_box_here", "_law_some"] fP fdP) (B : Bt mg)
    (GT : FnOk P w K mg base CX0 1 fT fdT ["_law_box_here", "_law_many"] spTake) (GP : FnOk P w K mg base CX0 2 fP fdP ["_law_box_here", "_law_some"] spPick) : FnOk P w K mg base CX0 3 f fd ["_law_box_here", "_law_most"] spTabs := by
  refine D.F.ok scTb (fun vs H Q E h => ?_) (fun cdv A outer s H vs Q E hr h => ?_)
  · obtain ⟨b, rfl, _⟩ := h
    rfl
  · obtain ⟨b, rfl, hb, q⟩ := h
    have r1 := hr.mono (show 1 ≤ 2 by decide)
    have r2 := hr
    refine ⟨_, pss_cons (ps_asg (pe_tup (pa_cons (pc DT GT r1 pass0 (pa_cons (pv 0) (pa_cons pe_int pa_nil))) (pa_cons (pe_op op_add pe_int (pc DT GT r1 pass0 (pa_cons (pv 0) (pa_cons (pv 1) pa_nil)))) pa_nil))) (pg_tup rfl (pgs_cons (pg_name (i := 2) scTb.nd rfl (.inl rfl)) (pgs_cons (pg_name (i := 3) scTb.nd rfl (.inr rfl)) pgs_nil))))
      (pss_cons (ps_if (PW.pt (pw_and (pt_cmpR op_in_seq (pv 2) (pe_tup (pa_cons pe_int (pa_cons pe_int (pa_cons pe_int (pa_cons pe_int pa_nil))))) rfl) (pw_and1 (pt_cmpR op_eq (pc DT GT r1 pass0 (pa_cons (pv 0) (pa_cons pe_int pa_nil))) pe_int (nomark _))))) (pss_one (ps_set (i := 3) scTb.nd rfl (.inr rfl) (pe_op op_add pe_int (pc DT GT r1 pass0 (pa_cons (pv 0) (pa_cons pe_int pa_nil)))))) pss_nil)
      (pss_cons (ps_if (pt_cmpR op_eq (pv 2) pe_int (nomark _)) (pss_one (ps_ret (pe_lc (own := [("_law_by", 4)]) (g := gName 4) (tt := tYes) rfl scTb.nd (pi_list (pc DP GP r2 pass0 (pa_cons (pv 0) (pa_cons (pe_lst (pa_cons (pe_lst (pa_cons pe_int pa_nil)) (pa_cons (pe_lst (pa_cons pe_int (pa_cons pe_int pa_nil))) (pa_cons (pe_lst (pa_cons pe_int (pa_cons pe_int pa_nil))) (pa_cons (pe_lst (pa_cons pe_int (pa_cons pe_int pa_nil))) pa_nil))))) pa_nil)))) (blkOk_by (N := nTb) (sc := defScope sTabs) (by decide +kernel)) (fun _ _ _ _ _ => pg_name (i := 4) scTb.nd rfl (Or.inr rfl)) (fun _ _ _ _ _ => pts_nil)
            (fun _ _ _ _ _ => pe_callTy (ctup (K := K) rfl) (by rfl) B.tuple PyProof.Rows.boot_tuple (pa_cons (pe_lc (own := [("_law_s", 8)]) (g := gName 8) (tt := tYes) rfl scTb.nd (pi_range1 (by rfl) B.range (pa_cons (pv 3) pa_nil)) (blkOk_by (by rfl)) (fun _ _ _ _ _ => pg_name (i := 8) scTb.nd rfl (Or.inl rfl)) (fun _ _ _ _ _ => pts_nil)
              (fun _ _ _ _ _ => pe_op op_mod (pe_callTy call_int1 (by rfl) B.int PyProof.Rows.boot_int (pa_cons (pe_op op_add (pv 8) (pv 4)) pa_nil)) (pv 3))) pa_nil))))) pss_nil)
      (pss_cons (ps_if (PW.pt (pw_and (pt_cmpR op_eq (pv 2) pe_int (nomark _)) (pw_and1 (pt_cmpR op_ge (pv 1) pe_int (nomark _))))) (pss_one (ps_ret (pc DP GP r2 pass0 (pa_cons (pv 0) (pa_cons (pe_lst (pa_cons (pe_lst (pa_cons (pe_tup (pa_cons pe_int (pa_cons pe_int (pa_cons pe_int (pa_cons pe_int pa_nil))))) (pa_cons (pe_tup (pa_cons pe_int (pa_cons pe_int (pa_cons pe_int (pa_cons pe_int pa_nil))))) pa_nil))) (pa_cons (pe_lst (pa_cons (pe_tup (pa_cons pe_int (pa_cons pe_int (pa_cons pe_int (pa_cons pe_int pa_nil))))) (pa_cons (pe_tup (pa_cons pe_int (pa_cons pe_int (pa_cons pe_int (pa_cons pe_int pa_nil))))) pa_nil))) (pa_cons (pe_lst (pa_cons (pe_tup (pa_cons pe_int (pa_cons pe_int (pa_cons pe_int (pa_cons pe_int pa_nil))))) (pa_cons (pe_tup (pa_cons pe_int (pa_cons pe_int (pa_cons pe_int (pa_cons pe_int pa_nil))))) pa_nil))) (pa_cons (pe_lst (pa_cons (pe_tup (pa_cons pe_int (pa_cons pe_int (pa_cons pe_int (pa_cons pe_int pa_nil))))) (pa_cons (pe_tup (pa_cons pe_int (pa_cons pe_int (pa_cons pe_int (pa_cons pe_int pa_nil))))) pa_nil))) pa_nil))))) pa_nil))))) pss_nil)
      (pss_cons (ps_if (pt_cmpR op_eq (pv 2) pe_int (nomark _)) (pss_one (ps_ret (pe_lc (own := [("_law_by", 4)]) (g := gName 4) (tt := tYes) rfl scTb.nd (pi_tup (pe_tup (pa_cons pe_int (pa_cons (pe_op op_add pe_int (pc DT GT r1 pass0 (pa_cons (pv 0) (pa_cons pe_int pa_nil)))) pa_nil)))) (blkOk_by (N := nTb) (sc := defScope sTabs) (by decide +kernel)) (fun _ _ _ _ _ => pg_name (i := 4) scTb.nd rfl (Or.inr rfl)) (fun _ _ _ _ _ => pts_nil)
            (fun _ _ _ _ _ => pe_callTy (ctup (K := K) rfl) (by rfl) B.tuple PyProof.Rows.boot_tuple (pa_cons (pe_lc (own := [("_law_s", 8)]) (g := gName 8) (tt := tYes) rfl scTb.nd (pi_range1 (by rfl) B.range (pa_cons (pv 3) pa_nil)) (blkOk_by (by rfl)) (fun _ _ _ _ _ => pg_name (i := 8) scTb.nd rfl (Or.inl rfl)) (fun _ _ _ _ _ => pts_nil)
              (fun _ _ _ _ _ => pe_callB (call_min2 rfl) (by rfl) B.min (by decide +kernel) (pa_cons (pe_op op_sub (pv 3) pe_int) (pa_cons (pe_op op_add (pv 8) (pv 4)) pa_nil)))) pa_nil))))) pss_nil)
      (pss_cons (ps_if (pt_cmpR op_eq (pv 2) pe_int (nomark _)) (pss_one (ps_ret (pe_lc (own := [("_law_by", 4)]) (g := gName 4) (tt := tYes) rfl scTb.nd (pi_range1 (by rfl) B.range (pa_cons (pe_callB (call_min2 rfl) (by rfl) B.min (by decide +kernel) (pa_cons (pv 3) (pa_cons pe_int pa_nil))) pa_nil)) (blkOk_by (N := nTb) (sc := defScope sTabs) (by decide +kernel)) (fun _ _ _ _ _ => pg_name (i := 4) scTb.nd rfl (Or.inr rfl)) (fun _ _ _ _ _ => pts_nil)
            (fun _ _ _ _ _ => pe_callTy (ctup (K := K) rfl) (by rfl) B.tuple PyProof.Rows.boot_tuple (pa_cons (pe_lc (own := [("_law_s", 8)]) (g := gName 8) (tt := tYes) rfl scTb.nd (pi_range1 (by rfl) B.range (pa_cons (pv 3) pa_nil)) (blkOk_by (by rfl)) (fun _ _ _ _ _ => pg_name (i := 8) scTb.nd rfl (Or.inl rfl)) (fun _ _ _ _ _ => pts_nil)
              (fun _ _ _ _ _ => pe_callB (call_max2 rfl) (by rfl) B.max (by decide +kernel) (pa_cons (pv 8) (pa_cons (pv 4) pa_nil)))) pa_nil))))) pss_nil)
      (pss_cons (ps_set (i := 5) scTb.nd rfl (.inl rfl) (pe_lst pa_nil))
      (pss_cons (ps_for PassesOwn.never rfl (pi_range1 (by rfl) B.range (pa_cons (pe_imp (t' := tCnt) (pe_ifExp (PW.pt (pw_and (pt_cmpR op_eq (pv 2) pe_int (nomark _)) (pw_and1 (pt_cmpR op_gt (pv 3) pe_int (nomark _))))) pe_int (pe_op op_add pe_int (pc DT GT r1 pass0 (pa_cons (pv 0) (pa_cons pe_int pa_nil))))) (fun σ H Q ⟨b, st, n, h0, h2, h3, bo, q⟩ => ⟨_, h2, rfl, _, rfl, ifD (fun _ => ⟨_, h3, _, _, rfl, rfl, _, rfl, ifD (fun _ => q 8 H (by decide) (by decide) (Bx.refl bo)) fun _ => ⟨_, h0, b, 2, rfl, bo, by decide, by decide, fun u H6 u0 u1 bx6 => ⟨_, _, rfl, rfl, q (1 + u) H6 (by omega) (by omega) bx6⟩⟩⟩) fun _ => iteF ⟨_, h0, b, 2, rfl, bo, by decide, by decide, fun u H6 u0 u1 bx6 => ⟨_, _, rfl, rfl, q (1 + u) H6 (by omega) (by omega) bx6⟩⟩⟩)) pa_nil)) (pg_name (i := 6) scTb.nd rfl (.inl rfl))
        (pss_cons (ps_asg (pe_tup (pa_cons (pc DT GT r1 pass0 (pa_cons (pv 0) (pa_cons (pv 3) pa_nil))) (pa_cons (pc DT GT r1 pass0 (pa_cons (pv 0) (pa_cons (pv 3) pa_nil))) pa_nil))) (pg_tup rfl (pgs_cons (pg_name (i := 4) scTb.nd rfl (.inr rfl)) (pgs_cons (pg_name (i := 7) scTb.nd rfl (.inr rfl)) pgs_nil))))
        (pss_one (ps_if (pt_cmpR op_eq (pv 2) pe_int (nomark _)) (pss_one (ps_expr (pe_bm PySem.F.plainAttrs_list PySem.F.slot_list_append PySem.F.type_list_append mt_append (pv 5) (pa_cons (pe_callTy call_tuple_of (by rfl) B.tuple PyProof.Rows.boot_tuple (pa_cons (pe_lc (own := [("_law_s", 8)]) (g := gName 8) (tt := tYes) rfl scTb.nd (pi_range1 (by rfl) B.range (pa_cons (pv 3) pa_nil)) (blkOk_by (N := nTb) (sc := defScope sTabs) (by decide +kernel)) (fun _ _ _ _ _ => pg_name (i := 8) scTb.nd rfl (Or.inl rfl)) (fun _ _ _ _ _ => pts_nil)
              (fun _ _ _ _ _ => pv 4)) pa_nil)) pa_nil)))) (pss_one (ps_if (pt_cmpR op_eq (pv 2) pe_int (nomark _)) (pss_one (ps_expr (pe_bm PySem.F.plainAttrs_list PySem.F.slot_list_append PySem.F.type_list_append mt_append (pv 5) (pa_cons (pe_callTy call_tuple_of (by rfl) B.tuple PyProof.Rows.boot_tuple (pa_cons (pe_lc (own := [("_law_s", 8)]) (g := gName 8) (tt := tYes) rfl scTb.nd (pi_range1 (by rfl) B.range (pa_cons (pv 3) pa_nil)) (blkOk_by (N := nTb) (sc := defScope sTabs) (by decide +kernel)) (fun _ _ _ _ _ => pg_name (i := 8) scTb.nd rfl (Or.inl rfl)) (fun _ _ _ _ _ => pts_nil)
              (fun _ _ _ _ _ => pe_ifExp (pt_cmpR op_eq (pv 8) (pv 4) (nomark _)) (pv 7) (pe_ifExp (pt_cmpR op_eq (pv 8) (pv 7) (nomark _)) (pv 4) (pv 8)))) pa_nil)) pa_nil)))) (pss_one (ps_expr (pe_bm PySem.F.plainAttrs_list PySem.F.slot_list_append PySem.F.type_list_append mt_append (pv 5) (pa_cons (pe_callTy call_tuple_of (by rfl) B.tuple PyProof.Rows.boot_tuple (pa_cons (pe_lc (own := [("_law_s", 8)]) (g := gName 8) (tt := tYes) rfl scTb.nd (pi_range1 (by rfl) B.range (pa_cons (pv 3) pa_nil)) (blkOk_by (N := nTb) (sc := defScope sTabs) (by decide +kernel)) (fun _ _ _ _ _ => pg_name (i := 8) scTb.nd rfl (Or.inl rfl)) (fun _ _ _ _ _ => pts_nil)
              (fun _ _ _ _ _ => pc DT GT r1 pass0 (pa_cons (pv 0) (pa_cons (pv 3) pa_nil)))) pa_nil)) pa_nil))))))))))
      (pss_one (ps_ret (pv 5)))))))))), ?_⟩
    refine ⟨_, rfl, b, 8, rfl, hb, by decide, by decide, fun st H1 st0 st1 bx1 => ?_⟩
    refine ⟨_, rfl, _, rfl, b, 4, rfl, bx1.1, by decide, by decide, fun y H2 y0 y1 bx2 => ⟨_, _, rfl, rfl, (by show 2 ≤ sizeLine; decide), fun T hT => ⟨T, _, rfl, SqT.of upd_same, rfl, _, _, rfl, _, _, rfl, rfl, ?_⟩⟩⟩
    have bx3 := (bx1.trans bx2).new (o := HO.tup [.int st, .int (1 + y)]) hT
    generalize upd H2 T (.tup [.int st, .int (1 + y)]) = H3 at bx3 ⊢
    -- how many states
    dsimp only
    refine seqG (fun σ H' => ∃ n : Nat, σ = [some (.ref b), some (.int 4), some (.int st), some (.int (n : Int)), none, none, none, none, none] ∧ Bx b H H' ∧ 1 ≤ n ∧ n ≤ 12 ∧ (n ≤ 4 ∨ st = 0 ∨ st = 2 ∨ st = 3 ∨ st = 4)) ?_ (fun k => ?_)
    · rintro σ H4 ⟨n, rfl, bx4, n1, n12, hst⟩
      have mk : ∀ (bys : List Int) (G : Int → Int → Int), 1 ≤ bys.length → bys.length ≤ 8 → (∀ b ∈ bys, ∀ s : Int, 0 ≤ s → s < (n : Int) → 0 ≤ G b s ∧ G b s < (n : Int)) → Gen (bys.map fun b => gL (G b) n) n bys G := fun bys G h1 h8 hr => ⟨rfl, h1, h8, n1, n12, hr⟩
      refine ⟨_, rfl, rfl, _, rfl, ifD (fun e => ?_) fun e => ?_⟩
      · -- turns
        refine ⟨_, rfl, (by show 1 ≤ sizeLine; decide), fun l0 hl0 => ⟨(by show 2 ≤ sizeLine; decide), fun l1 hl1 => ⟨(by show 2 ≤ sizeLine; decide), fun l2 hl2 => ⟨(by show 2 ≤ sizeLine; decide), fun l3 hl3 => ⟨(by show 4 ≤ sizeLine; decide), fun lo hlo => ?_⟩⟩⟩⟩⟩
        have b0 := bx4
        have nl0 : l0 ≠ b := b0.ne hl0
        have b1 := b0.new (o := HO.lst [.int 1]) hl0
        have nl1 : l1 ≠ b := b1.ne hl1
        have b2 := b1.new (o := HO.lst [.int 1, .int 2]) hl1
        have nl2 : l2 ≠ b := b2.ne hl2
        have b3 := b2.new (o := HO.lst [.int 2, .int 3]) hl2
        have nl3 : l3 ≠ b := b3.ne hl3
        have b4 := b3.new (o := HO.lst [.int 1, .int 1]) hl3
        have nlo : lo ≠ b := b4.ne hlo
        have b5 := b4.new (o := HO.lst [.ref l0, .ref l1, .ref l2, .ref l3]) hlo
        have gl0 := ((same_new (o := HO.lst [.ref l0, .ref l1, .ref l2, .ref l3]) hlo) _ _ ((same_new (o := HO.lst [.int 1, .int 1]) hl3) _ _ ((same_new (o := HO.lst [.int 2, .int 3]) hl2) _ _ ((same_new (o := HO.lst [.int 1, .int 2]) hl1) _ _ (upd_same : (upd H4 l0 (.lst [.int 1])) l0 = some (.lst [.int 1]))))))
        have gl1 := ((same_new (o := HO.lst [.ref l0, .ref l1, .ref l2, .ref l3]) hlo) _ _ ((same_new (o := HO.lst [.int 1, .int 1]) hl3) _ _ ((same_new (o := HO.lst [.int 2, .int 3]) hl2) _ _ (upd_same : (upd (upd H4 l0 (.lst [.int 1])) l1 (.lst [.int 1, .int 2])) l1 = some (.lst [.int 1, .int 2])))))
        have gl2 := ((same_new (o := HO.lst [.ref l0, .ref l1, .ref l2, .ref l3]) hlo) _ _ ((same_new (o := HO.lst [.int 1, .int 1]) hl3) _ _ (upd_same : (upd (upd (upd H4 l0 (.lst [.int 1])) l1 (.lst [.int 1, .int 2])) l2 (.lst [.int 2, .int 3])) l2 = some (.lst [.int 2, .int 3]))))
        have gl3 := ((same_new (o := HO.lst [.ref l0, .ref l1, .ref l2, .ref l3]) hlo) _ _ (upd_same : (upd (upd (upd (upd H4 l0 (.lst [.int 1])) l1 (.lst [.int 1, .int 2])) l2 (.lst [.int 2, .int 3])) l3 (.lst [.int 1, .int 1])) l3 = some (.lst [.int 1, .int 1])))
        have glo := (upd_same : (upd (upd (upd (upd (upd H4 l0 (.lst [.int 1])) l1 (.lst [.int 1, .int 2])) l2 (.lst [.int 2, .int 3])) l3 (.lst [.int 1, .int 1])) lo (.lst [.ref l0, .ref l1, .ref l2, .ref l3])) lo = some (.lst [.ref l0, .ref l1, .ref l2, .ref l3]))
        generalize upd (upd (upd (upd (upd H4 l0 (.lst [.int 1])) l1 (.lst [.int 1, .int 2])) l2 (.lst [.int 2, .int 3])) l3 (.lst [.int 1, .int 1])) lo (.lst [.ref l0, .ref l1, .ref l2, .ref l3]) = H9 at b5 gl0 gl1 gl2 gl3 glo ⊢
        refine ⟨b, lo, _, rfl, b5.1, glo, nlo, (by decide : 1 ≤ 4), (by decide : 4 ≤ 1000), fun i v H6 hv bx6 => ?_⟩
        obtain ⟨lb, bys, rfl, hlb, c1, c2⟩ : ∃ (lb : Addr) (bys : List Int), v = .ref lb ∧ H6 lb = some (.lst (vrow bys)) ∧ 1 ≤ bys.length ∧ bys.length ≤ 2 := by
          match i, hv with
          | 0, hv => cases hv; exact ⟨l0, [1], rfl, bx6.2 _ _ gl0 nl0, by decide, by decide⟩
          | 1, hv => cases hv; exact ⟨l1, [1, 2], rfl, bx6.2 _ _ gl1 nl1, by decide, by decide⟩
          | 2, hv => cases hv; exact ⟨l2, [2, 3], rfl, bx6.2 _ _ gl2 nl2, by decide, by decide⟩
          | 3, hv => cases hv; exact ⟨l3, [1, 1], rfl, bx6.2 _ _ gl3 nl3, by decide, by decide⟩
          | i + 4, hv => cases hv
        have bxA := b5.trans bx6
        have gen := mk bys (fun b s => (s + b) % (n : Int)) c1 (by omega) (fun b _ s s0 s1 => ⟨Int.emod_nonneg _ (by omega), Int.emod_lt_of_pos _ (by omega)⟩)
        refine ⟨lb, rfl, ⟨_, SqL.of hlb⟩, fun D1 hD1 => lc_list (K := K) (a := lb) (xs := vrow bys) (fun i H' => Same H6 H' ∧ TabL H' D1 (vts ((bys.take i).map fun b => gL ((fun b s => (s + b) % (n : Int)) b) n))) ⟨same_new hD1, [], upd_same, rfl, fun i a t h => by cases h⟩ (fun i H' _ ⟨s, _⟩ => SqL.of (s _ _ hlb)) ?_ ?_⟩
        · rintro i x H7 hx ⟨s7, tl⟩
          obtain ⟨z, hz, rfl⟩ := vrow_at hx
          have hil : i < bys.length := (List.getElem?_eq_some_iff.mp hz).1
          refine ⟨rfl, _, rfl, (n : Int), rfl, by omega, by omega, fun D2 hD2 => lc_range (Gp H7 D2 (fun s => (s + z) % (n : Int))) (Gp.nil hD2) ?_ ?_⟩
          · rintro k H8 hk g
            exact ⟨rfl, _, rfl, _, rfl, _, _, rfl, rfl, .inl ⟨_, rfl, _, rfl, _, _, rfl, rfl, by omega, g.put hD2 (by show (0 + (k : Int) + z) % (n : Int) = ((k : Int) + z) % (n : Int); rw [Int.zero_add]) (by omega)⟩⟩
          · rintro H8 ⟨s8, hD8⟩
            refine ⟨D2, _, rfl, .inl ⟨SqL.of hD8, fun l hl => ?_⟩⟩
            have tl8 := tl.same s8
            have e8 : ((n : Int)).toNat = n := by omega
            rw [e8]
            obtain ⟨acc, a1, a2, a3, a4⟩ := rowPut (row := gL (fun s => (s + z) % (n : Int)) n) (s7.trans s8) hD1 tl8 hl (by rw [List.length_map, List.length_take]; omega)
            refine ⟨acc, a1, a2, a3, ?_⟩
            rw [take_succ hz, List.map_append]
            exact a4
        · rintro H7 ⟨s7, tl⟩
          rw [vrow, List.length_map, List.take_length] at tl
          exact q D1 _ H7 (bxA.same s7) (bxA.free (bxA.ne hD1) hD1) (bxA.ne hD1) tl gen.wf (few_turn gen)
      · refine ⟨_, rfl, rfl, _, rfl, ifD (fun e1 => ⟨_, rfl, _, _, rfl, rfl, _, rfl, iteT ?_⟩) fun e1 => iteF ?_⟩
        · -- told ones
          have bk0 := bx4
          generalize H4 = K0 at bk0 ⊢
          clear mk
          refine ⟨_, rfl, ?_⟩
          refine ⟨(by show 4 ≤ sizeLine; decide), fun a0 ha0 => ?_⟩
          have sa0 : Same K0 (upd K0 a0 (.tup [.int 1, .int 1, .int 3, .int 3])) := same_new ha0
          have ga0 : (upd K0 a0 (.tup [.int 1, .int 1, .int 3, .int 3])) a0 = some (.tup [.int 1, .int 1, .int 3, .int 3]) := upd_same
          generalize upd K0 a0 (.tup [.int 1, .int 1, .int 3, .int 3]) = K1 at sa0 ga0 ⊢
          have bk1 := bk0.same sa0
          refine ⟨(by show 4 ≤ sizeLine; decide), fun b0 hb0 => ?_⟩
          have sb0 : Same K1 (upd K1 b0 (.tup [.int 2, .int 3, .int 2, .int 3])) := same_new hb0
          have gb0 : (upd K1 b0 (.tup [.int 2, .int 3, .int 2, .int 3])) b0 = some (.tup [.int 2, .int 3, .int 2, .int 3]) := upd_same
          generalize upd K1 b0 (.tup [.int 2, .int 3, .int 2, .int 3]) = K2 at sb0 gb0 ⊢
          replace ga0 := sb0 _ _ ga0
          have bk2 := bk1.same sb0
          refine ⟨(by show 2 ≤ sizeLine; decide), fun l0 hl0 => ?_⟩
          have sl0 : Same K2 (upd K2 l0 (.lst [.ref a0, .ref b0])) := same_new hl0
          have gl0 : (upd K2 l0 (.lst [.ref a0, .ref b0])) l0 = some (.lst [.ref a0, .ref b0]) := upd_same
          generalize upd K2 l0 (.lst [.ref a0, .ref b0]) = K3 at sl0 gl0 ⊢
          replace ga0 := sl0 _ _ ga0
          replace gb0 := sl0 _ _ gb0
          have nl0 : l0 ≠ b := bk2.ne hl0
          have fl0 : H l0 = none := bk2.free nl0 hl0
          have bk3 := bk2.same sl0
          refine ⟨(by show 4 ≤ sizeLine; decide), fun a1 ha1 => ?_⟩
          have sa1 : Same K3 (upd K3 a1 (.tup [.int 1, .int 0, .int 3, .int 2])) := same_new ha1
          have ga1 : (upd K3 a1 (.tup [.int 1, .int 0, .int 3, .int 2])) a1 = some (.tup [.int 1, .int 0, .int 3, .int 2]) := upd_same
          generalize upd K3 a1 (.tup [.int 1, .int 0, .int 3, .int 2]) = K4 at sa1 ga1 ⊢
          replace ga0 := sa1 _ _ ga0
          replace gb0 := sa1 _ _ gb0
          replace gl0 := sa1 _ _ gl0
          have bk4 := bk3.same sa1
          refine ⟨(by show 4 ≤ sizeLine; decide), fun b1 hb1 => ?_⟩
          have sb1 : Same K4 (upd K4 b1 (.tup [.int 2, .int 3, .int 0, .int 1])) := same_new hb1
          have gb1 : (upd K4 b1 (.tup [.int 2, .int 3, .int 0, .int 1])) b1 = some (.tup [.int 2, .int 3, .int 0, .int 1]) := upd_same
          generalize upd K4 b1 (.tup [.int 2, .int 3, .int 0, .int 1]) = K5 at sb1 gb1 ⊢
          replace ga0 := sb1 _ _ ga0
          replace gb0 := sb1 _ _ gb0
          replace gl0 := sb1 _ _ gl0
          replace ga1 := sb1 _ _ ga1
          have bk5 := bk4.same sb1
          refine ⟨(by show 2 ≤ sizeLine; decide), fun l1 hl1 => ?_⟩
          have sl1 : Same K5 (upd K5 l1 (.lst [.ref a1, .ref b1])) := same_new hl1
          have gl1 : (upd K5 l1 (.lst [.ref a1, .ref b1])) l1 = some (.lst [.ref a1, .ref b1]) := upd_same
          generalize upd K5 l1 (.lst [.ref a1, .ref b1]) = K6 at sl1 gl1 ⊢
          replace ga0 := sl1 _ _ ga0
          replace gb0 := sl1 _ _ gb0
          replace gl0 := sl1 _ _ gl0
          replace ga1 := sl1 _ _ ga1
          replace gb1 := sl1 _ _ gb1
          have nl1 : l1 ≠ b := bk5.ne hl1
          have fl1 : H l1 = none := bk5.free nl1 hl1
          have bk6 := bk5.same sl1
          refine ⟨(by show 4 ≤ sizeLine; decide), fun a2 ha2 => ?_⟩
          have sa2 : Same K6 (upd K6 a2 (.tup [.int 1, .int 2, .int 3, .int 0])) := same_new ha2
          have ga2 : (upd K6 a2 (.tup [.int 1, .int 2, .int 3, .int 0])) a2 = some (.tup [.int 1, .int 2, .int 3, .int 0]) := upd_same
          generalize upd K6 a2 (.tup [.int 1, .int 2, .int 3, .int 0]) = K7 at sa2 ga2 ⊢
          replace ga0 := sa2 _ _ ga0
          replace gb0 := sa2 _ _ gb0
          replace gl0 := sa2 _ _ gl0
          replace ga1 := sa2 _ _ ga1
          replace gb1 := sa2 _ _ gb1
          replace gl1 := sa2 _ _ gl1
          have bk7 := bk6.same sa2
          refine ⟨(by show 4 ≤ sizeLine; decide), fun b2 hb2 => ?_⟩
          have sb2 : Same K7 (upd K7 b2 (.tup [.int 3, .int 2, .int 1, .int 0])) := same_new hb2
          have gb2 : (upd K7 b2 (.tup [.int 3, .int 2, .int 1, .int 0])) b2 = some (.tup [.int 3, .int 2, .int 1, .int 0]) := upd_same
          generalize upd K7 b2 (.tup [.int 3, .int 2, .int 1, .int 0]) = K8 at sb2 gb2 ⊢
          replace ga0 := sb2 _ _ ga0
          replace gb0 := sb2 _ _ gb0
          replace gl0 := sb2 _ _ gl0
          replace ga1 := sb2 _ _ ga1
          replace gb1 := sb2 _ _ gb1
          replace gl1 := sb2 _ _ gl1
          replace ga2 := sb2 _ _ ga2
          have bk8 := bk7.same sb2
          refine ⟨(by show 2 ≤ sizeLine; decide), fun l2 hl2 => ?_⟩
          have sl2 : Same K8 (upd K8 l2 (.lst [.ref a2, .ref b2])) := same_new hl2
          have gl2 : (upd K8 l2 (.lst [.ref a2, .ref b2])) l2 = some (.lst [.ref a2, .ref b2]) := upd_same
          generalize upd K8 l2 (.lst [.ref a2, .ref b2]) = K9 at sl2 gl2 ⊢
          replace ga0 := sl2 _ _ ga0
          replace gb0 := sl2 _ _ gb0
          replace gl0 := sl2 _ _ gl0
          replace ga1 := sl2 _ _ ga1
          replace gb1 := sl2 _ _ gb1
          replace gl1 := sl2 _ _ gl1
          replace ga2 := sl2 _ _ ga2
          replace gb2 := sl2 _ _ gb2
          have nl2 : l2 ≠ b := bk8.ne hl2
          have fl2 : H l2 = none := bk8.free nl2 hl2
          have bk9 := bk8.same sl2
          refine ⟨(by show 4 ≤ sizeLine; decide), fun a3 ha3 => ?_⟩
          have sa3 : Same K9 (upd K9 a3 (.tup [.int 1, .int 2, .int 3, .int 3])) := same_new ha3
          have ga3 : (upd K9 a3 (.tup [.int 1, .int 2, .int 3, .int 3])) a3 = some (.tup [.int 1, .int 2, .int 3, .int 3]) := upd_same
          generalize upd K9 a3 (.tup [.int 1, .int 2, .int 3, .int 3]) = K10 at sa3 ga3 ⊢
          replace ga0 := sa3 _ _ ga0
          replace gb0 := sa3 _ _ gb0
          replace gl0 := sa3 _ _ gl0
          replace ga1 := sa3 _ _ ga1
          replace gb1 := sa3 _ _ gb1
          replace gl1 := sa3 _ _ gl1
          replace ga2 := sa3 _ _ ga2
          replace gb2 := sa3 _ _ gb2
          replace gl2 := sa3 _ _ gl2
          have bk10 := bk9.same sa3
          refine ⟨(by show 4 ≤ sizeLine; decide), fun b3 hb3 => ?_⟩
          have sb3 : Same K10 (upd K10 b3 (.tup [.int 2, .int 3, .int 3, .int 3])) := same_new hb3
          have gb3 : (upd K10 b3 (.tup [.int 2, .int 3, .int 3, .int 3])) b3 = some (.tup [.int 2, .int 3, .int 3, .int 3]) := upd_same
          generalize upd K10 b3 (.tup [.int 2, .int 3, .int 3, .int 3]) = K11 at sb3 gb3 ⊢
          replace ga0 := sb3 _ _ ga0
          replace gb0 := sb3 _ _ gb0
          replace gl0 := sb3 _ _ gl0
          replace ga1 := sb3 _ _ ga1
          replace gb1 := sb3 _ _ gb1
          replace gl1 := sb3 _ _ gl1
          replace ga2 := sb3 _ _ ga2
          replace gb2 := sb3 _ _ gb2
          replace gl2 := sb3 _ _ gl2
          replace ga3 := sb3 _ _ ga3
          have bk11 := bk10.same sb3
          refine ⟨(by show 2 ≤ sizeLine; decide), fun l3 hl3 => ?_⟩
          have sl3 : Same K11 (upd K11 l3 (.lst [.ref a3, .ref b3])) := same_new hl3
          have gl3 : (upd K11 l3 (.lst [.ref a3, .ref b3])) l3 = some (.lst [.ref a3, .ref b3]) := upd_same
          generalize upd K11 l3 (.lst [.ref a3, .ref b3]) = K12 at sl3 gl3 ⊢
          replace ga0 := sl3 _ _ ga0
          replace gb0 := sl3 _ _ gb0
          replace gl0 := sl3 _ _ gl0
          replace ga1 := sl3 _ _ ga1
          replace gb1 := sl3 _ _ gb1
          replace gl1 := sl3 _ _ gl1
          replace ga2 := sl3 _ _ ga2
          replace gb2 := sl3 _ _ gb2
          replace gl2 := sl3 _ _ gl2
          replace ga3 := sl3 _ _ ga3
          replace gb3 := sl3 _ _ gb3
          have nl3 : l3 ≠ b := bk11.ne hl3
          have fl3 : H l3 = none := bk11.free nl3 hl3
          have bk12 := bk11.same sl3
          refine ⟨(by show 4 ≤ sizeLine; decide), fun lo hlo => ?_⟩
          have slo : Same K12 (upd K12 lo (.lst [.ref l0, .ref l1, .ref l2, .ref l3])) := same_new hlo
          have glo : (upd K12 lo (.lst [.ref l0, .ref l1, .ref l2, .ref l3])) lo = some (.lst [.ref l0, .ref l1, .ref l2, .ref l3]) := upd_same
          generalize upd K12 lo (.lst [.ref l0, .ref l1, .ref l2, .ref l3]) = K13 at slo glo ⊢
          replace ga0 := slo _ _ ga0
          replace gb0 := slo _ _ gb0
          replace gl0 := slo _ _ gl0
          replace ga1 := slo _ _ ga1
          replace gb1 := slo _ _ gb1
          replace gl1 := slo _ _ gl1
          replace ga2 := slo _ _ ga2
          replace gb2 := slo _ _ gb2
          replace gl2 := slo _ _ gl2
          replace ga3 := slo _ _ ga3
          replace gb3 := slo _ _ gb3
          replace gl3 := slo _ _ gl3
          have nlo : lo ≠ b := bk12.ne hlo
          have bk13 := bk12.same slo
          refine ⟨b, lo, _, rfl, bk13.1, glo, nlo, (by decide : 1 ≤ 4), (by decide : 4 ≤ 1000), fun i v K' hv bx => ?_⟩
          have two : ∀ (x y : Addr) (r u : List Int), K13 x = some (.tup (vrow r)) → K13 y = some (.tup (vrow u)) → ∀ (i : Nat) a t, ([x, y] : List Addr)[i]? = some a → (vts [r, u])[i]? = some t → K' a = some (.tup t) := fun x y r u hx hy i a t e1 e2 => by
            match i, e1, e2 with
            | 0, e1, e2 => cases e1; cases e2; exact bx.tup bk13.1 hx
            | 1, e1, e2 => cases e1; cases e2; exact bx.tup bk13.1 hy
            | i + 2, e1, _ => cases e1
          match i, hv with
          | 0, hv =>
            cases hv
            have w : Wf [[1, 1, 3, 3], [2, 3, 2, 3]] := ⟨by decide, by decide, by decide, by decide, by decide⟩
            exact q l0 [[1, 1, 3, 3], [2, 3, 2, 3]] K' (bk13.trans bx) fl0 nl0 ⟨[a0, b0], bx.2 _ _ gl0 nl0, rfl, two _ _ [1, 1, 3, 3] [2, 3, 2, 3] ga0 gb0⟩ w (few_small w (by decide))
          | 1, hv =>
            cases hv
            have w : Wf [[1, 0, 3, 2], [2, 3, 0, 1]] := ⟨by decide, by decide, by decide, by decide, by decide⟩
            exact q l1 [[1, 0, 3, 2], [2, 3, 0, 1]] K' (bk13.trans bx) fl1 nl1 ⟨[a1, b1], bx.2 _ _ gl1 nl1, rfl, two _ _ [1, 0, 3, 2] [2, 3, 0, 1] ga1 gb1⟩ w (few_small w (by decide))
          | 2, hv =>
            cases hv
            have w : Wf [[1, 2, 3, 0], [3, 2, 1, 0]] := ⟨by decide, by decide, by decide, by decide, by decide⟩
            exact q l2 [[1, 2, 3, 0], [3, 2, 1, 0]] K' (bk13.trans bx) fl2 nl2 ⟨[a2, b2], bx.2 _ _ gl2 nl2, rfl, two _ _ [1, 2, 3, 0] [3, 2, 1, 0] ga2 gb2⟩ w (few_small w (by decide))
          | 3, hv =>
            cases hv
            have w : Wf [[1, 2, 3, 3], [2, 3, 3, 3]] := ⟨by decide, by decide, by decide, by decide, by decide⟩
            exact q l3 [[1, 2, 3, 3], [2, 3, 3, 3]] K' (bk13.trans bx) fl3 nl3 ⟨[a3, b3], bx.2 _ _ gl3 nl3, rfl, two _ _ [1, 2, 3, 3] [2, 3, 3, 3] ga3 gb3⟩ w (few_small w (by decide))
          | i + 4, hv => cases hv
        · refine ⟨_, rfl, rfl, _, rfl, ifD (fun e2 => ?_) fun e2 => ?_⟩
          · -- stops
            refine ⟨_, rfl, b, 2, rfl, bx4.1, by decide, by decide, fun u H5 u0 u1 bx5 => ⟨_, _, rfl, rfl, (by show 2 ≤ sizeLine; decide), fun lb hlb0 => ?_⟩⟩
            have bxA := (bx4.trans bx5).new (o := HO.tup [.int 1, .int (1 + u)]) hlb0
            have hlb : (upd H5 lb (.tup [.int 1, .int (1 + u)])) lb = some (.tup [.int 1, .int (1 + u)]) := upd_same
            have bpos : ∀ b ∈ ([1, 1 + u] : List Int), 0 ≤ b := fun b hb => by
              simp only [List.mem_cons, List.mem_nil_iff, or_false] at hb
              rcases hb with rfl | rfl <;> omega
            have gen := mk [1, 1 + u] (fun b s => if s + b < (n : Int) - 1 then s + b else (n : Int) - 1) (by decide : 1 ≤ 2) (by decide : 2 ≤ 8) (fun b hb s s0 s1 => by have := bpos b hb; split <;> omega)
            refine ⟨lb, rfl, ⟨_, SqT.of hlb⟩, fun D1 hD1 => ?_⟩
            change (upd H5 lb (.tup [.int 1, .int (1 + u)])) D1 = none at hD1
            generalize hH6 : upd H5 lb (.tup [.int 1, .int (1 + u)]) = H6 at bxA hlb hD1
            refine lc_tup (K := K) (a := lb) (xs := vrow [1, 1 + u]) (fun i H' => Same H6 H' ∧ TabL H' D1 (vts ((([1, 1 + u] : List Int).take i).map fun b => gL ((fun b s => if s + b < (n : Int) - 1 then s + b else (n : Int) - 1) b) n))) (by rw [← hH6] at hD1 ⊢; exact ⟨same_new hD1, [], upd_same, rfl, fun i a t h => by cases h⟩) (fun i H' _ ⟨s, _⟩ => SqT.of (s _ _ hlb)) ?_ ?_
            · rintro i x H7 hx ⟨s7, tl⟩
              obtain ⟨z, hz, rfl⟩ := vrow_at hx
              have hil : i < 2 := (List.getElem?_eq_some_iff.mp hz).1
              refine ⟨rfl, _, rfl, (n : Int), rfl, by omega, by omega, fun D2 hD2 => lc_range (Gp H7 D2 (fun s => if s + z < (n : Int) - 1 then s + z else (n : Int) - 1)) (Gp.nil hD2) ?_ ?_⟩
              · rintro k H8 hk g
                exact ⟨rfl, _, rfl, _, _, rfl, rfl, _, rfl, _, rfl, _, _, rfl, rfl, _, _, rfl, g.put hD2 (by show (if 0 + (k : Int) + z < (n : Int) - 1 then 0 + (k : Int) + z else (n : Int) - 1) = _; rw [Int.zero_add]) (by omega)⟩
              · rintro H8 ⟨s8, hD8⟩
                refine ⟨D2, _, rfl, .inl ⟨SqL.of hD8, fun l hl => ?_⟩⟩
                have tl8 := tl.same s8
                have e8 : ((n : Int)).toNat = n := by omega
                rw [e8]
                obtain ⟨acc, a1, a2, a3, a4⟩ := rowPut (row := gL (fun s => if s + z < (n : Int) - 1 then s + z else (n : Int) - 1) n) (s7.trans s8) hD1 tl8 hl (by rw [List.length_map, List.length_take]; omega)
                refine ⟨acc, a1, a2, a3, ?_⟩
                rw [take_succ hz, List.map_append]
                exact a4
            · rintro H7 ⟨s7, tl⟩
              exact q D1 _ H7 (bxA.same s7) (bxA.free (bxA.ne hD1) hD1) (bxA.ne hD1) tl gen.wf (few_stop gen bpos)
          · refine ⟨_, rfl, rfl, _, rfl, ifD (fun e3 => ?_) fun e3 => ?_⟩
            · -- the greater
              have m3 : ∃ m : Nat, (if 3 < (n : Int) then 3 else (n : Int)) = (m : Int) ∧ 1 ≤ m ∧ m ≤ 3 ∧ m ≤ n := by
                by_cases h : 3 < (n : Int)
                · exact ⟨3, by rw [if_pos h]; rfl, by decide, by decide, by omega⟩
                · exact ⟨n, by rw [if_neg h], n1, by omega, Nat.le_refl _⟩
              obtain ⟨m, em, m1, m3, mn⟩ := m3
              have brg : ∀ b ∈ idL m, 0 ≤ b ∧ b < (n : Int) := fun b hb => by have := idL_rng b hb; omega
              have gen := mk (idL m) (fun b s => if s < b then b else s) (by rw [idL, gL_len]; exact m1) (by rw [idL, gL_len]; omega) (fun b hb s s0 s1 => by have := brg b hb; split <;> omega)
              refine ⟨_, rfl, _, _, rfl, (m : Int), by rw [em], by omega, by omega, fun D1 hD1 => lc_range (fun i H' => Same H4 H' ∧ TabL H' D1 (vts (((idL m).take i).map fun b => gL ((fun b s => if s < b then b else s) b) n))) ⟨same_new hD1, [], upd_same, rfl, fun i a t h => by cases h⟩ ?_ ?_⟩
              · rintro i H7 hi ⟨s7, tl⟩
                have hz : (idL m)[i]? = some (i : Int) := gL_at (by omega)
                refine ⟨rfl, _, rfl, (n : Int), rfl, by omega, by omega, fun D2 hD2 => lc_range (Gp H7 D2 (fun s => if s < (i : Int) then (i : Int) else s)) (Gp.nil hD2) ?_ ?_⟩
                · rintro k H8 hk g
                  exact ⟨rfl, _, rfl, _, rfl, _, _, rfl, g.put hD2 (by show (if 0 + (i : Int) > 0 + (k : Int) then 0 + (i : Int) else 0 + (k : Int)) = _; rw [Int.zero_add, Int.zero_add]) (by omega)⟩
                · rintro H8 ⟨s8, hD8⟩
                  refine ⟨D2, _, rfl, .inl ⟨SqL.of hD8, fun l hl => ?_⟩⟩
                  have tl8 := tl.same s8
                  have e8 : ((n : Int)).toNat = n := by omega
                  rw [e8]
                  obtain ⟨acc, a1, a2, a3, a4⟩ := rowPut (row := gL (fun s => if s < (i : Int) then (i : Int) else s) n) (s7.trans s8) hD1 tl8 hl (by rw [List.length_map, List.length_take, idL, gL_len]; omega)
                  refine ⟨acc, a1, a2, a3, ?_⟩
                  rw [take_succ hz, List.map_append]
                  exact a4
              · rintro H7 ⟨s7, tl⟩
                have e9 : ((m : Int)).toNat = (idL m).length := by rw [idL, gL_len]; omega
                rw [e9, List.take_length] at tl
                exact q D1 _ H7 (bx4.same s7) (bx4.free (bx4.ne hD1) hD1) (bx4.ne hD1) tl gen.wf (few_max gen brg)
            · -- drawn ones
              have hst4 : n ≤ 4 ∨ st = 4 := by
                have a0 : st ≠ 0 := fun z => by have := of_decide_eq_false e; exact this (by rw [z])
                have a2 : st ≠ 2 := fun z => by have := of_decide_eq_false e2; exact this (by rw [z])
                have a3 : st ≠ 3 := fun z => by have := of_decide_eq_false e3; exact this (by rw [z])
                omega
              refine ⟨(by show 0 ≤ sizeLine; decide), fun p hp => ?_⟩
              have npb : p ≠ b := bx4.ne hp
              have npH : H p = none := bx4.free npb hp
              have bx5 := bx4.new (o := HO.lst []) hp
              have hp5 : (upd H4 p (.lst [])) p = some (.lst []) := upd_same
              generalize upd H4 p (.lst []) = H5 at bx5 hp5 ⊢
              have stepIn : ∀ (H6 : Hp) (rs : Ts), Bx b H H6 → TabL H6 p (vts rs) → ∀ (D2 : Addr) (H8 : Hp) (row : List Int), Bx b H6 H8 → H8 D2 = some (.lst (vrow row)) → rs.length ≤ 8 → ∀ l, H8 l = none → ∃ acc, (upd H8 l (.tup (vrow row))) p = some (.lst acc) ∧ acc.length < sizeLine ∧ Bx b H (upd (upd H8 l (.tup (vrow row))) p (.lst (acc ++ [.ref l]))) ∧ TabL (upd (upd H8 l (.tup (vrow row))) p (.lst (acc ++ [.ref l]))) p (vts (rs ++ [row])) := fun H6 rs bx6 tl D2 H8 row bx8 hD8 hl8 l hl => by
                obtain ⟨as, a1, a2, a3⟩ := tl.bx npb bx6.1 bx8
                have las : as.length = rs.length := by rw [a2, vts, List.length_map]
                exact ⟨_, (same_new hl) _ _ a1, by rw [List.length_map, las, sizeLine_eq]; omega, ((bx6.trans bx8).new hl).put npH npb, tabL_snoc a1 a2 a3 hl⟩
              refine ⟨b, st, n, rfl, rfl, rfl, bx5.1, fun cnt H6 c1 c8 bx6 => ⟨cnt, rfl, by omega, by omega, for_range (fun i σ H' => ∃ (rs : Ts) (v4 v6 v7 : Option V), σ = [some (.ref b), some (.int 4), some (.int st), some (.int (n : Int)), v4, some (.ref p), v6, v7, none] ∧ Bx b H H' ∧ TabL H' p (vts rs) ∧ rs.length = i ∧ (∀ t ∈ rs, t.length = n ∧ ∀ x ∈ t, 0 ≤ x ∧ x < (n : Int)) ∧ (st = 4 → ∃ bys : List Int, rs = bys.map fun b => gL (fun _ => b) n))
                  ⟨[], none, none, none, rfl, bx5.trans bx6, ⟨[], bx6.2 _ _ hp5 npb, rfl, fun i a t h => by cases h⟩, rfl, fun t ht => absurd ht (by simp), fun _ => ⟨[], rfl⟩⟩ ?_ ?_⟩⟩
              · rintro i σ H7 hi ⟨rs, v4, v6, v7, rfl, bx7, tl7, hl7, hr7, h47⟩
                refine ⟨_, rfl, _, rfl, b, _, rfl, bx7.1, by omega, by omega, fun y1 H8 y10 y11 bx8 => ⟨_, rfl, _, rfl, b, _, rfl, bx8.1, by omega, by omega, fun y2 H9 y20 y21 bx9 => ⟨(by show 2 ≤ sizeLine; decide), fun T2 hT2 => ⟨T2, _, rfl, SqT.of upd_same, rfl, _, _, rfl, _, _, rfl, rfl, ?_⟩⟩⟩⟩
                have bxN := (bx8.trans bx9).new (o := HO.tup [.int y1, .int y2]) hT2
                generalize upd H9 T2 (.tup [.int y1, .int y2]) = H10 at bxN ⊢
                have tlN := tl7.bx npb bx7.1 bxN
                have hbN := bxN.1
                have bxI := bx7.trans bxN
                obtain ⟨asN, aN1, aN2, aN3⟩ := id tlN
                have e8 : ((n : Int)).toNat = n := by omega
                -- one row more
                have fin : ∀ (D2 : Addr) (H11 : Hp) (row : List Int), Bx b H10 H11 → H11 D2 = some (.lst (vrow row)) → row.length = n → (∀ x ∈ row, 0 ≤ x ∧ x < (n : Int)) → (st = 4 → row = gL (fun _ => y1) n) → ∀ l, H11 l = none → ∃ acc, (upd H11 l (.tup (vrow row))) p = some (.lst acc) ∧ acc.length < sizeLine ∧
                    ∃ (rs : Ts) (w4 w6 w7 : Option V), [some (.ref b), some (.int 4), some (.int st), some (.int (n : Int)), some (.int y1), some (.ref p), some (.int (0 + (i : Int))), some (.int y2), none] = [some (.ref b), some (.int 4), some (.int st), some (.int (n : Int)), w4, some (.ref p), w6, w7, none] ∧ Bx b H (upd (upd H11 l (.tup (vrow row))) p (.lst (acc ++ [.ref l]))) ∧ TabL (upd (upd H11 l (.tup (vrow row))) p (.lst (acc ++ [.ref l]))) p (vts rs) ∧ rs.length = i + 1 ∧ (∀ t ∈ rs, t.length = n ∧ ∀ x ∈ t, 0 ≤ x ∧ x < (n : Int)) ∧ (st = 4 → ∃ bys : List Int, rs = bys.map fun b => gL (fun _ => b) n) := fun D2 H11 row bx11 hD11 hlr hrr h4r l hl => by
                  obtain ⟨acc, a1, a2, a3, a4⟩ := stepIn H10 rs bxI tlN D2 H11 row bx11 hD11 (by omega) l hl
                  refine ⟨acc, a1, a2, rs ++ [row], _, _, _, rfl, a3, a4, by rw [List.length_append, hl7]; rfl, fun t ht => ?_, fun h4 => ?_⟩
                  · rcases List.mem_append.mp ht with z | z
                    · exact hr7 t z
                    · rw [List.mem_singleton.mp z]; exact ⟨hlr, hrr⟩
                  · obtain ⟨bys, rfl⟩ := h47 h4
                    exact ⟨bys ++ [y1], by rw [List.map_append, h4r h4]; rfl⟩
                refine ⟨_, rfl, rfl, _, rfl, ifD (fun e4 => ?_) fun e4 => ?_⟩
                · refine ⟨_, rfl, .inl ⟨rfl, _, SqL.of aN1⟩, _, rfl, (n : Int), rfl, by omega, by omega, fun D2 hD2 => lc_range (Gp H10 D2 (fun _ => y1)) (Gp.nil hD2) ?_ ?_⟩
                  · rintro k H11 hk g
                    exact ⟨rfl, _, rfl, g.put hD2 rfl (by omega)⟩
                  · rintro H11 ⟨s11, hD11⟩
                    rw [e8] at hD11
                    refine ⟨D2, _, rfl, .inl ⟨SqL.of hD11, fun l hl => ?_⟩⟩
                    obtain ⟨acc, a1, a2, a3⟩ := fin D2 H11 (gL (fun _ => y1) n) ((Bx.refl hbN).same s11) hD11 (gL_len _ _) (fun x hx => by
                      obtain ⟨_, _, _, rfl⟩ := gL_mem hx
                      exact ⟨y10, y11⟩) (fun _ => rfl) l hl
                    exact ⟨p, _, _, rfl, rfl, a1, a2, a3⟩
                · have n4 : st ≠ 4 := fun z => by have := of_decide_eq_false e4; exact this (by rw [z])
                  refine ⟨_, rfl, rfl, _, rfl, ifD (fun e5 => ?_) fun e5 => ?_⟩
                  · refine ⟨_, rfl, .inl ⟨rfl, _, SqL.of aN1⟩, _, rfl, (n : Int), rfl, by omega, by omega, fun D2 hD2 => lc_range (Rg b D2 H10 (n : Int)) (Rg.nil hbN hD2) ?_ ?_⟩
                    · rintro k H11 hk g
                      exact ⟨rfl, _, rfl, _, rfl, rfl, _, rfl, ifD (fun _ => ⟨_, rfl, g.put hbN hD2 (Bx.refl g.box) ⟨y20, y21⟩ (by omega)⟩) fun _ => ⟨_, rfl, _, rfl, rfl, _, rfl, ifD (fun _ => ⟨_, rfl, g.put hbN hD2 (Bx.refl g.box) ⟨y10, y11⟩ (by omega)⟩) fun _ => ⟨_, rfl, g.put hbN hD2 (Bx.refl g.box) ⟨by omega, by omega⟩ (by omega)⟩⟩⟩
                    · rintro H11 ⟨ns, k1, k2, bx11, hD11⟩
                      refine ⟨D2, _, rfl, .inl ⟨SqL.of hD11, fun l hl => ?_⟩⟩
                      obtain ⟨acc, a1, a2, a3⟩ := fin D2 H11 ns bx11 hD11 (k1.trans e8) k2 (fun h => absurd h n4) l hl
                      exact ⟨p, _, _, rfl, rfl, a1, a2, a3⟩
                  · refine ⟨_, rfl, .inl ⟨rfl, _, SqL.of aN1⟩, _, rfl, (n : Int), rfl, by omega, by omega, fun D2 hD2 => lc_range (Rg b D2 H10 (n : Int)) (Rg.nil hbN hD2) ?_ ?_⟩
                    · rintro k H11 hk g
                      exact ⟨rfl, _, rfl, _, rfl, b, _, rfl, g.box, by omega, by omega, fun r H12 r0 r1' bx12 => g.put hbN hD2 bx12 ⟨r0, r1'⟩ (by omega)⟩
                    · rintro H11 ⟨ns, k1, k2, bx11, hD11⟩
                      refine ⟨D2, _, rfl, .inl ⟨SqL.of hD11, fun l hl => ?_⟩⟩
                      obtain ⟨acc, a1, a2, a3⟩ := fin D2 H11 ns bx11 hD11 (k1.trans e8) k2 (fun h => absurd h n4) l hl
                      exact ⟨p, _, _, rfl, rfl, a1, a2, a3⟩
              · rintro σ H7 ⟨rs, v4, v6, v7, rfl, bx7, tl7, hl7, hr7, h47⟩
                have l1 : 1 ≤ rs.length := by omega
                have l8 : rs.length ≤ 8 := by omega
                have e0 : nS rs = n := by
                  cases rs with
                  | nil => exact absurd l1 (by simp)
                  | cons t r => exact (hr7 t List.mem_cons_self).1
                have w7 : Wf rs := ⟨l1, l8, by omega, by omega, fun t ht => ⟨by rw [e0]; exact (hr7 t ht).1, fun x hx => by rw [e0]; exact (hr7 t ht).2 x hx⟩⟩
                refine ⟨_, rfl, q p rs H7 bx7 npH npb tl7 w7 ?_⟩
                rcases hst4 with h4 | h4
                · exact few_small w7 (by omega)
                · obtain ⟨bys, rfl⟩ := h47 h4
                  rw [List.length_map] at l1 l8
                  exact few_const (mk bys (fun b _ => b) l1 l8 fun b hb s s0 s1 => (hr7 _ (List.mem_map.mpr ⟨b, hb, rfl⟩)).2 b (List.mem_of_getElem? (gL_at (i := 0) (by omega))))
    · refine ⟨_, rfl, (by show 4 ≤ sizeLine; decide), fun T2 hT2 => ⟨T2, _, rfl, .inr (SqT.of upd_same), rfl, rfl, _, rfl, ifD (fun e => ?_) fun e => iteF ?_⟩⟩
      · have hst := inV_st e
        have bx5 := bx3.new (o := HO.tup [.int 0, .int 2, .int 3, .int 4]) hT2
        refine ⟨_, rfl, b, 3, rfl, bx5.1, by decide, by decide, fun z H6 z0 z1 bx6 => ⟨rfl, _, rfl, ifD (fun e2 => ?_) fun e2 => ?_⟩⟩
        · refine ⟨_, rfl, b, 12, rfl, bx6.1, by decide, by decide, fun u H7 u0 u1 bx7 => ⟨_, _, rfl, rfl, ?_⟩⟩
          have en : 1 + u = (((1 + u).toNat : Nat) : Int) := by omega
          have kk := k _ _ ⟨(1 + u).toNat, rfl, (bx5.trans bx6).trans bx7, by omega, by omega, .inr hst⟩
          rw [← en] at kk
          exact kk
        · have en : 1 + y = (((1 + y).toNat : Nat) : Int) := by omega
          rw [en]
          exact k _ _ ⟨(1 + y).toNat, rfl, bx5.trans bx6, by omega, by omega, .inr hst⟩
      · have en : 1 + y = (((1 + y).toNat : Nat) : Int) := by omega
        rw [en]
        exact k _ _ ⟨(1 + y).toNat, rfl, bx3.new (o := HO.tup [.int 0, .int 2, .int 3, .int 4]) hT2, by omega, by omega, .inl (by omega)⟩
end
end K1
namespace K1
open PySem PySem.Spec PyProof.Rows L2
theorem ixLK {X : Cx} {K : PySem.W.Frag} (h : X.K = K) : IxR X (rIxL K) := by
  subst h
  exact ix_list
def mK (F : List KR) : List (List Key × V) := F.map fun e => (kK e.1, V.bl true)
/-- how the law's search stands -/
structure MQ (H : Hp) (d q : Addr) (F : List KR) (as : List Addr) : Prop where
  hd : H d = some (.dT (mK F))
  hq : H q = some (.lst (as.map V.ref))
  ln : as.length = F.length
  it : ∀ (i : Nat) a x r, as[i]? = some a → F[i]? = some (x, r) → ∃ b c, H a = some (.tup [.ref b, .ref c]) ∧ H b = some (.tup (vrow x)) ∧ H c = some (.tup (vrow r))
theorem MQ.same {H H' : Hp} {d q : Addr} {F : List KR} {as : List Addr} (b : MQ H d q F as) (s : Same H H') : MQ H' d q F as :=
  ⟨s _ _ b.hd, s _ _ b.hq, b.ln, fun i a x r e1 e2 => let ⟨u, v, h1, h2, h3⟩ := b.it i a x r e1 e2; ⟨u, v, s _ _ h1, s _ _ h2, s _ _ h3⟩⟩
theorem mK_none {F : List KR} {x : List Int} : valV (mK F) (kK x) = none ↔ x ∉ F.map (·.1) := by
  have e := valV_any (kK x) (mK F)
  have h : ((mK F).any fun kv => decide (kv.1 = kK x)) = true ↔ x ∈ F.map (·.1) := by
    rw [mK, List.any_map, List.any_eq_true]
    constructor
    · rintro ⟨y, hy, e⟩
      have e' : kK y.1 = kK x := of_decide_eq_true e
      exact List.mem_map.mpr ⟨y, hy, kK_inj e'⟩
    · intro hx
      obtain ⟨y, hy, e⟩ := List.mem_map.mp hx
      exact ⟨y, hy, decide_eq_true (congrArg kK e)⟩
  constructor
  · intro hn hx
    rw [hn, h.mpr hx] at e
    cases e
  · intro hx
    cases q : valV (mK F) (kK x) with
    | none => rfl
    | some v =>
      rw [q] at e
      exact absurd (h.mp e) hx
theorem MQ.put {H H6 : Hp} {d q : Addr} {F : List KR} {as : List Addr} (b : MQ H d q F as) {x r : List Int} {a e c : Addr} (hx : x ∉ F.map (·.1)) (s : Same (upd H d (.dT (putK (mK F) (kK x) (.bl true)))) H6) (ha : H6 a = some (.tup [.ref e, .ref c])) (he : H6 e = some (.tup (vrow x))) (hc : H6 c = some (.tup (vrow r))) :
    H6 q = some (.lst (as.map V.ref)) ∧ MQ (upd H6 q (.lst (as.map V.ref ++ [.ref a]))) d q (F ++ [(x, r)]) (as ++ [a]) := by
  have ndq : d ≠ q := ne_of b.hd b.hq (by intro z; cases z)
  have hq6 : H6 q = some (.lst (as.map V.ref)) := s _ _ (by rw [upd_ne ndq.symm]; exact b.hq)
  have keep : ∀ c ys, H6 c = some (.tup ys) → (upd H6 q (.lst (as.map V.ref ++ [.ref a]))) c = some (.tup ys) := fun c ys h => by
    rw [upd_ne (ne_of h hq6 (by intro z; cases z))]; exact h
  have old : ∀ c ys, H c = some (.tup ys) → H6 c = some (.tup ys) := fun c ys h => s _ _ (by rw [upd_ne (ne_of h b.hd (by intro z; cases z))]; exact h)
  have ll := b.ln
  refine ⟨hq6, ?_, by rw [upd_same, List.map_append]; rfl, by rw [List.length_append, List.length_append, ll]; rfl, fun i g y t h h' => ?_⟩
  · rw [upd_ne ndq, s _ _ upd_same, putK_new _ (mK_none.mpr hx), mK, mK, List.map_append]; rfl
  · by_cases hi : i < F.length
    · rw [List.getElem?_append_left (by omega)] at h
      rw [List.getElem?_append_left hi] at h'
      obtain ⟨u, v, h1, h2, h3⟩ := b.it i g y t h h'
      exact ⟨u, v, keep _ _ (old _ _ h1), keep _ _ (old _ _ h2), keep _ _ (old _ _ h3)⟩
    · have hi2 : i = F.length := by
        have := (List.getElem?_eq_some_iff.mp h').1
        simp only [List.length_append, List.length_cons, List.length_nil] at this
        omega
      subst hi2
      rw [← ll, List.getElem?_append_right (Nat.le_refl _), Nat.sub_self] at h
      rw [List.getElem?_append_right (Nat.le_refl _), Nat.sub_self] at h'
      have e2 : (x, r) = (y, t) := Option.some.inj h'
      injection e2 with e2 e3
      subst e2
      subst e3
      rw [← Option.some.inj h]
      exact ⟨e, c, keep _ _ ha, keep _ _ he, keep _ _ hc⟩
/-- the law's maps with their rows -/
def MapsAt (H : Hp) (q : Addr) (F : List KR) : Prop := ∃ as : List Addr, H q = some (.lst (as.map V.ref)) ∧ as.length = F.length ∧
  ∀ (i : Nat) a x r, as[i]? = some a → F[i]? = some (x, r) → ∃ b c, H a = some (.tup [.ref b, .ref c]) ∧ H b = some (.tup (vrow x)) ∧ H c = some (.tup (vrow r))
theorem rgV_id (n : Nat) : rgV 0 (n : Int) = vrow (idL n) := by
  unfold rgV vrow idL gL
  rw [List.map_map]
  have e : ((n : Int) - 0).toNat = n := by omega
  rw [e]
  refine List.map_congr_left fun i _ => ?_
  show V.int (0 + (i : Int)) = V.int (i : Int)
  rw [Int.zero_add]
def spMaps : Sp := fun vs H Q _ => ∃ p ts, vs = [.ref p] ∧ TabL H p (vts ts) ∧ Wf ts ∧ FewM ts ∧
  ∀ q F H', Same H H' → H q = none → MapsAt H' q F → Fst (actL ts) ts.length (idL (nS ts)) F → F.length ≤ 1000 → Q (.ref q) H'
section
variable {P : Program} {w : World} {K : PySem.W.Frag} {mg : Str → Option Value} {base : Heap}
abbrev nMp : List Str := ["_law_tables_here", "_law_start", "_law_found", "_law_met", "_law_at", "_law_one", "_law_row", "_law_deed", "_law_after", "_law_state"]
theorem scMp : FnScope nMp ["_law_tables_here"] (defScope sMaps) := ⟨rfl, rfl, rfl, by decide +kernel, rfl, by decide +kernel, by decide +kernel⟩
theorem ok_maps {f : Addr} {fd : FuncData} (D : Df K mg "_law_maps" sMaps ["_law_tables_here"] f fd) (B : Bt mg) : FnOk P w K mg base CX0 1 f fd ["_law_tables_here"] spMaps := by
  refine D.F.ok scMp (fun vs H Q E h => ?_) (fun cdv A outer s H vs Q E hr h => ?_)
  · obtain ⟨p, ts, rfl, _⟩ := h
    rfl
  · obtain ⟨p, ts, rfl, hT, hW, few, q⟩ := h
    have hu := hu_of hr
    refine ⟨_, pss_cons (ps_set (i := 1) scMp.nd rfl (.inl rfl) (pe_tupRg rfl (by rfl) B.tuple (prg_1 (by rfl) B.range (pe_callB call_len_seq (by rfl) B.len PySem.boot_len (pa_cons (pe_ix ix_list (pv 0) pe_int (fun _ _ => rfl)) pa_nil)))))
      (pss_cons (ps_par (i := 2) (j := 3) rfl scMp.nd rfl rfl (by decide) rfl rfl (pa_cons (pe_lst (pa_cons (pe_tup (pa_cons (pv 1) (pa_cons (pe_tup pa_nil) pa_nil))) pa_nil)) (pa_cons (pe_dispT (Nat.lt_of_succ_lt hu) (pv 1) pe_bl) pa_nil)) (by rfl))
      (pss_cons (ps_for PassesOwn.never rfl (pi_range1 (by rfl) B.range (pa_cons pe_int pa_nil)) (pg_name (i := 4) scMp.nd rfl (.inl rfl))
        (pss_cons (ps_if (pt_cmpR op_eq (pv 4) (pe_callB call_len_seq (by rfl) B.len PySem.boot_len (pa_cons (pv 2) pa_nil)) (nomark _)) (pss_one ps_break) pss_nil)
        (pss_cons (ps_asg (pe_ix ix_list (pv 2) (pv 4) (fun _ _ => rfl)) (pg_tup rfl (pgs_cons (pg_name (i := 5) scMp.nd rfl (.inl rfl)) (pgs_cons (pg_name (i := 6) scMp.nd rfl (.inl rfl)) pgs_nil))))
        (pss_one (ps_for PassesOwn.never rfl (pi_range1 (by rfl) B.range (pa_cons (pe_callB call_len_seq (by rfl) B.len PySem.boot_len (pa_cons (pv 0) pa_nil)) pa_nil)) (pg_name (i := 7) scMp.nd rfl (.inr rfl))
          (pss_cons (ps_set (i := 8) scMp.nd rfl (.inl rfl) (pe_callTy call_tuple_of (by rfl) B.tuple PyProof.Rows.boot_tuple (pa_cons
              (pe_lc (own := [("_law_state", 9)]) (g := gName 9) (tt := tYes) rfl scMp.nd (pi_tup (pv 5)) (blkOk_by (N := nMp) (sc := defScope sMaps) (by decide +kernel)) (fun _ _ _ _ _ => pg_name (i := 9) scMp.nd rfl (Or.inl rfl)) (fun _ _ _ _ _ => pts_nil)
                (fun _ _ _ _ _ => pe_ix (ixTK (K := K) rfl) (pe_ix (ixLK (K := K) rfl) (pv 0) (pv 7) (fun _ _ => rfl)) (pv 9) (fun _ _ => rfl))) pa_nil)))
          (pss_one (ps_if (pt_cmp (pc_dnotin hu (pv 8) (pv 3))) (pss_cons (ps_dput hu (pv 3) (pv 8) pe_bl rfl)
            (pss_one (ps_expr (pe_bm PySem.F.plainAttrs_list PySem.F.slot_list_append PySem.F.type_list_append mt_append (pv 2) (pa_cons (pe_tup (pa_cons (pv 8) (pa_cons (pe_op op_catA (pv 6) (pe_tup (pa_cons (pv 7) pa_nil))) pa_nil))) pa_nil))))) pss_nil))))))))
      (pss_one (ps_ret (pv 2))))), ?_⟩
    obtain ⟨tas, ht1, ht2, ht3⟩ := hT
    have ltas : tas.length = ts.length := by rw [ht2, vts, List.length_map]
    have hl1 := hW.t1
    obtain ⟨t0, e0⟩ : ∃ t, ts[0]? = some t := ⟨ts[0]'(by omega), List.getElem?_eq_getElem (by omega)⟩
    obtain ⟨a0, g0⟩ : ∃ a, tas[0]? = some a := ⟨tas[0]'(by omega), List.getElem?_eq_getElem (by omega)⟩
    have hT0 := ht3 0 a0 (vrow t0) g0 (by rw [vts, List.getElem?_map, e0]; rfl)
    have lt0 : t0.length = nS ts := by unfold nS; rw [e0]; rfl
    have n12 := hW.s12
    refine ⟨_, rfl, p, _, 0, _, rfl, rfl, SqL.of ht1, atI_nat (j := 0) (by rw [List.getElem?_map, g0]; rfl), a0, _, rfl, .inr (SqT.of hT0), ?_⟩
    have lt0' : ((vrow t0).length : Int) = (nS ts : Int) := by rw [vrow, List.length_map, lt0]
    refine ⟨_, rfl, ?_⟩
    rw [lt0']
    refine ⟨.of_le (Int.le_refl _) (by omega) (by decide) (by omega), fun p0 hp0 => ?_⟩
    rw [rgV_id]
    generalize hss : idL (nS ts) = ss at *
    have s1 := same_new (o := HO.tup (vrow ss)) hp0
    have hp1 : (upd H p0 (.tup (vrow ss))) p0 = some (.tup (vrow ss)) := upd_same
    generalize upd H p0 (.tup (vrow ss)) = H1 at s1 hp1 ⊢
    refine ⟨_, rfl, (by show 0 ≤ sizeLine; decide), fun e0 he0 => ⟨(by show 2 ≤ sizeLine; decide), fun r0 hr0 => ⟨(by show 1 ≤ sizeLine; decide), fun q0 hq0 => fun d hd => ⟨_, rfl, p0, kK ss, rfl, ?_, upd_same, _, _, rfl, ?_⟩⟩⟩⟩
    · rw [kK_v]
      exact ((((same_new he0).trans (same_new hr0)).trans (same_new hq0)).trans (same_new hd)) _ _ hp1
    have b0 : MQ (upd (upd (upd (upd (upd H1 e0 (.tup [])) r0 (.tup [.ref p0, .ref e0])) q0 (.lst [.ref r0])) d (.dT [])) d (.dT [(kK ss, .bl true)])) d q0 [(ss, [])] [r0] := by
      have k1 := same_new (o := HO.tup []) he0
      have k2 := same_new (o := HO.tup [.ref p0, .ref e0]) hr0
      have k3 := same_new (o := HO.lst [.ref r0]) hq0
      have k4 := same_new (o := HO.dT []) hd
      have k34 : ∀ c o, upd (upd (upd H1 e0 (.tup [])) r0 (.tup [.ref p0, .ref e0])) q0 (.lst [.ref r0]) c = some o → (upd (upd (upd (upd (upd H1 e0 (.tup [])) r0 (.tup [.ref p0, .ref e0])) q0 (.lst [.ref r0])) d (.dT [])) d (.dT [(kK ss, .bl true)])) c = some o := fun c o e => by
        rw [upd_ne (ne_of_none e hd)]; exact k4 _ _ e
      refine ⟨upd_same, k34 _ _ upd_same, rfl, fun i a x r h1 h2 => ?_⟩
      cases i with
      | zero =>
        obtain rfl : r0 = a := Option.some.inj h1
        have z' : (ss, []) = (x, r) := Option.some.inj h2
        injection z' with z1 z2
        subst z1
        subst z2
        exact ⟨p0, e0, k34 _ _ (k3 _ _ upd_same), k34 _ _ (k3 _ _ (k2 _ _ (k1 _ _ hp1))), k34 _ _ (k3 _ _ (k2 _ _ upd_same))⟩
      | succ i => cases h1
    have s2 : Same H (upd (upd (upd (upd (upd H1 e0 (.tup [])) r0 (.tup [.ref p0, .ref e0])) q0 (.lst [.ref r0])) d (.dT [])) d (.dT [(kK ss, .bl true)])) := fun c o e => by
      have e1 := ((((s1.trans (same_new (o := HO.tup []) he0)).trans (same_new (o := HO.tup [.ref p0, .ref e0]) hr0)).trans (same_new (o := HO.lst [.ref r0]) hq0))) c o e
      rw [upd_ne (ne_of_none e1 hd)]
      exact same_new hd _ _ e1
    have nd0 : H d = none := (((s1.trans (same_new (o := HO.tup []) he0)).trans (same_new (o := HO.tup [.ref p0, .ref e0]) hr0)).trans (same_new (o := HO.lst [.ref r0]) hq0)).free hd
    have nq0 : H q0 = none := (((s1.trans (same_new (o := HO.tup []) he0)).trans (same_new (o := HO.tup [.ref p0, .ref e0]) hr0))).free hq0
    generalize upd (upd (upd (upd (upd H1 e0 (.tup [])) r0 (.tup [.ref p0, .ref e0])) q0 (.lst [.ref r0])) d (.dT [])) d (.dT [(kK ss, .bl true)]) = H2 at b0 s2 ⊢
    have hs : ∀ s ∈ ss, 0 ≤ s ∧ s < (nS ts : Int) := by rw [← hss]; exact idL_rng
    have few' : FewK ts ss := by have z := few; unfold FewM at z; rw [hss] at z; exact z
    have lss : ss.length ≤ 12 := by rw [← hss, idL, gL_len]; exact n12
    have fin : ∀ (H' : Hp) (F : List KR) (as : List Addr) (i : Nat), Same H H' → MQ H' d q0 F as → Bf (actL ts) ts.length ss F i 0 → F.length ≤ i → Q (.ref q0) H' := fun H' F as i sm b bf hi =>
      q q0 F H' sm nq0 ⟨as, b.hq, b.ln, b.it⟩ (bf.done hi) (bf.few few')
    refine ⟨3200, rfl, by decide, by decide, for_range (fun i σ H' => ∃ (F : List KR) (as : List Addr) (v4 v5 v6 v7 v8 : Option V), σ = [some (.ref p), some (.ref p0), some (.ref q0), some (.ref d), v4, v5, v6, v7, v8, none] ∧ Same H H' ∧ MQ H' d q0 F as ∧ Bf (actL ts) ts.length ss F i 0 ∧ i ≤ F.length)
      ⟨_, _, none, none, none, none, none, rfl, s2, b0, Bf.init, Nat.zero_le _⟩ ?_ ?_⟩
    · rintro i σ H' hi ⟨F, as, v4, v5, v6, v7, v8, rfl, sm, b, bf, hiF⟩
      have hsmall : F.length ≤ 1000 := bf.few few'
      refine ⟨_, rfl, _, rfl, q0, _, rfl, .inl (SqL.of b.hq), rfl, _, rfl, ifD (fun ec => ?_) fun ec => ?_⟩
      · have ei : F.length ≤ i := by
          have z := of_decide_eq_true ec
          injection z with z
          rw [List.length_map, b.ln] at z
          omega
        exact ⟨_, rfl, fin H' F as i sm b bf ei⟩
      · have hlt : i < F.length := by
          have z : ¬ ((V.int (0 + (i : Int))) = V.int ((as.map V.ref).length : Int)) := of_decide_eq_false ec
          rw [List.length_map, b.ln] at z
          have : i ≠ F.length := fun y => z (by rw [y, Int.zero_add])
          omega
        obtain ⟨x, rx, hx⟩ : ∃ x rx, F[i]? = some (x, rx) := ⟨F[i].1, F[i].2, List.getElem?_eq_getElem hlt⟩
        obtain ⟨a, ha⟩ : ∃ a, as[i]? = some a := by
          have : i < as.length := by rw [b.ln]; exact hlt
          exact ⟨as[i], List.getElem?_eq_getElem this⟩
        obtain ⟨xa, ra, hta, hxa, hra⟩ := b.it i a x rx ha hx
        obtain ⟨px, pv, pl⟩ := bf.pth i x rx hx
        have hxr : ∀ s ∈ x, 0 ≤ s ∧ s < (nS ts : Int) := by rw [px]; exact path_rng hW pv hs
        have hxl : x.length ≤ 12 := by rw [px, path_run, List.length_map]; exact lss
        have lrx : rx.length ≤ 1000 := by omega
        refine ⟨_, rfl, _, rfl, q0, _, 0 + (i : Int), .ref a, rfl, rfl, SqL.of b.hq, at_of (j := i) (by omega) (by rw [List.getElem?_map, ha]; rfl), a, _, rfl, SqT.of hta, rfl, _, _, rfl, _, _, rfl, rfl, ?_⟩
        have hp' := sm _ _ ht1
        have el : (((tas.map V.ref).length : Nat) : Int) = (ts.length : Int) := by rw [List.length_map, ltas]
        have hl8 := hW.t8
        refine ⟨_, rfl, p, _, rfl, .inl (SqL.of hp'), ((tas.map V.ref).length : Int), rfl, by omega, by omega, for_range
          (fun j σ H' => ∃ (F : List KR) (as : List Addr) (v7 v8 : Option V), σ = [some (.ref p), some (.ref p0), some (.ref q0), some (.ref d), some (.int (0 + (i : Int))), some (.ref xa), some (.ref ra), v7, v8, none] ∧ Same H H' ∧ MQ H' d q0 F as ∧ Bf (actL ts) ts.length ss F i j ∧ F[i]? = some (x, rx) ∧ H' xa = some (.tup (vrow x)) ∧ H' ra = some (.tup (vrow rx)))
          ⟨F, as, _, _, rfl, sm, b, bf, hx, hxa, hra⟩ ?_ ?_⟩
        · rintro j σ H' hj ⟨F, as, v7, v8, rfl, sm, b, bf, hx, hxa, hra⟩
          have hjt : j < ts.length := by omega
          obtain ⟨tj, htj⟩ : ∃ t, tas[j]? = some t := ⟨tas[j]'(by omega), List.getElem?_eq_getElem (by omega)⟩
          have hdj : 0 ≤ (j : Int) ∧ (j : Int) < (ts.length : Int) := by omega
          obtain ⟨t, h1'⟩ : ∃ t, ts[j]? = some t := ⟨ts[j], List.getElem?_eq_getElem hjt⟩
          have hT := ht3 j tj (vrow t) htj (by rw [vts, List.getElem?_map, h1']; rfl)
          generalize hyy : actL ts x (j : Int) = yy
          have lyy : yy.length = x.length := by rw [← hyy, actL, List.length_map]
          refine ⟨_, rfl, xa, rfl, ⟨_, SqT.of hxa⟩, fun D0 hD0 => lc_tup (K := K) (a := xa) (xs := vrow x) (fun k H3 => Same H' H3 ∧ H3 D0 = some (.lst ((vrow yy).take k))) ⟨same_new hD0, by rw [upd_same]; rfl⟩ (fun k H3 _ ⟨s3, _⟩ => SqT.of (s3 _ _ hxa)) ?_ ?_⟩
          · rintro k z H3 hz ⟨s3, hD3⟩
            obtain ⟨xk, hxk, rfl⟩ := vrow_at hz
            have hk : k < x.length := (List.getElem?_eq_some_iff.mp hxk).1
            have hxkr := hxr xk (List.mem_of_getElem? hxk)
            obtain ⟨t', g1, g2, _⟩ := hW.at_ hdj hxkr
            have g1' : ts[j]? = some t' := by simpa using g1
            obtain rfl : t = t' := Option.some.inj (h1'.symm.trans g1')
            refine ⟨rfl, _, rfl, _, rfl, p, _, 0 + (j : Int), .ref tj, rfl, rfl, SqL.of (s3 _ _ (sm _ _ ht1)), at_of (j := j) (by omega) (by rw [List.getElem?_map, htj]; rfl), _, rfl, tj, _, xk, .int (stp ts xk j), rfl, rfl, SqT.of (s3 _ _ (sm _ _ hT)), at_of (j := xk.toNat) (by omega) (by rw [vrow, List.getElem?_map, g2]; rfl), ?_⟩
            refine ⟨_, hD3, by rw [List.length_take, vrow, List.length_map, sizeLine_eq]; omega, ?_, ?_⟩
            · intro c o e
              rw [upd_ne (ne_of_none e hD0)]
              exact s3 _ _ e
            · have ez : (vrow yy)[k]? = some (V.int (stp ts xk j)) := by rw [← hyy, vrow, actL, List.map_map, List.getElem?_map, hxk]; rfl
              rw [upd_same, take_succ ez]
          · rintro H3 ⟨s3, hD3⟩
            have etk : (vrow yy).take (vrow x).length = vrow yy := by rw [List.take_of_length_le]; rw [vrow, vrow, List.length_map, List.length_map, lyy]; exact Nat.le_refl _
            rw [etk] at hD3
            refine ⟨D0, _, rfl, .inl ⟨SqL.of hD3, fun en hen => ?_⟩⟩
            have s4 := s3.trans (same_new (o := HO.tup (vrow yy)) hen)
            have hen4 : (upd H3 en (.tup (vrow yy))) en = some (.tup (vrow yy)) := upd_same
            generalize upd H3 en (.tup (vrow yy)) = H4 at s4 hen4 ⊢
            have b4 := b.same s4
            have sm4 := sm.trans s4
            have hxa4 := s4 _ _ hxa
            have hra4 := s4 _ _ hra
            have hsmall : F.length ≤ 1000 := bf.few few'
            have hil : i < F.length := (List.getElem?_eq_some_iff.mp hx).1
            refine ⟨_, rfl, _, rfl, d, _, rfl, DGet.t (k := kK yy) b4.hd (by rw [kK_v]; exact hen4), _, rfl, ?_⟩
            cases ev : valV (mK F) (kK yy) with
            | some v =>
              refine iteF ?_
              have hin : yy ∈ F.map (·.1) := by
                by_cases z : yy ∈ F.map (·.1)
                · exact z
                · rw [mK_none.mpr z] at ev; cases ev
              obtain ⟨e, he, e1⟩ := List.mem_map.mp hin
              obtain ⟨j2, hj2⟩ := List.getElem?_of_mem he
              exact ⟨F, as, _, _, rfl, sm4, b4, bf.more (j := j2) (k := e.1) (r := e.2) hx hj2 (by rw [hyy]; exact e1), hx, hxa4, hra4⟩
            | none =>
              refine iteT ?_
              have hnin := mK_none.mp ev
              have bfn : Bf (actL ts) ts.length ss (F ++ [(yy, rx ++ [(j : Int)])]) i (j + 1) := by
                rw [← hyy]
                exact bf.put hx (by rw [hyy]; exact hnin) hjt
              have hx' : (F ++ [(yy, rx ++ [(j : Int)])])[i]? = some (x, rx) := by rw [List.getElem?_append_left hil]; exact hx
              refine ⟨_, rfl, _, rfl, d, _, rfl, DPut.t b4.hd (by rw [kK_v]; exact hen4) (by rw [mK, List.length_map, sizeLine_eq]; omega), ?_⟩
              have hq4 := b4.hq
              have ndq : q0 ≠ d := ne_of hq4 b4.hd (by intro z; cases z)
              have kp : ∀ c ys, H4 c = some (.tup ys) → (upd H4 d (.dT (putK (mK F) (kK yy) (.bl true)))) c = some (.tup ys) := fun c ys e => by
                rw [upd_ne (ne_of e b4.hd (by intro z; cases z))]; exact e
              have k5 : Same H (upd H4 d (.dT (putK (mK F) (kK yy) (.bl true)))) := fun c o e => by
                rw [upd_ne (ne_of_none e nd0)]; exact sm4 _ _ e
              have hen5 := kp _ _ hen4
              have hxa5 := kp _ _ hxa4
              have hra5 := kp _ _ hra4
              have hq5 : (upd H4 d (.dT (putK (mK F) (kK yy) (.bl true)))) q0 = some (.lst (as.map V.ref)) := by rw [upd_ne ndq]; exact hq4
              have put := fun (H6 : Hp) (a e c : Addr) (s6 : Same (upd H4 d (.dT (putK (mK F) (kK yy) (.bl true)))) H6) (g1 : H6 a = some (.tup [.ref e, .ref c])) (g2 : H6 e = some (.tup (vrow yy))) (g3 : H6 c = some (.tup (vrow (rx ++ [(j : Int)])))) => b4.put (H6 := H6) hnin s6 g1 g2 g3
              generalize upd H4 d (.dT (putK (mK F) (kK yy) (.bl true))) = H5 at kp k5 hen5 hxa5 hra5 hq5 put ⊢
              refine ⟨_, rfl, .inl ⟨rfl, _, SqL.of hq5⟩, _, rfl, _, rfl, _, rfl, (by show 1 ≤ sizeLine; decide), fun dt hdt => ?_⟩
              have s5 := same_new (o := HO.tup [V.int (0 + (j : Int))]) hdt
              have hdt5 : (upd H5 dt (.tup [V.int (0 + (j : Int))])) dt = some (.tup [V.int (0 + (j : Int))]) := upd_same
              generalize upd H5 dt (.tup [V.int (0 + (j : Int))]) = H6 at s5 hdt5 ⊢
              -- whichever tuple stands for the row, the rest is the same
              have rest : ∀ (rb : Addr) (H7 : Hp), Same H6 H7 → H7 rb = some (.tup (vrow (rx ++ [(j : Int)]))) → ∀ (t5 : Addr), H7 t5 = none →
                  (upd H7 t5 (.tup [.ref en, .ref rb])) q0 = some (.lst (as.map V.ref)) ∧ (as.map V.ref).length < sizeLine ∧
                  ∃ (F' : List KR) (as' : List Addr) (w7 w8 : Option V), [some (V.ref p), some (.ref p0), some (.ref q0), some (.ref d), some (.int (0 + (i : Int))), some (.ref xa), some (.ref ra), some (.int (0 + (j : Int))), some (.ref en), none] = [some (.ref p), some (.ref p0), some (.ref q0), some (.ref d), some (.int (0 + (i : Int))), some (.ref xa), some (.ref ra), w7, w8, none] ∧
                    Same H (upd (upd H7 t5 (.tup [.ref en, .ref rb])) q0 (.lst (as.map V.ref ++ [.ref t5]))) ∧ MQ (upd (upd H7 t5 (.tup [.ref en, .ref rb])) q0 (.lst (as.map V.ref ++ [.ref t5]))) d q0 F' as' ∧ Bf (actL ts) ts.length ss F' i (j + 1) ∧ F'[i]? = some (x, rx) ∧
                    (upd (upd H7 t5 (.tup [.ref en, .ref rb])) q0 (.lst (as.map V.ref ++ [.ref t5]))) xa = some (.tup (vrow x)) ∧ (upd (upd H7 t5 (.tup [.ref en, .ref rb])) q0 (.lst (as.map V.ref ++ [.ref t5]))) ra = some (.tup (vrow rx)) := fun rb H7 s7 hrb t5 ht5 => by
                have s8 := (s5.trans s7).trans (same_new (o := HO.tup [.ref en, .ref rb]) ht5)
                obtain ⟨g1, g2⟩ := put _ t5 en rb s8 upd_same (s8 _ _ hen5) (same_new ht5 _ _ hrb)
                have kq : ∀ c ys, H5 c = some (.tup ys) → (upd (upd H7 t5 (.tup [.ref en, .ref rb])) q0 (.lst (as.map V.ref ++ [.ref t5]))) c = some (.tup ys) := fun c ys e => by
                  rw [upd_ne (ne_of (s8 _ _ e) g1 (by intro z; cases z))]; exact s8 _ _ e
                refine ⟨g1, by rw [List.length_map, b4.ln, sizeLine_eq]; omega, _, _, _, _, rfl, fun c o e => ?_, g2, bfn, hx', kq _ _ hxa5, kq _ _ hra5⟩
                rw [upd_ne (ne_of_none e nq0)]
                exact s8 _ _ (k5 _ _ e)
              have ej : V.int (0 + (j : Int)) = V.int (j : Int) := by rw [Int.zero_add]
              refine ⟨ra, dt, vrow rx, [.int (0 + (j : Int))], rfl, rfl, SqT.of (s5 _ _ hra5), SqT.of hdt5, ?_, fun e => ?_, fun _ e => absurd e (by simp), fun _ _ pn hpn => ?_⟩
              · show (vrow rx).length + 1 ≤ sizeLine
                rw [sizeLine_eq, vrow, List.length_map]; omega
              · have e0 : rx = [] := by
                  cases rx with
                  | nil => rfl
                  | cons z r => cases e
                subst e0
                refine ⟨(by show 2 ≤ sizeLine; decide), fun t5 ht5 => ?_⟩
                obtain ⟨g1, g2, g3⟩ := rest dt H6 (Same.refl _) (by rw [hdt5, ej]; rfl) t5 ht5
                exact ⟨q0, _, _, rfl, rfl, g1, g2, g3⟩
              · refine ⟨(by show 2 ≤ sizeLine; decide), fun t5 ht5 => ?_⟩
                obtain ⟨g1, g2, g3⟩ := rest pn _ (same_new hpn) (by rw [upd_same, vrow, vrow, List.map_append, ej]; rfl) t5 ht5
                exact ⟨q0, _, _, rfl, rfl, g1, g2, g3⟩
        · rintro σ H' ⟨F, as, v7, v8, rfl, sm, b, bf, hx, hxa, hra⟩
          have hil : i < F.length := (List.getElem?_eq_some_iff.mp hx).1
          have ejj : ((tas.map V.ref).length : Int).toNat = ts.length := by omega
          rw [ejj] at bf
          exact ⟨F, as, _, _, _, _, _, rfl, sm, b, bf.next, by omega⟩
    · rintro σ H' ⟨F, as, v4, v5, v6, v7, v8, rfl, sm, b, bf, hiF⟩
      have := bf.few few'
      have z : ((3200 : Int)).toNat = 3200 := rfl
      omega
end
end K1
namespace K1
open PySem PySem.Spec PyProof.Rows L2
theorem sub_len {α : Type} [DecidableEq α] : ∀ {a b : List α}, a.Nodup → (∀ x ∈ a, x ∈ b) → a.length ≤ b.length
  | [], _, _, _ => Nat.zero_le _
  | x :: a, b, nd, h => by
    obtain ⟨nx, na⟩ := List.nodup_cons.mp nd
    have hx : x ∈ b := h x List.mem_cons_self
    have ih := sub_len (b := b.erase x) na fun y hy => by
      have : y ≠ x := fun e => nx (e ▸ hy)
      exact (List.mem_erase_of_ne this).mpr (h y (List.mem_cons_of_mem _ hy))
    rw [List.length_erase_of_mem hx] at ih
    have : 0 < b.length := List.length_pos_of_mem hx
    simp only [List.length_cons]
    omega
theorem asc_nodup {l : List Int} (h : l.Pairwise (· < ·)) : l.Nodup := h.imp fun {a b} h => by intro e; omega
section
variable {act : List Int → Int → List Int} {n : Nat} {s s2 : List Int} {F G : List KR}
theorem Fst.pw (h : Fst act n s F) : F.Pairwise fun x y => rlt x.2 y.2 := List.pairwise_iff_getElem.mpr fun i j hi hj hij => h.asc i j F[i].1 F[j].1 F[i].2 F[j].2 hij (List.getElem?_eq_getElem hi) (List.getElem?_eq_getElem hj)
theorem Fst.mem (h : Fst act n s F) {e : KR} (he : e ∈ F) : e.1 = path act s e.2 ∧ (∀ x ∈ e.2, 0 ≤ x ∧ x < (n : Int)) ∧ e.2.length < F.length := by
  obtain ⟨j, hj⟩ := List.getElem?_of_mem he
  obtain ⟨h1, h2, h3⟩ := h.pth j e.1 e.2 hj
  have := (List.getElem?_eq_some_iff.mp hj).1
  exact ⟨h1, h2, by omega⟩
theorem Fst.first (h : Fst act n s F) {p : List Int → Bool} {e : KR} {L : List KR} (hf : F.filter (fun e => p e.1) = e :: L) : e ∈ F ∧ p e.1 = true ∧ ∀ r : List Int, (∀ x ∈ r, 0 ≤ x ∧ x < (n : Int)) → p (path act s r) = true → rle e.2 r := by
  have hm : e ∈ F.filter (fun e => p e.1) := by rw [hf]; exact List.mem_cons_self
  obtain ⟨m1, m2⟩ := List.mem_filter.mp hm
  refine ⟨m1, m2, fun r hr hp => ?_⟩
  obtain ⟨j, r', hj, hl⟩ := h.all r hr
  have hm' : (path act s r, r') ∈ F.filter (fun e => p e.1) := List.mem_filter.mpr ⟨List.mem_of_getElem? hj, hp⟩
  rw [hf] at hm'
  rcases List.mem_cons.mp hm' with z | z
  · rw [← z]; exact hl
  · have pw := h.pw.filter (fun e => p e.1)
    rw [hf] at pw
    exact rle.trans (.inr ((List.pairwise_cons.mp pw).1 _ z)) hl
theorem Fst.none (h : Fst act n s F) {p : List Int → Bool} (hf : F.filter (fun e => p e.1) = []) (r : List Int) (hr : ∀ x ∈ r, 0 ≤ x ∧ x < (n : Int)) : p (path act s r) = false := by
  cases e : p (path act s r) with
  | false => rfl
  | true =>
    obtain ⟨j, r', hj, hl⟩ := h.all r hr
    have hm' : (path act s r, r') ∈ F.filter (fun e => p e.1) := List.mem_filter.mpr ⟨List.mem_of_getElem? hj, e⟩
    rw [hf] at hm'
    cases hm'
/-- two searches of one machine: the first rows that lead to what is looked for are the same -/
theorem fst_two (h1 : Fst act n s F) (h2 : Fst act n s2 G) {p q : List Int → Bool} (hpq : ∀ r : List Int, (∀ x ∈ r, 0 ≤ x ∧ x < (n : Int)) → p (path act s r) = q (path act s2 r)) {g : KR} {M : List KR} (hg : G.filter (fun e => q e.1) = g :: M) :
    ∃ e L, F.filter (fun e => p e.1) = e :: L ∧ e.2 = g.2 := by
  obtain ⟨g1, g2, g3⟩ := h2.first hg
  obtain ⟨k1, k2, _⟩ := h2.mem g1
  have pg : p (path act s g.2) = true := by rw [hpq _ k2, ← k1]; exact g2
  match hf : F.filter (fun e => p e.1) with
  | [] =>
    rw [h1.none hf _ k2] at pg
    cases pg
  | e :: L =>
    obtain ⟨e1, e2, e3⟩ := h1.first hf
    obtain ⟨l1, l2, _⟩ := h1.mem e1
    exact ⟨e, L, hf, rle.anti (e3 _ k2 pg) (g3 _ l2 (by rw [← hpq _ l2, ← l1]; exact e2))⟩
end
/-! ### where rows lead all states, and two of them -/
section
variable {ts : Ts} {F G : List KR} {a h t : Int}
theorem idL_to {n : Nat} {r : List Int} {i : Int} (h0 : 0 ≤ i) (h1 : i < (n : Int)) : (path (actL ts) (idL n) r).getD i.toNat 0 = run ts i r := by
  rw [path_run, List.getD_eq_getElem?_getD, List.getElem?_map, idL, gL_at (by omega)]
  show run ts ((i.toNat : Nat) : Int) r = _
  rw [show ((i.toNat : Nat) : Int) = i by omega]
theorem pair_0 {r : List Int} : (path (actL ts) [a, h] r).getD 0 0 = run ts a r := by rw [path_run]; rfl
theorem pair_1 {r : List Int} : (path (actL ts) [a, h] r).getD 1 0 = run ts h r := by rw [path_run]; rfl
/-- the maps that lead the archive to t -/
def EM (F : List KR) (a : Nat) (t : Int) : List KR := F.filter fun e => decide (e.1.getD a 0 = t)
def thr (L : List KR) (h : Nat) : List Int := L.map fun e => e.1.getD h 0
theorem ends_mem (hM : Fst (actL ts) ts.length (idL (nS ts)) F) (hG : Fst (actL ts) ts.length [a, h] G) (ha : 0 ≤ a ∧ a < (nS ts : Int)) (hh : 0 ≤ h ∧ h < (nS ts : Int)) (x : Int) : x ∈ thr (EM F a.toNat t) h.toNat ↔ x ∈ endsOf G t := by
  unfold thr EM endsOf onT
  constructor
  · intro hx
    obtain ⟨e, he, rfl⟩ := List.mem_map.mp hx
    obtain ⟨h1, h2⟩ := List.mem_filter.mp he
    obtain ⟨k1, k2, _⟩ := hM.mem h1
    have h2 := of_decide_eq_true h2
    obtain ⟨j, r', hj, _⟩ := hG.all e.2 k2
    refine List.mem_map.mpr ⟨_, List.mem_filter.mpr ⟨List.mem_of_getElem? hj, decide_eq_true ?_⟩, ?_⟩
    · show (path (actL ts) [a, h] e.2).getD 0 0 = t
      rw [pair_0, ← h2, k1, idL_to ha.1 ha.2]
    · show (path (actL ts) [a, h] e.2).getD 1 0 = _
      rw [pair_1, k1, idL_to hh.1 hh.2]
  · intro hx
    obtain ⟨e, he, rfl⟩ := List.mem_map.mp hx
    obtain ⟨h1, h2⟩ := List.mem_filter.mp he
    obtain ⟨k1, k2, _⟩ := hG.mem h1
    have h2 := of_decide_eq_true h2
    obtain ⟨j, r', hj, _⟩ := hM.all e.2 k2
    refine List.mem_map.mpr ⟨_, List.mem_filter.mpr ⟨List.mem_of_getElem? hj, decide_eq_true ?_⟩, ?_⟩
    · show (path (actL ts) (idL (nS ts)) e.2).getD a.toNat 0 = t
      rw [idL_to ha.1 ha.2, ← h2, k1, pair_0]
    · show (path (actL ts) (idL (nS ts)) e.2).getD h.toNat 0 = _
      rw [idL_to hh.1 hh.2, k1, pair_1]
theorem onT_form (hG : Fst (actL ts) ts.length [a, h] G) {e : KR} (he : e ∈ onT G t) : e.1 = [t, e.1.getD 1 0] := by
  obtain ⟨h1, h2⟩ := List.mem_filter.mp he
  obtain ⟨k1, k2, _⟩ := hG.mem h1
  have h2 := of_decide_eq_true h2
  rw [path_run] at k1
  rw [k1] at h2 ⊢
  have h2 : run ts a e.2 = t := h2
  show [run ts a e.2, run ts h e.2] = [t, run ts h e.2]
  rw [h2]
theorem ends_nodup (hG : Fst (actL ts) ts.length [a, h] G) : (endsOf G t).Nodup := by
  refine List.pairwise_map.mpr (List.Pairwise.imp_of_mem (fun {e e'} he he' ne z => ?_) ((nodup_of hG.nd).filter _))
  exact ne ((onT_form hG he).trans ((congrArg (fun x => [t, x]) z).trans (onT_form hG he').symm))
theorem lots_len (hM : Fst (actL ts) ts.length (idL (nS ts)) F) (hG : Fst (actL ts) ts.length [a, h] G) (ha : 0 ≤ a ∧ a < (nS ts : Int)) (hh : 0 ≤ h ∧ h < (nS ts : Int)) {lots : List Int} (hp : lots.Pairwise (· < ·)) (hm : ∀ x, x ∈ lots ↔ x ∈ thr (EM F a.toNat t) h.toNat) :
    lots.length = (endsOf G t).length ∧ ∀ x, x ∈ lots ↔ x ∈ endsOf G t := by
  have k : ∀ x, x ∈ lots ↔ x ∈ endsOf G t := fun x => (hm x).trans (ends_mem hM hG ha hh x)
  exact ⟨Nat.le_antisymm (sub_len (asc_nodup hp) fun x hx => (k x).mp hx) (sub_len (ends_nodup hG) fun x hx => (k x).mpr hx), k⟩
theorem two_link (hM : Fst (actL ts) ts.length (idL (nS ts)) F) (hG : Fst (actL ts) ts.length [a, h] G) (ha : 0 ≤ a ∧ a < (nS ts : Int)) (hh : 0 ≤ h ∧ h < (nS ts : Int)) (h2 : 2 ≤ (endsOf G t).length) :
    ∃ e1 L1 e2 L2 rs, EM F a.toNat t = e1 :: L1 ∧ (EM F a.toNat t).filter (fun e => decide (e.1.getD h.toNat 0 ≠ e1.1.getD h.toNat 0)) = e2 :: L2 ∧ rowsOf G t = e1.2 :: e2.2 :: rs := by
  unfold endsOf at h2
  rw [List.length_map] at h2
  match hg : onT G t, h2 with
  | g1 :: g2 :: M, _ =>
    have q1 : ∀ r : List Int, (∀ x ∈ r, 0 ≤ x ∧ x < (ts.length : Int)) → decide ((path (actL ts) (idL (nS ts)) r).getD a.toNat 0 = t) = decide ((path (actL ts) [a, h] r).getD 0 0 = t) := fun r _ => by
      rw [idL_to ha.1 ha.2, pair_0]
    obtain ⟨e1, L1, hL, he⟩ := fst_two (p := fun x => decide (x.getD a.toNat 0 = t)) (q := fun x => decide (x.getD 0 0 = t)) hM hG q1 hg
    have m1 : e1 ∈ F := (List.mem_filter.mp (show e1 ∈ F.filter _ by rw [hL]; exact List.mem_cons_self)).1
    have mg1 : g1 ∈ onT G t := by rw [hg]; exact List.mem_cons_self
    have mg2 : g2 ∈ onT G t := by rw [hg]; exact List.mem_cons_of_mem _ List.mem_cons_self
    have w1 : e1.1.getD h.toNat 0 = g1.1.getD 1 0 := by
      rw [(hM.mem m1).1, idL_to hh.1 hh.2, (hG.mem (List.mem_filter.mp mg1).1).1, pair_1, he]
    have nd := ends_nodup (t := t) hG
    unfold endsOf at nd
    rw [hg] at nd
    have n12 : g2.1.getD 1 0 ≠ g1.1.getD 1 0 := fun z => (List.nodup_cons.mp nd).1 (by show g1.1.getD 1 0 ∈ _; rw [← z]; exact List.mem_cons_self)
    have q2 : ∀ r : List Int, (∀ x ∈ r, 0 ≤ x ∧ x < (ts.length : Int)) → (decide ((path (actL ts) (idL (nS ts)) r).getD h.toNat 0 ≠ e1.1.getD h.toNat 0) && decide ((path (actL ts) (idL (nS ts)) r).getD a.toNat 0 = t)) = (decide ((path (actL ts) [a, h] r).getD 1 0 ≠ e1.1.getD h.toNat 0) && decide ((path (actL ts) [a, h] r).getD 0 0 = t)) := fun r _ => by
      rw [idL_to ha.1 ha.2, pair_0, idL_to hh.1 hh.2, pair_1]
    have hg2 : ∃ M', G.filter (fun e => decide (e.1.getD 1 0 ≠ e1.1.getD h.toNat 0) && decide (e.1.getD 0 0 = t)) = g2 :: M' := by
      have ff : G.filter (fun e => decide (e.1.getD 1 0 ≠ e1.1.getD h.toNat 0) && decide (e.1.getD 0 0 = t)) = (onT G t).filter fun e => decide (e.1.getD 1 0 ≠ e1.1.getD h.toNat 0) := by
        unfold onT
        rw [List.filter_filter]
      rw [ff, hg, List.filter_cons, if_neg (by rw [w1]; simp), List.filter_cons, if_pos (decide_eq_true (by rw [w1]; exact n12))]
      exact ⟨_, rfl⟩
    obtain ⟨M', hg2⟩ := hg2
    obtain ⟨e2, L2, hL2, he2⟩ := fst_two (p := fun x => decide (x.getD h.toNat 0 ≠ e1.1.getD h.toNat 0) && decide (x.getD a.toNat 0 = t)) (q := fun x => decide (x.getD 1 0 ≠ e1.1.getD h.toNat 0) && decide (x.getD 0 0 = t)) hM hG q2 hg2
    refine ⟨e1, L1, e2, L2, M.map (·.2), hL, ?_, ?_⟩
    · unfold EM
      rw [List.filter_filter]
      exact hL2
    · unfold rowsOf
      rw [hg, he, he2]; rfl
/-- rows of the pairs are short -/
theorem pair_short (w : Wf ts) (ha : 0 ≤ a ∧ a < (nS ts : Int)) (hh : 0 ≤ h ∧ h < (nS ts : Int)) (hG : Fst (actL ts) ts.length [a, h] G) : G.length ≤ 144 := by
  have form : ∀ e ∈ G, ∃ x y : Int, e.1 = [x, y] ∧ 0 ≤ x ∧ x < 12 ∧ 0 ≤ y ∧ y < 12 := fun e he => by
    obtain ⟨e1, hr, _⟩ := hG.mem he
    have h1 := w.run e.2 a hr ha
    have h2 := w.run e.2 h hr hh
    have := w.s12
    rw [path_run] at e1
    exact ⟨run ts a e.2, run ts h e.2, e1, by omega, by omega, by omega, by omega⟩
  have nd2 : (G.map fun e => e.1.getD 0 0 * 12 + e.1.getD 1 0).Nodup := by
    refine List.pairwise_map.mpr (List.Pairwise.imp_of_mem (fun {e e'} he he' ne z => ?_) (nodup_of hG.nd))
    obtain ⟨x, y, e1, _⟩ := form e he
    obtain ⟨x', y', e2, _⟩ := form e' he'
    rw [e1, e2] at z
    have z' : x * 12 + y = x' * 12 + y' := z
    obtain ⟨rfl, rfl⟩ : x = x' ∧ y = y' := by omega
    exact ne (e1.trans e2.symm)
  have := nodup_le 144 _ nd2 fun z hz => by
    obtain ⟨e, he, rfl⟩ := List.mem_map.mp hz
    obtain ⟨x, y, e1, _⟩ := form e he
    rw [e1]
    show 0 ≤ x * 12 + y ∧ x * 12 + y < ((144 : Nat) : Int)
    omega
  rw [List.length_map] at this
  omega
end
end K1
/-! set(xs) of a list of whole numbers, sorted(set(xs)); a dict display with one tuple key; the keys of a dict walked and kept -/
namespace K1
open PySem PySem.Spec PyProof.Rows L2
section
variable {P : Program} {w : World} {A : Around} {E : Value → Shared → Prop} {s : Shared}
theorem call_set_lstI {l : Addr} {items : Array Value} (ns : List Int) {Q : Value → Shared → Prop} (hh : A.handled = none) (hl : s.heap.IsList l items) (hit : IntsAre items.toList ns) (hb : ns.length + 1 < scanBound)
    (h : ∀ (h' : Heap) (tk c : Nat), SetR w h' s.heap.objs.size (fun j => decide (j ∈ ns)) c → c ≤ ns.length → (∀ b o, s.heap.get? b = some o → h'.get? b = some o) → Q (.ref s.heap.objs.size) { s with heap := h', toks := tk }) :
    wpAny (model P w) A (call (.type "set") [.ref l]) Q E s := by
  have hisz : items.size = ns.length := by
    have q := IntsAre.length hit
    rw [Array.length_toList] at q
    exact q
  obtain ⟨c, tl, hmro⟩ := F.called_set.mro
  have hmade := F.called_set.made
  have hsub := F.called_set.sub
  refine wpAny_call (codeAny_of_tree ?_)
  show wpAny _ _ (callAny (.type "set") _) _ _ _
  refine wpAny_pure ⟨Code.quiet_builtin _ (by decide +kernel), codeAny_builtin F.entry_type_call ?_⟩
  rw [Around.under_plain (weight_type_call_type "set" [.ref l] []) rfl]
  have h1 := F.called_set.notType
  have h2 := F.called_set.canCreate
  have hct := F.typeCall_set_1 (.ref l)
  repeat (any_goals (first | assumption | wp_step))

  refine codeAny_mono (code_set_led1 (.ref l) (E := E) (Q₁ := fun obj s₁ => obj = .ref s.heap.objs.size ∧ s₁ = { s with heap := s.heap.push { cls := .type "set", dict := none, data := .set #[] 0 (.fresh 0 0 (!w.params.followText "set-order")) } }) ⟨rfl, rfl⟩) fun r s₁ hr => ?_
  cases r with
  | error e => exact hr
  | ok fl =>
    cases fl with
    | ret obj =>
      obtain ⟨rfl, rfl⟩ := hr
      have hS : (s.heap.push { cls := .type "set", dict := none, data := .set #[] 0 (.fresh 0 0 (!w.params.followText "set-order")) }).get? s.heap.objs.size = some { cls := .type "set", dict := none, data := .set #[] 0 (.fresh 0 0 (!w.params.followText "set-order")) } := Heap.get?_push_size _ rfl
      have hT : Shared.TypeIs { s with heap := s.heap.push { cls := .type "set", dict := none, data := .set #[] 0 (.fresh 0 0 (!w.params.followText "set-order")) } } (.ref s.heap.objs.size) "set" := ⟨_, hS, rfl⟩
      have hli := F.called_set.init.lookup
      have hbi := F.called_set.init.bind (.ref s.heap.objs.size)
      repeat (any_goals (first | assumption | wp_step))

      refine codeAny_mono (codeAny_call_builtin (R := wants (fun r s₂ => r = .none ∧ ∃ h' tk c, s₂ = { s with heap := h', toks := tk } ∧ SetR w h' s.heap.objs.size (fun j => decide (j ∈ ns)) c ∧ c ≤ ns.length ∧
          (∀ b o, s.heap.get? b = some o → h'.get? b = some o)) E) F.called_set.init.plain F.entry_set_init (check_set_init_1 hT ?_)) fun r₂ s₂ hr₂ => ?_
      · obtain ⟨ol, hol, hcl, nl, hdl⟩ := hl
        obtain ⟨ocls, odict, odata, oslots⟩ := ol
        simp only at hcl hdl
        subst hcl; subst hdl
        have hol' : (s.heap.push { cls := .type "set", dict := none, data := .set #[] 0 (.fresh 0 0 (!w.params.followText "set-order")) }).get? l = some { cls := .type "list", dict := odict, data := .seq items nl, slots := oslots } := Heap.get?_push_of_some _ hol
        have hsls := F.sub_list_set
        have hslf := F.sub_list_frozenset
        have hne : (Value.type "list" == Value.type "dict") = false := by decide
        have hl1 : (s.heap.push { cls := .type "set", dict := none, data := .set #[] 0 (.fresh 0 0 (!w.params.followText "set-order")) }).IsList l items := ⟨_, hol', rfl, nl, rfl⟩
        unfold Builtin.«set.__init__» noKeywords Builtin.Frozenset.updateFrom
        generalize hPI : pyIter = PI
        wp_walk
        subst hPI

        refine wpAny_pyIter_list hl1 ?_
        refine wpAny_bind (wpAny_runValue ?_)
        have hlS : l < s.heap.objs.size := Heap.lt_size hol
        have hh3 : A.in1.in1.in1.handled = none := by simp [hh]
        have hz1 : (s.heap.push { cls := .type "set", dict := none, data := .set #[] 0 (.fresh 0 0 (!w.params.followText "set-order")) }).objs.size = s.heap.objs.size + 1 := Heap.size_push ..
        have hneI : l ≠ (s.heap.push { cls := .type "set", dict := none, data := .set #[] 0 (.fresh 0 0 (!w.params.followText "set-order")) }).objs.size := by
          rw [Heap.size_push]; exact Nat.ne_of_lt (Nat.lt_succ_of_lt hlS)
        have hSf : s.heap.objs.size ∉ [(s.heap.push { cls := .type "set", dict := none, data := .set #[] 0 (.fresh 0 0 (!w.params.followText "set-order")) }).objs.size, l] := by
          rw [Heap.size_push]; simp only [List.mem_cons, List.mem_singleton, List.not_mem_nil, or_false, not_or]
          exact ⟨Nat.ne_of_lt (Nat.lt_succ_self _), Nat.ne_of_gt hlS⟩
        have hval : ∀ (i : Nat) (v : Value), items[i]? = some v → ∃ k t, ns[i]? = some k ∧ v = .int k t := fun i v hv => by
          have hi : i < ns.length := by rw [← hisz]; exact (Array.getElem?_eq_some_iff.mp hv).1
          obtain ⟨t, e⟩ := PyProof.Rows.IntsAre.int_at hit i v (by rw [Array.getElem?_toList]; exact hv)
          refine ⟨ns[i], t, List.getElem?_eq_getElem hi, ?_⟩
          rw [e, List.getD_eq_getElem?_getD, List.getElem?_eq_getElem hi] <;> rfl
        refine set_update_ints ((Walks.list hh3 _ l hneI items).toS) s.heap.objs.size
          hSf ns hisz hb hval (items.size - 0) 0 _ (by omega) (Nat.zero_le _)
          ⟨⟨_, Heap.get?_push_size _ rfl, rfl, rfl⟩, (hl1.push _)⟩ ?hS0 ?hR
        case hS0 =>
          have hget : ((s.heap.push { cls := .type "set", dict := none, data := .set #[] 0 (.fresh 0 0 (!w.params.followText "set-order")) }).push { cls := .type "list_iterator", data := .fields #[.ref l, .int 0 0] }).get? s.heap.objs.size
              = some { cls := .type "set", dict := none, data := .set #[] 0 (.fresh 0 0 (!w.params.followText "set-order")) } := Heap.get?_push_of_some _ hS
          exact ⟨0, Nat.le_refl 0, setR_new_at hget⟩
        case hR =>
          intro s' c' hm hc' hS'
          obtain ⟨h', g2, d', tk', os'⟩ := s'
          have eg : g2 = s.gens := hm.gens
          have ed : d' = s.drawn := hm.drawn
          have eo : os' = s.os := hm.os
          subst eg; subst ed; subst eo
          show wpAny _ _ _ _ _ _
          refine wpAny_pure ?_
          show wpAny _ _ (ret Value.none) _ _ _
          rw [hisz] at hc'
          refine wpAny_pure ⟨rfl, h', tk', c', rfl, hS', hc', fun b o e => ?_⟩
          have hb0 : b < s.heap.objs.size := Heap.lt_size e
          have hb1 : b ≠ s.heap.objs.size := Nat.ne_of_lt hb0
          have hb2 : b ≠ (s.heap.push { cls := .type "set", dict := none, data := .set #[] 0 (.fresh 0 0 (!w.params.followText "set-order")) }).objs.size := by
            rw [Heap.size_push]; exact Nat.ne_of_lt (Nat.lt_succ_of_lt hb0)
          exact hm.heap b o (by simp only [List.mem_cons, List.mem_singleton, List.not_mem_nil, or_false, not_or]; exact ⟨hb1, hb2⟩) (Heap.get?_push_of_some _ (Heap.get?_push_of_some _ e))

      · cases r₂ with
        | error e => exact hr₂
        | ok fl₂ =>
          cases fl₂ with
          | ret r =>
            obtain ⟨rfl, h', tk, c', rfl, hS', hc', hk'⟩ := hr₂
            repeat (any_goals (first | assumption | wp_step))
            exact h _ _ _ hS' hc' hk'
          | _ => exact hr₂.elim
    | _ => exact hr.elim

end
/-- set(xs), xs a list of whole numbers -/
def rSetI (K : PySem.W.Frag) (w : World) : List V → Hp → VK → Prop := fun xs H Q => ∃ (a : Addr) (ns : List Int), xs = [.ref a] ∧ SqL K H a (ns.map V.int) ∧ ns.length < 60 ∧
  ∀ p c, H p = none → c ≤ ns.length → Q (.ref p) (upd H p (SetO w p (fun j => decide (j ∈ ns)) c))
theorem cr_setI {X : Cx} (hc : X.calm = true) : CallR X (.type "set") (rSetI X.K X.w) := by
  intro pins s σ H xs us Q I r h
  obtain ⟨a, ns, rfl, hs, h60, q⟩ := h
  rw [Vals.ref1 r]
  obtain ⟨its, rv, pl, hz⟩ := I.list hs
  refine call_set_lstI ns (I.ok.hd hc) pl.isList (by simpa using rv.ints) (by unfold scanBound; omega) fun h' tk c R hcn k => ?_
  refine ⟨.ref _, upd H s.heap.objs.size (SetO X.w s.heap.objs.size (fun j => decide (j ∈ ns)) c), I.laid (t' := tk) k (Nat.le_refl _) (setO_new R), rfl, q _ c (I.hok.fresh (Nat.le_refl _)) hcn⟩
end K1
namespace K1
open PySem PySem.Spec PyProof.Rows L2
def Rch (ts : Ts) (s x : Int) : Prop := ∃ r : List Int, (∀ d ∈ r, 0 ≤ d ∧ d < (ts.length : Int)) ∧ run ts s r = x
theorem Rch.rng {ts : Ts} (w : Wf ts) {s x : Int} (h : Rch ts s x) (hs : 0 ≤ s ∧ s < (nS ts : Int)) : 0 ≤ x ∧ x < (nS ts : Int) := by
  obtain ⟨r, hr, rfl⟩ := h
  exact w.run r s hr hs
theorem Rch.trans {ts : Ts} {s x y : Int} (a : Rch ts s x) (b : Rch ts x y) : Rch ts s y := by
  obtain ⟨r, hr, rfl⟩ := a
  obtain ⟨q, hq, rfl⟩ := b
  exact ⟨r ++ q, fun d hd => (List.mem_append.mp hd).elim (hr d) (hq d), by unfold run; rw [List.foldl_append]⟩
def In8 (ts : Ts) (d : Int) : Prop := 0 ≤ d ∧ d < (ts.length : Int)
def VRow (ts : Ts) (r : List Int) : Prop := ∀ d ∈ r, 0 ≤ d ∧ d < (ts.length : Int)
theorem VRow.app {ts : Ts} {r q : List Int} (a : VRow ts r) (b : VRow ts q) : VRow ts (r ++ q) := fun d hd => (List.mem_append.mp hd).elim (a d) (b d)
theorem run_app (ts : Ts) (s : Int) (r q : List Int) : run ts s (r ++ q) = run ts (run ts s r) q := by
  unfold run
  rw [List.foldl_append]
/-- the joins with this archive and this state here are told, as far as rows lead -/
def Told (ts : Ts) (a h : Int) : Prop := ∀ r q : List Int, VRow ts r → VRow ts q → run ts a r = run ts a q → run ts h r = run ts h q
/-- told behind one deed, so behind any row -/
def Tells (ts : Ts) (s : Int) : Prop := ∀ x, Rch ts s x → ∀ d, In8 ts d → Told ts x (stp ts x d)
theorem Tells.row {ts : Ts} {s : Int} (t : Tells ts s) : ∀ (u : List Int) {x : Int}, Rch ts s x → VRow ts u → Told ts x (run ts x u)
  | [], x, _, _ => fun r q _ _ e => e
  | d :: u, x, hx, hu => fun r q hr hq e => by
    have hd := hu d List.mem_cons_self
    have h1 := t x hx d hd r q hr hq e
    have hy : Rch ts s (stp ts x d) := hx.trans ⟨[d], fun e he => by rw [List.mem_singleton.mp he]; exact hd, rfl⟩
    exact Tells.row t u hy (fun e he => hu e (List.mem_cons_of_mem _ he)) r q hr hq h1
/-- all joins of the orbit -/
theorem tells_all {ts : Ts} {s : Int} : Tells ts s ↔ ∀ x, Rch ts s x → ∀ h, Rch ts x h → Told ts x h := by
  constructor
  · rintro t x hx h ⟨u, hu, rfl⟩
    exact t.row u hx hu
  · intro t x hx d hd
    exact t x hx _ ⟨[d], fun e he => by rw [List.mem_singleton.mp he]; exact hd, rfl⟩
/-- rows behind others' rows -/
theorem Tells.kept {ts : Ts} {s : Int} (t : Tells ts s) {u z : List Int} (hu : VRow ts u) (hz : VRow ts z) : Told ts (run ts s z) (run ts (run ts s u) z) := fun r q hr hq e => by
  have hs : Rch ts s s := ⟨[], fun d hd => absurd hd (by simp), rfl⟩
  have k := t.row u hs hu (z ++ r) (z ++ q) (hz.app hr) (hz.app hq) (by rw [run_app, run_app]; exact e)
  rw [run_app, run_app] at k
  exact k
/-- deeds that commute on the orbit -/
def Comm (ts : Ts) (s : Int) : Prop := ∀ x, Rch ts s x → ∀ d e, In8 ts d → In8 ts e → stp ts (stp ts x d) e = stp ts (stp ts x e) d
theorem Comm.one {ts : Ts} {s : Int} (c : Comm ts s) {d : Int} (hd : In8 ts d) : ∀ (r : List Int) {x : Int}, Rch ts s x → VRow ts r → run ts (stp ts x d) r = stp ts (run ts x r) d
  | [], x, _, _ => rfl
  | e :: r, x, hx, hr => by
    have he := hr e List.mem_cons_self
    have hy : Rch ts s (stp ts x e) := hx.trans ⟨[e], fun f hf => by rw [List.mem_singleton.mp hf]; exact he, rfl⟩
    show run ts (stp ts (stp ts x d) e) r = stp ts (run ts (stp ts x e) r) d
    rw [c x hx d e hd he]
    exact c.one hd r hy (fun f hf => hr f (List.mem_cons_of_mem _ hf))
theorem Comm.tells {ts : Ts} {s : Int} (c : Comm ts s) : Tells ts s := fun x hx d hd r q hr hq e => by
  rw [c.one hd r hx hr, c.one hd q hx hq, e]
end K1
namespace K1
open PySem PySem.Spec PyProof.Rows L2
/-- set(xs), xs many whole numbers below a small one -/
def rSetB (K : PySem.W.Frag) (w : World) (B : Nat) : List V → Hp → VK → Prop := fun xs H Q => ∃ (a : Addr) (ns : List Int), xs = [.ref a] ∧ SqL K H a (ns.map V.int) ∧ ns.length < 4000 ∧ (∀ x ∈ ns, 0 ≤ x ∧ x < (B : Int)) ∧
  ∀ p c, H p = none → c ≤ B → Q (.ref p) (upd H p (SetO w p (fun j => decide (j ∈ ns)) c))
theorem setR_few {w : World} {h : Heap} {a : Addr} {ns : List Int} {c B : Nat} (R : SetR w h a (fun j => decide (j ∈ ns)) c) (hb : ∀ x ∈ ns, 0 ≤ x ∧ x < (B : Int)) : c ≤ B := by
  obtain ⟨o, es, ep, t, ho, hx, hd, hg, nd, mem, _, _, hn, _⟩ := R
  have := nodup_le B _ nd fun x hx => hb x (of_decide_eq_true ((mem x).mpr hx))
  rw [List.length_map, Array.length_toList] at this
  omega
theorem cr_setB {X : Cx} {K : PySem.W.Frag} {w : World} {B : Nat} (hK : X.K = K) (hw : X.w = w) (hc : X.calm = true) : CallR X (.type "set") (rSetB K w B) := by
  subst hK
  subst hw
  intro pins s σ H xs us Q I r h
  obtain ⟨a, ns, rfl, hs, h4, hb, q⟩ := h
  rw [Vals.ref1 r]
  obtain ⟨its, rv, pl, hz⟩ := I.list hs
  refine call_set_lstI ns (I.ok.hd hc) pl.isList (by simpa using rv.ints) (by unfold scanBound; omega) fun h' tk c R hcn k => ?_
  refine ⟨.ref _, upd H s.heap.objs.size (SetO X.w s.heap.objs.size (fun j => decide (j ∈ ns)) c), I.laid (t' := tk) k (Nat.le_refl _) (setO_new R), rfl, q _ c (I.hok.fresh (Nat.le_refl _)) (setR_few R hb)⟩
theorem piL {X : Cx} {K : PySem.W.Frag} {tg l : Expr} {tl : TE} (h : X.K = K) (hl : PE X l tl) : PI X tg l (iList K tl) := by
  subst h
  exact pi_list hl
theorem vrow_getD {xs : List Int} {i : Nat} (h : i < xs.length) : (vrow xs)[i]? = some (V.int (xs.getD i 0)) := by
  rw [vrow, List.getElem?_map, List.getD_eq_getElem?_getD, List.getElem?_eq_getElem h]; rfl
section
variable {ts : Ts} {F : List KR} {y h : Int}
theorem map_at (hF : Fst (actL ts) ts.length (idL (nS ts)) F) {e : KR} (he : e ∈ F) (hy : 0 ≤ y ∧ y < (nS ts : Int)) : e.1.getD y.toNat 0 = run ts y e.2 := by rw [(hF.mem he).1, idL_to hy.1 hy.2]
theorem thr_rch (hF : Fst (actL ts) ts.length (idL (nS ts)) F) (hy : 0 ≤ y ∧ y < (nS ts : Int)) (x : Int) : x ∈ thr F y.toNat ↔ Rch ts y x := by
  constructor
  · intro hx
    obtain ⟨e, he, rfl⟩ := List.mem_map.mp hx
    exact ⟨e.2, (hF.mem he).2.1, (map_at hF he hy).symm⟩
  · rintro ⟨r, hr, rfl⟩
    obtain ⟨j, r', hj, _⟩ := hF.all r hr
    exact List.mem_map.mpr ⟨_, List.mem_of_getElem? hj, by show (path (actL ts) (idL (nS ts)) r).getD y.toNat 0 = _; rw [idL_to hy.1 hy.2]⟩
theorem told_of (hF : Fst (actL ts) ts.length (idL (nS ts)) F) (hy : 0 ≤ y ∧ y < (nS ts : Int)) (hh : 0 ≤ h ∧ h < (nS ts : Int)) (c : ∀ e ∈ F, ∀ f ∈ F, e.1.getD y.toNat 0 = f.1.getD y.toNat 0 → e.1.getD h.toNat 0 = f.1.getD h.toNat 0) : Told ts y h := fun r q hr hq e => by
  obtain ⟨i, r', hi, _⟩ := hF.all r hr
  obtain ⟨j, q', hj, _⟩ := hF.all q hq
  have z := c _ (List.mem_of_getElem? hi) _ (List.mem_of_getElem? hj)
  have z : (path (actL ts) (idL (nS ts)) r).getD y.toNat 0 = (path (actL ts) (idL (nS ts)) q).getD y.toNat 0 → (path (actL ts) (idL (nS ts)) r).getD h.toNat 0 = (path (actL ts) (idL (nS ts)) q).getD h.toNat 0 := z
  rw [idL_to hy.1 hy.2, idL_to hy.1 hy.2, idL_to hh.1 hh.2, idL_to hh.1 hh.2] at z
  exact z e
theorem told_no (hF : Fst (actL ts) ts.length (idL (nS ts)) F) (hy : 0 ≤ y ∧ y < (nS ts : Int)) (hh : 0 ≤ h ∧ h < (nS ts : Int)) {e f : KR} (he : e ∈ F) (hf : f ∈ F) (k1 : e.1.getD y.toNat 0 = f.1.getD y.toNat 0) (k2 : e.1.getD h.toNat 0 ≠ f.1.getD h.toNat 0) : ¬ Told ts y h := fun t => by
  rw [map_at hF he hy, map_at hF hf hy] at k1
  rw [map_at hF he hh, map_at hF hf hh] at k2
  exact k2 (t _ _ (hF.mem he).2.1 (hF.mem hf).2.1 k1)
end
def spLTells : Sp := fun vs H Q _ => ∃ p q s F ts, vs = [.ref p, .ref q, .int s] ∧ MapsAt H q F ∧ Fst (actL ts) ts.length (idL (nS ts)) F ∧ F.length ≤ 1000 ∧ Wf ts ∧ (0 ≤ s ∧ s < (nS ts : Int)) ∧ ∀ (b : Bool) H', Same H H' → (b = true ↔ Tells ts s) → Q (.bl b) H'
section
variable {P : Program} {w : World} {K : PySem.W.Frag} {mg : Str → Option Value} {base : Heap}
abbrev nLt : List Str := ["_law_tables_here", "_law_maps_here", "_law_state", "_law_archive", "_law_here", "_law_ends", "_law_one", "_law_row"]
theorem scLt : FnScope nLt ["_law_tables_here", "_law_maps_here", "_law_state"] (defScope sLTells) := ⟨rfl, rfl, rfl, by decide +kernel, rfl, by decide +kernel, by decide +kernel⟩
theorem ok_ltells {f : Addr} {fd : FuncData} (D : Df K mg "_law_tells" sLTells ["_law_tables_here", "_law_maps_here", "_law_state"] f fd) (B : Bt mg) : FnOk P w K mg base CX0 1 f fd ["_law_tables_here", "_law_maps_here", "_law_state"] spLTells := by
  refine D.F.ok scLt (fun vs H Q E h => ?_) (fun cdv A outer s H vs Q E hr h => ?_)
  · obtain ⟨p, q, s, F, ts, rfl, _⟩ := h
    rfl
  · obtain ⟨p, q, st, F, ts, rfl, hq, hF, hf, hW, hst, qq⟩ := h
    have hu := hu_of hr
    refine ⟨_, pss_cons (ps_for PassesOwn.never rfl (piL (K := K) rfl (pe_callB (cr_sortedSet rfl) (by rfl) B.sorted PyProof.Rows.boot_sorted (pa_cons (pe_callTy (cr_setB (K := K) (w := w) (B := 12) rfl rfl rfl) (by rfl) B.set (by decide +kernel) (pa_cons
          (pe_lc (own := [("_law_one", 6)]) (g := gName 6) (tt := tYes) rfl scLt.nd (piL (K := K) rfl (pv 1)) (blkOk_by (N := nLt) (sc := defScope sLTells) (by decide +kernel)) (fun _ _ _ _ _ => pg_name (i := 6) scLt.nd rfl (Or.inl rfl)) (fun _ _ _ _ _ => pts_nil)
            (fun _ _ _ _ _ => pe_ix (ixTK (K := K) rfl) (pe_ix (ixTK (K := K) rfl) (pv 6) pe_int (fun _ _ => rfl)) (pv 2) (fun _ _ => rfl))) pa_nil)) pa_nil))) (pg_name (i := 3) scLt.nd rfl (.inr rfl))
        (pss_one (ps_for PassesOwn.never rfl (piL (K := K) rfl (pe_callB (cr_sortedSet rfl) (by rfl) B.sorted PyProof.Rows.boot_sorted (pa_cons (pe_callTy (cr_setB (K := K) (w := w) (B := 12) rfl rfl rfl) (by rfl) B.set (by decide +kernel) (pa_cons
          (pe_lc (own := [("_law_one", 6)]) (g := gName 6) (tt := tYes) rfl scLt.nd (piL (K := K) rfl (pv 1)) (blkOk_by (N := nLt) (sc := defScope sLTells) (by decide +kernel)) (fun _ _ _ _ _ => pg_name (i := 6) scLt.nd rfl (Or.inl rfl)) (fun _ _ _ _ _ => pts_nil)
            (fun _ _ _ _ _ => pe_ix (ixTK (K := K) rfl) (pe_ix (ixTK (K := K) rfl) (pv 6) pe_int (fun _ _ => rfl)) (pv 3) (fun _ _ => rfl))) pa_nil)) pa_nil))) (pg_name (i := 4) scLt.nd rfl (.inl rfl))
          (pss_cons (ps_set (i := 5) scLt.nd rfl (.inl rfl) pe_dnewK)
          (pss_one (ps_for PassesOwn.never rfl (piL (K := K) rfl (pv 1)) (pg_tup rfl (pgs_cons (pg_name (i := 6) scLt.nd rfl (.inl rfl)) (pgs_cons (pg_name (i := 7) scLt.nd rfl (.inl rfl)) pgs_nil)))
            (pss_one (ps_if (pt_cmpR op_ne (pe_dsetd (pv 5) (pe_ix (ixTK (K := K) rfl) (pv 6) (pv 3) (fun _ _ => rfl)) (pe_ix (ixTK (K := K) rfl) (pv 6) (pv 4) (fun _ _ => rfl)) ⟨by rfl, by rfl, by rfl, by rfl⟩) (pe_ix (ixTK (K := K) rfl) (pv 6) (pv 4) (fun _ _ => rfl)) (nomark _)) (pss_one (ps_ret pe_bl)) pss_nil))))))))
      (pss_one (ps_ret pe_bl)), ?_⟩
    obtain ⟨mas, hq1, hq2, hq3⟩ := hq
    have n12 := hW.s12
    have hxl : ∀ e ∈ F, e.1.length = nS ts := fun e he => by
      rw [(hF.mem he).1, path_run, List.length_map, idL, gL_len]
    have rng : ∀ y : Int, (0 ≤ y ∧ y < (nS ts : Int)) → ∀ x ∈ thr F y.toNat, 0 ≤ x ∧ x < ((12 : Nat) : Int) := fun y hy x hx => by
      have := ((thr_rch hF hy x).mp hx).rng hW hy
      omega
    have sr : Same H H := Same.refl _
    refine ⟨_, rfl, q, rfl, ⟨_, SqL.of (sr _ _ hq1)⟩, fun D1 hD1 => lc_list (K := K) (a := q) (xs := mas.map V.ref) (fun i H' => Same H H' ∧ H' D1 = some (.lst (((thr F st.toNat).take i).map V.int))) ⟨same_new hD1, by rw [upd_same]; rfl⟩ (fun i H' _ ⟨s, _⟩ => SqL.of (s _ _ (sr _ _ hq1))) ?_ ?_⟩
    · rintro i x H' hx ⟨s2, hD2⟩
      obtain ⟨ma, hma, rfl⟩ : ∃ ma, mas[i]? = some ma ∧ x = V.ref ma := by
        rw [List.getElem?_map] at hx
        cases e : mas[i]? with
        | none => rw [e] at hx; cases hx
        | some t => rw [e] at hx; exact ⟨t, rfl, (Option.some.inj hx).symm⟩
      have hiF : i < F.length := by rw [← hq2]; exact (List.getElem?_eq_some_iff.mp hma).1
      obtain ⟨e, he⟩ : ∃ e, F[i]? = some e := ⟨F[i], List.getElem?_eq_getElem hiF⟩
      obtain ⟨xb, xc, g1, g2, _⟩ := hq3 i ma e.1 e.2 hma he
      have lx := hxl e (List.mem_of_getElem? he)
      have ez : (thr F st.toNat)[i]? = some (e.1.getD st.toNat 0) := by rw [thr, List.getElem?_map, he]; rfl
      refine ⟨rfl, _, rfl, ma, _, 0, _, rfl, rfl, SqT.of (s2 _ _ (sr _ _ g1)), atI_nat (j := 0) rfl, _, rfl, xb, _, st, .int (e.1.getD st.toNat 0), rfl, rfl, SqT.of (s2 _ _ (sr _ _ g2)), at_of (j := st.toNat) (by omega) (vrow_getD (by omega)), _, hD2, by rw [List.length_map, List.length_take, sizeLine_eq]; omega, fun d o eo => ?_, ?_⟩
      · rw [upd_ne (ne_of_none eo hD1)]
        exact s2 _ _ eo
      · rw [upd_same, take_succ ez, List.map_append]; rfl
    · rintro H2a ⟨s2a, hD2⟩
      have e1 : (thr F st.toNat).take (mas.map V.ref).length = thr F st.toNat := by rw [List.take_of_length_le]; rw [thr, List.length_map, List.length_map, hq2]; exact Nat.le_refl _
      rw [e1] at hD2
      refine ⟨D1, thr F st.toNat, rfl, SqL.of hD2, by rw [thr, List.length_map]; omega, rng st hst, fun ps c hps hc => ⟨ps, _, c, rfl, upd_same, by omega, fun lots l pw mem hl hl0 => ?_⟩⟩
      have mem' : ∀ x, x ∈ lots ↔ Rch ts st x := fun x => by
        rw [mem x, ← thr_rch hF hst x]
        exact ⟨fun z => of_decide_eq_true z, fun z => decide_eq_true z⟩
      have s3 := (s2a.trans (same_new hps)).trans (same_new (o := HO.lst (lots.map V.int)) hl0)
      have hl3 : (upd (upd H2a ps (SetO w ps (fun j => decide (j ∈ thr F st.toNat)) c)) l (.lst (lots.map V.int))) l = some (.lst (lots.map V.int)) := upd_same
      generalize upd (upd H2a ps (SetO w ps (fun j => decide (j ∈ thr F st.toNat)) c)) l (.lst (lots.map V.int)) = H3 at s3 hl3 ⊢
      refine ⟨l, rfl, ⟨_, SqL.of hl3⟩, for_list (K := K) (a := l) (xs := lots.map V.int) (fun i σ H' => ∃ v4 v5 v6 v7 v8, σ = [some (.ref p), some (.ref q), some (.int st), v4, v5, v6, v7, v8] ∧ Same H3 H' ∧ ∀ (j : Nat) y, j < i → lots[j]? = some y → ∀ h, Rch ts y h → Told ts y h) ⟨none, none, none, none, none, rfl, fun _ _ e => e, fun j y hj => absurd hj (Nat.not_lt_zero _)⟩ (fun i σ H' _ ⟨_, _, _, _, _, _, s, _⟩ => SqL.of (s _ _ hl3)) ?_ ?_⟩
      · rintro i x σ H4 hx ⟨v4, v5, v6, v7, v8, rfl, s4, ok⟩
        obtain ⟨y, hy, rfl⟩ : ∃ z, lots[i]? = some z ∧ x = V.int z := by
          rw [List.getElem?_map] at hx
          cases e : lots[i]? with
          | none => rw [e] at hx; cases hx
          | some z => rw [e] at hx; exact ⟨z, rfl, (Option.some.inj hx).symm⟩
        have hyR := (mem' y).mp (List.mem_of_getElem? hy)
        have hyr := hyR.rng hW hst
        have s34 := s3.trans s4
        refine gn ?_
        dsimp only
        refine ⟨_, rfl, q, rfl, ⟨_, SqL.of (s34 _ _ hq1)⟩, fun D3 hD3 => lc_list (K := K) (a := q) (xs := mas.map V.ref) (fun i H' => Same H4 H' ∧ H' D3 = some (.lst (((thr F y.toNat).take i).map V.int))) ⟨same_new hD3, by rw [upd_same]; rfl⟩ (fun i H' _ ⟨s, _⟩ => SqL.of (s _ _ (s34 _ _ hq1))) ?_ ?_⟩
        · rintro i x H' hx ⟨s2, hD2⟩
          obtain ⟨ma, hma, rfl⟩ : ∃ ma, mas[i]? = some ma ∧ x = V.ref ma := by
            rw [List.getElem?_map] at hx
            cases e : mas[i]? with
            | none => rw [e] at hx; cases hx
            | some t => rw [e] at hx; exact ⟨t, rfl, (Option.some.inj hx).symm⟩
          have hiF : i < F.length := by rw [← hq2]; exact (List.getElem?_eq_some_iff.mp hma).1
          obtain ⟨e, he⟩ : ∃ e, F[i]? = some e := ⟨F[i], List.getElem?_eq_getElem hiF⟩
          obtain ⟨xb, xc, g1, g2, _⟩ := hq3 i ma e.1 e.2 hma he
          have lx := hxl e (List.mem_of_getElem? he)
          have ez : (thr F y.toNat)[i]? = some (e.1.getD y.toNat 0) := by rw [thr, List.getElem?_map, he]; rfl
          refine ⟨rfl, _, rfl, ma, _, 0, _, rfl, rfl, SqT.of (s2 _ _ (s34 _ _ g1)), atI_nat (j := 0) rfl, _, rfl, xb, _, y, .int (e.1.getD y.toNat 0), rfl, rfl, SqT.of (s2 _ _ (s34 _ _ g2)), at_of (j := y.toNat) (by omega) (vrow_getD (by omega)), _, hD2, by rw [List.length_map, List.length_take, sizeLine_eq]; omega, fun d o eo => ?_, ?_⟩
          · rw [upd_ne (ne_of_none eo hD3)]
            exact s2 _ _ eo
          · rw [upd_same, take_succ ez, List.map_append]; rfl
        · rintro H2b ⟨s2b, hD2⟩
          have e1 : (thr F y.toNat).take (mas.map V.ref).length = thr F y.toNat := by rw [List.take_of_length_le]; rw [thr, List.length_map, List.length_map, hq2]; exact Nat.le_refl _
          rw [e1] at hD2
          refine ⟨D3, thr F y.toNat, rfl, SqL.of hD2, by rw [thr, List.length_map]; omega, rng y hyr, fun ps c hps hc => ⟨ps, _, c, rfl, upd_same, by omega, fun lots2 l2 pw2 mem2 hl2 hl20 => ?_⟩⟩
          have mem2' : ∀ x, x ∈ lots2 ↔ Rch ts y x := fun x => by
            rw [mem2 x, ← thr_rch hF hyr x]
            exact ⟨fun z => of_decide_eq_true z, fun z => decide_eq_true z⟩
          have s5 := (s2b.trans (same_new hps)).trans (same_new (o := HO.lst (lots2.map V.int)) hl20)
          have hl5 : (upd (upd H2b ps (SetO w ps (fun j => decide (j ∈ thr F y.toNat)) c)) l2 (.lst (lots2.map V.int))) l2 = some (.lst (lots2.map V.int)) := upd_same
          generalize upd (upd H2b ps (SetO w ps (fun j => decide (j ∈ thr F y.toNat)) c)) l2 (.lst (lots2.map V.int)) = H5 at s5 hl5 ⊢
          have s35 := s34.trans s5
          refine ⟨l2, rfl, ⟨_, SqL.of hl5⟩, for_list (K := K) (a := l2) (xs := lots2.map V.int) (fun i σ H' => ∃ v5 v6 v7 v8, σ = [some (.ref p), some (.ref q), some (.int st), some (.int y), v5, v6, v7, v8] ∧ Same H5 H' ∧ ∀ (j : Nat) h, j < i → lots2[j]? = some h → Told ts y h) ⟨_, _, _, _, rfl, fun _ _ e => e, fun j h hj => absurd hj (Nat.not_lt_zero _)⟩ (fun i σ H' _ ⟨_, _, _, _, _, s, _⟩ => SqL.of (s _ _ hl5)) ?_ ?_⟩
          · rintro k x2 σ H6 hx2 ⟨w5, w6, w7, w8, rfl, s6, ok2⟩
            obtain ⟨h, hh, rfl⟩ : ∃ z, lots2[k]? = some z ∧ x2 = V.int z := by
              rw [List.getElem?_map] at hx2
              cases e : lots2[k]? with
              | none => rw [e] at hx2; cases hx2
              | some z => rw [e] at hx2; exact ⟨z, rfl, (Option.some.inj hx2).symm⟩
            have hhR := (mem2' h).mp (List.mem_of_getElem? hh)
            have hhr := hhR.rng hW hyr
            have s36 := s35.trans s6
            refine gn ?_
            dsimp only
            intro d hd
            have s7 := same_new (o := HO.dK []) hd
            have hd7 : (upd H6 d (.dK [])) d = some (.dK []) := upd_same
            have nd : H6 d = none := hd
            refine gn ?_
            generalize upd H6 d (.dK []) = H7 at s7 hd7 ⊢
            dsimp only
            have s37 := s36.trans s7
            have nq : q ≠ d := fun z => by have := s36 _ _ hq1; rw [z, nd] at this; cases this
            refine ⟨_, rfl, q, rfl, ⟨_, SqL.of (s37 _ _ hq1)⟩, for_list (K := K) (a := q) (xs := mas.map V.ref) (fun j σ H' => ∃ u7 u8, σ = [some (.ref p), some (.ref q), some (.int st), some (.int y), some (.int h), some (.ref d), u7, u8] ∧ (∀ c o, H7 c = some o → c ≠ d → H' c = some o) ∧
                (∃ kvs : List (Key × V), H' d = some (.dK kvs) ∧ kvs.length ≤ j ∧ ∀ x v, valV kvs (Sum.inl x) = some v ↔ ∃ (i' : Nat) (e : KR), i' < j ∧ F[i']? = some e ∧ e.1.getD y.toNat 0 = x ∧ v = .int (e.1.getD h.toNat 0)) ∧
                ∀ (i1 i2 : Nat) (e f : KR), i1 < j → i2 < j → F[i1]? = some e → F[i2]? = some f → e.1.getD y.toNat 0 = f.1.getD y.toNat 0 → e.1.getD h.toNat 0 = f.1.getD h.toNat 0)
              ⟨_, _, rfl, fun c o e _ => e, ⟨[], hd7, Nat.le_refl _, fun x v => ⟨fun z => (by cases z), fun ⟨i', e, z, _⟩ => absurd z (Nat.not_lt_zero _)⟩⟩, fun i1 i2 e f z => absurd z (Nat.not_lt_zero _)⟩ (fun i σ H' _ ⟨_, _, _, kp, _⟩ => SqL.of (kp _ _ (s37 _ _ hq1) nq)) ?_ ?_⟩
            · rintro j x3 σ H8 hx3 ⟨u7, u8, rfl, kp, ⟨kvs, hk1, hk2, hk3⟩, cons⟩
              obtain ⟨ma, hma, rfl⟩ : ∃ ma, mas[j]? = some ma ∧ x3 = V.ref ma := by
                rw [List.getElem?_map] at hx3
                cases e : mas[j]? with
                | none => rw [e] at hx3; cases hx3
                | some t => rw [e] at hx3; exact ⟨t, rfl, (Option.some.inj hx3).symm⟩
              have hjF : j < F.length := by rw [← hq2]; exact (List.getElem?_eq_some_iff.mp hma).1
              obtain ⟨e, he⟩ : ∃ e, F[j]? = some e := ⟨F[j], List.getElem?_eq_getElem hjF⟩
              obtain ⟨xb, xc, g1, g2, _⟩ := hq3 j ma e.1 e.2 hma he
              have lx := hxl e (List.mem_of_getElem? he)
              have tupD : ∀ c xs, H c = some (.tup xs) → H8 c = some (.tup xs) := fun c xs g => kp _ _ (s37 _ _ g) fun z => by
                have := s36 _ _ g
                rw [z, nd] at this
                cases this
              have t1 := tupD _ _ g1
              have t2 := tupD _ _ g2
              have ay : atI (vrow e.1) y = some (V.int (e.1.getD y.toNat 0)) := at_of (j := y.toNat) (by omega) (vrow_getD (by omega))
              have ah : atI (vrow e.1) h = some (V.int (e.1.getD h.toNat 0)) := at_of (j := h.toNat) (by omega) (vrow_getD (by omega))
              have more : (∀ (i1 : Nat) (f : KR), i1 < j → F[i1]? = some f → f.1.getD y.toNat 0 = e.1.getD y.toNat 0 → f.1.getD h.toNat 0 = e.1.getD h.toNat 0) → ∀ (i1 i2 : Nat) (f g : KR), i1 < j + 1 → i2 < j + 1 → F[i1]? = some f → F[i2]? = some g → f.1.getD y.toNat 0 = g.1.getD y.toNat 0 → f.1.getD h.toNat 0 = g.1.getD h.toNat 0 := fun c i1 i2 f g l1 l2 h1 h2 k => by
                rcases Nat.lt_succ_iff_lt_or_eq.mp l1 with a1 | a1 <;> rcases Nat.lt_succ_iff_lt_or_eq.mp l2 with a2 | a2
                · exact cons i1 i2 f g a1 a2 h1 h2 k
                · subst a2
                  rw [he] at h2
                  obtain rfl := Option.some.inj h2
                  exact c i1 f a1 h1 k
                · subst a1
                  rw [he] at h1
                  obtain rfl := Option.some.inj h1
                  exact (c i2 g a2 h2 k.symm).symm
                · subst a1
                  subst a2
                  rw [h1] at h2
                  rw [Option.some.inj h2]
              refine ⟨ma, _, rfl, SqT.of t1, rfl, _, _, rfl, _, _, rfl, rfl, ?_⟩
              refine ⟨_, rfl, d, rfl, .inl ⟨kvs, .inl hk1⟩, _, rfl, _, rfl, xb, _, y, _, rfl, rfl, SqT.of t2, ay, _, rfl, _, rfl, xb, _, h, _, rfl, rfl, SqT.of t2, ah, kvs, Sum.inl (e.1.getD y.toNat 0), hk1, rfl, by rw [sizeLine_eq]; omega, fun v hv => ?_, fun hn => ?_⟩
              · obtain ⟨i', f, hi', hf', ey, rfl⟩ := (hk3 _ _).mp hv
                refine ⟨_, rfl, _, rfl, xb, _, h, _, rfl, rfl, SqT.of t2, ah, rfl, _, rfl, ifD (fun c => ?_) fun c => ?_⟩
                · have ne : f.1.getD h.toNat 0 ≠ e.1.getD h.toNat 0 := fun z => by
                    rw [z] at c
                    simp at c
                  refine qq false _ (fun c o g => kp _ _ (s37 _ _ g) fun z => by
                    have := s36 _ _ g
                    rw [z, nd] at this
                    cases this) ⟨fun z => (by cases z), fun t => ?_⟩
                  exact absurd (tells_all.mp t y hyR h hhR) (told_no hF hyr hhr (List.mem_of_getElem? hf') (List.mem_of_getElem? he) ey ne)
                · have eq : f.1.getD h.toNat 0 = e.1.getD h.toNat 0 := by
                    have q3 : decide (V.int (f.1.getD h.toNat 0) = V.int (e.1.getD h.toNat 0)) = true := by simpa using c
                    have q4 := of_decide_eq_true q3
                    injection q4
                  refine ⟨_, _, rfl, kp, ⟨kvs, hk1, by omega, fun x v => ?_⟩, more fun i1 g l1 h1 k => ?_⟩
                  · rw [hk3 x v]
                    constructor
                    · rintro ⟨i1, g, l1, r⟩
                      exact ⟨i1, g, by omega, r⟩
                    · rintro ⟨i1, g, l1, h1, k1, k2⟩
                      rcases Nat.lt_succ_iff_lt_or_eq.mp l1 with a1 | a1
                      · exact ⟨i1, g, a1, h1, k1, k2⟩
                      · subst a1
                        rw [he] at h1
                        obtain rfl := Option.some.inj h1
                        exact ⟨i', f, hi', hf', ey.trans k1, by rw [k2, eq]⟩
                  · rw [cons i1 i' g f l1 hi' h1 hf' (k.trans ey.symm)]
                    exact eq
              · have kpD : ∀ c o, H7 c = some o → c ≠ d → (upd H8 d (.dK (putK kvs (Sum.inl (e.1.getD y.toNat 0)) (.int (e.1.getD h.toNat 0))))) c = some o := fun c o g n => by
                  rw [upd_ne n]; exact kp _ _ g n
                have nxb : xb ≠ d := fun z => by rw [z, hk1] at t2; cases t2
                refine ⟨_, rfl, _, rfl, xb, _, h, _, rfl, rfl, SqT.of (by rw [upd_ne nxb]; exact t2), ah, rfl, _, rfl, iteN (by simp) (nxP ?_)⟩
                have new : ∀ (i1 : Nat) (g : KR), i1 < j → F[i1]? = some g → g.1.getD y.toNat 0 ≠ e.1.getD y.toNat 0 := fun i1 g l1 h1 k => by
                  have := (hk3 (e.1.getD y.toNat 0) (.int (g.1.getD h.toNat 0))).mpr ⟨i1, g, l1, h1, k, rfl⟩
                  rw [hn] at this
                  cases this
                refine ⟨_, _, rfl, kpD, ⟨_, upd_same, by rw [putK_new _ hn, List.length_append]; show kvs.length + 1 ≤ j + 1; omega, fun x v => ?_⟩, more fun i1 g l1 h1 k => absurd k (new i1 g l1 h1)⟩
                rw [valV_put]
                by_cases z : x = e.1.getD y.toNat 0
                · subst z
                  rw [if_pos rfl]
                  constructor
                  · intro w
                    exact ⟨j, e, Nat.lt_succ_self _, he, rfl, (Option.some.inj w).symm⟩
                  · rintro ⟨i1, g, l1, h1, k1, k2⟩
                    rcases Nat.lt_succ_iff_lt_or_eq.mp l1 with a1 | a1
                    · exact absurd k1 (new i1 g a1 h1)
                    · subst a1
                      rw [he] at h1
                      obtain rfl := Option.some.inj h1
                      rw [k2]
                · rw [if_neg (fun w => z (by injection w))]
                  rw [hk3 x v]
                  constructor
                  · rintro ⟨i1, g, l1, r⟩
                    exact ⟨i1, g, by omega, r⟩
                  · rintro ⟨i1, g, l1, h1, k1, k2⟩
                    rcases Nat.lt_succ_iff_lt_or_eq.mp l1 with a1 | a1
                    · exact ⟨i1, g, a1, h1, k1, k2⟩
                    · subst a1
                      rw [he] at h1
                      obtain rfl := Option.some.inj h1
                      exact absurd k1.symm z
            · rintro σ H8 ⟨u7, u8, rfl, kp, _, cons⟩
              have lm : (mas.map V.ref).length = F.length := by rw [List.length_map, hq2]
              rw [lm] at cons
              refine ⟨_, _, _, _, rfl, fun c o e => kp _ _ (s7 _ _ (s6 _ _ e)) (ne_of_none (s6 _ _ e) nd), fun j z hj hz => ?_⟩
              rcases Nat.lt_succ_iff_lt_or_eq.mp hj with g | g
              · exact ok2 j z g hz
              · subst g
                rw [hh] at hz
                obtain rfl := Option.some.inj hz
                refine told_of hF hyr hhr fun e he f hf => ?_
                obtain ⟨i1, h1⟩ := List.getElem?_of_mem he
                obtain ⟨i2, h2⟩ := List.getElem?_of_mem hf
                exact cons i1 i2 e f (List.getElem?_eq_some_iff.mp h1).1 (List.getElem?_eq_some_iff.mp h2).1 h1 h2
          · rintro σ H6 ⟨w5, w6, w7, w8, rfl, s6, ok2⟩
            refine ⟨_, _, _, _, _, rfl, s4.trans (s5.trans s6), fun j z hj hz h hh => ?_⟩
            rcases Nat.lt_succ_iff_lt_or_eq.mp hj with g | g
            · exact ok j z g hz h hh
            · subst g
              rw [hy] at hz
              obtain rfl := Option.some.inj hz
              obtain ⟨j, hj⟩ := List.getElem?_of_mem ((mem2' h).mpr hh)
              exact ok2 j h (by rw [List.length_map]; exact (List.getElem?_eq_some_iff.mp hj).1) hj
      · rintro σ H4 ⟨v4, v5, v6, v7, v8, rfl, s4, ok⟩
        refine qq true _ (s3.trans s4) ⟨fun _ => tells_all.mpr fun x hx h hh => ?_, fun _ => rfl⟩
        obtain ⟨j, hj⟩ := List.getElem?_of_mem ((mem' x).mpr hx)
        exact ok j x (by rw [List.length_map]; exact (List.getElem?_eq_some_iff.mp hj).1) hj h hh
end
end K1
namespace K1
open PySem PySem.Spec PyProof.Rows L2
def rLen (K : PySem.W.Frag) : List V → Hp → VK → Prop := fun xs H Q => ∃ p ys, xs = [.ref p] ∧ (SqL K H p ys ∨ SqT K H p ys) ∧ Q (.int ys.length) H
theorem clen {X : Cx} {K : PySem.W.Frag} (h : X.K = K) : CallR X (.builtin "len") (rLen K) := by
  subst h
  exact call_len_seq
theorem slT {X : Cx} {K : PySem.W.Frag} (h : X.K = K) : SlR X (rSlT K) := by
  subst h
  exact sl_tup
theorem nilP {σ : L2.St} {H : Hp} {Q : List V → Hp → Prop} (h : Q [] H) : tNil σ H Q := h
theorem neV {x : V} {Q : VK} {H : Hp} (hs : scal x x = true) (q : Q (.bl false) H) : rNe x x H Q := ⟨hs, qbl (by rw [decide_eq_true rfl]; rfl) q⟩
theorem eqVV {x : V} {Q : VK} {H : Hp} (hs : scal x x = true) (q : Q (.bl true) H) : rEq x x H Q := ⟨hs, qbl (by rw [decide_eq_true rfl]) q⟩
theorem reprP {K : PySem.W.Frag} {p : Addr} {d : PyData} {n w : Nat} {H : Hp} {Q : VK} (hd : Dp K H (.ref p) d) (pl : Pl d n w) (hn : n ≤ 40) (hw : w ≤ 100000) (q : Q (.str d.shown) H) : rRepr K [.ref p] H Q := ⟨p, d, rfl, hd, pl.sh, pl.nd, Nat.le_trans pl.dp hn, pl.short hw, q⟩
theorem pl_str {x : Str} (h1 : PyData.strOk x = true) (h2 : x.cps.size ≤ 100) (h3 : (x.cps.toList.all fun c => decide (c < 16 ^ 8)) = true) : Pl (.str x) 0 100 :=
  ⟨by simp only [PyData.canLay0]; exact h1, by simp only [PyData.showable], by simp only [PyData.hasDict], by simp only [PyData.depth]; omega, by simp only [PyData.weight]; exact h2, by simp only [PyData.leavesShort]; exact h3⟩
theorem repr2 {K : PySem.W.Frag} {p : Addr} {d : PyData} {n w : Nat} {H : Hp} {Q : VK} (hd : Dp K H (.ref p) d) (pl : Pl d n w) (hn : n ≤ 40) (hw : w ≤ 100000) (q : Q (.str d.shown) H) : rReprS [.ref p] H Q ∨ rRepr K [.ref p] H Q := .inr (reprP hd pl hn hw q)
theorem reprN {K : PySem.W.Frag} {H : Hp} {Q : VK} (q : Q (.str "None") H) : rReprS [.non] H Q ∨ rRepr K [.non] H Q := .inl ⟨_, rfl, .inl ⟨rfl, q⟩⟩
theorem cP {v : V} {σ : L2.St} {H : Hp} {Q : VK} (h : Q v H) : tC v σ H Q := h
theorem pl_r {r : List Int} (hl : r.length ≤ 144) (h : ∀ x ∈ r, 0 ≤ x ∧ x < 8) : Pl (.tuple (dI r)) 1 10000 :=
  (Pl.tuple (pla_ints r fun i hi => by have := h i hi; omega)).mono (Nat.le_refl _) (by have : r.length * 65 ≤ 144 * 65 := Nat.mul_le_mul_right _ hl; omega)
theorem pl_two {r q : List Int} (h1 : Pl (.tuple (dI r)) 1 10000) (h2 : Pl (.tuple (dI q)) 1 10000) : Pl (.tuple [.tuple (dI r), .tuple (dI q)]) 2 30000 :=
  (Pl.tuple (PlA.cons h1 (PlA.cons h2 PlA.nil))).mono (by decide) (by decide)
/-! ### what is no state -/
def OddV (n : Int) (H : Hp) (v : V) : Prop := v ∈ [V.int n, .int (-1), .non, .bl true, .str "0"] ∨ ∃ p, v = .ref p ∧ H p = some (.tup [.int 0])
theorem OddV.keep {n : Int} {H H' : Hp} {v : V} (o : OddV n H v) (k : ∀ p xs, H p = some (.tup xs) → H' p = some (.tup xs)) : OddV n H' v := o.elim .inl fun ⟨p, e, h⟩ => .inr ⟨p, e, k _ _ h⟩
theorem OddV.bad {n : Int} {H : Hp} {v : V} (o : OddV n H v) : belowB v n = false := by
  rcases o with o | ⟨p, rfl, _⟩
  · simp only [List.mem_cons, List.mem_nil_iff, or_false] at o
    rcases o with rfl | rfl | rfl | rfl | rfl
    · show (decide (0 ≤ n) && decide (n < n)) = false
      rw [decide_eq_false (show ¬ n < n by omega), Bool.and_false]
    all_goals rfl
  · rfl
theorem OddV.kv {n : Int} {H : Hp} {v : V} (o : OddV n H v) (K : PySem.W.Frag) : ∃ (K' : PySem.W.Frag) (o : Option (List V)), KV K' H v o := by
  rcases o with o | ⟨p, rfl, h⟩
  · simp only [List.mem_cons, List.mem_nil_iff, or_false] at o
    rcases o with rfl | rfl | rfl | rfl | rfl
    · exact ⟨K, _, .int _⟩
    · exact ⟨K, _, .int _⟩
    · exact ⟨K, _, .non⟩
    · exact ⟨K, _, .bl _⟩
    · exact ⟨K, _, .str _⟩
  · exact ⟨K, _, .tup h⟩
theorem tx_ok : ∀ i : Fin 13, PyData.strOk (Str.ofString (toString ((i : Nat) : Int))) = true := by decide +kernel
theorem tx_lim {lim : Int} (h0 : 0 ≤ lim) (h1 : lim ≤ 12) : PyData.strOk (Str.ofString (toString lim)) = true := by
  have z := tx_ok ⟨lim.toNat, by omega⟩
  have e : ((lim.toNat : Nat) : Int) = lim := by omega
  simp only [e] at z
  exact z
theorem log_sm {i : Int} (h1 : i.natAbs ≤ 1000) : i.natAbs.log2 < 1920 := by
  by_cases z : i.natAbs = 0
  · rw [z]; decide
  · have : i.natAbs.log2 < 10 := (Nat.log2_lt z).mpr (by omega)
    omega
theorem OddV.txt {n : Int} {H : Hp} {v : V} (K : PySem.W.Frag) (h0 : 0 ≤ n) (h1 : n ≤ 12) (o : OddV n H v) : ∃ x, PyData.strOk x = true ∧ ∀ (H' : Hp) (Q : VK), OddV n H' v → Q (.str x) H' → rReprS [v] H' Q ∨ rRepr K [v] H' Q := by
  rcases o with o | ⟨p, rfl, h⟩
  · simp only [List.mem_cons, List.mem_nil_iff, or_false] at o
    rcases o with rfl | rfl | rfl | rfl | rfl
    · exact ⟨toString n, tx_lim h0 h1, fun H' Q _ q => .inl ⟨_, rfl, .inr (.inr (.inl ⟨n, rfl, log_sm (by omega), q⟩))⟩⟩
    · exact ⟨toString (-1 : Int), by decide +kernel, fun H' Q _ q => .inl ⟨_, rfl, .inr (.inr (.inl ⟨-1, rfl, log_sm (by decide), q⟩))⟩⟩
    · exact ⟨"None", by decide +kernel, fun H' Q _ q => .inl ⟨_, rfl, .inl ⟨rfl, q⟩⟩⟩
    · exact ⟨"True", by decide +kernel, fun H' Q _ q => .inl ⟨_, rfl, .inr (.inl ⟨true, rfl, q⟩)⟩⟩
    · exact ⟨reprText "0", by decide +kernel, fun H' Q _ q => .inl ⟨_, rfl, .inr (.inr (.inr ⟨"0", rfl, by decide +kernel, q⟩))⟩⟩
  · refine ⟨(PyData.tuple (dI [0])).shown, by decide +kernel, fun H' Q o q => ?_⟩
    rcases o with o | ⟨p', e, h'⟩
    · simp at o
    · injection e with e
      subst e
      exact .inr (reprP (dp_tup (t := [0]) h') (pl_r (r := [0]) (by decide) (fun x hx => by rw [List.mem_singleton.mp hx]; decide)) (by decide) (by decide) q)
theorem ear {K : PySem.W.Frag} {Q : VK} {p p2 : Addr} {H : Hp} {vs : List V} {ds : List PyData} (h1 : H p = some (.tup vs)) (h2 : H p2 = some (.tup vs)) (hd : DpAll K H vs ds) (lay : PyData.canLay0 (.tuple ds) = true) (sh : SeqAt.shaped (.tuple ds) = true) (q : Q (.bl false) H) : rNeD K (.ref p) (.ref p2) H Q :=
  ⟨_, _, .tup (SqT.of h1) hd, .tup (SqT.of h2) hd, sh, sh, qbl (by rw [SeqAt.eqv_refl _ lay]; rfl) q⟩
theorem sqL_same {K : PySem.W.Frag} {H H1 : Hp} {a : Addr} {xs : List V} (h : SqL K H a xs) (s : Same H H1) : SqL K H1 a xs := by
  rcases h with (h | ⟨ob, h⟩) | h
  · exact .inl (.inl (s _ _ h))
  · exact .inl (.inr ⟨ob, s _ _ h⟩)
  · exact .inr h
theorem same_bx {H1 H2 H3 : Hp} {b : Addr} (s : Same H1 H2) (hb : H1 b = none) (x : Bx b H2 H3) : Same H1 H3 := fun c o e => x.2 _ _ (s c o e) (ne_of_none e hb)
/-! ### two readings of one expression, of one rule -/
theorem pe_or2 {X : Cx} {e : Expr} {t u : TE} (a : PE X e t) (b : PE X e u) : PE X e (fun σ H Q => t σ H Q ∨ u σ H Q) := ⟨fun pins s σ H Q I h => h.elim (a.run pins s σ H Q I) (b.run pins s σ H Q I)⟩
theorem op_or2 {X : Cx} {f : Value → Value → Sem Value} {r q : R2} (a : OpR X f r) (b : OpR X f q) : OpR X f (fun x y H Q => r x y H Q ∨ q x y H Q) := fun pins s σ H x y v u Q I rx ry h => h.elim (a pins s σ H x y v u Q I rx ry) (b pins s σ H x y v u Q I rx ry)
theorem call_or2 {X : Cx} {c : Value} {r q : List V → Hp → VK → Prop} (a : CallR X c r) (b : CallR X c q) : CallR X c (fun xs H Q => r xs H Q ∨ q xs H Q) := fun pins s σ H xs us Q I rv h => h.elim (a pins s σ H xs us Q I rv) (b pins s σ H xs us Q I rv)
theorem Bx.lst {b c : Addr} {H H' : Hp} {xs : List V} (x : Bx b H H') (n : c ≠ b) (h : H c = some (.lst xs)) : H' c = some (.lst xs) := x.2 _ _ h n
theorem MapsAt.bx {b q : Addr} {H H1 : Hp} {F : List KR} (h : MapsAt H q F) (hb : BoxO H b) (n : q ≠ b) (x : Bx b H H1) : MapsAt H1 q F :=
  let ⟨as, h1, h2, h3⟩ := h
  ⟨as, x.lst n h1, h2, fun i a y z e1 e2 => let ⟨c, d, g1, g2, g3⟩ := h3 i a y z e1 e2; ⟨c, d, x.tup hb g1, x.tup hb g2, x.tup hb g3⟩⟩
theorem MachAt.bx {b M m ta : Addr} {ts : List (List V)} {H H1 : Hp} (h : MachAt M H m ta ts) (hb : BoxO H b) (x : Bx b H H1) : MachAt M H1 m ta ts :=
  let ⟨⟨dx, t0, h0, h1⟩, as, k1, k2, k3⟩ := h
  ⟨⟨dx, t0, h0, x.2 _ _ h1 (hb.ne h1 fun xs => by intro z; cases z)⟩, as, x.tup hb k1, k2, fun i c t e1 e2 => x.tup hb (k3 i c t e1 e2)⟩
theorem BoxO.nn {H : Hp} {b p : Addr} (h : BoxO H b) (hp : H p = none) : p ≠ b := (Bx.refl h).ne hp
theorem TabL.mv {K : PySem.W.Frag} {H : Hp} {p : Addr} {ts : Ts} (h : TabL H p (vts ts)) : Mv K H (.ref p) (some ((vts ts).map some)) := by
  obtain ⟨as, h1, h2, h3⟩ := h
  refine .yes (xs := as.map V.ref) (.lst h1) ⟨by rw [List.length_map, List.length_map, h2], fun i x r e1 e2 => ?_⟩
  rw [List.getElem?_map] at e1 e2
  cases ea : as[i]? with
  | none => rw [ea] at e1; cases e1
  | some a =>
    cases et : (vts ts)[i]? with
    | none => rw [et] at e2; cases e2
    | some t =>
      rw [ea] at e1
      rw [et] at e2
      obtain rfl : V.ref a = x := Option.some.inj e1
      obtain rfl : some t = r := Option.some.inj e2
      refine ⟨.tup (h3 i a t ea et), fun ys e y hy => ?_⟩
      obtain rfl : t = ys := Option.some.inj e
      rw [vts, List.getElem?_map] at et
      cases e3 : ts[i]? with
      | none => rw [e3] at et; cases et
      | some t' =>
        rw [e3] at et
        obtain rfl : vrow t' = t := Option.some.inj et
        obtain ⟨j, _, rfl⟩ := List.mem_map.mp hy
        exact ⟨_, .int j⟩
theorem isTab_row {t : List Int} {n : Nat} (hl : t.length = n) (h : ∀ i ∈ t, 0 ≤ i ∧ i < (n : Int)) : isTab (some (vrow t)) (n : Int) = true := by
  show (seqB (some (vrow t)) (n : Int) (n : Int) && decide (fnb (vrow t) (n : Int) = V.non)) = true
  have e1 : seqB (some (vrow t)) (n : Int) (n : Int) = true := by
    show (decide ((n : Int) ≤ ((vrow t).length : Int)) && decide (((vrow t).length : Int) ≤ (n : Int))) = true
    rw [vrow, List.length_map, hl]
    simp
  rw [e1, fnb_all fun x hx => ?_]; rfl
  obtain ⟨i, hi, rfl⟩ := List.mem_map.mp hx
  obtain ⟨h1, h2⟩ := h i hi
  show (decide (0 ≤ i) && decide (i < (n : Int))) = true
  rw [decide_eq_true h1, decide_eq_true h2]; rfl
theorem chk_wf {ts : Ts} (w : Wf ts) : chkAt (some ((vts ts).map some)) = none := by
  have h1 := w.t1; have h8 := w.t8; have s1 := w.s1; have s12 := w.s12
  have e0 : ((vts ts).map some)[0]? = some (some (vrow ts[0])) := by
    rw [vts, List.map_map, List.getElem?_map, List.getElem?_eq_getElem (by omega)]; rfl
  have el : (vrow ts[0]).length = nS ts := by
    rw [vrow, List.length_map]
    exact (w.row _ (List.getElem_mem _)).1
  show (if ((vts ts).map some).length < 1 ∨ 8 < ((vts ts).map some).length then some (-1) else _) = _
  rw [if_neg (by simp only [vts, List.length_map]; omega), e0]
  show (if (vrow ts[0]).length < 1 ∨ 12 < (vrow ts[0]).length then some 0 else _) = _
  rw [if_neg (by omega), find_none fun j y _ hy => ?_]; rfl
  rw [vts, List.map_map, List.getElem?_map] at hy
  cases e : ts[j]? with
  | none => rw [e] at hy; cases hy
  | some t =>
    rw [e] at hy
    obtain rfl : some (vrow t) = y := Option.some.inj hy
    obtain ⟨r1, r2⟩ := w.row t (List.mem_of_getElem? e)
    rw [el, isTab_row r1 r2]; rfl
theorem mkS {H H' : Hp} {m dx : Addr} {o1 o2 : HO} (hm : H m = none) (hd : H dx = none) (k : ∀ b u, (upd (upd H dx o1) m o2) b = some u → b ≠ m → H' b = some u) : Same H H' := fun c o e =>
  k c o (by rw [upd_ne (ne_of_none e hm), upd_ne (ne_of_none e hd)]; exact e) (ne_of_none e hm)
theorem TabL.row {H : Hp} {p : Addr} {ts : Ts} (h : TabL H p (vts ts)) {i : Nat} {t : List Int} (e : ts[i]? = some t) : ∃ (as : List Addr) (a : Addr), H p = some (.lst (as.map V.ref)) ∧ as.length = ts.length ∧ as[i]? = some a ∧ H a = some (.tup (vrow t)) := by
  obtain ⟨as, h1, h2, h3⟩ := h
  have la : as.length = ts.length := by rw [h2, vts, List.length_map]
  have hi : i < as.length := by rw [la]; exact (List.getElem?_eq_some_iff.mp e).1
  exact ⟨as, as[i], h1, la, List.getElem?_eq_getElem hi, h3 i _ _ (List.getElem?_eq_getElem hi) (by rw [vts, List.getElem?_map, e]; rfl)⟩
theorem map_some : ∀ {a b : List (List V)}, a.map some = b.map some → a = b
  | [], [], _ => rfl
  | [], _ :: _, h => by cases h
  | _ :: _, [], h => by cases h
  | x :: a, y :: b, h => by
    rw [List.map_cons, List.map_cons] at h
    injection h with h1 h2
    rw [Option.some.inj h1, map_some h2]
theorem kindsR {K : PySem.W.Frag} {H : Hp} {row : List Int} : ∀ ys, some (vrow row) = some ys → Kinds K H ys := fun ys e y hy => by
  obtain rfl := Option.some.inj e
  obtain ⟨j, _, rfl⟩ := List.mem_map.mp hy
  exact ⟨_, .int j⟩
end K1
namespace K1
open PySem PySem.Spec PyProof.Rows L2
/-! ### joins one behind another -/
theorem all_one {l : List Int} {x : Int} (nd : l.Nodup) (h : ∀ y ∈ l, y = x) (hx : x ∈ l) : l = [x] := by
  match l, nd, h, hx with
  | [y], _, h, _ => rw [h y List.mem_cons_self]
  | y :: z :: r, nd, h, _ =>
    have e1 := h y List.mem_cons_self
    have e2 := h z (List.mem_cons_of_mem _ List.mem_cons_self)
    exact absurd (e1.trans e2.symm) fun e => (List.nodup_cons.mp nd).1 (by rw [e]; exact List.mem_cons_self)
theorem ends_in {ts : Ts} {G : List KR} {a h t : Int} (hG : Fst (actL ts) ts.length [a, h] G) {x : Int} (hx : x ∈ endsOf G t) : ∃ r : List Int, (∀ y ∈ r, 0 ≤ y ∧ y < (ts.length : Int)) ∧ run ts a r = t ∧ run ts h r = x := by
  obtain ⟨e, he, rfl⟩ := List.mem_map.mp hx
  obtain ⟨h1, h2⟩ := List.mem_filter.mp he
  obtain ⟨k1, k2, _⟩ := hG.mem h1
  have h2 := of_decide_eq_true h2
  rw [k1, pair_0] at h2
  exact ⟨e.2, k2, h2, by rw [k1, pair_1]⟩
theorem ends_of {ts : Ts} {G : List KR} {a h t : Int} (hG : Fst (actL ts) ts.length [a, h] G) {r : List Int} (hr : ∀ y ∈ r, 0 ≤ y ∧ y < (ts.length : Int)) (ht : run ts a r = t) : run ts h r ∈ endsOf G t := by
  obtain ⟨j, r', hj, _⟩ := hG.all r hr
  refine List.mem_map.mpr ⟨_, List.mem_filter.mpr ⟨List.mem_of_getElem? hj, decide_eq_true ?_⟩, ?_⟩
  · show (path (actL ts) [a, h] r).getD 0 0 = t
    rw [pair_0]; exact ht
  · show (path (actL ts) [a, h] r).getD 1 0 = _
    rw [pair_1]
/-- the join is told, and is x -/
def JTold (ts : Ts) (a h t x : Int) : Prop := (∃ r, VRow ts r ∧ run ts a r = t ∧ run ts h r = x) ∧ ∀ r, VRow ts r → run ts a r = t → run ts h r = x
theorem ends_told {ts : Ts} {G : List KR} {a h t x : Int} (hG : Fst (actL ts) ts.length [a, h] G) (j : JTold ts a h t x) : endsOf G t = [x] := by
  obtain ⟨⟨r, hr, h1, h2⟩, all⟩ := j
  refine all_one (ends_nodup hG) (fun y hy => ?_) (by rw [← h2]; exact ends_of hG hr h1)
  obtain ⟨q, hq, k1, k2⟩ := ends_in hG hy
  rw [← k2]
  exact all q hq k1
theorem ends_unt {ts : Ts} {G : List KR} {a h t : Int} (hG : Fst (actL ts) ts.length [a, h] G) (n : ∀ x, ¬ JTold ts a h t x) : (endsOf G t).length ≠ 1 := fun e => by
  obtain ⟨x, ex⟩ : ∃ x, endsOf G t = [x] := by
    match endsOf G t, e with
    | [x], _ => exact ⟨x, rfl⟩
  refine n x ⟨?_, fun r hr h1 => ?_⟩
  · obtain ⟨q, hq, k1, k2⟩ := ends_in hG (x := x) (by rw [ex]; exact List.mem_cons_self)
    exact ⟨q, hq, k1, k2⟩
  · have := ends_of hG hr h1
    rw [ex] at this
    exact List.mem_singleton.mp this
theorem Told.j {ts : Ts} {a h : Int} (t : Told ts a h) {r : List Int} (hr : VRow ts r) : JTold ts a h (run ts a r) (run ts h r) := ⟨⟨r, hr, rfl, rfl⟩, fun q hq e => t q r hq hr e⟩
theorem JTold.rng {ts : Ts} {a h t x : Int} (w : Wf ts) (hh : 0 ≤ h ∧ h < (nS ts : Int)) (j : JTold ts a h t x) : 0 ≤ x ∧ x < (nS ts : Int) := by
  obtain ⟨⟨r, hr, _, rfl⟩, _⟩ := j
  exact w.run r h hr hh
def spJAll (M CS CU : Addr) : Sp := fun vs H Q E => ∃ m ta ts a p xs, vs = [.ref m, .int a, .ref p] ∧ MachAt M H m ta (vts ts) ∧ Wf ts ∧ (0 ≤ a ∧ a < (nS ts : Int)) ∧ SeqA H p xs ∧ (∀ x ∈ xs, ∃ K : PySem.W.Frag, KV K H x none) ∧
  ∃ (hh : Nat → Int) (k : Nat), hh 0 = a ∧ k ≤ xs.length ∧ (∀ i, i < k → ∃ t, xs[i]? = some (.int t) ∧ (0 ≤ t ∧ t < (nS ts : Int)) ∧ JTold ts a (hh i) t (hh (i + 1))) ∧
    ((k = xs.length ∧ ∀ H', Same H H' → Q (.int (hh k)) H') ∨ ∃ v, xs[k]? = some v ∧ ((belowB v (nS ts : Int) = false ∧ ∀ H', Same H H' → Rz CS "state" v H' E) ∨ ∃ t, v = .int t ∧ (0 ≤ t ∧ t < (nS ts : Int)) ∧ (∀ x, ¬ JTold ts a (hh k) t x) ∧ ∀ H', Same H H' → RzU CU a (hh k) t H' E))
section
variable {P : Program} {w : World} {K : PySem.W.Frag} {mg : Str → Option Value} {base : Heap}
abbrev nJa : List Str := ["machine", "archive", "states", "here", "there"]
theorem scJa : FnScope nJa ["machine", "archive", "states"] (defScope sJAll) := ⟨rfl, rfl, rfl, by decide +kernel, rfl, by decide +kernel, by decide +kernel⟩
theorem KV.same' {K : PySem.W.Frag} {H H' : Hp} {v : V} (h : KV K H v none) : KV K H' v none := by
  cases h with
  | int i => exact .int i
  | bl b => exact .bl b
  | non => exact .non
  | str x => exact .str x
theorem ok_jall {f fN fJ CS CU M : Addr} {fd fdN fdJ : FuncData} (D : Df K mg "joined_all" sJAll ["machine", "archive", "states"] f fd) (DN : Df K mg "need_state" sNeedS ["machine", "state"] fN fdN) (DJ : Df K mg "joined" sJoined ["machine", "archive", "here", "there"] fJ fdJ)
    (GN : FnOk P w K mg base (L2.CX P w) 3 fN fdN ["machine", "state"] (spNeed M CS "state" nS)) (GJ : FnOk P w K mg base (L2.CX P w) 4 fJ fdJ ["machine", "archive", "here", "there"] (spJoined M CU)) : FnOk P w K mg base (L2.CX P w) 5 f fd ["machine", "archive", "states"] (spJAll M CS CU) := by
  refine D.F.okX scJa (fun vs H Q E h => ?_) (fun cdv A outer s H vs Q E hr h => ?_)
  · obtain ⟨m, ta, ts, a, p, xs, rfl, _⟩ := h
    rfl
  · obtain ⟨m, ta, ts, a, p, xs, rfl, hM, hW, ha, hp, hk, hh, k, h0, lk, step, fin⟩ := h
    subst h0
    have r3 := hr.mono (show 3 ≤ 4 by decide)
    refine ⟨_, pss_cons (ps_set (i := 3) scJa.nd rfl (.inl rfl) (pc DN GN r3 (pass1 (takes_of rfl rfl rfl rfl)) (pa_cons (pv 0) (pa_cons (pv 1) pa_nil))))
      (pss_cons (ps_for (passes_of rfl) rfl (pi_seqA (pv 2)) (pg_name (i := 4) scJa.nd rfl (.inl rfl))
        (pss_one (ps_set (i := 3) scJa.nd rfl (.inl rfl) (pc DJ GJ hr (pass1 (takes_of rfl rfl rfl rfl)) (pa_cons (pv 0) (pa_cons (pv 1) (pa_cons (pv 3) (pa_cons (pc DN GN r3 (pass1 (takes_of rfl rfl rfl rfl)) (pa_cons (pv 0) (pa_cons (pv 4) pa_nil))) pa_nil))))))))
      (pss_one (ps_ret (pv 3)))), ?_⟩
    have hrng : ∀ i, i ≤ k → 0 ≤ hh i ∧ hh i < (nS ts : Int) := fun i => by
      induction i with
      | zero => exact fun _ => ha
      | succ i ih =>
        intro hi
        obtain ⟨t, _, _, j⟩ := step i (by omega)
        exact j.rng hW (ih (by omega))
    refine ⟨_, rfl, _, rfl, nilP ⟨m, ta, ts, .int (hh 0), rfl, hM, ⟨K, _, .int (hh 0)⟩, fun _ => ?_, fun e => (by rw [belowI (n := nS ts) ha] at e; cases e)⟩⟩
    refine gn ?_
    dsimp only [List.set]
    -- a turn
    have turn : ∀ (i : Nat) (x : V) (v4 : Option V) (H' : Hp), xs[i]? = some x → i ≤ k → Same H H' → ∀ (Z : V → Hp → Prop), (∀ y H2, i + 1 ≤ k → y = V.int (hh (i + 1)) → Same H H2 → Z y H2) →
        spNeed M CS "state" nS [.ref m, x] H' (fun y H1 => spJoined M CU [.ref m, .int (hh 0), .int (hh i), y] H1 Z E) E := fun i x v4 H' hx hi s1 Z hZ => by
      by_cases hik : i < k
      · obtain ⟨t, ht, tr, j⟩ := step i hik
        rw [hx] at ht
        obtain rfl := Option.some.inj ht
        refine ⟨m, ta, ts, .int t, rfl, hM.same s1, ⟨K, _, .int t⟩, fun _ => ?_, fun e => (by rw [belowI (n := nS ts) tr] at e; cases e)⟩
        refine ⟨m, ta, ts, hh 0, hh i, t, rfl, hM.same s1, hW, ha, hrng i hi, fun F H2 s2 hF => ⟨fun e he => ?_, fun ne => absurd (by rw [ends_told hF j]; rfl) ne⟩⟩
        rw [ends_told hF j] at he
        injection he with he
        exact hZ _ _ (by omega) (by rw [he]) (s1.trans s2)
      · obtain rfl : i = k := by omega
        rcases fin with ⟨ek, _⟩ | ⟨v, hv, fin⟩
        · have := (List.getElem?_eq_some_iff.mp hx).1
          omega
        · rw [hx] at hv
          obtain rfl := Option.some.inj hv
          rcases fin with ⟨hb, rz⟩ | ⟨t, rfl, tr, nj, rz⟩
          · obtain ⟨K', kv⟩ := hk x (List.mem_of_getElem? hx)
            refine ⟨m, ta, ts, x, rfl, hM.same s1, ⟨K', _, kv.same s1⟩, fun e => (by rw [hb] at e; cases e), fun _ => rz _ s1⟩
          · refine ⟨m, ta, ts, .int t, rfl, hM.same s1, ⟨K, _, .int t⟩, fun _ => ?_, fun e => (by rw [belowI (n := nS ts) tr] at e; cases e)⟩
            exact ⟨m, ta, ts, hh 0, hh i, t, rfl, hM.same s1, hW, ha, hrng i hi, fun F H2 s2 hF => ⟨fun e he => absurd (by rw [he]; rfl) (ends_unt hF nj), fun _ => rz _ (s1.trans s2)⟩⟩
    rcases hp with hp | hp
    · refine ⟨_, rfl, p, rfl, .inl ⟨_, SqL.of hp, for_list (K := K) (a := p) (xs := xs) (fun i σ H' => ∃ v4 : Option V, i ≤ k ∧ σ = [some (.ref m), some (.int (hh 0)), some (.ref p), some (.int (hh i)), v4] ∧ Same H H') ⟨none, Nat.zero_le _, rfl, Same.refl _⟩ (fun i σ H' _ ⟨_, _, _, sm⟩ => SqL.of (sm _ _ hp)) ?_ ?_⟩⟩
      · rintro i x σ H' hx ⟨v4, hi, rfl, s1⟩
        refine gn ?_
        dsimp only [List.set]
        exact ⟨_, rfl, _, rfl, _, rfl, _, rfl, _, rfl, nilP (turn i x v4 H' hx hi s1 (fun y H2 => ∃ v4 : Option V, i + 1 ≤ k ∧ [some (V.ref m), some (.int (hh 0)), some (.ref p), some y, some x] = [some (.ref m), some (.int (hh 0)), some (.ref p), some (.int (hh (i + 1))), v4] ∧ Same H H2) fun y H2 hi2 ey s2 => ⟨some x, hi2, by rw [ey], s2⟩)⟩
      · rintro σ H' ⟨v4, hi, rfl, s1⟩
        rcases fin with ⟨ek, q⟩ | ⟨v, hv, _⟩
        · rw [← ek]
          exact ⟨_, rfl, q _ s1⟩
        · have := (List.getElem?_eq_some_iff.mp hv).1
          omega
    · refine ⟨_, rfl, p, rfl, .inr ⟨_, SqT.of hp, for_tup (K := K) (a := p) (xs := xs) (fun i σ H' => ∃ v4 : Option V, i ≤ k ∧ σ = [some (.ref m), some (.int (hh 0)), some (.ref p), some (.int (hh i)), v4] ∧ Same H H') ⟨none, Nat.zero_le _, rfl, Same.refl _⟩ (fun i σ H' _ ⟨_, _, _, sm⟩ => SqT.of (sm _ _ hp)) ?_ ?_⟩⟩
      · rintro i x σ H' hx ⟨v4, hi, rfl, s1⟩
        refine gn ?_
        dsimp only [List.set]
        exact ⟨_, rfl, _, rfl, _, rfl, _, rfl, _, rfl, nilP (turn i x v4 H' hx hi s1 (fun y H2 => ∃ v4 : Option V, i + 1 ≤ k ∧ [some (V.ref m), some (.int (hh 0)), some (.ref p), some y, some x] = [some (.ref m), some (.int (hh 0)), some (.ref p), some (.int (hh (i + 1))), v4] ∧ Same H H2) fun y H2 hi2 ey s2 => ⟨some x, hi2, by rw [ey], s2⟩)⟩
      · rintro σ H' ⟨v4, hi, rfl, s1⟩
        rcases fin with ⟨ek, q⟩ | ⟨v, hv, _⟩
        · rw [← ek]
          exact ⟨_, rfl, q _ s1⟩
        · have := (List.getElem?_eq_some_iff.mp hv).1
          omega
end
end K1
namespace K1
open PySem PySem.Spec PyProof.Rows L2
/-! ### a machine that tells, drawn or one of four -/
theorem comm_chk {ts : Ts} {s : Int} (hW : Wf ts) (hs : 0 ≤ s ∧ s < (nS ts : Int)) (h : ((List.range (nS ts)).all fun x => (List.range ts.length).all fun d => (List.range ts.length).all fun e => decide (stp ts (stp ts (x : Nat) (d : Nat)) (e : Nat) = stp ts (stp ts (x : Nat) (e : Nat)) (d : Nat))) = true) : Comm ts s := fun x hx d e hd he => by
  have hr := hx.rng hW hs
  rw [List.all_eq_true] at h
  have h1 := h x.toNat (List.mem_range.mpr (by omega))
  rw [List.all_eq_true] at h1
  have h2 := h1 d.toNat (List.mem_range.mpr (by have := hd.1; have := hd.2; omega))
  rw [List.all_eq_true] at h2
  have h3 := of_decide_eq_true (h2 e.toNat (List.mem_range.mpr (by have := he.1; have := he.2; omega)))
  have e1 : ((x.toNat : Nat) : Int) = x := by omega
  have e2 : ((d.toNat : Nat) : Int) = d := by have := hd.1; omega
  have e3 : ((e.toNat : Nat) : Int) = e := by have := he.1; omega
  rw [e1, e2, e3] at h3
  exact h3
def tA : Ts := [[1, 2, 3, 0], [2, 3, 0, 1]]
def tB' : Ts := [[1, 1, 3, 3], [2, 3, 2, 3]]
def tC' : Ts := [[1, 0, 3, 2], [2, 3, 0, 1]]
def tD : Ts := [[1, 2, 2]]
theorem wfA : Wf tA := ⟨by decide, by decide, by decide, by decide, by decide⟩
theorem wfB : Wf tB' := ⟨by decide, by decide, by decide, by decide, by decide⟩
theorem wfC : Wf tC' := ⟨by decide, by decide, by decide, by decide, by decide⟩
theorem wfD : Wf tD := ⟨by decide, by decide, by decide, by decide, by decide⟩
theorem teA : Tells tA 0 := (comm_chk wfA (by decide) (by decide +kernel)).tells
theorem teB : Tells tB' 0 := (comm_chk wfB (by decide) (by decide +kernel)).tells
theorem teC : Tells tC' 0 := (comm_chk wfC (by decide) (by decide +kernel)).tells
theorem teD : Tells tD 0 := (comm_chk wfD (by decide) (by decide +kernel)).tells
theorem tab2 {H : Hp} {a b l : Addr} {r1 r2 : List V} (ha : H a = none) (hb : (upd H a (.tup r1)) b = none) (hl : (upd (upd H a (.tup r1)) b (.tup r2)) l = none) :
    Same H (upd (upd (upd H a (.tup r1)) b (.tup r2)) l (.lst [.ref a, .ref b])) ∧ TabL (upd (upd (upd H a (.tup r1)) b (.tup r2)) l (.lst [.ref a, .ref b])) l [r1, r2] := by
  have s1 := same_new (o := HO.tup r1) ha
  have s2 := same_new (o := HO.tup r2) hb
  have s3 := same_new (o := HO.lst [V.ref a, .ref b]) hl
  refine ⟨(s1.trans s2).trans s3, [a, b], upd_same, rfl, fun i c t e1 e2 => ?_⟩
  match i, e1, e2 with
  | 0, e1, e2 =>
    obtain rfl := Option.some.inj e1
    obtain rfl := Option.some.inj e2
    exact s3 _ _ (s2 _ _ upd_same)
  | 1, e1, e2 =>
    obtain rfl := Option.some.inj e1
    obtain rfl := Option.some.inj e2
    exact s3 _ _ upd_same
theorem tab1 {H : Hp} {a l : Addr} {r1 : List V} (ha : H a = none) (hl : (upd H a (.tup r1)) l = none) :
    Same H (upd (upd H a (.tup r1)) l (.lst [.ref a])) ∧ TabL (upd (upd H a (.tup r1)) l (.lst [.ref a])) l [r1] := by
  have s1 := same_new (o := HO.tup r1) ha
  have s3 := same_new (o := HO.lst [V.ref a]) hl
  refine ⟨s1.trans s3, [a], upd_same, rfl, fun i c t e1 e2 => ?_⟩
  match i, e1, e2 with
  | 0, e1, e2 =>
    obtain rfl := Option.some.inj e1
    obtain rfl := Option.some.inj e2
    exact s3 _ _ upd_same
def spTelling : Sp := fun vs H Q _ => ∃ b, vs = [.ref b] ∧ BoxO H b ∧ ∀ p ts H', Bx b H H' → p ≠ b → TabL H' p (vts ts) → Wf ts → Tells ts 0 → Q (.ref p) H'
section
variable {P : Program} {w : World} {K : PySem.W.Frag} {mg : Str → Option Value} {base : Heap}
abbrev nTg : List Str := ["_law_box_here", "_law_turn", "_law_tables_here"]
theorem scTg : FnScope nTg ["_law_box_here"] (defScope sLTelling) := ⟨rfl, rfl, rfl, by decide +kernel, rfl, by decide +kernel, by decide +kernel⟩
theorem ok_ltelling {f fA fM fL fK : Addr} {fd fdA fdM fdL fdK : FuncData} (D : Df K mg "_law_telling" sLTelling ["_law_box_here"] f fd) (DA : Df K mg "_law_tables" sTabs ["_law_box_here", "_law_most"] fA fdA) (DM : Df K mg "_law_maps" sMaps ["_law_tables_here"] fM fdM) (DL : Df K mg "_law_tells" sLTells ["_law_tables_here", "_law_maps_here", "_law_state"] fL fdL) (DK : Df K mg "_law_pick" sPick ["_law_box_here", "_law_some"] fK fdK) (B : Bt mg)
    (GA : FnOk P w K mg base CX0 3 fA fdA ["_law_box_here", "_law_most"] spTabs) (GM : FnOk P w K mg base CX0 1 fM fdM ["_law_tables_here"] spMaps) (GL : FnOk P w K mg base CX0 1 fL fdL ["_law_tables_here", "_law_maps_here", "_law_state"] spLTells) (GK : FnOk P w K mg base CX0 2 fK fdK ["_law_box_here", "_law_some"] spPick) : FnOk P w K mg base CX0 4 f fd ["_law_box_here"] spTelling := by
  refine D.F.ok scTg (fun vs H Q E h => ?_) (fun cdv A outer s H vs Q E hr h => ?_)
  · obtain ⟨b, rfl, _⟩ := h
    rfl
  · obtain ⟨b, rfl, hb, q⟩ := h
    have r1 := hr.mono (show 1 ≤ 3 by decide)
    have r2 := hr.mono (show 2 ≤ 3 by decide)
    refine ⟨_, pss_cons (ps_for PassesOwn.never rfl (pi_range1 (by rfl) B.range (pa_cons pe_int pa_nil)) (pg_name (i := 1) scTg.nd rfl (.inl rfl))
        (pss_cons (ps_set (i := 2) scTg.nd rfl (.inl rfl) (pc DA GA hr pass0 (pa_cons (pv 0) (pa_cons pe_int pa_nil))))
        (pss_one (ps_if (pt_val (pc DL GL r1 pass0 (pa_cons (pv 2) (pa_cons (pc DM GM r1 pass0 (pa_cons (pv 2) pa_nil)) (pa_cons pe_int pa_nil))))) (pss_one (ps_ret (pv 2))) pss_nil))))
      (pss_one (ps_ret (pc DK GK r2 pass0 (pa_cons (pv 0) (pa_cons (pe_lst
        (pa_cons (pe_lst (pa_cons (pe_tup (pa_cons pe_int (pa_cons pe_int (pa_cons pe_int (pa_cons pe_int pa_nil))))) (pa_cons (pe_tup (pa_cons pe_int (pa_cons pe_int (pa_cons pe_int (pa_cons pe_int pa_nil))))) pa_nil)))
        (pa_cons (pe_lst (pa_cons (pe_tup (pa_cons pe_int (pa_cons pe_int (pa_cons pe_int (pa_cons pe_int pa_nil))))) (pa_cons (pe_tup (pa_cons pe_int (pa_cons pe_int (pa_cons pe_int (pa_cons pe_int pa_nil))))) pa_nil)))
        (pa_cons (pe_lst (pa_cons (pe_tup (pa_cons pe_int (pa_cons pe_int (pa_cons pe_int (pa_cons pe_int pa_nil))))) (pa_cons (pe_tup (pa_cons pe_int (pa_cons pe_int (pa_cons pe_int (pa_cons pe_int pa_nil))))) pa_nil)))
        (pa_cons (pe_lst (pa_cons (pe_tup (pa_cons pe_int (pa_cons pe_int (pa_cons pe_int pa_nil)))) pa_nil)) pa_nil))))) pa_nil))))), ?_⟩
    refine ⟨6, rfl, by decide, by decide, for_range (n := 6) (fun i σ H' => ∃ v1 v2, σ = [some (.ref b), v1, v2] ∧ Bx b H H') ⟨none, none, rfl, Bx.refl hb⟩ ?_ ?_⟩
    · rintro i σ H1 hi ⟨v1, v2, rfl, bx1⟩
      refine ⟨_, rfl, b, rfl, bx1.1, fun p ts H2 bx2 hp0 npb tl hW few => ?_⟩
      refine gn ?_
      dsimp only [List.set]
      have bx12 := bx1.trans bx2
      refine ⟨_, rfl, _, rfl, nilP ⟨p, ts, rfl, tl, hW, few, fun q' F H3 s3 hq0 hMaps hF hf => ?_⟩⟩
      refine ⟨p, q', 0, F, ts, rfl, hMaps, hF, hf, hW, ⟨by decide, by have := hW.s1; omega⟩, fun bt H4 s4 ib => ⟨_, rfl, ifD (fun e => ?_) fun e => nxP ⟨_, _, rfl, (bx12.same s3).same s4⟩⟩⟩
      exact ⟨_, rfl, q p ts _ ((bx12.same s3).same s4) npb ((tl.same s3).same s4) hW (ib.mp e)⟩
    · rintro σ H1 ⟨v1, v2, rfl, bx1⟩
      refine ⟨_, rfl, (by show 4 ≤ sizeLine; decide), fun a0 ha0 => ⟨(by show 4 ≤ sizeLine; decide), fun b0 hb0 => ⟨(by show 2 ≤ sizeLine; decide), fun l0 hl0 => ?_⟩⟩⟩
      obtain ⟨s0, t0⟩ := tab2 (r1 := [V.int 1, .int 2, .int 3, .int 0]) (r2 := [V.int 2, .int 3, .int 0, .int 1]) ha0 hb0 hl0
      have n0 : l0 ≠ b := ((bx1.new ha0).new hb0).1.nn hl0
      generalize upd (upd (upd H1 a0 (.tup [V.int 1, .int 2, .int 3, .int 0])) b0 (.tup [V.int 2, .int 3, .int 0, .int 1])) l0 (.lst [.ref a0, .ref b0]) = K0 at s0 t0 ⊢
      have z0 := bx1.same s0
      refine ⟨(by show 4 ≤ sizeLine; decide), fun a1 ha1 => ⟨(by show 4 ≤ sizeLine; decide), fun b1 hb1 => ⟨(by show 2 ≤ sizeLine; decide), fun l1 hl1 => ?_⟩⟩⟩
      obtain ⟨s1, t1⟩ := tab2 (r1 := [V.int 1, .int 1, .int 3, .int 3]) (r2 := [V.int 2, .int 3, .int 2, .int 3]) ha1 hb1 hl1
      have n1 : l1 ≠ b := ((z0.new ha1).new hb1).1.nn hl1
      generalize upd (upd (upd K0 a1 (.tup [V.int 1, .int 1, .int 3, .int 3])) b1 (.tup [V.int 2, .int 3, .int 2, .int 3])) l1 (.lst [.ref a1, .ref b1]) = K1 at s1 t1 ⊢
      have z1 := z0.same s1
      replace t0 := t0.same s1
      refine ⟨(by show 4 ≤ sizeLine; decide), fun a2 ha2 => ⟨(by show 4 ≤ sizeLine; decide), fun b2 hb2 => ⟨(by show 2 ≤ sizeLine; decide), fun l2 hl2 => ?_⟩⟩⟩
      obtain ⟨s2, t2⟩ := tab2 (r1 := [V.int 1, .int 0, .int 3, .int 2]) (r2 := [V.int 2, .int 3, .int 0, .int 1]) ha2 hb2 hl2
      have n2 : l2 ≠ b := ((z1.new ha2).new hb2).1.nn hl2
      generalize upd (upd (upd K1 a2 (.tup [V.int 1, .int 0, .int 3, .int 2])) b2 (.tup [V.int 2, .int 3, .int 0, .int 1])) l2 (.lst [.ref a2, .ref b2]) = K2 at s2 t2 ⊢
      have z2 := z1.same s2
      replace t0 := t0.same s2
      replace t1 := t1.same s2
      refine ⟨(by show 3 ≤ sizeLine; decide), fun a3 ha3 => ⟨(by show 1 ≤ sizeLine; decide), fun l3 hl3 => ?_⟩⟩
      obtain ⟨s3, t3⟩ := tab1 (r1 := [V.int 1, .int 2, .int 2]) ha3 hl3
      have n3 : l3 ≠ b := (z2.new ha3).1.nn hl3
      generalize upd (upd K2 a3 (.tup [V.int 1, .int 2, .int 2])) l3 (.lst [.ref a3]) = K3 at s3 t3 ⊢
      have z3 := z2.same s3
      replace t0 := t0.same s3
      replace t1 := t1.same s3
      replace t2 := t2.same s3
      refine ⟨(by show 4 ≤ sizeLine; decide), fun lo hlo => ?_⟩
      have so := same_new (o := HO.lst [V.ref l0, .ref l1, .ref l2, .ref l3]) hlo
      have no : lo ≠ b := z3.1.nn hlo
      refine ⟨b, lo, _, rfl, z3.1.same so, upd_same, no, (by show 1 ≤ 4; decide), (by show 4 ≤ 1000; decide), fun i v H' hi bx => ?_⟩
      have bxF := (z3.same so).trans bx
      have hv := List.mem_of_getElem? hi
      simp only [List.mem_cons, List.mem_nil_iff, or_false] at hv
      have zo := z3.1.same so
      rcases hv with rfl | rfl | rfl | rfl
      · exact q _ tA _ bxF n0 ((t0.same so).bx n0 zo bx) wfA teA
      · exact q _ tB' _ bxF n1 ((t1.same so).bx n1 zo bx) wfB teB
      · exact q _ tC' _ bxF n2 ((t2.same so).bx n2 zo bx) wfC teC
      · exact q _ tD _ bxF n3 ((t3.same so).bx n3 zo bx) wfD teD
end
end K1
namespace K1
open PySem PySem.Spec PyProof.Rows L2
/-! ### xs[::e], e being -1 -/
theorem pe_revE {X : Cx} {e st : Expr} {te : TE} {tst : TO} {p3 pos : Pos} (he : PE X e te) (hst : PO X (some st) tst) (hv : ∀ σ H, tst σ H fun o H' => o = some (-1) ∧ H' = H)
    (hop : ∀ (a b : Addr), ∃ ops, subscripted (.Slice none none (some st) p3) false (.ref a) (.ref b) = operate ops (getItem (.ref a) (.ref b)) := by intro a b; exact ⟨_, by with_unfolding_all rfl⟩) :
    PE X (.Subscript e (.Slice none none (some st) p3) pos) (tRevL X.K te) := by
  refine ⟨fun pins s σ H Q I h => ?_⟩
  refine Subscript_ (thn (he.run pins s σ H _ I h) fun v s1 ⟨x, H1, I1, r1, q1⟩ => ?_)
  obtain ⟨a, xs, ex, hx, q⟩ := q1
  subst ex
  cases r1
  refine wpAny_Slice (thn (po_none.run pins s1 σ H1 (fun o H2 => o = none ∧ H2 = H1) I1 ⟨rfl, rfl⟩) fun vl s2 ⟨l, H2, I2, pl, el, e2⟩ => ?_)
  subst el e2
  refine thn (po_none.run pins s2 σ H2 (fun o H3 => o = none ∧ H3 = H2) I2 ⟨rfl, rfl⟩) fun vu s3 ⟨u, H3, I3, pu, eu, e3⟩ => ?_
  subst eu e3
  refine thn (hst.run pins s3 σ H3 (fun o H4 => o = some (-1) ∧ H4 = H3) I3 (hv _ _)) fun vs s4 ⟨o, H4, I4, ps, eo, e4⟩ => ?_
  subst eo e4
  have I5 : Inv X pins σ H4 { s4 with heap := s4.heap.push { cls := .type "slice", data := .fields #[vl, vu, vs] } } := I4.kept (t' := s4.toks) fun b ob q => Heap.get?_push_of_some _ q
  obtain ⟨its, r, ht, hz⟩ := I5.list hx
  have hlen := r.length
  show wpAny (model X.prog X.w) X.A (subscriptTail e (.Slice none none (some st) p3) (.ref a) (.ref s4.heap.objs.size)) (EP X pins σ Q) X.xe { s4 with heap := s4.heap.push { cls := .type "slice", data := .fields #[vl, vu, vs] } }
  obtain ⟨ops, hops⟩ := hop a s4.heap.objs.size
  refine tail_any (ops := ops) ht.isList.typeIs (PySem.slot_list_getitem.lookup) ?_ hops
  refine wpAny_getItem_list_slice ht.isList (Heap.IsSliceOf.new _ vl vu vs) pl pu ps (by decide) ?_ (by rw [List.size_toArray]; omega)
  rw [PySem.W.krv_pick]
  refine ⟨.ref _, _, I5.laid (t' := s4.toks) (o := .lst xs.reverse) (fun b ob q => Heap.get?_push_of_some _ q) (Nat.le_refl _) ?_, rfl, q _ (I5.hok.fresh (Nat.le_refl _))⟩
  exact ⟨by rw [List.length_reverse]; exact hz, _, 0, r.reverse, Heap.get?_push_size _ rfl⟩
section
variable {X : Cx} {k : Nat} {f : Addr} {fd : FuncData} {ps ks : List Str} {sp : Sp} {x : Str} {st : Stmt} {p pos : Pos} {e : Expr} {es : List Expr} {kws : List Keyword} {t tk : TA}
/-! ### f(k = v, ..), every argument by its name -/
theorem pe_callW {CX : CXT} {E : XK} {g : List Value → List Value → List Value} {gV : List V → List V → List V} (D : Df X.K X.mg x st ps f fd) (G : FnOk X.prog X.w X.K X.mg X.base CX k f fd ps sp) (hr : Room k X.A) (hb : KBn X.K fd ps 0 ks g gV) (hx : Passes CX X E) (hkw : PK X kws tk) (hg : Gl X x := by rfl)
    (hall : (backToKw pos (keywordEach kws X.env)).all (·.1.isSome) = true := by rfl) (hks : (backToKw pos (keywordEach kws X.env)).filterMap (·.1) = ks := by rfl) (hdb : (x == ("__debug__" : Str)) = false := by decide)
    (hpl : ((backTo pos (starEach [] X.env)).any (·.1) || (backToKw pos (keywordEach kws X.env)).any (·.1.isNone)) = false := by rfl) :
    PE X (.Call (.Name x p) [] kws pos) (fun σ H Q => tk σ H fun zs H1 => zs.length = ks.length ∧ sp (gV [] zs) H1 Q E) := by
  refine ⟨fun pins s σ H Q I h => ?_⟩
  refine wpAny_Call_Name_kw (ld_glob I hg D.g ?_ hdb)
  refine PySem.W.callWith_KW0 (h₀ := X.base) I.ok.mod.kin D.F.kp hall ?_ hpl
  refine thn (hkw.run pos pins s σ H _ I h) fun ws s2 ⟨zs, H2, I2, rz, l2, q2⟩ => ⟨I2.kIn, ?_⟩
  rw [hks]
  exact run_fnN (us := []) (vs := []) G hr hb hx I2 .nil rz rfl l2 q2
end
/-- nothing leaves -/
theorem passF {X : Cx} : Passes (L2.CX X.prog X.w) X (fun _ _ _ => False) := passes_call LamX.takes0 fun _ _ _ _ h => h
/-- f(d = .., c = .., b = .., a = ..) -/
abbrev gR : List Value → List Value → List Value := fun _ ws => ws.reverse
abbrev gRV : List V → List V → List V := fun _ zs => zs.reverse
/-! ### where deeds lead, by the law -/
def spLLed : Sp := fun vs H Q _ => ∃ p ts s a row, vs = [.ref p, .int s, .ref a] ∧ TabL H p (vts ts) ∧ Wf ts ∧ (0 ≤ s ∧ s < (nS ts : Int)) ∧ SeqA H a (vrow row) ∧ VRow ts row ∧ Q (.int (run ts s row)) H
section
variable {P : Program} {w : World} {K : PySem.W.Frag} {mg : Str → Option Value} {base : Heap}
theorem scLL : FnScope ["_law_tables_here", "_law_state", "_law_row", "_law_deed"] ["_law_tables_here", "_law_state", "_law_row"] (defScope sLLed) := ⟨rfl, rfl, rfl, by decide +kernel, rfl, by decide +kernel, by decide +kernel⟩
theorem ok_lled {f : Addr} {fd : FuncData} (D : Df K mg "_law_led" sLLed ["_law_tables_here", "_law_state", "_law_row"] f fd) : FnOk P w K mg base CX0 1 f fd ["_law_tables_here", "_law_state", "_law_row"] spLLed := by
  refine D.F.ok scLL (fun vs H Q E h => ?_) (fun cdv A outer s H vs Q E hr h => ?_)
  · obtain ⟨p, ts, v, a, row, rfl, _⟩ := h
    rfl
  · obtain ⟨q, ts, s0, p, row, rfl, tl, hW, hs, hp, hd, qq⟩ := h
    refine ⟨_, pss_cons (ps_for PassesOwn.never rfl (pi_seqA (pv 2)) (pg_name (i := 3) scLL.nd rfl (.inl rfl)) (pss_one (ps_set (i := 1) scLL.nd rfl (.inl rfl) (pe_ix ix_tup (pe_ix ix_list (pv 0) (pv 3) (fun _ _ => rfl)) (pv 1) (fun _ _ => rfl)))))
      (pss_one (ps_ret (pv 1))), ?_⟩
    rcases hp with hp | hp
    · refine ⟨_, rfl, p, rfl, .inl ⟨_, SqL.of hp, for_list (K := K) (a := p) (xs := vrow row) (fun i σ H' => ∃ v3 : Option V, σ = [some (.ref q), some (.int (run ts s0 (row.take i))), some (.ref p), v3] ∧ H' = H)
        ⟨none, rfl, rfl⟩ (fun i σ H' _ ⟨_, _, e⟩ => by rw [e]; exact SqL.of hp) ?_ ?_⟩⟩
      · rintro i y σ H' hi ⟨v3, rfl, rfl⟩
        obtain ⟨d, ed, rfl⟩ := vrow_at hi
        have hb := hd d (List.mem_of_getElem? ed)
        have hr' := hW.run (row.take i) s0 (fun e he => hd e (List.mem_of_mem_take he)) hs
        obtain ⟨t, h1, h2, h3⟩ := hW.at_ hb hr'
        obtain ⟨as, ha1, ha2, ha3⟩ := id tl
        have hla : d.toNat < as.length := by rw [ha2, vts, List.length_map]; omega
        have hA : as[d.toNat]? = some as[d.toNat] := by simp [hla]
        have hT := ha3 d.toNat _ (vrow t) hA (by rw [vts, List.getElem?_map, h1]; rfl)
        refine ⟨_, rfl, _, rfl, q, _, d, _, rfl, rfl, SqL.of ha1, at_of (j := d.toNat) (by omega) (by rw [List.getElem?_map, hA]; rfl), ?_⟩
        refine ⟨_, rfl, _, _, _, .int (stp ts (run ts s0 (row.take i)) d), rfl, rfl, SqT.of hT, at_of (j := (run ts s0 (row.take i)).toNat) (by omega) (by rw [vrow, List.getElem?_map, h2]; rfl), ?_⟩
        refine ⟨some (.int d), ?_, rfl⟩
        rw [take_succ ed, run_snoc]
        rfl
      · rintro σ H' ⟨v3, rfl, rfl⟩
        have e : row.take (vrow row).length = row := by rw [vrow, List.length_map, List.take_length]
        rw [e]
        exact ⟨_, rfl, qq⟩
    · refine ⟨_, rfl, p, rfl, .inr ⟨_, SqT.of hp, for_tup (K := K) (a := p) (xs := vrow row) (fun i σ H' => ∃ v3 : Option V, σ = [some (.ref q), some (.int (run ts s0 (row.take i))), some (.ref p), v3] ∧ H' = H)
        ⟨none, rfl, rfl⟩ (fun i σ H' _ ⟨_, _, e⟩ => by rw [e]; exact SqT.of hp) ?_ ?_⟩⟩
      · rintro i y σ H' hi ⟨v3, rfl, rfl⟩
        obtain ⟨d, ed, rfl⟩ := vrow_at hi
        have hb := hd d (List.mem_of_getElem? ed)
        have hr' := hW.run (row.take i) s0 (fun e he => hd e (List.mem_of_mem_take he)) hs
        obtain ⟨t, h1, h2, h3⟩ := hW.at_ hb hr'
        obtain ⟨as, ha1, ha2, ha3⟩ := id tl
        have hla : d.toNat < as.length := by rw [ha2, vts, List.length_map]; omega
        have hA : as[d.toNat]? = some as[d.toNat] := by simp [hla]
        have hT := ha3 d.toNat _ (vrow t) hA (by rw [vts, List.getElem?_map, h1]; rfl)
        refine ⟨_, rfl, _, rfl, q, _, d, _, rfl, rfl, SqL.of ha1, at_of (j := d.toNat) (by omega) (by rw [List.getElem?_map, hA]; rfl), ?_⟩
        refine ⟨_, rfl, _, _, _, .int (stp ts (run ts s0 (row.take i)) d), rfl, rfl, SqT.of hT, at_of (j := (run ts s0 (row.take i)).toNat) (by omega) (by rw [vrow, List.getElem?_map, h2]; rfl), ?_⟩
        refine ⟨some (.int d), ?_, rfl⟩
        rw [take_succ ed, run_snoc]
        rfl
      · rintro σ H' ⟨v3, rfl, rfl⟩
        have e : row.take (vrow row).length = row := by rw [vrow, List.length_map, List.take_length]
        rw [e]
        exact ⟨_, rfl, qq⟩
end
end K1
namespace K1
open PySem PySem.Spec PyProof.Rows L2
/-! ### several that went out with one archive -/
theorem noBad {n : Nat} {a h t : Int} {v : V} (ha : 0 ≤ a ∧ a < (n : Int)) (hh : 0 ≤ h ∧ h < (n : Int)) (ht : 0 ≤ t ∧ t < (n : Int)) (b : FstBad n [.int a, .int h, .int t] v) : False := by
  obtain ⟨i, e, e2, _⟩ := b
  have hm := List.mem_of_getElem? e
  simp only [List.mem_cons, List.mem_nil_iff, or_false] at hm
  rcases hm with rfl | rfl | rfl
  · rw [belowI ha] at e2; cases e2
  · rw [belowI hh] at e2; cases e2
  · rw [belowI ht] at e2; cases e2
theorem kv3 {K : PySem.W.Frag} {H : Hp} {a h t : Int} : ∀ x ∈ [V.int a, .int h, .int t], ∃ (K' : PySem.W.Frag) (o : Option (List V)), KV K' H x o := fun x hx => by
  simp only [List.mem_cons, List.mem_nil_iff, or_false] at hx
  rcases hx with rfl | rfl | rfl <;> exact ⟨K, _, .int _⟩
def t5 : Ts := [[1, 2, 3, 4, 0]]
theorem wf5 : Wf t5 := ⟨by decide, by decide, by decide, by decide, by decide⟩
theorem run5 : ∀ (r : List Int) (s : Int), VRow t5 r → (0 ≤ s ∧ s < 5) → run t5 s r = (s + (r.length : Int)) % 5
  | [], s, _, hs => by show s = _; simp only [List.length_nil]; omega
  | d :: r, s, hr, hs => by
    have hd := hr d List.mem_cons_self
    have h1 : (t5.length : Int) = 1 := rfl
    obtain rfl : d = 0 := by omega
    have e : stp t5 s 0 = (s + 1) % 5 := by
      have : s = 0 ∨ s = 1 ∨ s = 2 ∨ s = 3 ∨ s = 4 := by omega
      rcases this with rfl | rfl | rfl | rfl | rfl <;> rfl
    show run t5 (stp t5 s 0) r = _
    rw [e, run5 r _ (fun x hx => hr x (List.mem_cons_of_mem _ hx)) (by omega), List.length_cons]
    omega
theorem jt5 (i : Nat) : JTold t5 2 ((2 + (i : Int)) % 5) 3 ((2 + ((i + 1 : Nat) : Int)) % 5) := by
  refine ⟨⟨[0], fun d hd => by rw [List.mem_singleton.mp hd]; exact ⟨by decide, by decide⟩, rfl, ?_⟩, fun r hr e => ?_⟩
  · rw [run5 [0] _ (fun d hd => by rw [List.mem_singleton.mp hd]; exact ⟨by decide, by decide⟩) (by omega)]
    simp only [List.length_cons, List.length_nil]
    omega
  · rw [run5 r 2 hr (by omega)] at e
    rw [run5 r _ hr (by omega)]
    omega
theorem flat_rep (x : V) : ∀ n : Nat, (List.replicate n [x]).flatten = List.replicate n x
  | 0 => rfl
  | n + 1 => by rw [List.replicate_succ, List.flatten_cons, flat_rep x n, List.replicate_succ]; rfl
/-- rows as lists at addresses -/
def RowsL (H : Hp) (D : Addr) (rs : List (List Int)) : Prop := ∃ as : List Addr, H D = some (.lst (as.map V.ref)) ∧ as.length = rs.length ∧ ∀ (i : Nat) a r, as[i]? = some a → rs[i]? = some r → H a = some (.lst (vrow r))
theorem RowsL.same {H H' : Hp} {D : Addr} {rs : List (List Int)} (h : RowsL H D rs) (s : Same H H') : RowsL H' D rs := let ⟨as, h1, h2, h3⟩ := h; ⟨as, s _ _ h1, h2, fun i a r e1 e2 => s _ _ (h3 i a r e1 e2)⟩
section
variable {K : PySem.W.Frag} {f : Addr} {fd : FuncData}
theorem kb_jall (F : Fun K "joined_all" "joined_all" sJAll f fd) : KBn K fd ["machine", "archive", "states"] 0 ["states", "archive", "machine"] gR gRV := by
  obtain ⟨oc, od, kV, doc, pm, an, cdv, ct, osl, rfl, lk, hcd⟩ := F.ex
  refine ⟨fun s us ws _ h0 h1 => .of_eq ?_, fun _ r => r.reverse⟩
  match us, ws, h0, h1 with
  | [], [_, _, _], _, _ => rfl
end
def spAll (K : PySem.W.Frag) (M : Addr) : Sp := fun vs H Q _ => ∃ b m p ta ts, vs = [.ref b, .ref m, .ref p] ∧ BoxO H b ∧ TabL H p (vts ts) ∧ p ≠ b ∧ Wf ts ∧ MachAt M H m ta (vts ts) ∧ Tells ts 0 ∧ ∀ H', Bx b H H' → Q (.bl true) H'
section
variable {P : Program} {w : World} {K : PySem.W.Frag} {mg : Str → Option Value} {base : Heap}
abbrev nAl : List Str := ["_law_box_here", "_law_machine", "_law_tables_here", "_law_archive", "_law_rows", "_law_row", "_law_states", "_law_due", "_law_late", "_law_state", "_law_turn", "_law_hand"]
theorem scAl : FnScope nAl ["_law_box_here", "_law_machine", "_law_tables_here"] (defScope sAll) := ⟨rfl, rfl, rfl, by decide +kernel, rfl, by decide +kernel, by decide +kernel⟩
/-- the defs that it calls -/
structure Da (P : Program) (w : World) (K : PySem.W.Frag) (mg : Str → Option Value) (base : Heap) (M CM CS CU : Addr) : Prop where
  B : Bt mg
  T : McT K mg M
  mach : ∃ fI fdI, Mk K M fI ∧ Binds K fdI ["self", "tables"] [] ∧ FnOk P w K mg base (L2.CX P w) 6 fI fdI ["self", "tables"] (spMInit K CM M)
  take : ∃ f fd, Df K mg "_law_take" sTake ["_law_box_here", "_law_many"] f fd ∧ FnOk P w K mg base CX0 1 f fd ["_law_box_here", "_law_many"] spTake
  pick : ∃ f fd, Df K mg "_law_pick" sPick ["_law_box_here", "_law_some"] f fd ∧ FnOk P w K mg base CX0 2 f fd ["_law_box_here", "_law_some"] spPick
  join : ∃ f fd, Df K mg "join" sJoin ["machine", "archive", "here", "there"] f fd ∧ FnOk P w K mg base (L2.CX P w) 5 f fd ["machine", "archive", "here", "there"] (spJoin M CS CU)
  jall : ∃ f fd, Df K mg "joined_all" sJAll ["machine", "archive", "states"] f fd ∧ FnOk P w K mg base (L2.CX P w) 5 f fd ["machine", "archive", "states"] (spJAll M CS CU)
  led : ∃ f fd, Df K mg "_law_led" sLLed ["_law_tables_here", "_law_state", "_law_row"] f fd ∧ FnOk P w K mg base CX0 1 f fd ["_law_tables_here", "_law_state", "_law_row"] spLLed
theorem ok_all {f M CM CS CU : Addr} {fd : FuncData} (D : Df K mg "_law_all_right" sAll ["_law_box_here", "_law_machine", "_law_tables_here"] f fd) (dn : Da P w K mg base M CM CS CU) : FnOk P w K mg base CX0 9 f fd ["_law_box_here", "_law_machine", "_law_tables_here"] (spAll K M) := by
  refine D.F.ok scAl (fun vs H Q E h => ?_) (fun cdv A outer s H vs Q E hr h => ?_)
  · obtain ⟨b, m, p, ta, ts, rfl, _⟩ := h
    rfl
  · obtain ⟨b, m, p, ta, ts, rfl, hb, tl, npb, hW, hM, tells, qq⟩ := h
    have B := dn.B
    have TM := dn.T
    obtain ⟨fI, fdI, MI, BI, GI⟩ := dn.mach
    obtain ⟨fT, fdT, DT, GT⟩ := dn.take
    obtain ⟨fJ, fdJ, DJ, GJ⟩ := dn.join
    obtain ⟨fA, fdA, DA, GA⟩ := dn.jall
    obtain ⟨fL, fdL, DL, GL⟩ := dn.led
    have r1 := hr.mono (show 1 ≤ 8 by decide)
    have r5 := hr.mono (show 5 ≤ 8 by decide)
    have r7 := hr.mono (show 7 ≤ 8 by decide)
    refine ⟨_, pss_cons (ps_if (PW.pt (pw_and (pt_cmpR op_eq (pc DT GT r1 pass0 (pa_cons (pv 0) (pa_cons pe_int pa_nil))) pe_int (nomark _))
          (pw_and1 (pt_cmpR op_ne (pc DA GA r5 passF (pa_cons (pe_make MI GI r7 rfl TM.g BI .nil passF (pa_cons (pe_lst (pa_cons (pe_tup (pa_cons pe_int (pa_cons pe_int (pa_cons pe_int (pa_cons pe_int (pa_cons pe_int pa_nil)))))) pa_nil)) pa_nil)) (pa_cons pe_int (pa_cons (pe_op op_rep (pe_lst (pa_cons pe_int pa_nil)) pe_int) pa_nil)))) pe_int (nomark _))))) (pss_one (ps_ret pe_bl)) pss_nil)
      (pss_cons (ps_set (i := 3) scAl.nd rfl (.inr rfl) (pc DL GL r1 pass0 (pa_cons (pv 2) (pa_cons pe_int (pa_cons (pe_lc (own := [("_law_turn", 10)]) (g := gName 10) (tt := tYes) rfl scAl.nd (pi_range1 (by rfl) B.range (pa_cons (pc DT GT r1 pass0 (pa_cons (pv 0) (pa_cons pe_int pa_nil))) pa_nil)) (blkOk_by (N := nAl) (sc := defScope sAll) (by decide +kernel)) (fun _ _ _ _ _ => pg_name (i := 10) scAl.nd rfl (Or.inl rfl)) (fun _ _ _ _ _ => pts_nil)
          (fun _ _ _ _ _ => pc DT GT r1 pass0 (pa_cons (pv 0) (pa_cons (pe_callB (clen (K := K) rfl) (by rfl) B.len PySem.boot_len (pa_cons (pv 2) pa_nil)) pa_nil)))) pa_nil)))))
      (pss_cons (ps_setLc (i := 4) (own := [("_law_hand", 11)]) (g := gName 11) (tt := tYes) rfl scAl.nd rfl rfl (sw_true rfl rfl rfl (by decide +kernel)) (pi_range1 (by rfl) B.range (pa_cons (pc DT GT r1 pass0 (pa_cons (pv 0) (pa_cons pe_int pa_nil))) pa_nil)) (blkOk_by (N := nAl) (sc := defScope sAll) (by decide +kernel)) (fun _ _ _ _ _ => pg_name (i := 11) scAl.nd rfl (Or.inl rfl)) (fun _ _ _ _ _ => pts_nil)
          (fun _ _ _ _ _ => pe_lc (own := [("_law_turn", 10)]) (g := gName 10) (tt := tYes) rfl scAl.nd (pi_range1 (by rfl) B.range (pa_cons (pc DT GT r1 pass0 (pa_cons (pv 0) (pa_cons pe_int pa_nil))) pa_nil)) (blkOk_by (by rfl)) (fun _ _ _ _ _ => pg_name (i := 10) scAl.nd rfl (Or.inl rfl)) (fun _ _ _ _ _ => pts_nil)
            (fun _ _ _ _ _ => pc DT GT r1 pass0 (pa_cons (pv 0) (pa_cons (pe_callB (clen (K := K) rfl) (by rfl) B.len PySem.boot_len (pa_cons (pv 2) pa_nil)) pa_nil)))))
      (pss_cons (ps_par3 (i := 6) (j := 7) (l := 8) rfl scAl.nd rfl rfl rfl (by decide) (by decide) (by decide) rfl rfl rfl (pa_cons (pe_lc (own := [("_law_row", 5)]) (g := gName 5) (tt := tYes) rfl scAl.nd (piL (K := K) rfl (pv 4)) (blkOk_by (N := nAl) (sc := defScope sAll) (by decide +kernel)) (fun _ _ _ _ _ => pg_name (i := 5) scAl.nd rfl (Or.inl rfl)) (fun _ _ _ _ _ => pts_nil)
          (fun _ _ _ _ _ => pc DL GL r1 pass0 (pa_cons (pv 2) (pa_cons (pv 3) (pa_cons (pv 5) pa_nil))))) (pa_cons (pv 3) (pa_cons (pv 3) pa_nil))) rfl)
      (pss_cons (ps_for PassesOwn.never rfl (piL (K := K) rfl (pv 4)) (pg_name (i := 5) scAl.nd rfl (.inl rfl)) (pss_one (ps_set (i := 7) scAl.nd rfl (.inl rfl) (pc DL GL r1 pass0 (pa_cons (pv 2) (pa_cons (pv 7) (pa_cons (pv 5) pa_nil)))))))
      (pss_cons (ps_if (PW.pt (pw_or (pt_cmpR op_ne (pe_callB call_reprS (by rfl) B.repr (by decide +kernel) (pa_cons (pc DA GA r5 passF (pa_cons (pv 1) (pa_cons (pv 3) (pa_cons (pv 6) pa_nil)))) pa_nil)) (pe_callB call_reprS (by rfl) B.repr (by decide +kernel) (pa_cons (pv 7) pa_nil)) (nomark _))
          (pw_or1 (pt_cmpR op_ne (pe_callW DA GA r5 (kb_jall DA.F) passF (pk_cons (pe_callTy (ctup (K := K) rfl) (by rfl) B.tuple PyProof.Rows.boot_tuple (pa_cons (pv 6) pa_nil)) (pk_cons (pv 3) (pk_cons (pv 1) pk_nil)))) (pv 7) (nomark _))))) (pss_one (ps_ret pe_bl)) pss_nil)
      (pss_cons (ps_for PassesOwn.never rfl (piL (K := K) rfl (pe_revE (pv 6) (po_some (pe_op op_sub pe_int pe_int)) (fun _ _ => ⟨_, _, rfl, rfl, _, rfl, rfl, rfl⟩))) (pg_name (i := 9) scAl.nd rfl (.inl rfl)) (pss_one (ps_set (i := 8) scAl.nd rfl (.inl rfl) (pc DJ GJ r5 passF (pa_cons (pv 1) (pa_cons (pv 3) (pa_cons (pv 9) (pa_cons (pv 8) pa_nil))))))))
      (pss_one (ps_ret (pe_cmpR op_eq (pv 8) (pv 7) (nomark _)))))))))), ?_⟩
    have n12 := hW.s12
    have t8 := hW.t8
    have t1 := hW.t1
    refine seqG (fun σ G => σ = [some (.ref b), some (.ref m), some (.ref p), none, none, none, none, none, none, none, none, none] ∧ Bx b H G) ?_ (fun kk => ?_)
    rotate_left
    · -- four hundred copies on a ring of five
      refine ⟨_, rfl, b, 12, rfl, hb, by decide, by decide, fun r H1 r0 r1' bx1 => ?_⟩
      refine ⟨rfl, _, rfl, ifD (fun e => ?_) fun e => iteF (nxP (kk _ _ ⟨rfl, bx1⟩))⟩
      refine ⟨(by show 5 ≤ sizeLine; decide), fun q1 hq1 => ⟨(by show 1 ≤ sizeLine; decide), fun q2 hq2 => ?_⟩⟩
      obtain ⟨s1, tl5⟩ := tab1 (r1 := [V.int 1, .int 2, .int 3, .int 4, .int 0]) hq1 hq2
      generalize upd (upd H1 q1 (.tup [V.int 1, .int 2, .int 3, .int 4, .int 0])) q2 (.lst [.ref q1]) = H2 at s1 tl5 ⊢
      have bx2 := bx1.same s1
      refine fun mm dx hm hdx ne => ?_
      have s0 : Same H2 (upd (upd H2 dx (.own mm)) mm (.ins M dx [])) := (same_new hdx).trans (same_new (by rw [upd_ne ne.symm]; exact hm))
      have tl5' : TabL H2 q2 (vts t5) := tl5
      refine ⟨mm, dx, _, _, rfl, upd_same, (tl5'.same s0).mv, fun z hz => (by rw [chk_wf wf5] at hz; cases hz), fun _ ts' ets ta5 H5 k5 hM5 => ⟨rfl, ?_⟩⟩
      obtain rfl : vts t5 = ts' := map_some (Option.some.inj ets)
      have s5 := mkS hm hdx k5
      have bx5 := bx2.same s5
      clear k5 hm hdx s0
      refine ⟨(by show 1 ≤ sizeLine; decide), fun q3 hq3 => ⟨q3, 400, _, rfl, rfl, upd_same, by decide, by decide, (by show 1 * (400 : Int).toNat ≤ sizeLine; decide), fun q4 hq4 => ?_⟩⟩
      have s6 := same_new (o := HO.lst [V.int 3]) hq3
      have s7 := same_new (o := HO.lst (List.replicate (400 : Int).toNat [V.int 3]).flatten) hq4
      have ef : (List.replicate (400 : Int).toNat [V.int 3]).flatten = List.replicate 400 (V.int 3) := flat_rep _ _
      refine ⟨mm, ta5, t5, 2, q4, _, rfl, (hM5.same s6).same s7, wf5, ⟨by decide, by decide⟩, .inl upd_same, fun x hx => ?_, fun i => (2 + (i : Int)) % 5, 400, rfl, ?_, fun i hi => ⟨3, ?_, ⟨by decide, by decide⟩, jt5 i⟩, .inl ⟨?_, fun H' s8 => ?_⟩⟩
      · rw [ef] at hx
        rw [(List.mem_replicate.mp hx).2]
        exact ⟨K, .int 3⟩
      · rw [ef, List.length_replicate]; exact Nat.le_refl _
      · rw [ef, List.getElem?_replicate, if_pos hi]
      · rw [ef, List.length_replicate]
      · exact ⟨rfl, _, rfl, iteF (nxP (kk _ _ ⟨rfl, ((bx5.same s6).same s7).same s8⟩))⟩
    rintro σ G ⟨rfl, bxG⟩
    -- the archive
    have hbG := bxG.1
    have len : ∀ G', Bx b H G' → ∃ as : List Addr, G' p = some (.lst (as.map V.ref)) ∧ ((as.map V.ref).length : Int) = (ts.length : Int) := fun G' bx => by
      obtain ⟨as, h1, h2, _⟩ := tl.bx npb hb bx
      exact ⟨as, h1, by rw [List.length_map, h2, vts, List.length_map]⟩
    have h0 : 0 ≤ (0 : Int) ∧ (0 : Int) < (nS ts : Int) := ⟨by decide, by have := hW.s1; omega⟩
    refine ⟨_, rfl, _, rfl, b, 4, rfl, hbG, by decide, by decide, fun k1 H1 k10 k11 bx1 => ⟨k1, rfl, by omega, by omega, fun D1 hD1 => lc_range (Rg b D1 H1 (ts.length : Int)) (Rg.nil bx1.1 hD1) ?_ ?_⟩⟩
    · rintro i H2 hi g
      obtain ⟨as, g1, g2⟩ := len H2 ((bxG.trans bx1).trans (let ⟨_, _, _, a, _⟩ := g; a))
      refine ⟨rfl, _, rfl, _, rfl, p, _, rfl, .inl (SqL.of g1), ?_⟩
      rw [g2]
      exact ⟨b, _, rfl, g.box, by omega, by omega, fun x H3 x0 x1 bx => g.put bx1.1 hD1 bx ⟨x0, x1⟩ (by omega)⟩
    rintro H2 ⟨ra, la, va, bx2, hD2⟩
    have nD1 : D1 ≠ b := bx1.1.nn hD1
    have bxH2 := (bxG.trans bx1).trans bx2
    refine ⟨p, ts, 0, D1, ra, rfl, tl.bx npb hb bxH2, hW, h0, .inl hD2, va, ?_⟩
    have hRa : Rch ts 0 (run ts 0 ra) := ⟨ra, va, rfl⟩
    generalize run ts 0 ra = a at hRa ⊢
    have har := hRa.rng hW h0
    refine gn ?_
    dsimp only [List.set]
    clear hD2 hD1 bx2 bx1
    -- the rows
    refine ⟨_, rfl, b, 5, rfl, bxH2.1, by decide, by decide, fun k2 H3 k20 k21 bx3 => ⟨k2, rfl, by omega, by omega, fun D2 hD2 => ?_⟩⟩
    have nD2 : D2 ≠ b := bx3.1.nn hD2
    refine lc_range (fun i H' => ∃ rs : List (List Int), rs.length = i ∧ (∀ r ∈ rs, VRow ts r ∧ r.length ≤ 10) ∧ Bx b H3 H' ∧ ∃ as : List Addr, H' D2 = some (.lst (as.map V.ref)) ∧ as.length = rs.length ∧ ∀ (j : Nat) c r, as[j]? = some c → rs[j]? = some r → c ≠ b ∧ c ≠ D2 ∧ H' c = some (.lst (vrow r))) ⟨[], rfl, fun r hr => absurd hr (by simp), (Bx.refl bx3.1).new hD2, [], upd_same, rfl, fun j c r e => by cases e⟩ ?_ ?_
    · rintro i H4 hi ⟨rs, lr, vr, bx4, as, g1, g2, g3⟩
      refine ⟨rfl, ?_⟩
      refine ⟨_, rfl, b, 5, rfl, bx4.1, by decide, by decide, fun k3 H5 k30 k31 bx5 => ⟨k3, rfl, by omega, by omega, fun D3 hD3 => lc_range (Rg b D3 H5 (ts.length : Int)) (Rg.nil bx5.1 hD3) ?_ ?_⟩⟩
      · rintro j H6 hj g
        obtain ⟨as', g1', g2'⟩ := len H6 ((((bxH2.trans bx3).trans bx4).trans bx5).trans (let ⟨_, _, _, a, _⟩ := g; a))
        refine ⟨rfl, _, rfl, _, rfl, p, _, rfl, .inl (SqL.of g1'), ?_⟩
        rw [g2']
        exact ⟨b, _, rfl, g.box, by omega, by omega, fun x H7 x0 x1 bx => g.put bx5.1 hD3 bx ⟨x0, x1⟩ (by omega)⟩
      · rintro H6 ⟨ns, ln, vn, bx6, hN⟩
        have nD3 : D3 ≠ b := bx5.1.nn hD3
        have bx46 := bx5.trans bx6
        have gD := bx46.2 _ _ g1 nD2
        have n32 : D3 ≠ D2 := fun z => by
          have := bx5.2 _ _ g1 nD2
          rw [← z, hD3] at this
          cases this
        have lk : ns.length ≤ 10 := by omega
        refine ⟨_, gD, by rw [List.length_map, g2, lr, sizeLine_eq]; omega, rs ++ [ns], by rw [List.length_append, lr]; rfl, fun r hr => ?_, (bx4.trans bx46).put hD2 nD2, as ++ [D3], by rw [upd_same, List.map_append]; rfl, by rw [List.length_append, List.length_append, g2]; rfl, fun j c r e1 e2 => ?_⟩
        · rcases List.mem_append.mp hr with z | z
          · exact vr r z
          · rw [List.mem_singleton.mp z]; exact ⟨vn, lk⟩
        · by_cases hj : j < as.length
          · rw [List.getElem?_append_left hj] at e1
            rw [List.getElem?_append_left (by rw [← g2]; exact hj)] at e2
            obtain ⟨m1, m2, m3⟩ := g3 j c r e1 e2
            exact ⟨m1, m2, by rw [upd_ne m2]; exact bx46.2 _ _ m3 m1⟩
          · have hl : j = as.length := by
              have := (List.getElem?_eq_some_iff.mp e1).1
              simp only [List.length_append, List.length_cons, List.length_nil] at this
              omega
            subst hl
            rw [List.getElem?_append_right (Nat.le_refl _), Nat.sub_self] at e1
            rw [g2, List.getElem?_append_right (Nat.le_refl _), Nat.sub_self] at e2
            obtain rfl : D3 = c := Option.some.inj e1
            obtain rfl : ns = r := Option.some.inj e2
            exact ⟨nD3, n32, by rw [upd_ne n32]; exact hN⟩
    rintro H4 ⟨rs, lr, vr, bx4, as, g1, g2, g3⟩
    have bxH4 := (bxH2.trans bx3).trans bx4
    have rl : RowsL H4 D2 rs := ⟨as, g1, g2, fun i c r e1 e2 => (g3 i c r e1 e2).2.2⟩
    have lr5 : rs.length ≤ 10 := by omega
    clear g3 g2 g1 as bx4 bx3 hD2 lr
    refine gn ?_
    dsimp only [List.set]
    -- where each led
    obtain ⟨as, g1, g2, g3⟩ := id rl
    have tlH := tl.bx npb hb bxH4
    have hMH := hM.bx hb bxH4
    refine ⟨_, rfl, D2, rfl, ⟨_, SqL.of g1⟩, fun D4 hD4 => lc_list (K := K) (a := D2) (xs := as.map V.ref) (fun i H' => Same H4 H' ∧ H' D4 = some (.lst (vrow ((rs.take i).map (run ts a))))) ⟨same_new hD4, upd_same⟩ (fun i H' _ ⟨s, _⟩ => SqL.of (s _ _ g1)) ?_ ?_⟩
    · rintro i x H' hx ⟨s2, hD⟩
      obtain ⟨c, hc, rfl⟩ : ∃ c, as[i]? = some c ∧ x = V.ref c := by
        rw [List.getElem?_map] at hx
        cases e : as[i]? with
        | none => rw [e] at hx; cases hx
        | some t => rw [e] at hx; exact ⟨t, rfl, (Option.some.inj hx).symm⟩
      obtain ⟨r, er⟩ : ∃ r, rs[i]? = some r := ⟨rs[i]'(by rw [← g2]; exact (List.getElem?_eq_some_iff.mp hc).1), List.getElem?_eq_getElem _⟩
      have hcr := g3 i c r hc er
      have vr' := (vr r (List.mem_of_getElem? er)).1
      refine ⟨rfl, _, rfl, _, rfl, _, rfl, p, ts, a, c, r, rfl, tlH.same s2, hW, har, .inl (s2 _ _ hcr), vr', _, hD, by rw [vrow, List.length_map, List.length_map, List.length_take, sizeLine_eq]; omega, fun d o eo => ?_, ?_⟩
      · rw [upd_ne (ne_of_none eo hD4)]
        exact s2 _ _ eo
      · rw [upd_same, take_succ er, List.map_append, vrow, vrow, List.map_append]; rfl
    rintro H5 ⟨s5, hD5⟩
    have e1 : rs.take (as.map V.ref).length = rs := by rw [List.length_map, g2, List.take_length]
    rw [e1] at hD5
    refine ⟨_, rfl, _, rfl, _, _, _, rfl, ?_⟩
    dsimp only [List.set]
    have nD4 : D4 ≠ b := bxH4.1.nn hD4
    have bxH5 := bxH4.same s5
    -- all deeds, in the order in which they came
    have fl : ∀ i r, rs[i]? = some r → (rs.take (i + 1)).flatten = (rs.take i).flatten ++ r := fun i r e => by
      rw [take_succ e, List.flatten_append]
      show _ ++ ([r] : List (List Int)).flatten = _
      rw [List.flatten_cons, List.flatten_nil, List.append_nil]
    have vfl : ∀ qs : List (List Int), (∀ r ∈ qs, VRow ts r) → VRow ts qs.flatten := fun qs h d hd => by
      obtain ⟨r, hr, hdr⟩ := List.mem_flatten.mp hd
      exact h r hr d hdr
    have vtk : ∀ i, VRow ts (rs.take i).flatten := fun i => vfl _ fun r hr => (vr r (List.mem_of_mem_take hr)).1
    have rl5 := rl.same s5
    obtain ⟨as5, q1, q2, q3⟩ := rl5
    refine ⟨_, rfl, D2, rfl, ⟨_, SqL.of q1⟩, for_list (K := K) (a := D2) (xs := as5.map V.ref) (fun i σ H' => ∃ v5 v9 v10 v11, σ = [some (.ref b), some (.ref m), some (.ref p), some (.int a), some (.ref D2), v5, some (.ref D4), some (.int (run ts a (rs.take i).flatten)), some (.int a), v9, v10, v11] ∧ H' = H5) ⟨_, _, _, _, rfl, rfl⟩ (fun i σ H' _ ⟨_, _, _, _, _, e⟩ => by rw [e]; exact SqL.of q1) ?_ ?_⟩
    · rintro i x σ H' hx ⟨v5, v9, v10, v11, rfl, rfl⟩
      obtain ⟨c, hc, rfl⟩ : ∃ c, as5[i]? = some c ∧ x = V.ref c := by
        rw [List.getElem?_map] at hx
        cases e : as5[i]? with
        | none => rw [e] at hx; cases hx
        | some t => rw [e] at hx; exact ⟨t, rfl, (Option.some.inj hx).symm⟩
      obtain ⟨r, er⟩ : ∃ r, rs[i]? = some r := ⟨rs[i]'(by rw [← q2]; exact (List.getElem?_eq_some_iff.mp hc).1), List.getElem?_eq_getElem _⟩
      have vr' := (vr r (List.mem_of_getElem? er)).1
      refine gn ?_
      dsimp only [List.set]
      refine ⟨_, rfl, _, rfl, _, rfl, p, ts, _, c, r, rfl, tl.bx npb hb bxH5, hW, hW.run _ a (vtk i) har, .inl (q3 i c r hc er), vr', gn ⟨some (.ref c), v9, v10, v11, ?_, rfl⟩⟩
      rw [fl i r er, run_app]; rfl
    rintro σ H' ⟨v5, v9, v10, v11, rfl, rfl⟩
    have e2 : rs.take (as5.map V.ref).length = rs := by rw [List.length_map, q2, List.take_length]
    rw [e2]
    clear e2 q3 q2 q1
    -- one behind another
    have st : ∀ i r, rs[i]? = some r → (rs.map (run ts a))[i]? = some (run ts a r) := fun i r e => by rw [List.getElem?_map, e]; rfl
    have lS : (vrow (rs.map (run ts a))).length = rs.length := by rw [vrow, List.length_map, List.length_map]
    have hM5 := hMH.same s5
    have told : ∀ h, Rch ts a h → Told ts a h := fun h hh => tells_all.mp tells a hRa h hh
    have chain : ∀ (G : Hp) (sm : Same H' G) (q : Addr) (Z : VK) (EE : XK), SeqA G q (vrow (rs.map (run ts a))) → (∀ G', Same G G' → Z (.int (run ts a rs.flatten)) G') → spJAll M CS CU [.ref m, .int a, .ref q] G Z EE := fun G sm q Z EE hq hZ => by
      refine ⟨m, ta, ts, a, q, _, rfl, hM5.same sm, hW, har, hq, fun x hx => ?_, fun i => run ts a (rs.take i).flatten, rs.length, rfl, by rw [lS]; exact Nat.le_refl _, fun i hi => ?_, .inl ⟨lS.symm, fun G' s' => ?_⟩⟩
      · obtain ⟨y, _, rfl⟩ := List.mem_map.mp hx
        exact ⟨K, .int y⟩
      · obtain ⟨r, er⟩ : ∃ r, rs[i]? = some r := ⟨rs[i], List.getElem?_eq_getElem hi⟩
        have vr' := (vr r (List.mem_of_getElem? er)).1
        refine ⟨run ts a r, by rw [vrow, List.getElem?_map, st i r er]; rfl, hW.run r a vr' har, ?_⟩
        have j := (told _ ⟨(rs.take i).flatten, vtk i, rfl⟩).j vr'
        show JTold ts a _ _ (run ts a (rs.take (i + 1)).flatten)
        rw [fl i r er, run_app]
        exact j
      · show Z (.int (run ts a (rs.take rs.length).flatten)) G'
        rw [List.take_length]
        exact hZ G' s'
    have hdue := hW.run _ a (vtk rs.length) har
    rw [List.take_length] at hdue
    have lg : (run ts a rs.flatten).natAbs.log2 < 1920 := log_sm (by omega)
    have rI : ∀ (G : Hp) (Z : VK), Z (.str (toString (run ts a rs.flatten))) G → rReprS [V.int (run ts a rs.flatten)] G Z := fun G Z q => ⟨_, rfl, .inr (.inr (.inl ⟨_, rfl, lg, q⟩))⟩
    refine ⟨_, rfl, _, rfl, _, rfl, nilP (chain _ (Same.refl _) D4 _ _ (.inl hD5) fun G1 s1 => nilP (rI _ _ ⟨_, rfl, nilP (rI _ _ (neV rfl ⟨_, rfl, iteF ?_⟩))⟩))⟩
    refine ⟨_, rfl, D4, _, rfl, .inl ⟨SqL.of (s1 _ _ hD5), fun q5 hq5 => ?_⟩⟩
    have s2 := same_new (o := HO.tup (vrow (rs.map (run ts a)))) hq5
    refine ⟨_, rfl, _, rfl, nilP ⟨rfl, chain _ (s1.trans s2) q5 _ _ (.inr upd_same) fun G3 s3 => ⟨_, rfl, neV rfl ⟨_, rfl, iteF (nxP ?_)⟩⟩⟩⟩
    have s13 := (s1.trans s2).trans s3
    have bx3 := bxH5.same s13
    have hD3 := s13 _ _ hD5
    -- the other way of brackets
    have vdr : ∀ i, VRow ts (rs.drop i).flatten := fun i => vfl _ fun r hr => (vr r (List.mem_of_mem_drop hr)).1
    refine ⟨_, rfl, D4, _, rfl, SqL.of hD3, fun q6 hq6 => ?_⟩
    have s6 := same_new (o := HO.lst (vrow (rs.map (run ts a))).reverse) hq6
    have g6 : (upd G3 q6 (.lst (vrow (rs.map (run ts a))).reverse)) q6 = some (.lst (vrow (rs.map (run ts a))).reverse) := upd_same
    have bx6 := bx3.same s6
    have hM6 := (hM5.same s13).same s6
    generalize upd G3 q6 (.lst (vrow (rs.map (run ts a))).reverse) = G6 at s6 g6 bx6 hM6 ⊢
    refine ⟨q6, rfl, ⟨_, SqL.of g6⟩, for_list (K := K) (a := q6) (xs := (vrow (rs.map (run ts a))).reverse) (fun i σ H' => ∃ v5 v9 v10 v11, σ = [some (.ref b), some (.ref m), some (.ref p), some (.int a), some (.ref D2), v5, some (.ref D4), some (.int (run ts a rs.flatten)), some (.int (run ts a (rs.drop (rs.length - i)).flatten)), v9, v10, v11] ∧ Same G6 H') ⟨v5, v9, v10, v11, by rw [Nat.sub_zero, List.drop_length]; rfl, Same.refl _⟩ (fun i σ H' _ ⟨_, _, _, _, _, sm⟩ => SqL.of (sm _ _ g6)) ?_ ?_⟩
    · rintro i x σ G7 hx ⟨v5, v9, v10, v11, rfl, sm⟩
      have hi : i < rs.length := by
        have := (List.getElem?_eq_some_iff.mp hx).1
        rw [List.length_reverse, lS] at this
        exact this
      obtain ⟨r, er⟩ : ∃ r, rs[rs.length - 1 - i]? = some r := ⟨rs[rs.length - 1 - i]'(by omega), List.getElem?_eq_getElem _⟩
      have ex : x = .int (run ts a r) := by
        rw [List.getElem?_reverse (by rw [lS]; exact hi), lS, vrow, List.getElem?_map, st _ r er] at hx
        exact (Option.some.inj hx).symm
      subst ex
      have vr' := (vr r (List.mem_of_getElem? er)).1
      have ed : rs.drop (rs.length - (i + 1)) = r :: rs.drop (rs.length - i) := by
        have e1 : rs.length - (i + 1) = rs.length - 1 - i := by omega
        have e2 : rs.length - i = rs.length - 1 - i + 1 := by omega
        rw [e1, e2]
        obtain ⟨hl, hg⟩ := List.getElem?_eq_some_iff.mp er
        rw [List.drop_eq_getElem_cons hl, hg]
      have hs := hW.run r a vr' har
      have hl := hW.run _ a (vdr (rs.length - i)) har
      refine gn ?_
      dsimp only [List.set]
      refine ⟨_, rfl, _, rfl, _, rfl, _, rfl, nilP ⟨m, ta, ts, .int a, .int (run ts a r), .int (run ts a (rs.drop (rs.length - i)).flatten), rfl, hM6.same sm, hW, kv3 (K := K), fun v H'' _ bad => (noBad har hs hl bad).elim, fun a' h' t' z1 z2 z3 _ _ _ F H8 s8 hF => ⟨fun e he => ?_, fun ne => ?_⟩⟩⟩
      · injection z1 with z1
        injection z2 with z2
        injection z3 with z3
        subst z1
        subst z2
        subst z3
        have j := (told _ ⟨r, vr', rfl⟩).j (vdr (rs.length - i))
        rw [ends_told hF j] at he
        injection he with he
        refine gn ⟨v5, some (.int (run ts a r)), v10, v11, ?_, sm.trans s8⟩
        rw [← he, ed, List.flatten_cons, run_app]; rfl
      · injection z1 with z1
        injection z2 with z2
        injection z3 with z3
        subst z1
        subst z2
        subst z3
        have j := (told _ ⟨r, vr', rfl⟩).j (vdr (rs.length - i))
        exact absurd (by rw [ends_told hF j]; rfl) ne
    rintro σ G7 ⟨v5, v9, v10, v11, rfl, sm⟩
    have e0 : rs.drop (rs.length - (vrow (rs.map (run ts a))).reverse.length) = rs := by rw [List.length_reverse, lS, Nat.sub_self, List.drop_zero]
    rw [e0]
    exact ⟨_, rfl, _, rfl, eqVV rfl (qq _ (bx6.same sm))⟩
end
end K1
namespace K1
open PySem PySem.Spec PyProof.Rows L2
/-! ### what is refused -/
def tTryAs (K : PySem.W.Frag) (c : Value) (i : Nat) (ts : Addr → Value → Option Addr → TS) (Wout : WX) (tb : WX → TS) : TS := fun D σ H => tb (wAs K c i ts Wout D) D σ H
theorem ps_tryA {X : Cx} {n x : Str} {i : Nat} {c : Value} {body : List Stmt} {b₀ : Stmt} {suite : List Stmt} {np pos pos' : Pos} {tb : WX → TS} {ts : Addr → Value → Option Addr → TS} {Wout : WX} (hs : X.stack = X.env :: X.outer) (hf : X.env.frame = some X.env.locals) (hN : X.N.Nodup) (hi : X.N[i]? = some n) (hln : X.env.kindOf n = some .local) (hc : Names X x c) (tk : Takes X Wout)
    (hb : ∀ (W : WX) (pn : List (Addr × Obj)) (xe : Value → Shared → Prop), Takes (X.tr pn xe) W → PassesOwn (model X.prog X.w) X.A X.env xe → PSs (X.tr pn xe) body (tb W))
    (hsu : ∀ (a : Addr) (oe : Obj) (cls : Value) (d : Option Addr) (pn : List (Addr × Obj)), Zc cls d oe → (∃ vs, oe.data = .fields vs) → PSs (X.suite a ((a, oe) :: pn)) (b₀ :: suite) (ts a cls d)) :
    PS X (.Try body [.ExceptHandler (some (.Name x np)) (some n) (b₀ :: suite) pos'] [] [] pos) (tTryAs X.K c i ts Wout tb) := ps_try_as hs hf hN hi hln hc tk hb hsu
theorem eqD {X : Cx} {K : PySem.W.Frag} (h : X.K = K) (hu : X.A.units + 64 < cLine) : OpR X (compareOp .Eq) (rEqD K) := by
  subst h
  exact op_eqD hu
theorem odd_txt {n : Int} {v : V} (h1 : n.natAbs ≤ 1000) (o : v ∈ [V.int n, .int (-1), .non, .bl true]) : ∃ x : Str, ∀ (H' : Hp) (Q : VK), Q (.str x) H' → rReprS [v] H' Q := by
  simp only [List.mem_cons, List.mem_nil_iff, or_false] at o
  rcases o with rfl | rfl | rfl | rfl
  · exact ⟨_, fun H' Q q => ⟨_, rfl, .inr (.inr (.inl ⟨n, rfl, log_sm h1, q⟩))⟩⟩
  · exact ⟨_, fun H' Q q => ⟨_, rfl, .inr (.inr (.inl ⟨-1, rfl, log_sm (by decide), q⟩))⟩⟩
  · exact ⟨"None", fun H' Q q => ⟨_, rfl, .inl ⟨rfl, q⟩⟩⟩
  · exact ⟨"True", fun H' Q q => ⟨_, rfl, .inr (.inl ⟨true, rfl, q⟩)⟩⟩
theorem odd_bad {n : Int} {v : V} (o : v ∈ [V.int n, .int (-1), .non, .bl true]) : belowB v n = false := by
  simp only [List.mem_cons, List.mem_nil_iff, or_false] at o
  rcases o with rfl | rfl | rfl | rfl
  · show (decide (0 ≤ n) && decide (n < n)) = false
    rw [decide_eq_false (show ¬ n < n by omega), Bool.and_false]
  all_goals rfl
def tP : Ts := [[1, 2, 2], [0, 0, 0]]
theorem wfP : Wf tP := ⟨by decide, by decide, by decide, by decide, by decide⟩
theorem jt_self {ts : Ts} {a : Int} {r : List Int} (hr : VRow ts r) : JTold ts a a (run ts a r) (run ts a r) := ⟨⟨r, hr, rfl, rfl⟩, fun _ _ e => e⟩
theorem jtP (x : Int) : ¬ JTold tP 0 1 0 x := fun j => by
  have h1 := j.2 [] (fun d hd => absurd hd (by simp)) rfl
  have h2 := j.2 [1] (fun d hd => by rw [List.mem_singleton.mp hd]; exact ⟨by decide, by decide⟩) rfl
  rw [← h1] at h2
  exact absurd h2 (by decide)
theorem OddV.kv0 {n : Int} {H : Hp} {v : V} (o : v ∈ [V.int n, .int (-1), .non, .bl true]) (K : PySem.W.Frag) : KV K H v none := by
  simp only [List.mem_cons, List.mem_nil_iff, or_false] at o
  rcases o with rfl | rfl | rfl | rfl
  · exact .int _
  · exact .int _
  · exact .non
  · exact .bl _
def spFaults (K : PySem.W.Frag) : Sp := fun vs H Q _ => ∃ b, vs = [.ref b] ∧ BoxO H b ∧ ∀ H', Q (.bl true) H'
section
variable {P : Program} {w : World} {K : PySem.W.Frag} {mg : Str → Option Value} {base : Heap}
abbrev nFa : List Str := ["_law_box_here", "_law_plain", "_law_bad", "fault"]
theorem scFaL : FnScope nFa ["_law_box_here"] (defScope sFaults) := ⟨rfl, rfl, rfl, by decide +kernel, rfl, by decide +kernel, by decide +kernel⟩
theorem ok_faults {f M CM CS CU : Addr} {fd : FuncData} (D : Df K mg "_law_faults_right" sFaults ["_law_box_here"] f fd) (dn : Da P w K mg base M CM CS CU) (U : UnC K mg CU) (g3 : mg "NoState" = some (.ref CS)) (t3 : ∃ q b i, LState.Txt K mg "NoState" q b CS i) (ess : PySem.W.exmOne K (.ref CS) (.ref CS) = some true) (euu : PySem.W.exmOne K (.ref CU) (.ref CU) = some true) : FnOk P w K mg base CX0 9 f fd ["_law_box_here"] (spFaults K) := by
  refine D.F.ok scFaL (fun vs H Q E h => ?_) (fun cdv A outer s H vs Q E hr h => ?_)
  · obtain ⟨b, rfl, _⟩ := h
    rfl
  · obtain ⟨b, rfl, hb, qq⟩ := h
    have B := dn.B
    have TM := dn.T
    obtain ⟨fI, fdI, MI, BI, GI⟩ := dn.mach
    obtain ⟨fK, fdK, DK, GK⟩ := dn.pick
    obtain ⟨fA, fdA, DA, GA⟩ := dn.jall
    obtain ⟨q3, b3, i3, T3⟩ := t3
    have hu : (A.deeper (envOfC "_law_faults_right" (defScope sFaults) s.heap.objs.size f cdv)).units + 64 < cLine := hr.units
    have r2 := hr.mono (show 2 ≤ 8 by decide)
    have r5 := hr.mono (show 5 ≤ 8 by decide)
    have r7 := hr.mono (show 7 ≤ 8 by decide)
    refine ⟨_, pss_cons (ps_set (i := 1) scFaL.nd rfl (.inl rfl) (pe_make MI GI r7 rfl TM.g BI .nil passF (pa_cons (pe_lst (pa_cons (pe_tup (pa_cons pe_int (pa_cons pe_int (pa_cons pe_int pa_nil)))) (pa_cons (pe_tup (pa_cons pe_int (pa_cons pe_int (pa_cons pe_int pa_nil)))) pa_nil))) pa_nil)))
      (pss_cons (ps_set (i := 2) scFaL.nd rfl (.inl rfl) (pc DK GK r2 pass0 (pa_cons (pv 0) (pa_cons (pe_lst (pa_cons pe_int (pa_cons (pe_op op_sub pe_int pe_int) (pa_cons pe_non (pa_cons pe_bl pa_nil))))) pa_nil))))
      (pss_cons (ps_tryA (i := 3) rfl rfl scFaL.nd rfl rfl ⟨rfl, by decide, .inl g3⟩ LamX.takes0 (fun W pn xe tk _ =>
          pss_cons (ps_expr (pe_callS (E := WE W) GA r5 rfl DA.g DA.F.kp DA.b (fun σ => passAt tk σ) (pa_cons (pv 1) (pa_cons pe_int (pa_cons (pe_tup (pa_cons pe_int (pa_cons (pv 2) pa_nil))) pa_nil)))))
          (pss_one (ps_ret pe_bl)))
        (fun a oe cls d pn hz hf => pss_one (ps_if (pt_cmpR op_ne (pe_callB call_reprS rfl B.repr (by decide +kernel) (pa_cons (pe_by_LState T3 hz hf (pv 3)) pa_nil))
          (pe_callB call_reprS rfl B.repr (by decide +kernel) (pa_cons (pv 2) pa_nil)) (nomark _)) (pss_one (ps_ret pe_bl)) pss_nil)))
      (pss_one (ps_tryA (i := 3) rfl rfl scFaL.nd rfl rfl ⟨rfl, by decide, .inl U.g⟩ LamX.takes0 (fun W pn xe tk _ =>
          pss_cons (ps_expr (pe_callS (E := WE W) GA r5 rfl DA.g DA.F.kp DA.b (fun σ => passAt tk σ) (pa_cons (pv 1) (pa_cons pe_int (pa_cons (pe_tup (pa_cons pe_int (pa_cons pe_int (pa_cons (pv 2) pa_nil)))) pa_nil)))))
          (pss_one (ps_ret pe_bl)))
        (fun a oe cls d pn hz hf => pss_one (ps_ret (pe_cmpR (eqD (K := K) rfl hu) (pe_tup (pa_cons (pe_xf U.f U.n1 hz hf (pv 3)) (pa_cons (pe_xf U.f U.n2 hz hf (pv 3)) (pa_cons (pe_xf U.f U.n3 hz hf (pv 3)) pa_nil)))) (pe_tup (pa_cons pe_int (pa_cons pe_int (pa_cons pe_int pa_nil)))) (nomark _)))))))), ?_⟩
    refine ⟨(by show 3 ≤ sizeLine; decide), fun q1 hq1 => ⟨(by show 3 ≤ sizeLine; decide), fun q2 hq2 => ⟨(by show 2 ≤ sizeLine; decide), fun q3 hq3 => ?_⟩⟩⟩
    obtain ⟨s1, tl1⟩ := tab2 (r1 := [V.int 1, .int 2, .int 2]) (r2 := [V.int 0, .int 0, .int 0]) hq1 hq2 hq3
    generalize upd (upd (upd H q1 (.tup [V.int 1, .int 2, .int 2])) q2 (.tup [V.int 0, .int 0, .int 0])) q3 (.lst [.ref q1, .ref q2]) = H2 at s1 tl1 ⊢
    have bx2 := (Bx.refl hb).same s1
    have tlP : TabL H2 q3 (vts tP) := tl1
    refine fun m dx hm hdx ne => ?_
    have s0 : Same H2 (upd (upd H2 dx (.own m)) m (.ins M dx [])) := (same_new hdx).trans (same_new (by rw [upd_ne ne.symm]; exact hm))
    refine ⟨m, dx, _, _, rfl, upd_same, (tlP.same s0).mv, fun z hz => (by rw [chk_wf wfP] at hz; cases hz), fun _ ts' ets ta H5 k5 hM => ⟨rfl, ?_⟩⟩
    obtain rfl : vts tP = ts' := map_some (Option.some.inj ets)
    have s5 := mkS hm hdx k5
    have bx5 := bx2.same s5
    clear k5 hm hdx s0
    refine gn ?_
    dsimp only [List.set]
    refine ⟨_, rfl, _, _, rfl, rfl, (by show 4 ≤ sizeLine; decide), fun l hl => ?_⟩
    have s6 := same_new (o := HO.lst [V.int 3, .int (0 - 1), .non, .bl true]) hl
    refine ⟨b, l, _, rfl, bx5.1.same s6, upd_same, bx5.1.nn hl, (by show 1 ≤ 4; decide), (by show 4 ≤ 1000; decide), fun i bad H6 hi bx6 => ?_⟩
    have odd : bad ∈ [V.int 3, .int (-1), .non, .bl true] := List.mem_of_getElem? hi
    have hM6 := (hM.same s6).bx (bx5.1.same s6) bx6
    obtain ⟨x, rx⟩ := odd_txt (n := 3) (by decide) odd
    refine gn ?_
    dsimp only [List.set]
    have b0 : (0 : Int) ≤ 0 ∧ (0 : Int) < (nS tP : Int) := ⟨by decide, by decide⟩
    have b1 : (0 : Int) ≤ 1 ∧ (1 : Int) < (nS tP : Int) := ⟨by decide, by decide⟩
    have b2 : (0 : Int) ≤ 2 ∧ (2 : Int) < (nS tP : Int) := ⟨by decide, by decide⟩
    have kvs : ∀ y ∈ [V.int 2, bad], ∃ K' : PySem.W.Frag, KV K' H6 y none := fun y hy => by
      simp only [List.mem_cons, List.mem_nil_iff, or_false] at hy
      rcases hy with rfl | rfl
      · exact ⟨K, .int 2⟩
      · exact ⟨K, OddV.kv0 (n := 3) odd K⟩
    -- no state
    refine ⟨_, rfl, _, rfl, (by show 2 ≤ sizeLine; decide), fun t1 ht1 => ?_⟩
    have s7 := same_new (o := HO.tup [V.int 2, bad]) ht1
    refine ⟨m, ta, tP, 2, t1, _, rfl, hM6.same s7, wfP, b2, .inr upd_same, fun y hy => ?_, fun _ => 2, 1, rfl, (by show 1 ≤ 2; decide), fun j hj => ?_, .inr ⟨bad, rfl, .inl ⟨odd_bad odd, fun H' sm d G sG _ hx => ?_⟩⟩⟩
    · obtain ⟨K', kv⟩ := kvs y hy
      exact ⟨K', kv.same s7⟩
    · obtain rfl : j = 0 := by omega
      exact ⟨2, rfl, b2, jt_self (a := 2) (r := []) fun d hd => absurd hd (by simp)⟩
    refine ⟨true, ess, fun _ a na => ?_, fun z => (by cases z)⟩
    refine ⟨_, rfl, rfl, rfl, d, bad, rfl, hx, nilP (rx _ _ ⟨_, rfl, nilP (rx _ _ (neV rfl ⟨_, rfl, iteF (nxP ?_)⟩))⟩)⟩
    have hM7 := ((hM6.same s7).same sm).same sG
    -- a join that is not told
    refine ⟨_, rfl, _, rfl, (by show 3 ≤ sizeLine; decide), fun t2 ht2 => ?_⟩
    have s8 := same_new (o := HO.tup [V.int 1, .int 0, bad]) ht2
    refine ⟨m, ta, tP, 0, t2, _, rfl, hM7.same s8, wfP, b0, .inr upd_same, fun y hy => ?_, fun i => if i = 0 then 0 else 1, 1, rfl, (by show 1 ≤ 3; decide), fun j hj => ?_, .inr ⟨.int 0, rfl, .inr ⟨0, rfl, b0, jtP, fun H' sm d G sG _ hx => ?_⟩⟩⟩
    · simp only [List.mem_cons, List.mem_nil_iff, or_false] at hy
      rcases hy with rfl | rfl | rfl
      · exact ⟨K, .int 1⟩
      · exact ⟨K, .int 0⟩
      · exact ⟨K, OddV.kv0 (n := 3) odd K⟩
    · obtain rfl : j = 0 := by omega
      exact ⟨1, rfl, b1, jt_self (a := 0) (r := [0]) fun d hd => by rw [List.mem_singleton.mp hd]; exact ⟨by decide, by decide⟩⟩
    refine ⟨true, euu, fun _ a na => ?_, fun z => (by cases z)⟩
    refine ⟨_, rfl, rfl, rfl, d, _, .int 0, rfl, hx, rfl, _, rfl, rfl, rfl, d, _, .int 1, rfl, hx, rfl, _, rfl, rfl, rfl, d, _, .int 0, rfl, hx, rfl, (by show 3 ≤ sizeLine; decide), fun p1 hp1 => ⟨(by show 3 ≤ sizeLine; decide), fun p2 hp2 => ?_⟩⟩
    have d3 : ∀ {G : Hp}, DpAll K G [V.int 0, .int 1, .int 0] [.int 0, .int 1, .int 0] := fun {G} => .cons (.int 0) (.cons (.int 1) (.cons (.int 0) .nil))
    exact ⟨.tuple [.int 0, .int 1, .int 0], .tuple [.int 0, .int 1, .int 0], .tup (SqT.of ((same_new hp2) _ _ upd_same)) d3, .tup (SqT.of upd_same) d3, by decide +kernel, by decide +kernel, qbl (SeqAt.eqv_refl _ (by decide +kernel)) (qq _)⟩
end
end K1
namespace K1
open PySem PySem.Spec PyProof.Rows L2
/-! ### hands that are out -/
abbrev Hd3 := Int × Int × List Int
structure Hn (H : Hp) (S hd : Addr) (story : List Int) (as rs : List Addr) (L : List Hd3) : Prop where
  hs : H S = some (.lst (vrow story))
  hh : H hd = some (.lst (as.map V.ref))
  ne : hd ≠ S
  la : as.length = L.length
  lr : rs.length = L.length
  nd : as.Nodup
  it : ∀ (i : Nat) a r x y w, as[i]? = some a → rs[i]? = some r → L[i]? = some (x, y, w) → H a = some (.lst [.int x, .int y, .ref r]) ∧ H r = some (.lst (vrow w)) ∧ r ≠ S ∧ a ≠ hd ∧ a ≠ S ∧ r ≠ hd ∧ ∀ a' ∈ as, r ≠ a'
section
variable {H H' : Hp} {S hd : Addr} {story : List Int} {as rs : List Addr} {L : List Hd3}
theorem Hn.same (h : Hn H S hd story as rs L) (s : Same H H') : Hn H' S hd story as rs L :=
  ⟨s _ _ h.hs, s _ _ h.hh, h.ne, h.la, h.lr, h.nd, fun i a r x y w e1 e2 e3 => let ⟨k1, k2, k3⟩ := h.it i a r x y w e1 e2 e3; ⟨s _ _ k1, s _ _ k2, k3⟩⟩
theorem Hn.get (h : Hn H S hd story as rs L) {i : Nat} {a : Addr} (e : as[i]? = some a) : ∃ r x y w, rs[i]? = some r ∧ L[i]? = some (x, y, w) := by
  have hi := (List.getElem?_eq_some_iff.mp e).1
  exact ⟨rs[i]'(by rw [h.lr, ← h.la]; exact hi), (L[i]'(by rw [← h.la]; exact hi)).1, (L[i]'(by rw [← h.la]; exact hi)).2.1, (L[i]'(by rw [← h.la]; exact hi)).2.2, List.getElem?_eq_getElem _, List.getElem?_eq_getElem _⟩
/-- a deed at home -/
theorem Hn.deed (h : Hn H S hd story as rs L) (d : Int) : Hn (upd H S (.lst (vrow story ++ [.int d]))) S hd (story ++ [d]) as rs L :=
  ⟨by rw [upd_same]; simp only [vrow, List.map_append]; rfl, by rw [upd_ne h.ne]; exact h.hh, h.ne, h.la, h.lr, h.nd, fun i a r x y w e1 e2 e3 => let ⟨k1, k2, k3, k4, k5, k6⟩ := h.it i a r x y w e1 e2 e3; ⟨by rw [upd_ne k5]; exact k1, by rw [upd_ne k3]; exact k2, k3, k4, k5, k6⟩⟩
/-- another story -/
theorem Hn.told (h : Hn H S hd story as rs L) {S' : Addr} {story' : List Int} (hS : H S' = none) : Hn (upd H S' (.lst (vrow story'))) S' hd story' as rs L :=
  ⟨upd_same, (same_new hS) _ _ h.hh, ne_of_none h.hh hS, h.la, h.lr, h.nd, fun i a r x y w e1 e2 e3 => let ⟨k1, k2, k3, k4, k5, k6⟩ := h.it i a r x y w e1 e2 e3; ⟨(same_new hS) _ _ k1, (same_new hS) _ _ k2, ne_of_none k2 hS, k4, ne_of_none k1 hS, k6⟩⟩
theorem snoc_at {α : Type} {l : List α} {x y : α} {i : Nat} (h : (l ++ [x])[i]? = some y) : (i < l.length ∧ l[i]? = some y) ∨ (i = l.length ∧ x = y) := by
  by_cases hi : i < l.length
  · rw [List.getElem?_append_left hi] at h
    exact .inl ⟨hi, h⟩
  · have hl : i = l.length := by
      have := (List.getElem?_eq_some_iff.mp h).1
      simp only [List.length_append, List.length_cons, List.length_nil] at this
      omega
    subst hl
    rw [List.getElem?_append_right (Nat.le_refl _), Nat.sub_self] at h
    exact .inr ⟨rfl, Option.some.inj h⟩
/-- one goes out -/
theorem Hn.out (h : Hn H S hd story as rs L) {a r : Addr} {x y : Int} (hr : H r = none) (ha : (upd H r (.lst [])) a = none) :
    Hn (upd (upd (upd H r (.lst [])) a (.lst [.int x, .int y, .ref r])) hd (.lst (as.map V.ref ++ [.ref a]))) S hd story (as ++ [a]) (rs ++ [r]) (L ++ [(x, y, [])]) := by
  have s1 := same_new (o := HO.lst []) hr
  have s2 := same_new (o := HO.lst [V.int x, .int y, .ref r]) ha
  have s12 := s1.trans s2
  have gr : (upd (upd H r (.lst [])) a (.lst [.int x, .int y, .ref r])) r = some (.lst []) := s2 _ _ upd_same
  have ga : (upd (upd H r (.lst [])) a (.lst [.int x, .int y, .ref r])) a = some (.lst [.int x, .int y, .ref r]) := upd_same
  have ra : r ≠ a := fun z => by rw [← z, upd_same] at ha; cases ha
  have nr : ∀ c o, H c = some o → r ≠ c := fun c o e z => by rw [z, e] at hr; cases hr
  have na : ∀ c o, H c = some o → a ≠ c := fun c o e z => by rw [z, s1 _ _ e] at ha; cases ha
  have hmem : ∀ a' ∈ as, ∃ o, H a' = some o := fun a' m => by
    obtain ⟨i, hi⟩ := List.getElem?_of_mem m
    obtain ⟨r', x', y', w', e2, e3⟩ := h.get hi
    exact ⟨_, (h.it i a' r' x' y' w' hi e2 e3).1⟩
  refine ⟨by rw [upd_ne h.ne.symm]; exact s12 _ _ h.hs, by rw [upd_same, List.map_append]; rfl, h.ne, by rw [List.length_append, List.length_append, h.la]; rfl, by rw [List.length_append, List.length_append, h.lr]; rfl, ?_, fun i a1 r1 x1 y1 w1 e1 e2 e3 => ?_⟩
  · rw [List.nodup_append]
    refine ⟨h.nd, by simp, fun c hc d hd' => ?_⟩
    rw [List.mem_singleton.mp hd']
    obtain ⟨o, ho⟩ := hmem c hc
    exact (na _ _ ho).symm
  · rcases snoc_at e1 with ⟨l1, e1⟩ | ⟨l1, rfl⟩
    · rcases snoc_at e2 with ⟨l2, e2⟩ | ⟨l2, _⟩
      · rcases snoc_at e3 with ⟨l3, e3⟩ | ⟨l3, _⟩
        · obtain ⟨k1, k2, k3, k4, k5, k6, k7⟩ := h.it i a1 r1 x1 y1 w1 e1 e2 e3
          refine ⟨by rw [upd_ne k4]; exact s12 _ _ k1, by rw [upd_ne k6]; exact s12 _ _ k2, k3, k4, k5, k6, fun a' m => ?_⟩
          rcases List.mem_append.mp m with m | m
          · exact k7 a' m
          · rw [List.mem_singleton.mp m]
            exact (na _ _ k2).symm
        · have := h.la; omega
      · have := h.la; have := h.lr; omega
    · rcases snoc_at e2 with ⟨l2, e2⟩ | ⟨l2, rfl⟩
      · have := h.la; have := h.lr; omega
      · rcases snoc_at e3 with ⟨l3, e3⟩ | ⟨l3, e3⟩
        · have := h.la; omega
        · injection e3 with e3 e4
          injection e4 with e4 e5
          subst e3
          subst e4
          subst e5
          refine ⟨by rw [upd_ne (na _ _ h.hh)]; exact ga, by rw [upd_ne (nr _ _ h.hh)]; exact gr, nr _ _ h.hs, na _ _ h.hh, na _ _ h.hs, nr _ _ h.hh, fun a' m => ?_⟩
          rcases List.mem_append.mp m with m | m
          · obtain ⟨o, ho⟩ := hmem a' m
            exact nr _ _ ho
          · rw [List.mem_singleton.mp m]
            exact ra
/-- a deed of one that is out -/
theorem Hn.go (h : Hn H S hd story as rs L) {j : Nat} {a r r' : Addr} {x y y' d : Int} {w : List Int} (e1 : as[j]? = some a) (e2 : rs[j]? = some r) (e3 : L[j]? = some (x, y, w)) (hr' : H r' = none) :
    Hn (upd (upd H r' (.lst (vrow (w ++ [d])))) a (.lst [.int x, .int y', .ref r'])) S hd story as (rs.set j r') (L.set j (x, y', w ++ [d])) := by
  obtain ⟨q1, q2, q3, q4, q5, q6, q7⟩ := h.it j a r x y w e1 e2 e3
  have s1 := same_new (o := HO.lst (vrow (w ++ [d]))) hr'
  have nr : ∀ c o, H c = some o → r' ≠ c := fun c o e z => by rw [z, e] at hr'; cases hr'
  have hmem : ∀ a' ∈ as, ∃ o, H a' = some o := fun a' m => by
    obtain ⟨i, hi⟩ := List.getElem?_of_mem m
    obtain ⟨r', x', y', w', e2, e3⟩ := h.get hi
    exact ⟨_, (h.it i a' r' x' y' w' hi e2 e3).1⟩
  refine ⟨by rw [upd_ne q5.symm]; exact s1 _ _ h.hs, by rw [upd_ne q4.symm]; exact s1 _ _ h.hh, h.ne, by rw [List.length_set]; exact h.la, by rw [List.length_set, List.length_set]; exact h.lr, h.nd, fun i a1 r1 x1 y1 w1 f1 f2 f3 => ?_⟩
  by_cases hij : i = j
  · subst hij
    rw [f1] at e1
    obtain rfl := Option.some.inj e1
    have hl := (List.getElem?_eq_some_iff.mp e2).1
    have hl3 := (List.getElem?_eq_some_iff.mp e3).1
    rw [List.getElem?_set_self hl] at f2
    rw [List.getElem?_set_self hl3] at f3
    obtain rfl := Option.some.inj f2
    have f3 := Option.some.inj f3
    injection f3 with f3 f4
    injection f4 with f4 f5
    subst f3
    subst f4
    subst f5
    refine ⟨upd_same, by rw [upd_ne (nr _ _ q1), upd_same], nr _ _ h.hs, q4, q5, nr _ _ h.hh, fun a' m => ?_⟩
    obtain ⟨o, ho⟩ := hmem a' m
    exact nr _ _ ho
  · rw [List.getElem?_set_ne (Ne.symm hij)] at f2 f3
    obtain ⟨k1, k2, k3, k4, k5, k6, k7⟩ := h.it i a1 r1 x1 y1 w1 f1 f2 f3
    have na : a1 ≠ a := fun z => by
      obtain ⟨g1, h1⟩ := List.getElem?_eq_some_iff.mp f1
      obtain ⟨g2, h2⟩ := List.getElem?_eq_some_iff.mp e1
      exact hij ((List.getElem_inj h.nd).mp (h1.trans (z.trans h2.symm)))
    exact ⟨by rw [upd_ne na]; exact s1 _ _ k1, by rw [upd_ne (k7 a (List.mem_of_getElem? e1))]; exact s1 _ _ k2, k3, k4, k5, k6, k7⟩
/-- one comes home -/
theorem erase_at {α : Type} {l : List α} {j i : Nat} {x : α} (h : (l.eraseIdx j)[i]? = some x) : ∃ i' : Nat, l[i']? = some x ∧ (if i < j then i' = i else i' = i + 1) := by
  rw [List.getElem?_eraseIdx] at h
  by_cases hi : i < j
  · rw [if_pos hi] at h
    exact ⟨i, h, by rw [if_pos hi]⟩
  · rw [if_neg hi] at h
    exact ⟨i + 1, h, by rw [if_neg hi]⟩
theorem map_erase {α β : Type} (f : α → β) : ∀ (l : List α) (j : Nat), (l.map f).eraseIdx j = (l.eraseIdx j).map f
  | [], _ => rfl
  | x :: l, 0 => rfl
  | x :: l, j + 1 => by
    show f x :: (l.map f).eraseIdx j = f x :: (l.eraseIdx j).map f
    rw [map_erase f l j]
theorem Hn.home (h : Hn H S hd story as rs L) (j : Nat) (hj : j < as.length) : Hn (upd H hd (.lst ((as.map V.ref).eraseIdx j))) S hd story (as.eraseIdx j) (rs.eraseIdx j) (L.eraseIdx j) := by
  refine ⟨by rw [upd_ne h.ne.symm]; exact h.hs, by rw [upd_same, map_erase], h.ne, ?_, ?_, h.nd.sublist (List.eraseIdx_sublist _ _), fun i a r x y w e1 e2 e3 => ?_⟩
  · rw [List.length_eraseIdx, List.length_eraseIdx, h.la]
  · rw [List.length_eraseIdx, List.length_eraseIdx, h.lr]
  · obtain ⟨i1, f1, k1⟩ := erase_at e1
    obtain ⟨i2, f2, k2⟩ := erase_at e2
    obtain ⟨i3, f3, k3⟩ := erase_at e3
    have e12 : i2 = i1 := by split at k1 <;> split at k2 <;> omega
    have e13 : i3 = i1 := by split at k1 <;> split at k3 <;> omega
    subst e12
    subst e13
    obtain ⟨q1, q2, q3, q4, q5, q6, q7⟩ := h.it _ a r x y w f1 f2 f3
    exact ⟨by rw [upd_ne q4]; exact q1, by rw [upd_ne q6]; exact q2, q3, q4, q5, q6, fun a' m => q7 a' (List.mem_of_mem_eraseIdx m)⟩
end
/-- how the home stands -/
structure Hm (ts : Ts) (story : List Int) (L : List Hd3) (k : Nat) : Prop where
  vs : VRow ts story
  ls : story.length ≤ 64 * k
  lL : L.length ≤ k
  it : ∀ e ∈ L, ∃ u v, VRow ts u ∧ VRow ts v ∧ e.1 = run ts 0 u ∧ run ts 0 story = run ts e.1 v ∧ VRow ts e.2.2 ∧ e.2.1 = run ts e.1 e.2.2 ∧ e.2.2.length ≤ k
def dHd (e : Hd3) : PyData := .list [.int e.1, .int e.2.1, .list (dI e.2.2)]
theorem dI_lay : ∀ w : List Int, PyData.canLayAll0 (dI w) = true ∧ PyData.depthAll (dI w) ≤ 0
  | [] => ⟨by show PyData.canLayAll0 [] = true; simp only [PyData.canLayAll0], by show PyData.depthAll [] ≤ 0; simp only [PyData.depthAll]; omega⟩
  | x :: w => by
    obtain ⟨a, b⟩ := dI_lay w
    refine ⟨?_, ?_⟩
    · show PyData.canLayAll0 (PyData.int x :: dI w) = true
      simp only [PyData.canLayAll0, PyData.canLay0, a, Bool.and_self]
    · show PyData.depthAll (PyData.int x :: dI w) ≤ 0
      simp only [PyData.depthAll, PyData.depth]; omega
theorem dHd_lay : ∀ L : List Hd3, PyData.canLayAll0 (L.map dHd) = true ∧ PyData.depthAll (L.map dHd) ≤ 3
  | [] => ⟨by show PyData.canLayAll0 [] = true; simp only [PyData.canLayAll0], by show PyData.depthAll [] ≤ 3; simp only [PyData.depthAll]; omega⟩
  | e :: L => by
    obtain ⟨a, b⟩ := dHd_lay L
    obtain ⟨c, d⟩ := dI_lay e.2.2
    refine ⟨?_, ?_⟩
    · show PyData.canLayAll0 (PyData.list [.int e.1, .int e.2.1, .list (dI e.2.2)] :: L.map dHd) = true
      simp only [PyData.canLayAll0, PyData.canLay0, a, c, Bool.and_self]
    · show PyData.depthAll (PyData.list [.int e.1, .int e.2.1, .list (dI e.2.2)] :: L.map dHd) ≤ 3
      simp only [PyData.depthAll, PyData.depth]; omega
theorem dHd_shaped (L : List Hd3) : SeqAt.shaped (.list (L.map dHd)) = true := by
  obtain ⟨a, b⟩ := dHd_lay L
  unfold SeqAt.shaped
  have e : PyData.canLay0 (.list (L.map dHd)) = true := by simp only [PyData.canLay0]; exact a
  rw [e, decide_eq_true (by simp only [PyData.depth]; omega)]; rfl
theorem eqv_nilD (ds : List PyData) : PyData.eqv (.list ds) (.list []) = decide (ds = []) := by
  cases ds with
  | nil =>
    show PyData.eqv (.list []) (.list []) = true
    simp only [PyData.eqv, PyData.eqvAll]
  | cons x r =>
    show PyData.eqv (.list (x :: r)) (.list []) = false
    simp only [PyData.eqv, PyData.eqvAll]
theorem dHd_all {K : PySem.W.Frag} {H : Hp} : ∀ (as rs : List Addr) (L : List Hd3), as.length = L.length → rs.length = L.length → (∀ (i : Nat) a r x y w, as[i]? = some a → rs[i]? = some r → L[i]? = some (x, y, w) → H a = some (.lst [.int x, .int y, .ref r]) ∧ H r = some (.lst (vrow w))) → DpAll K H (as.map V.ref) (L.map dHd)
  | [], _, [], _, _, _ => .nil
  | [], _, _ :: _, h, _, _ => by cases h
  | _ :: _, _, [], h, _, _ => by cases h
  | _ :: _, [], _ :: _, _, h, _ => by cases h
  | a :: as, r :: rs, (x, y, w) :: L, h1, h2, h => by
    obtain ⟨k1, k2⟩ := h 0 a r x y w rfl rfl rfl
    exact .cons (.lst (SqL.of k1) (.cons (.int x) (.cons (.int y) (.cons (.lst (SqL.of k2) (dp_ints w)) .nil)))) (dHd_all as rs L (by simpa using h1) (by simpa using h2) fun i a' r' x' y' w' e1 e2 e3 => h (i + 1) a' r' x' y' w' e1 e2 e3)
theorem nil_dec (L : List Hd3) : decide (L.map dHd = []) = decide (L = []) := by
  by_cases z : L = []
  · rw [z]; rfl
  · rw [decide_eq_false z, decide_eq_false (fun w => z (List.map_eq_nil_iff.mp w))]
theorem Hn.isnil {K : PySem.W.Frag} {H : Hp} {S hd e : Addr} {story : List Int} {as rs : List Addr} {L : List Hd3} {Q : VK} (h : Hn H S hd story as rs L) (he : H e = some (.lst [])) (q : Q (.bl (decide (L = []))) H) : rEqD K (.ref hd) (.ref e) H Q :=
  ⟨.list (L.map dHd), .list [], .lst (SqL.of h.hh) (dHd_all as rs L h.la h.lr fun i a r x y w e1 e2 e3 => let ⟨k1, k2, _⟩ := h.it i a r x y w e1 e2 e3; ⟨k1, k2⟩), .lst (SqL.of he) .nil, dHd_shaped L, by have := dHd_shaped []; exact this, qbl (by rw [eqv_nilD, nil_dec]) q⟩
end K1
namespace K1
open PySem PySem.Spec PyProof.Rows L2
theorem neD {X : Cx} {K : PySem.W.Frag} (h : X.K = K) (hu : X.A.units + 64 < cLine) : OpR X (compareOp .NotEq) (rNeD K) := by
  subst h
  exact op_neD hu
theorem Hn.notnil {K : PySem.W.Frag} {H : Hp} {S hd e : Addr} {story : List Int} {as rs : List Addr} {L : List Hd3} {Q : VK} (h : Hn H S hd story as rs L) (he : H e = some (.lst [])) (q : Q (.bl (!decide (L = []))) H) : rNeD K (.ref hd) (.ref e) H Q :=
  ⟨.list (L.map dHd), .list [], .lst (SqL.of h.hh) (dHd_all as rs L h.la h.lr fun i a r x y w e1 e2 e3 => let ⟨k1, k2, _⟩ := h.it i a r x y w e1 e2 e3; ⟨k1, k2⟩), .lst (SqL.of he) .nil, dHd_shaped L, by have := dHd_shaped []; exact this, qbl (by rw [eqv_nilD, nil_dec]) q⟩
section
variable {K : PySem.W.Frag} {f : Addr} {fd : FuncData}
theorem kb_join (F : Fun K "join" "join" sJoin f fd) : KBn K fd ["machine", "archive", "here", "there"] 0 ["there", "here", "archive", "machine"] gR gRV := by
  obtain ⟨oc, od, kV, doc, pm, an, cdv, ct, osl, rfl, lk, hcd⟩ := F.ex
  refine ⟨fun s us ws _ h0 h1 => .of_eq ?_, fun _ r => r.reverse⟩
  match us, ws, h0, h1 with
  | [], [_, _, _, _], _, _ => rfl
end
def spLaw (K : PySem.W.Frag) : Sp := fun vs H Q _ => ∃ (a : Addr) (ns : List Int), vs = [.ref a] ∧ SqL K H a (ns.map V.int) ∧ ns.length ≤ 63 ∧ ∀ H', Q (.bl true) H'
/-- the script stands by -/
def Scr (K : PySem.W.Frag) (H : Hp) (a : Addr) (xs : List V) (S hd : Addr) (as : List Addr) : Prop := (∀ H' : Hp, SqL K H' a xs) ∨ ∃ o, (o = .lst xs ∨ ∃ ob, o = .frz ob (.lst xs)) ∧ H a = some o ∧ a ≠ S ∧ a ≠ hd ∧ ∀ a' ∈ as, a ≠ a'
section
variable {K : PySem.W.Frag} {H H' : Hp} {a S hd : Addr} {xs : List V} {as : List Addr}
theorem Scr.sq (h : Scr K H a xs S hd as) : SqL K H a xs := by
  rcases h with h | ⟨o, rfl | ⟨ob, rfl⟩, h, _⟩
  · exact h H
  · exact SqL.of h
  · exact .inl (.inr ⟨ob, h⟩)
theorem Scr.same (h : Scr K H a xs S hd as) (s : Same H H') : Scr K H' a xs S hd as := h.imp id fun ⟨o, e, g, r⟩ => ⟨o, e, s _ _ g, r⟩
theorem Scr.upd (h : Scr K H a xs S hd as) {c : Addr} {u : HO} (n : c = S ∨ c = hd ∨ c ∈ as) : Scr K (upd H c u) a xs S hd as := h.imp id fun ⟨o, e, g, n1, n2, n3⟩ => ⟨o, e, by
  rw [upd_ne (by
    rcases n with rfl | rfl | n
    · exact n1
    · exact n2
    · exact n3 c n)]
  exact g, n1, n2, n3⟩
theorem Scr.out (h : Scr K H a xs S hd as) {c : Addr} (hc : H c = none) : Scr K H a xs S hd (as ++ [c]) := h.imp id fun ⟨o, e, g, n1, n2, n3⟩ => ⟨o, e, g, n1, n2, fun a' m => by
  rcases List.mem_append.mp m with m | m
  · exact n3 a' m
  · rw [List.mem_singleton.mp m]
    exact ne_of_none g hc⟩
theorem Scr.told (h : Scr K H a xs S hd as) {S' : Addr} (hS : H S' = none) : Scr K H a xs S' hd as := h.imp id fun ⟨o, e, g, n1, n2, n3⟩ => ⟨o, e, g, ne_of_none g hS, n2, n3⟩
theorem Scr.erase (h : Scr K H a xs S hd as) (j : Nat) : Scr K H a xs S hd (as.eraseIdx j) := h.imp id fun ⟨o, e, g, n1, n2, n3⟩ => ⟨o, e, g, n1, n2, fun a' m => n3 a' (List.mem_of_mem_eraseIdx m)⟩
theorem MachAt.updL {M m ta c : Addr} {ts : List (List V)} {ys zs : List V} (h : MachAt M H m ta ts) (hc : H c = some (.lst ys)) : MachAt M (L2.upd H c (.lst zs)) m ta ts :=
  let ⟨⟨dx, t0, h0, h1⟩, as, k1, k2, k3⟩ := h
  have g : ∀ (q : Addr) (o : HO), H q = some o → (∀ ws, o ≠ .lst ws) → (L2.upd H c (.lst zs)) q = some o := fun q o e n => by
    rw [upd_ne (fun z => by rw [z, hc] at e; exact n ys (Option.some.inj e).symm)]
    exact e
  ⟨⟨dx, t0, h0, g _ _ h1 fun ws z => (by cases z)⟩, as, g _ _ k1 (fun ws z => (by cases z)), k2, fun i b t e1 e2 => g _ _ (k3 i b t e1 e2) fun ws z => (by cases z)⟩
theorem TabL.updL {p c : Addr} {ts : Ts} {ys zs : List V} (h : TabL H p (vts ts)) (hc : H c = some (.lst ys)) (n : p ≠ c) : TabL (L2.upd H c (.lst zs)) p (vts ts) :=
  let ⟨as, h1, h2, h3⟩ := h
  ⟨as, by rw [upd_ne n]; exact h1, h2, fun i b t e1 e2 => by
    have k := h3 i b t e1 e2
    rw [upd_ne (fun z => by rw [z, hc] at k; cases k)]
    exact k⟩
end
section
variable {H : Hp} {p S hd : Addr} {story : List Int} {as rs : List Addr} {L : List Hd3} {ts : Ts}
theorem Hn.pS (h : Hn H S hd story as rs L) (tl : TabL H p (vts ts)) (hW : Wf ts) : p ≠ S := fun z => by
  obtain ⟨tas, h1, h2, h3⟩ := tl
  have l : tas.length = ts.length := by rw [h2, vts, List.length_map]
  have t1 := hW.t1
  rw [z, h.hs] at h1
  injection h1 with h1
  injection h1 with h1
  match tas, l, h1 with
  | [], l, _ => simp at l; omega
  | t :: tas, _, h1 =>
    cases story with
    | nil => cases h1
    | cons x r => injection h1 with h1; cases h1
theorem Hn.ph (h : Hn H S hd story as rs L) (tl : TabL H p (vts ts)) (hW : Wf ts) : p ≠ hd := fun z => by
  obtain ⟨tas, h1, h2, h3⟩ := tl
  have l : tas.length = ts.length := by rw [h2, vts, List.length_map]
  have t1 := hW.t1
  rw [z, h.hh] at h1
  injection h1 with h1
  injection h1 with h1
  match tas, as, l, h1, h with
  | [], _, l, _, _ => simp at l; omega
  | t :: tas, [], _, h1, _ => cases h1
  | t :: tas, a :: as, _, h1, h =>
    injection h1 with h1
    injection h1 with h1
    subst h1
    obtain ⟨r, x, y, w, e2, e3⟩ := h.get (i := 0) rfl
    have k1 := (h.it 0 a r x y w rfl e2 e3).1
    have k2 := h3 0 a (vrow (ts[0]'(by omega))) rfl (by rw [vts, List.getElem?_map, List.getElem?_eq_getElem (by omega)]; rfl)
    rw [k1] at k2
    cases k2
theorem Hn.pa (h : Hn H S hd story as rs L) (tl : TabL H p (vts ts)) (hW : Wf ts) {i : Nat} {a : Addr} (e : as[i]? = some a) : p ≠ a := fun z => by
  obtain ⟨tas, h1, h2, h3⟩ := tl
  have l : tas.length = ts.length := by rw [h2, vts, List.length_map]
  have t1 := hW.t1
  obtain ⟨r, x, y, w, e2, e3⟩ := h.get e
  rw [z, (h.it i a r x y w e e2 e3).1] at h1
  injection h1 with h1
  injection h1 with h1
  match tas, l, h1 with
  | [], l, _ => simp at l; omega
  | t :: tas, _, h1 => injection h1 with h1; cases h1
end
theorem Hm.mono {ts : Ts} {story : List Int} {L : List Hd3} {k : Nat} (h : Hm ts story L k) : Hm ts story L (k + 1) :=
  ⟨h.vs, by have := h.ls; omega, by have := h.lL; omega, fun e he => let ⟨u, v, a1, a2, a3, a4, a5, a6, a7⟩ := h.it e he; ⟨u, v, a1, a2, a3, a4, a5, a6, by omega⟩⟩
theorem Hm.deed {ts : Ts} {story : List Int} {L : List Hd3} {k : Nat} {d : Int} (h : Hm ts story L k) (hd : In8 ts d) : Hm ts (story ++ [d]) L (k + 1) :=
  have vd : VRow ts [d] := fun x hx => by rw [List.mem_singleton.mp hx]; exact hd
  ⟨h.vs.app vd, by have := h.ls; rw [List.length_append]; simp only [List.length_cons, List.length_nil]; omega, by have := h.lL; omega, fun e he => let ⟨u, v, a1, a2, a3, a4, a5, a6, a7⟩ := h.it e he; ⟨u, v ++ [d], a1, a2.app vd, a3, by rw [run_app, a4, run_app], a5, a6, by omega⟩⟩
theorem Hm.out {ts : Ts} {story : List Int} {L : List Hd3} {k : Nat} (h : Hm ts story L k) : Hm ts story (L ++ [(run ts 0 story, run ts 0 story, [])]) (k + 1) :=
  have vn : VRow ts [] := fun x hx => absurd hx (by simp)
  ⟨h.vs, by have := h.ls; omega, by have := h.lL; rw [List.length_append]; simp only [List.length_cons, List.length_nil]; omega, fun e he => by
    rcases List.mem_append.mp he with he | he
    · exact h.mono.it e he
    · rw [List.mem_singleton.mp he]
      exact ⟨story, [], h.vs, vn, rfl, rfl, vn, rfl, by show 0 ≤ k + 1; omega⟩⟩
theorem Hm.go {ts : Ts} {story : List Int} {L : List Hd3} {k j : Nat} {x y d : Int} {w : List Int} (h : Hm ts story L k) (e : L[j]? = some (x, y, w)) (hd : In8 ts d) : Hm ts story (L.set j (x, stp ts y d, w ++ [d])) (k + 1) :=
  have vd : VRow ts [d] := fun x hx => by rw [List.mem_singleton.mp hx]; exact hd
  ⟨h.vs, by have := h.ls; omega, by have := h.lL; rw [List.length_set]; omega, fun f hf => by
    rcases List.mem_or_eq_of_mem_set hf with hf | rfl
    · exact h.mono.it f hf
    · obtain ⟨u, v, a1, a2, a3, a4, a5, a6, a7⟩ := h.it _ (List.mem_of_getElem? e)
      refine ⟨u, v, a1, a2, a3, a4, VRow.app a5 vd, ?_, ?_⟩
      · show stp ts y d = run ts x (w ++ [d])
        rw [run_app]
        show stp ts y d = stp ts (run ts x w) d
        rw [← a6]
      · show (w ++ [d]).length ≤ k + 1
        rw [List.length_append]
        simp only [List.length_cons, List.length_nil]
        have a7 : w.length ≤ k := a7
        omega⟩
theorem Hm.home {ts : Ts} {story : List Int} {L : List Hd3} {k j : Nat} {x y : Int} {w : List Int} (h : Hm ts story L k) (hk : k ≤ 60) (e : L[j]? = some (x, y, w)) : Hm ts (story ++ w) (L.eraseIdx j) (k + 1) := by
  obtain ⟨u, v, a1, a2, a3, a4, a5, a6, a7⟩ := h.it _ (List.mem_of_getElem? e)
  have a7 : w.length ≤ k := a7
  refine ⟨h.vs.app a5, by have := h.ls; rw [List.length_append]; omega, by have := h.lL; have := List.length_eraseIdx_le L j; omega, fun f hf => ?_⟩
  obtain ⟨u', v', b1, b2, b3, b4, b5, b6, b7⟩ := h.it f (List.mem_of_mem_eraseIdx hf)
  exact ⟨u', v' ++ w, b1, b2.app a5, b3, by rw [run_app, b4, run_app], b5, b6, by omega⟩
theorem BoxO.updN {H : Hp} {b c : Addr} {u : HO} (h : BoxO H b) (n : c ≠ b) : BoxO (upd H c u) b := let ⟨x, y, e⟩ := h; ⟨x, y, by rw [upd_ne n.symm]; exact e⟩
theorem BoxO.kp {H H' : Hp} {b c : Addr} (h : BoxO H b) (n : c ≠ b) (k : ∀ q o, H q = some o → q ≠ c → H' q = some o) : BoxO H' b := let ⟨x, y, e⟩ := h; ⟨x, y, k _ _ e n.symm⟩
/-- all else stays -/
def Kp (c : Addr) (H H' : Hp) : Prop := ∀ q o, H q = some o → q ≠ c → H' q = some o
theorem Scr.kp {K : PySem.W.Frag} {H H' : Hp} {a S hd c : Addr} {xs : List V} {as : List Addr} (h : Scr K H a xs S hd as) (n : c ∈ as) (k : Kp c H H') : Scr K H' a xs S hd as := h.imp id fun ⟨o, e, g, n1, n2, n3⟩ => ⟨o, e, k _ _ g (n3 c n), n1, n2, n3⟩
theorem MachAt.kp {M m ta c : Addr} {H H' : Hp} {ts : List (List V)} {ys : List V} (h : MachAt M H m ta ts) (hc : H c = some (.lst ys)) (k : Kp c H H') : MachAt M H' m ta ts :=
  let ⟨⟨dx, t0, h0, h1⟩, as, k1, k2, k3⟩ := h
  have g : ∀ (q : Addr) (o : HO), H q = some o → (∀ ws, o ≠ .lst ws) → H' q = some o := fun q o e n => k _ _ e fun z => by
    rw [z, hc] at e
    exact n ys (Option.some.inj e).symm
  ⟨⟨dx, t0, h0, g _ _ h1 fun ws z => (by cases z)⟩, as, g _ _ k1 (fun ws z => (by cases z)), k2, fun i b t e1 e2 => g _ _ (k3 i b t e1 e2) fun ws z => (by cases z)⟩
theorem TabL.kp {H H' : Hp} {p c : Addr} {ts : Ts} {ys : List V} (h : TabL H p (vts ts)) (hc : H c = some (.lst ys)) (n : p ≠ c) (k : Kp c H H') : TabL H' p (vts ts) :=
  let ⟨as, h1, h2, h3⟩ := h
  ⟨as, k _ _ h1 n, h2, fun i b t e1 e2 => by
    have z := h3 i b t e1 e2
    exact k _ _ z fun w => by rw [w, hc] at z; cases z⟩
theorem Hn.go2 {H H' : Hp} {S hd : Addr} {story : List Int} {as rs : List Addr} {L : List Hd3} (h : Hn H S hd story as rs L) {j : Nat} {a r r' : Addr} {x y y' d : Int} {w : List Int} (e1 : as[j]? = some a) (e2 : rs[j]? = some r) (e3 : L[j]? = some (x, y, w)) (hr' : H r' = none)
    (k1 : H' r' = some (.lst (vrow (w ++ [d])))) (k2 : H' a = some (.lst [.int x, .int y', .ref r'])) (k : Kp a H H') : Hn H' S hd story as (rs.set j r') (L.set j (x, y', w ++ [d])) := by
  obtain ⟨q1, q2, q3, q4, q5, q6, q7⟩ := h.it j a r x y w e1 e2 e3
  have nr : ∀ c o, H c = some o → r' ≠ c := fun c o e z => by rw [z, e] at hr'; cases hr'
  have hmem : ∀ a' ∈ as, ∃ o, H a' = some o := fun a' m => by
    obtain ⟨i, hi⟩ := List.getElem?_of_mem m
    obtain ⟨r', x', y', w', e2, e3⟩ := h.get hi
    exact ⟨_, (h.it i a' r' x' y' w' hi e2 e3).1⟩
  refine ⟨k _ _ h.hs q5.symm, k _ _ h.hh q4.symm, h.ne, by rw [List.length_set]; exact h.la, by rw [List.length_set, List.length_set]; exact h.lr, h.nd, fun i a1 r1 x1 y1 w1 f1 f2 f3 => ?_⟩
  by_cases hij : i = j
  · subst hij
    rw [f1] at e1
    obtain rfl := Option.some.inj e1
    have hl := (List.getElem?_eq_some_iff.mp e2).1
    have hl3 := (List.getElem?_eq_some_iff.mp e3).1
    rw [List.getElem?_set_self hl] at f2
    rw [List.getElem?_set_self hl3] at f3
    obtain rfl := Option.some.inj f2
    have f3 := Option.some.inj f3
    injection f3 with f3 f4
    injection f4 with f4 f5
    subst f3
    subst f4
    subst f5
    refine ⟨k2, k1, nr _ _ h.hs, q4, q5, nr _ _ h.hh, fun a' m => ?_⟩
    obtain ⟨o, ho⟩ := hmem a' m
    exact nr _ _ ho
  · rw [List.getElem?_set_ne (Ne.symm hij)] at f2 f3
    obtain ⟨p1, p2, p3, p4, p5, p6, p7⟩ := h.it i a1 r1 x1 y1 w1 f1 f2 f3
    have na : a1 ≠ a := fun z => by
      obtain ⟨g1, h1⟩ := List.getElem?_eq_some_iff.mp f1
      obtain ⟨g2, h2⟩ := List.getElem?_eq_some_iff.mp e1
      exact hij ((List.getElem_inj h.nd).mp (h1.trans (z.trans h2.symm)))
    exact ⟨k _ _ p1 na, k _ _ p2 (p7 a (List.mem_of_getElem? e1)), p3, p4, p5, p6, p7⟩
theorem seqIx {i : Int} {n : Nat} (h0 : 0 ≤ i) (h1 : i < (n : Int)) : seqIndex? i n = some i.toNat := seqIndex_of h0 h1
section
variable {P : Program} {w : World} {K : PySem.W.Frag} {mg : Str → Option Value} {base : Heap}
abbrev nLa : List Str := ["_law_script", "_law_box_here", "_law_tables_here", "_law_machine", "_law_home", "_law_story", "_law_hands", "_law_k", "_law_way", "_law_deed", "_law_hand", "_law_archive", "_law_state", "_law_row", "_law_told"]
theorem scLa : FnScope nLa ["_law_script"] (defScope sLaw) := ⟨rfl, rfl, rfl, by decide +kernel, rfl, by decide +kernel, by decide +kernel⟩
def bodyOf : Stmt → List Stmt | .For _ _ b _ _ => b | _ => []
abbrev sLoop : List Stmt := bodyOf ((defBody sLaw).getD 3 (.Pass ⟨0, 0, 0, 0⟩))
/-- one cell's worth -/
theorem law_turn {f M CM CS CU fB : Addr} {fdB : FuncData} {cdv : Value} {A : Around} {outer : List Env} {s : Shared} {H₀ : Hp} {E : XK} (hr : Room 10 (A.deeper (envOfC "law" (defScope sLaw) s.heap.objs.size f cdv))) (dn : Da P w K mg base M CM CS CU) (DB : Df K mg "_law_box" sBox ["_law_script", "_law_k"] fB fdB) (GB : FnOk P w K mg base CX0 1 fB fdB ["_law_script", "_law_k"] (spBox K)) :
    ∃ t, PSs (cxOf CX0 P w K mg base nLa "law" (defScope sLaw) f cdv A outer s H₀ E).nox sLoop t ∧
      ∀ (D : Ends) (H : Hp) (a p m ta S hd : Addr) (ns : List Int) (ts : Ts) (story : List Int) (as rs : List Addr) (L : List Hd3) (k : Nat) (v1 v8 v9 v10 v11 v12 v13 v14 : Option V), Scr K H a (ns.map V.int) S hd as → ns.length ≤ 63 → TabL H p (vts ts) → Wf ts → MachAt M H m ta (vts ts) → Tells ts 0 → Hn H S hd story as rs L → Hm ts story L k → k ≤ 60 →
        (∀ H' S' story' as' rs' L' w1 w8 w9 w10 w11 w12 w13 w14, Scr K H' a (ns.map V.int) S' hd as' → TabL H' p (vts ts) → MachAt M H' m ta (vts ts) → Hn H' S' hd story' as' rs' L' → Hm ts story' L' (k + 1) → (∃ b, w1 = some (.ref b) ∧ BoxO H' b ∧ p ≠ b ∧ ((∀ H' : Hp, SqL K H' a (ns.map V.int)) ∨ a ≠ b)) → D.nx [some (.ref a), w1, some (.ref p), some (.ref m), some (.int (run ts 0 story')), some (.ref S'), some (.ref hd), some (.int (1 + (k : Int))), w8, w9, w10, w11, w12, w13, w14] H') →
        t D [some (.ref a), v1, some (.ref p), some (.ref m), some (.int (run ts 0 story)), some (.ref S), some (.ref hd), some (.int (1 + (k : Int))), v8, v9, v10, v11, v12, v13, v14] H := by
  have B := dn.B
  obtain ⟨fT, fdT, DT, GT⟩ := dn.take
  obtain ⟨fK, fdK, DK, GK⟩ := dn.pick
  obtain ⟨fJ, fdJ, DJ, GJ⟩ := dn.join
  obtain ⟨fL, fdL, DL, GL⟩ := dn.led
  have hu : (A.deeper (envOfC "law" (defScope sLaw) s.heap.objs.size f cdv)).units + 64 < cLine := hr.units
  have r1 := hr.mono (show 1 ≤ 10 by decide)
  have r2 := hr.mono (show 2 ≤ 10 by decide)
  have r5 := hr.mono (show 5 ≤ 10 by decide)
  refine ⟨_, pss_cons (ps_set (i := 1) scLa.nd rfl (.inl rfl) (pc DB GB r1 pass0 (pa_cons (pv 0) (pa_cons (pv 7) pa_nil))))
    (pss_cons (ps_set (i := 8) scLa.nd rfl (.inl rfl) (pc DT GT r1 pass0 (pa_cons (pv 1) (pa_cons pe_int pa_nil))))
    (pss_one (ps_if (PW.pt (pw_or (pt_cmpR op_eq (pv 8) pe_int (nomark _)) (pw_or1 (PW.pt (pw_and (pt_cmpR op_eq (pv 8) pe_int (nomark _)) (pw_and1 (pt_cmpR (eqD (K := K) rfl hu) (pv 6) (pe_lst pa_nil) (nomark _))))))))
      (pss_cons (ps_set (i := 9) scLa.nd rfl (.inl rfl) (pc DT GT r1 pass0 (pa_cons (pv 1) (pa_cons (pe_callB (clen (K := K) rfl) (by rfl) B.len PySem.boot_len (pa_cons (pv 2) pa_nil)) pa_nil))))
      (pss_cons (ps_set (i := 4) scLa.nd rfl (.inl rfl) (pe_ix (ixTK (K := K) rfl) (pe_ix (ixLK (K := K) rfl) (pv 2) (pv 9) (fun _ _ => rfl)) (pv 4) (fun _ _ => rfl)))
      (pss_one (ps_expr (pe_bm PySem.F.plainAttrs_list PySem.F.slot_list_append PySem.F.type_list_append mt_append (pv 5) (pa_cons (pv 9) pa_nil))))))
      (pss_one (ps_if (PW.pt (pw_and (pt_cmpR op_eq (pv 8) pe_int (nomark _)) (pw_and1 (pt_cmpR op_lt (pe_callB (clen (K := K) rfl) (by rfl) B.len PySem.boot_len (pa_cons (pv 6) pa_nil)) pe_int (nomark _)))))
        (pss_one (ps_expr (pe_bm PySem.F.plainAttrs_list PySem.F.slot_list_append PySem.F.type_list_append mt_append (pv 6) (pa_cons (pe_lst (pa_cons (pv 4) (pa_cons (pv 4) (pa_cons (pe_lst pa_nil) pa_nil)))) pa_nil))))
        (pss_one (ps_if (PW.pt (pw_and (pt_cmpR op_lt (pv 8) pe_int (nomark _)) (pw_and1 (pt_cmpR (neD (K := K) rfl hu) (pv 6) (pe_lst pa_nil) (nomark _)))))
          (pss_cons (ps_par (i := 10) (j := 9) rfl scLa.nd rfl rfl (by decide) rfl rfl (pa_cons (pc DK GK r2 pass0 (pa_cons (pv 1) (pa_cons (pv 6) pa_nil))) (pa_cons (pc DT GT r1 pass0 (pa_cons (pv 1) (pa_cons (pe_callB (clen (K := K) rfl) (by rfl) B.len PySem.boot_len (pa_cons (pv 2) pa_nil)) pa_nil))) pa_nil)) rfl)
          (pss_cons (ps_asg (pe_ix (ixTK (K := K) rfl) (pe_ix (ixLK (K := K) rfl) (pv 2) (pv 9) (fun _ _ => rfl)) (pe_ix (ixLK (K := K) rfl) (pv 10) pe_int (fun _ _ => rfl)) (fun _ _ => rfl)) (pg_sub (pv 10) pe_int set_list))
          (pss_one (ps_asg (pe_op op_cat (pe_ix (ixLK (K := K) rfl) (pv 10) pe_int (fun _ _ => rfl)) (pe_lst (pa_cons (pv 9) pa_nil))) (pg_sub (pv 10) pe_int set_list)))))
          (pss_one (ps_if (pt_cmpR (neD (K := K) rfl hu) (pv 6) (pe_lst pa_nil) (nomark _))
            (pss_cons (ps_asg (pe_bm PySem.F.plainAttrs_list PySem.F.slot_list_pop PySem.F.type_list_pop mt_popAt (pv 6) (pa_cons (pc DT GT r1 pass0 (pa_cons (pv 1) (pa_cons (pe_callB (clen (K := K) rfl) (by rfl) B.len PySem.boot_len (pa_cons (pv 6) pa_nil)) pa_nil))) pa_nil)) (pg_lst rfl (pgs_cons (pg_name (i := 11) scLa.nd rfl (.inl rfl)) (pgs_cons (pg_name (i := 12) scLa.nd rfl (.inl rfl)) (pgs_cons (pg_name (i := 13) scLa.nd rfl (.inl rfl)) pgs_nil)))))
            (pss_cons (ps_set (i := 14) scLa.nd rfl (.inl rfl) (pe_ifExp (pt_cmpR op_eq (pe_op op_mod (pv 7) pe_int) pe_int (nomark _)) (pc DJ GJ r5 passF (pa_cons (pv 3) (pa_cons (pv 11) (pa_cons (pv 4) (pa_cons (pv 12) pa_nil))))) (pe_callW DJ GJ r5 (kb_join DJ.F) passF (pk_cons (pv 12) (pk_cons (pv 4) (pk_cons (pv 11) (pk_cons (pv 3) pk_nil)))))))
            (pss_cons (ps_set (i := 4) scLa.nd rfl (.inl rfl) (pc DL GL r1 pass0 (pa_cons (pv 2) (pa_cons (pv 4) (pa_cons (pv 13) pa_nil)))))
            (pss_cons (ps_set (i := 5) scLa.nd rfl (.inl rfl) (pe_op op_cat (pv 5) (pv 13)))
            (pss_one (ps_if (pt_cmpR op_ne (pe_callB call_reprS (by rfl) B.repr (by decide +kernel) (pa_cons (pv 14) pa_nil)) (pe_callB call_reprS (by rfl) B.repr (by decide +kernel) (pa_cons (pv 4) pa_nil)) (nomark _)) (pss_one (ps_ret pe_bl)) pss_nil))))))
            (pss_one (ps_expr (pe_bm PySem.F.plainAttrs_list PySem.F.slot_list_append PySem.F.type_list_append mt_append (pv 6) (pa_cons (pe_lst (pa_cons (pv 4) (pa_cons (pv 4) (pa_cons (pe_lst pa_nil) pa_nil)))) pa_nil))))))))))))), fun D H a p m ta S hd ns ts story as rs L k v1 v8 v9 v10 v11 v12 v13 v14 hS hn tl hW hM tells hN hm hk60 q => ?_⟩
  have t1 := hW.t1
  have t8 := hW.t8
  have n12 := hW.s12
  have npbH : ∀ b, H b = none → p ≠ b := fun b e => by
    obtain ⟨as0, h1, _⟩ := tl
    exact ne_of_none h1 e
  have hhome : 0 ≤ run ts 0 story ∧ run ts 0 story < (nS ts : Int) := hW.run story 0 hm.vs ⟨by decide, by have := hW.s1; omega⟩
  refine ⟨_, rfl, _, rfl, a, ns, _, rfl, hS.sq, hn, by omega, by omega, fun b H1 s1 nb bo => ?_⟩
  refine gn ?_
  dsimp only [List.set]
  refine ⟨_, rfl, b, 5, rfl, bo, by decide, by decide, fun way G w0 w1 bxw => ?_⟩
  refine gn ?_
  dsimp only [List.set]
  have sG : Same H G := same_bx s1 nb bxw
  have hbG := bxw.1
  obtain ⟨tas0, g1, g0, _⟩ := tl.same sG
  have g2 : ((tas0.map V.ref).length : Int) = (ts.length : Int) := by rw [List.length_map, g0, vts, List.length_map]
  refine ⟨_, rfl, rfl, _, rfl, ifD (fun c0 => iteT ?_) fun c0 => ?_⟩
  · -- a deed at home
    refine ⟨_, rfl, _, rfl, p, _, rfl, .inl (SqL.of g1), ?_⟩
    rw [g2]
    refine ⟨b, _, rfl, hbG, by omega, by omega, fun d G2 d0 d1 bxd => ?_⟩
    refine gn ?_
    dsimp only [List.set]
    have s2 : Same H G2 := same_bx sG nb bxd
    have tl2 := tl.same s2
    have hd8 : In8 ts d := ⟨d0, d1⟩
    obtain ⟨tas, q1, q2, q3⟩ := id tl2
    have lta : tas.length = ts.length := by rw [q2, vts, List.length_map]
    obtain ⟨t, e1, e2, e3⟩ := hW.at_ hd8 hhome
    have hj : d.toNat < tas.length := by omega
    obtain ⟨tj, htj⟩ : ∃ t, tas[d.toNat]? = some t := ⟨_, List.getElem?_eq_getElem hj⟩
    have hT := q3 _ tj (vrow t) htj (by rw [vts, List.getElem?_map, e1]; rfl)
    refine ⟨_, rfl, _, rfl, p, _, d, .ref tj, rfl, rfl, SqL.of q1, at_of (j := d.toNat) (by omega) (by rw [List.getElem?_map, htj]; rfl), _, rfl, tj, _, run ts 0 story, .int (stp ts (run ts 0 story) d), rfl, rfl, SqT.of hT, at_of (j := (run ts 0 story).toNat) (by omega) (by rw [vrow, List.getElem?_map, e2]; rfl), ?_⟩
    refine gn ?_
    dsimp only [List.set]
    have hN2 := hN.same s2
    refine ⟨_, rfl, .inl ⟨rfl, _, SqL.of hN2.hs⟩, _, rfl, S, _, _, rfl, rfl, hN2.hs, by rw [vrow, List.length_map, sizeLine_eq]; have := hm.ls; omega, ?_⟩
    have es : stp ts (run ts 0 story) d = run ts 0 (story ++ [d]) := by rw [run_app]; rfl
    rw [es]
    exact q _ S (story ++ [d]) as rs L _ _ _ _ _ _ _ _ ((hS.same s2).upd (.inl rfl)) (tl2.updL hN2.hs (hN2.pS tl2 hW)) ((hM.same s2).updL hN2.hs) (hN2.deed d) (hm.deed hd8) ⟨b, rfl, bxd.1.updN (ne_of_none hN.hs nb), npbH b nb, hS.imp id fun ⟨_, _, g, _⟩ => ne_of_none g nb⟩
  refine ⟨_, rfl, rfl, _, rfl, ifD (fun c1 => ?_) fun c1 => ?_⟩
  · refine ⟨_, rfl, (by show 0 ≤ sizeLine; decide), fun e0 he0 => ?_⟩
    have s0 := same_new (o := HO.lst []) he0
    have sG0 := sG
    replace sG := sG.trans s0
    replace hbG := hbG.same s0
    replace g1 := s0 _ _ g1
    have ge := upd_same (H := G) (a := e0) (o := HO.lst [])
    generalize upd G e0 (.lst []) = G at *
    refine (hN.same sG).isnil ge ⟨_, rfl, ifD (fun c2 => ?_) fun c2 => ?_⟩
    · -- a deed at home, nobody being out
      refine ⟨_, rfl, _, rfl, p, _, rfl, .inl (SqL.of g1), ?_⟩
      rw [g2]
      refine ⟨b, _, rfl, hbG, by omega, by omega, fun d G2 d0 d1 bxd => ?_⟩
      refine gn ?_
      dsimp only [List.set]
      have s2 : Same H G2 := same_bx sG nb bxd
      have tl2 := tl.same s2
      have hd8 : In8 ts d := ⟨d0, d1⟩
      obtain ⟨tas, q1, q2, q3⟩ := id tl2
      have lta : tas.length = ts.length := by rw [q2, vts, List.length_map]
      obtain ⟨t, e1, e2, e3⟩ := hW.at_ hd8 hhome
      have hj : d.toNat < tas.length := by omega
      obtain ⟨tj, htj⟩ : ∃ t, tas[d.toNat]? = some t := ⟨_, List.getElem?_eq_getElem hj⟩
      have hT := q3 _ tj (vrow t) htj (by rw [vts, List.getElem?_map, e1]; rfl)
      refine ⟨_, rfl, _, rfl, p, _, d, .ref tj, rfl, rfl, SqL.of q1, at_of (j := d.toNat) (by omega) (by rw [List.getElem?_map, htj]; rfl), _, rfl, tj, _, run ts 0 story, .int (stp ts (run ts 0 story) d), rfl, rfl, SqT.of hT, at_of (j := (run ts 0 story).toNat) (by omega) (by rw [vrow, List.getElem?_map, e2]; rfl), ?_⟩
      refine gn ?_
      dsimp only [List.set]
      have hN2 := hN.same s2
      refine ⟨_, rfl, .inl ⟨rfl, _, SqL.of hN2.hs⟩, _, rfl, S, _, _, rfl, rfl, hN2.hs, by rw [vrow, List.length_map, sizeLine_eq]; have := hm.ls; omega, ?_⟩
      have es : stp ts (run ts 0 story) d = run ts 0 (story ++ [d]) := by rw [run_app]; rfl
      rw [es]
      exact q _ S (story ++ [d]) as rs L _ _ _ _ _ _ _ _ ((hS.same s2).upd (.inl rfl)) (tl2.updL hN2.hs (hN2.pS tl2 hW)) ((hM.same s2).updL hN2.hs) (hN2.deed d) (hm.deed hd8) ⟨b, rfl, bxd.1.updN (ne_of_none hN.hs nb), npbH b nb, hS.imp id fun ⟨_, _, g, _⟩ => ne_of_none g nb⟩
    · -- way 1: one goes out, or not
      have hL0 : L ≠ [] := fun z => by rw [z] at c2; simp at c2
      refine ⟨_, rfl, rfl, _, rfl, ifD (fun c3 => ?_) fun c3 => ?_⟩
      · refine ⟨_, rfl, hd, _, rfl, .inl (SqL.of (hN.same sG).hh), _, _, rfl, rfl, _, rfl, ifD (fun c4 => ?_) fun c4 => ?_⟩
        · -- one goes out
          refine ⟨_, rfl, .inl ⟨rfl, _, SqL.of (hN.same sG).hh⟩, _, rfl, _, rfl, (by show 0 ≤ sizeLine; decide), fun r hr => ⟨(by show 3 ≤ sizeLine; decide), fun a9 ha9 => ?_⟩⟩
          have u1 := same_new (o := HO.lst []) hr
          have u2 := same_new (o := HO.lst [V.int (run ts 0 story), .int (run ts 0 story), .ref r]) ha9
          have hNG := hN.same sG
          have hh2 := u2 _ _ (u1 _ _ hNG.hh)
          refine ⟨hd, _, _, rfl, rfl, hh2, by rw [List.length_map, hN.la, sizeLine_eq]; have := hm.lL; omega, ?_⟩
          have s2 := (sG.trans u1).trans u2
          have tl2 := tl.same s2
          exact q _ S story (as ++ [a9]) (rs ++ [r]) (L ++ [(run ts 0 story, run ts 0 story, [])]) _ _ _ _ _ _ _ _ ((((hS.same sG).same u1).out ha9).same u2 |>.upd (.inr (.inl rfl))) (tl2.updL hh2 ((hN.same s2).ph tl2 hW)) ((hM.same s2).updL hh2) (hNG.out hr ha9) hm.out ⟨b, rfl, ((hbG.same u1).same u2).updN (ne_of_none hN.hh nb), npbH b nb, hS.imp id fun ⟨_, _, g, _⟩ => ne_of_none g nb⟩
        · refine ⟨_, rfl, _, _, rfl, rfl, _, rfl, ifD (fun c5 => ?_) fun c5 => ?_⟩
          · refine ⟨_, rfl, (by show 0 ≤ sizeLine; decide), fun e1 he1 => ?_⟩
            have s0 := same_new (o := HO.lst []) he1
            replace sG := sG.trans s0
            replace hbG := hbG.same s0
            replace g1 := s0 _ _ g1
            have ge := upd_same (H := G) (a := e1) (o := HO.lst [])
            generalize upd G e1 (.lst []) = G at *
            refine (hN.same sG).notnil ge ⟨_, rfl, ifD (fun cn => ?_) fun cn => ?_⟩
            · have hL : L ≠ [] := fun z => by rw [z] at cn; simp at cn
              -- a deed of one that is out
              have hNG := hN.same sG
              have nhb : hd ≠ b := ne_of_none hN.hh nb
              have lL1 : 1 ≤ L.length := by
                cases L with
                | nil => exact absurd rfl hL
                | cons _ _ => simp
              refine ⟨_, rfl, _, rfl, b, hd, _, rfl, hbG, hNG.hh, nhb, by rw [List.length_map, hN.la]; exact lL1, by rw [List.length_map, hN.la]; have := hm.lL; omega, fun i v G2 hi bxp => ?_⟩
              obtain ⟨ai, hai, rfl⟩ : ∃ c, as[i]? = some c ∧ v = V.ref c := by
                rw [List.getElem?_map] at hi
                cases e : as[i]? with
                | none => rw [e] at hi; cases hi
                | some t => rw [e] at hi; exact ⟨t, rfl, (Option.some.inj hi).symm⟩
              have s2 : Same H G2 := same_bx sG nb bxp
              obtain ⟨tas1, m1, m0, _⟩ := tl.same s2
              have m2 : ((tas1.map V.ref).length : Int) = (ts.length : Int) := by rw [List.length_map, m0, vts, List.length_map]
              refine ⟨_, rfl, _, rfl, p, _, rfl, .inl (SqL.of m1), ?_⟩
              rw [m2]
              refine ⟨b, _, rfl, bxp.1, by omega, by omega, fun d G3 d0 d1 bxd => ⟨_, _, rfl, ?_⟩⟩
              dsimp only [List.set]
              have s3 : Same H G3 := same_bx s2 nb bxd
              have hd8 : In8 ts d := ⟨d0, d1⟩
              have hN3 := hN.same s3
              have tl3 := tl.same s3
              obtain ⟨r, x, y, w9, er, eL⟩ := hN3.get hai
              obtain ⟨ka, kr, _, kh, kS, _, kn⟩ := hN3.it i ai r x y w9 hai er eL
              obtain ⟨u, v', a1, a2, a3, a4, a5, a6, a7⟩ := hm.it _ (List.mem_of_getElem? eL)
              have a3 : x = run ts 0 u := a3
              have a5 : VRow ts w9 := a5
              have a6 : y = run ts x w9 := a6
              have a7 : w9.length ≤ k := a7
              have xr : 0 ≤ x ∧ x < (nS ts : Int) := by rw [a3]; exact hW.run u 0 a1 ⟨by decide, by have := hW.s1; omega⟩
              have yr : 0 ≤ y ∧ y < (nS ts : Int) := by rw [a6]; exact hW.run w9 x a5 xr
              obtain ⟨tas, q1, q2, q3⟩ := id tl3
              have lta : tas.length = ts.length := by rw [q2, vts, List.length_map]
              obtain ⟨t, e1, e2, e3⟩ := hW.at_ hd8 yr
              have hj : d.toNat < tas.length := by omega
              obtain ⟨tj, htj⟩ : ∃ t, tas[d.toNat]? = some t := ⟨_, List.getElem?_eq_getElem hj⟩
              have hT := q3 _ tj (vrow t) htj (by rw [vts, List.getElem?_map, e1]; rfl)
              refine ⟨_, rfl, _, rfl, p, _, d, .ref tj, rfl, rfl, SqL.of q1, at_of (j := d.toNat) (by omega) (by rw [List.getElem?_map, htj]; rfl), _, rfl, ai, _, 1, .int y, rfl, rfl, SqL.of ka, atI_nat (j := 1) rfl, tj, _, y, .int (stp ts y d), rfl, rfl, SqT.of hT, at_of (j := y.toNat) (by omega) (by rw [vrow, List.getElem?_map, e2]; rfl), ?_⟩
              refine ⟨_, rfl, ai, _, 1, 1, rfl, rfl, ka, rfl, ?_⟩
              have f1 : (upd G3 ai (.lst ([V.int x, .int y, .ref r].set 1 (.int (stp ts y d))))) ai = some (.lst [.int x, .int (stp ts y d), .ref r]) := by rw [upd_same]; rfl
              have f2 : Kp ai G3 (upd G3 ai (.lst ([V.int x, .int y, .ref r].set 1 (.int (stp ts y d))))) := fun c o e n => by rw [upd_ne n]; exact e
              have f3 : ∀ c, (upd G3 ai (.lst ([V.int x, .int y, .ref r].set 1 (.int (stp ts y d))))) c = none → G3 c = none := fun c e => by
                by_cases z : c = ai
                · rw [z, upd_same] at e; cases e
                · rw [upd_ne z] at e; exact e
              generalize upd G3 ai (.lst ([V.int x, .int y, .ref r].set 1 (.int (stp ts y d)))) = G4 at f1 f2 f3 ⊢
              have naib : ai ≠ b := by
                obtain ⟨r0, x0, y0, w0, f1, f2⟩ := hN.get hai
                exact ne_of_none (hN.it i ai r0 x0 y0 w0 hai f1 f2).1 nb
              have nra : r ≠ ai := kn ai (List.mem_of_getElem? hai)
              refine ⟨_, rfl, ai, _, 2, .ref r, rfl, rfl, SqL.of f1, atI_nat (j := 2) rfl, _, rfl, (by show 1 ≤ sizeLine; decide), fun l1 hl1 => ?_⟩
              have s5 := same_new (o := HO.lst [V.int d]) hl1
              refine ⟨r, l1, _, _, rfl, rfl, s5 _ _ (f2 _ _ kr nra), upd_same, by rw [vrow, List.length_map, sizeLine_eq]; simp only [List.length_cons, List.length_nil]; omega, fun r2 hr2 => ?_⟩
              have s6 := same_new (o := HO.lst (vrow w9 ++ [V.int d])) hr2
              have s56 := s5.trans s6
              have hrG : G3 r2 = none := f3 _ (s5.free hr2)
              refine ⟨_, rfl, ai, _, 2, 2, rfl, rfl, s56 _ _ f1, rfl, ?_⟩
              have nr2 : r2 ≠ ai := fun z => by rw [z, ka] at hrG; cases hrG
              have kp : Kp ai G3 (upd (upd (upd G4 l1 (.lst [V.int d])) r2 (.lst (vrow w9 ++ [V.int d]))) ai (.lst ([V.int x, .int (stp ts y d), .ref r].set 2 (.ref r2)))) := fun c o e n => by
                rw [upd_ne n]
                exact s56 _ _ (f2 _ _ e n)
              have ew : vrow (w9 ++ [d]) = vrow w9 ++ [V.int d] := by simp only [vrow, List.map_append]; rfl
              exact q _ S story as (rs.set i r2) (L.set i (x, stp ts y d, w9 ++ [d])) _ _ _ _ _ _ _ _ ((hS.same s3).kp (List.mem_of_getElem? hai) kp) (tl3.kp ka (hN3.pa tl3 hW hai) kp) ((hM.same s3).kp ka kp) (hN3.go2 hai er eL hrG (by rw [upd_ne nr2, upd_same, ew]) (by rw [upd_same]; rfl) kp) (hm.go eL hd8) ⟨b, rfl, bxd.1.kp (naib) kp, npbH b nb, hS.imp id fun ⟨_, _, g, _⟩ => ne_of_none g nb⟩
            · have hL : L = [] := by simpa using cn
              exact absurd hL hL0
          · exfalso
            have c3' : way = 1 := by
              have := of_decide_eq_true c3
              injection this
            rw [c3'] at c5
            simp at c5
      · rw [c1] at c3
        cases c3
  · -- another way
    refine ⟨_, rfl, rfl, _, rfl, ifD (fun c3 => ?_) fun c3 => ?_⟩
    · rw [c1] at c3
      cases c3
    refine ⟨_, rfl, _, _, rfl, rfl, _, rfl, ifD (fun c5 => ?_) fun c5 => ?_⟩
    · refine ⟨_, rfl, (by show 0 ≤ sizeLine; decide), fun e1 he1 => ?_⟩
      have s0 := same_new (o := HO.lst []) he1
      replace sG := sG.trans s0
      replace hbG := hbG.same s0
      replace g1 := s0 _ _ g1
      have ge := upd_same (H := G) (a := e1) (o := HO.lst [])
      generalize upd G e1 (.lst []) = G at *
      refine (hN.same sG).notnil ge ⟨_, rfl, ifD (fun cn => ?_) fun cn => ?_⟩
      · have hL : L ≠ [] := fun z => by rw [z] at cn; simp at cn
        -- a deed of one that is out
        have hNG := hN.same sG
        have nhb : hd ≠ b := ne_of_none hN.hh nb
        have lL1 : 1 ≤ L.length := by
          cases L with
          | nil => exact absurd rfl hL
          | cons _ _ => simp
        refine ⟨_, rfl, _, rfl, b, hd, _, rfl, hbG, hNG.hh, nhb, by rw [List.length_map, hN.la]; exact lL1, by rw [List.length_map, hN.la]; have := hm.lL; omega, fun i v G2 hi bxp => ?_⟩
        obtain ⟨ai, hai, rfl⟩ : ∃ c, as[i]? = some c ∧ v = V.ref c := by
          rw [List.getElem?_map] at hi
          cases e : as[i]? with
          | none => rw [e] at hi; cases hi
          | some t => rw [e] at hi; exact ⟨t, rfl, (Option.some.inj hi).symm⟩
        have s2 : Same H G2 := same_bx sG nb bxp
        obtain ⟨tas1, m1, m0, _⟩ := tl.same s2
        have m2 : ((tas1.map V.ref).length : Int) = (ts.length : Int) := by rw [List.length_map, m0, vts, List.length_map]
        refine ⟨_, rfl, _, rfl, p, _, rfl, .inl (SqL.of m1), ?_⟩
        rw [m2]
        refine ⟨b, _, rfl, bxp.1, by omega, by omega, fun d G3 d0 d1 bxd => ⟨_, _, rfl, ?_⟩⟩
        dsimp only [List.set]
        have s3 : Same H G3 := same_bx s2 nb bxd
        have hd8 : In8 ts d := ⟨d0, d1⟩
        have hN3 := hN.same s3
        have tl3 := tl.same s3
        obtain ⟨r, x, y, w9, er, eL⟩ := hN3.get hai
        obtain ⟨ka, kr, _, kh, kS, _, kn⟩ := hN3.it i ai r x y w9 hai er eL
        obtain ⟨u, v', a1, a2, a3, a4, a5, a6, a7⟩ := hm.it _ (List.mem_of_getElem? eL)
        have a3 : x = run ts 0 u := a3
        have a5 : VRow ts w9 := a5
        have a6 : y = run ts x w9 := a6
        have a7 : w9.length ≤ k := a7
        have xr : 0 ≤ x ∧ x < (nS ts : Int) := by rw [a3]; exact hW.run u 0 a1 ⟨by decide, by have := hW.s1; omega⟩
        have yr : 0 ≤ y ∧ y < (nS ts : Int) := by rw [a6]; exact hW.run w9 x a5 xr
        obtain ⟨tas, q1, q2, q3⟩ := id tl3
        have lta : tas.length = ts.length := by rw [q2, vts, List.length_map]
        obtain ⟨t, e1, e2, e3⟩ := hW.at_ hd8 yr
        have hj : d.toNat < tas.length := by omega
        obtain ⟨tj, htj⟩ : ∃ t, tas[d.toNat]? = some t := ⟨_, List.getElem?_eq_getElem hj⟩
        have hT := q3 _ tj (vrow t) htj (by rw [vts, List.getElem?_map, e1]; rfl)
        refine ⟨_, rfl, _, rfl, p, _, d, .ref tj, rfl, rfl, SqL.of q1, at_of (j := d.toNat) (by omega) (by rw [List.getElem?_map, htj]; rfl), _, rfl, ai, _, 1, .int y, rfl, rfl, SqL.of ka, atI_nat (j := 1) rfl, tj, _, y, .int (stp ts y d), rfl, rfl, SqT.of hT, at_of (j := y.toNat) (by omega) (by rw [vrow, List.getElem?_map, e2]; rfl), ?_⟩
        refine ⟨_, rfl, ai, _, 1, 1, rfl, rfl, ka, rfl, ?_⟩
        have f1 : (upd G3 ai (.lst ([V.int x, .int y, .ref r].set 1 (.int (stp ts y d))))) ai = some (.lst [.int x, .int (stp ts y d), .ref r]) := by rw [upd_same]; rfl
        have f2 : Kp ai G3 (upd G3 ai (.lst ([V.int x, .int y, .ref r].set 1 (.int (stp ts y d))))) := fun c o e n => by rw [upd_ne n]; exact e
        have f3 : ∀ c, (upd G3 ai (.lst ([V.int x, .int y, .ref r].set 1 (.int (stp ts y d))))) c = none → G3 c = none := fun c e => by
          by_cases z : c = ai
          · rw [z, upd_same] at e; cases e
          · rw [upd_ne z] at e; exact e
        generalize upd G3 ai (.lst ([V.int x, .int y, .ref r].set 1 (.int (stp ts y d)))) = G4 at f1 f2 f3 ⊢
        have naib : ai ≠ b := by
          obtain ⟨r0, x0, y0, w0, f1, f2⟩ := hN.get hai
          exact ne_of_none (hN.it i ai r0 x0 y0 w0 hai f1 f2).1 nb
        have nra : r ≠ ai := kn ai (List.mem_of_getElem? hai)
        refine ⟨_, rfl, ai, _, 2, .ref r, rfl, rfl, SqL.of f1, atI_nat (j := 2) rfl, _, rfl, (by show 1 ≤ sizeLine; decide), fun l1 hl1 => ?_⟩
        have s5 := same_new (o := HO.lst [V.int d]) hl1
        refine ⟨r, l1, _, _, rfl, rfl, s5 _ _ (f2 _ _ kr nra), upd_same, by rw [vrow, List.length_map, sizeLine_eq]; simp only [List.length_cons, List.length_nil]; omega, fun r2 hr2 => ?_⟩
        have s6 := same_new (o := HO.lst (vrow w9 ++ [V.int d])) hr2
        have s56 := s5.trans s6
        have hrG : G3 r2 = none := f3 _ (s5.free hr2)
        refine ⟨_, rfl, ai, _, 2, 2, rfl, rfl, s56 _ _ f1, rfl, ?_⟩
        have nr2 : r2 ≠ ai := fun z => by rw [z, ka] at hrG; cases hrG
        have kp : Kp ai G3 (upd (upd (upd G4 l1 (.lst [V.int d])) r2 (.lst (vrow w9 ++ [V.int d]))) ai (.lst ([V.int x, .int (stp ts y d), .ref r].set 2 (.ref r2)))) := fun c o e n => by
          rw [upd_ne n]
          exact s56 _ _ (f2 _ _ e n)
        have ew : vrow (w9 ++ [d]) = vrow w9 ++ [V.int d] := by simp only [vrow, List.map_append]; rfl
        exact q _ S story as (rs.set i r2) (L.set i (x, stp ts y d, w9 ++ [d])) _ _ _ _ _ _ _ _ ((hS.same s3).kp (List.mem_of_getElem? hai) kp) (tl3.kp ka (hN3.pa tl3 hW hai) kp) ((hM.same s3).kp ka kp) (hN3.go2 hai er eL hrG (by rw [upd_ne nr2, upd_same, ew]) (by rw [upd_same]; rfl) kp) (hm.go eL hd8) ⟨b, rfl, bxd.1.kp (naib) kp, npbH b nb, hS.imp id fun ⟨_, _, g, _⟩ => ne_of_none g nb⟩
      · have hL : L = [] := by simpa using cn
        refine ⟨_, rfl, (by show 0 ≤ sizeLine; decide), fun e1 he1 => ?_⟩
        have s0 := same_new (o := HO.lst []) he1
        replace sG := sG.trans s0
        replace hbG := hbG.same s0
        replace g1 := s0 _ _ g1
        have ge := upd_same (H := G) (a := e1) (o := HO.lst [])
        generalize upd G e1 (.lst []) = G at *
        refine (hN.same sG).notnil ge ⟨_, rfl, ifD (fun cn => ?_) fun cn => ?_⟩
        · have hL : L ≠ [] := fun z => by rw [z] at cn; simp at cn
          exact absurd ‹L = []› hL
        · have hL : L = [] := by simpa using cn
          -- one goes out, nobody being out
          refine ⟨_, rfl, .inl ⟨rfl, _, SqL.of (hN.same sG).hh⟩, _, rfl, _, rfl, (by show 0 ≤ sizeLine; decide), fun r hr => ⟨(by show 3 ≤ sizeLine; decide), fun a9 ha9 => ?_⟩⟩
          have u1 := same_new (o := HO.lst []) hr
          have u2 := same_new (o := HO.lst [V.int (run ts 0 story), .int (run ts 0 story), .ref r]) ha9
          have hNG := hN.same sG
          have hh2 := u2 _ _ (u1 _ _ hNG.hh)
          refine ⟨hd, _, _, rfl, rfl, hh2, by rw [List.length_map, hN.la, sizeLine_eq]; have := hm.lL; omega, ?_⟩
          have s2 := (sG.trans u1).trans u2
          have tl2 := tl.same s2
          exact q _ S story (as ++ [a9]) (rs ++ [r]) (L ++ [(run ts 0 story, run ts 0 story, [])]) _ _ _ _ _ _ _ _ ((((hS.same sG).same u1).out ha9).same u2 |>.upd (.inr (.inl rfl))) (tl2.updL hh2 ((hN.same s2).ph tl2 hW)) ((hM.same s2).updL hh2) (hNG.out hr ha9) hm.out ⟨b, rfl, ((hbG.same u1).same u2).updN (ne_of_none hN.hh nb), npbH b nb, hS.imp id fun ⟨_, _, g, _⟩ => ne_of_none g nb⟩
    · refine ⟨_, rfl, (by show 0 ≤ sizeLine; decide), fun e1 he1 => ?_⟩
      have s0 := same_new (o := HO.lst []) he1
      replace sG := sG.trans s0
      replace hbG := hbG.same s0
      replace g1 := s0 _ _ g1
      have ge := upd_same (H := G) (a := e1) (o := HO.lst [])
      generalize upd G e1 (.lst []) = G at *
      refine (hN.same sG).notnil ge ⟨_, rfl, ifD (fun cn => ?_) fun cn => ?_⟩
      · have hL : L ≠ [] := fun z => by rw [z] at cn; simp at cn
        -- one comes home
        have hNG := hN.same sG
        have lL1 : 1 ≤ L.length := by
          cases L with
          | nil => exact absurd rfl hL
          | cons _ _ => simp
        have nhb : hd ≠ b := ne_of_none hN.hh nb
        have lA : ((as.map V.ref).length : Int) = (L.length : Int) := by rw [List.length_map, hN.la]
        refine ⟨_, rfl, .inl ⟨rfl, _, SqL.of hNG.hh⟩, _, rfl, _, rfl, hd, _, rfl, .inl (SqL.of hNG.hh), ?_⟩
        rw [lA]
        refine ⟨b, _, rfl, hbG, by omega, by have := hm.lL; omega, fun j G2 j0 j1 bxt => ?_⟩
        have s2 : Same H G2 := same_bx sG nb bxt
        have hN2 := hN.same s2
        have tl2 := tl.same s2
        have hjn : j.toNat < as.length := by have := hN.la; omega
        obtain ⟨aj, haj⟩ : ∃ c, as[j.toNat]? = some c := ⟨_, List.getElem?_eq_getElem hjn⟩
        obtain ⟨r, x, y, w9, er, eL⟩ := hN2.get haj
        obtain ⟨ka, kr, krS, kah, kaS, krh, kn⟩ := hN2.it _ aj r x y w9 haj er eL
        obtain ⟨u, v', a1, a2, a3, a4, a5, a6, a7⟩ := hm.it _ (List.mem_of_getElem? eL)
        have a3 : x = run ts 0 u := a3
        have a4 : run ts 0 story = run ts x v' := a4
        have a5 : VRow ts w9 := a5
        have a6 : y = run ts x w9 := a6
        have a7 : w9.length ≤ k := a7
        have xr : 0 ≤ x ∧ x < (nS ts : Int) := by rw [a3]; exact hW.run u 0 a1 ⟨by decide, by have := hW.s1; omega⟩
        have yr : 0 ≤ y ∧ y < (nS ts : Int) := by rw [a6]; exact hW.run w9 x a5 xr
        refine ⟨hd, _, j, j.toNat, .ref aj, rfl, rfl, hN2.hh, by omega, by have := hm.lL; omega, seqIx (by omega) (by rw [lA]; exact j1), by rw [List.getElem?_map, haj]; rfl, ?_⟩
        have hN3 := hN2.home j.toNat hjn
        have ka3 : (upd G2 hd (.lst ((as.map V.ref).eraseIdx j.toNat))) aj = some (.lst [.int x, .int y, .ref r]) := by rw [upd_ne kah]; exact ka
        have kr3 : (upd G2 hd (.lst ((as.map V.ref).eraseIdx j.toNat))) r = some (.lst (vrow w9)) := by rw [upd_ne krh]; exact kr
        have tl3 := tl2.updL (zs := (as.map V.ref).eraseIdx j.toNat) hN2.hh (hN2.ph tl2 hW)
        have hM3 := (hM.same s2).updL (zs := (as.map V.ref).eraseIdx j.toNat) hN2.hh
        have hS3 := ((hS.same s2).upd (u := .lst ((as.map V.ref).eraseIdx j.toNat)) (.inr (.inl rfl))).erase j.toNat
        have hb3 := bxt.1.updN (u := .lst ((as.map V.ref).eraseIdx j.toNat)) nhb
        generalize upd G2 hd (.lst ((as.map V.ref).eraseIdx j.toNat)) = G3 at hN3 ka3 kr3 tl3 hM3 hS3 hb3 ⊢
        refine ⟨aj, _, rfl, SqL.of ka3, rfl, _, _, rfl, _, _, rfl, _, _, rfl, rfl, ?_⟩
        dsimp only [List.set]
        have jt : JTold ts x (run ts 0 story) y (run ts (run ts 0 story) w9) := by
          rw [a6]
          exact (tells_all.mp tells x ⟨u, a1, a3.symm⟩ _ ⟨v', a2, a4.symm⟩).j a5
        have hrs := hW.run w9 _ a5 hhome
        have jn : ∀ (G : Hp) (Z : VK) (EE : XK), Same G3 G → (∀ G', Same G3 G' → Z (.int (run ts (run ts 0 story) w9)) G') → spJoin M CS CU [.ref m, .int x, .int (run ts 0 story), .int y] G Z EE := fun G Z EE sm hZ =>
          ⟨m, ta, ts, .int x, .int (run ts 0 story), .int y, rfl, hM3.same sm, hW, kv3 (K := K), fun v H'' _ bad => (noBad xr hhome yr bad).elim, fun a' h' t' z1 z2 z3 _ _ _ F H8 s8 hF => by
            injection z1 with z1
            injection z2 with z2
            injection z3 with z3
            subst z1
            subst z2
            subst z3
            refine ⟨fun e he => ?_, fun ne => absurd (by rw [ends_told hF jt]; rfl) ne⟩
            rw [ends_told hF jt] at he
            injection he with he
            rw [← he]
            exact hZ _ (sm.trans s8)⟩
        refine seqG (fun σ G => σ = [some (.ref a), some (.ref b), some (.ref p), some (.ref m), some (.int (run ts 0 story)), some (.ref S), some (.ref hd), some (.int (1 + (k : Int))), some (.int way), v9, v10, some (.int x), some (.int y), some (.ref r), some (.int (run ts (run ts 0 story) w9))] ∧ Same G3 G) ?_ (fun kk => ?_)
        rotate_left
        · refine ⟨_, rfl, _, _, rfl, rfl, (by show (0 : Int) < 2; decide), rfl, _, rfl, ifD (fun _ => ?_) fun _ => ?_⟩
          · exact ⟨_, rfl, _, rfl, _, rfl, _, rfl, nilP (jn _ _ _ (Same.refl _) fun G' s' => gn (kk _ _ ⟨rfl, s'⟩))⟩
          · exact ⟨_, rfl, _, rfl, _, rfl, _, rfl, nilP ⟨rfl, jn _ _ _ (Same.refl _) fun G' s' => gn (kk _ _ ⟨rfl, s'⟩)⟩⟩
        rintro σ G4 ⟨rfl, s4⟩
        have hN4 := hN3.same s4
        refine ⟨_, rfl, _, rfl, _, rfl, p, ts, _, r, w9, rfl, tl3.same s4, hW, hhome, .inl (s4 _ _ kr3), a5, ?_⟩
        refine gn ?_
        dsimp only [List.set]
        refine ⟨_, rfl, _, rfl, S, r, _, _, rfl, rfl, hN4.hs, s4 _ _ kr3, by rw [vrow, vrow, List.length_map, List.length_map, sizeLine_eq]; have := hm.ls; omega, fun S2 hS2 => ?_⟩
        have s5 := same_new (o := HO.lst (vrow story ++ vrow w9)) hS2
        refine gn ?_
        dsimp only [List.set]
        have lg : (run ts (run ts 0 story) w9).natAbs.log2 < 1920 := log_sm (by omega)
        have rI : ∀ (G : Hp) (Z : VK), Z (.str (toString (run ts (run ts 0 story) w9))) G → rReprS [V.int (run ts (run ts 0 story) w9)] G Z := fun G Z q => ⟨_, rfl, .inr (.inr (.inl ⟨_, rfl, lg, q⟩))⟩
        refine ⟨_, rfl, nilP (rI _ _ ⟨_, rfl, nilP (rI _ _ (neV rfl ⟨_, rfl, iteF (nxP ?_)⟩))⟩)⟩
        have ew : vrow (story ++ w9) = vrow story ++ vrow w9 := by simp only [vrow, List.map_append]
        have hN5 := hN4.told (story' := story ++ w9) hS2
        rw [ew] at hN5
        have er' : run ts (run ts 0 story) w9 = run ts 0 (story ++ w9) := by rw [run_app]
        rw [er']
        exact q _ S2 (story ++ w9) _ _ _ _ _ _ _ _ _ _ _ (((hS3.same s4).told hS2).same s5) ((tl3.same s4).same s5) ((hM3.same s4).same s5) hN5 (hm.home hk60 eL) ⟨b, rfl, (hb3.same s4).same s5, npbH b nb, hS.imp id fun ⟨_, _, g, _⟩ => ne_of_none g nb⟩
      · have hL : L = [] := by simpa using cn
        -- one goes out, nobody being out
        refine ⟨_, rfl, .inl ⟨rfl, _, SqL.of (hN.same sG).hh⟩, _, rfl, _, rfl, (by show 0 ≤ sizeLine; decide), fun r hr => ⟨(by show 3 ≤ sizeLine; decide), fun a9 ha9 => ?_⟩⟩
        have u1 := same_new (o := HO.lst []) hr
        have u2 := same_new (o := HO.lst [V.int (run ts 0 story), .int (run ts 0 story), .ref r]) ha9
        have hNG := hN.same sG
        have hh2 := u2 _ _ (u1 _ _ hNG.hh)
        refine ⟨hd, _, _, rfl, rfl, hh2, by rw [List.length_map, hN.la, sizeLine_eq]; have := hm.lL; omega, ?_⟩
        have s2 := (sG.trans u1).trans u2
        have tl2 := tl.same s2
        exact q _ S story (as ++ [a9]) (rs ++ [r]) (L ++ [(run ts 0 story, run ts 0 story, [])]) _ _ _ _ _ _ _ _ ((((hS.same sG).same u1).out ha9).same u2 |>.upd (.inr (.inl rfl))) (tl2.updL hh2 ((hN.same s2).ph tl2 hW)) ((hM.same s2).updL hh2) (hNG.out hr ha9) hm.out ⟨b, rfl, ((hbG.same u1).same u2).updN (ne_of_none hN.hh nb), npbH b nb, hS.imp id fun ⟨_, _, g, _⟩ => ne_of_none g nb⟩
end
end K1
namespace K1
open PySem PySem.Spec PyProof.Rows L2
/-! ### defs told where nothing is being shown -/
section
variable {P : Program} {w : World} {K : PySem.W.Frag} {mg : Str → Option Value} {base : Heap}
theorem okG {x qual : Str} {st : Stmt} {f : Addr} {fd : FuncData} {N ps : List Str} {k : Nat} {sp : Sp} (F : Fun K x qual st f fd) (S : FnScope N ps (defScope st)) (len : ∀ vs H Q E, sp vs H Q E → vs.length = ps.length)
    (hbody : ∀ (cdv : Value) (A : Around) (outer : List Env) (s : Shared) (H : Hp) (vs : List V) (Q : VK) (E : XK), Room k (A.deeper (envOfC qual (defScope st) s.heap.objs.size f cdv)) → (A.deeper (envOfC qual (defScope st) s.heap.objs.size f cdv)).guards = some [] → sp vs H Q E →
      ∃ t, PSs (cxOf CX0 P w K mg base N qual (defScope st) f cdv A outer s H E).nox (defBody st) t ∧ t { nx := fun _ H' => Q .non H', rt := Q } (start N vs) H) : FnG P w K mg base (k + 1) f fd ps sp := by
  obtain ⟨oc, od, kV, doc, pm, an, cdv, ct, osl, rfl, lk, hcd⟩ := F.ex
  refine ⟨len, fun A outer s H args us vs Q E hr hgd e0 hb r hsp => ?_⟩
  refine LamX.run_ofS lk hcd S hr e0 hb r (len _ _ _ _ hsp) fun hr' => ?_
  obtain ⟨t, h, q⟩ := hbody cdv A outer s H vs Q E hr' hgd hsp
  exact ⟨t, h.nox, q⟩
end
theorem Scr.of {K : PySem.W.Frag} {H H' : Hp} {a S hd : Addr} {xs : List V} (h : SqL K H a xs) (k : ∀ o, H a = some o → H' a = some o ∧ a ≠ S ∧ a ≠ hd) : Scr K H' a xs S hd [] := by
  rcases h with (h | ⟨ob, h⟩) | h
  · exact .inr ⟨_, .inl rfl, (k _ h).1, (k _ h).2.1, (k _ h).2.2, by simp⟩
  · exact .inr ⟨_, .inr ⟨ob, rfl⟩, (k _ h).1, (k _ h).2.1, (k _ h).2.2, by simp⟩
  · exact .inl fun _ => .inr h
end K1
namespace K1
open PySem PySem.Spec PyProof.Rows L2
section
variable {P : Program} {w : World} {K : PySem.W.Frag} {mg : Str → Option Value} {base : Heap}
theorem ok_law {f M CM CS CU : Addr} {fd : FuncData} (D : Df K mg "law" sLaw ["_law_script"] f fd) (dn : Da P w K mg base M CM CS CU) (hB : ∃ f fd, Df K mg "_law_box" sBox ["_law_script", "_law_k"] f fd ∧ FnOk P w K mg base CX0 1 f fd ["_law_script", "_law_k"] (spBox K)) (hTg : ∃ f fd, Df K mg "_law_telling" sLTelling ["_law_box_here"] f fd ∧ FnOk P w K mg base CX0 4 f fd ["_law_box_here"] spTelling)
    (hAl : ∃ f fd, Df K mg "_law_all_right" sAll ["_law_box_here", "_law_machine", "_law_tables_here"] f fd ∧ FnOk P w K mg base CX0 9 f fd ["_law_box_here", "_law_machine", "_law_tables_here"] (spAll K M)) (hFa : ∃ f fd, Df K mg "_law_faults_right" sFaults ["_law_box_here"] f fd ∧ FnOk P w K mg base CX0 9 f fd ["_law_box_here"] (spFaults K)) :
    FnG P w K mg base 11 f fd ["_law_script"] (spLaw K) := by
  refine K1.okG D.F scLa (fun vs H Q E h => ?_) (fun cdv A outer s H vs Q E hr hgd h => ?_)
  · obtain ⟨a, ns, rfl, _⟩ := h
    rfl
  · obtain ⟨a, ns, rfl, hS, hn, qq⟩ := h
    have B := dn.B
    have TM := dn.T
    obtain ⟨fI, fdI, MI, BI, GI⟩ := dn.mach
    obtain ⟨fL, fdL, DL, GL⟩ := dn.led
    obtain ⟨fB, fdB, DB, GB⟩ := hB
    obtain ⟨fTg, fdTg, DTg, GTg⟩ := hTg
    obtain ⟨fAl, fdAl, DAl, GAl⟩ := hAl
    obtain ⟨fFa, fdFa, DFa, GFa⟩ := hFa
    have r1 := hr.mono (show 1 ≤ 10 by decide)
    have r4 := hr.mono (show 4 ≤ 10 by decide)
    have r7 := hr.mono (show 7 ≤ 10 by decide)
    have r9 := hr.mono (show 9 ≤ 10 by decide)
    obtain ⟨tt, htt, qt⟩ := law_turn (P := P) (w := w) (base := base) (outer := outer) (s := s) (f := f) (cdv := cdv) (H₀ := H) (E := E) hr dn DB GB
    refine ⟨_, pss_cons (ps_set (i := 1) scLa.nd rfl (.inl rfl) (pc DB GB r1 pass0 (pa_cons (pv 0) (pa_cons pe_int pa_nil))))
      (pss_cons (ps_set (i := 2) scLa.nd rfl (.inl rfl) (pc DTg GTg r4 pass0 (pa_cons (pv 1) pa_nil)))
      (pss_cons (ps_asg (pe_tup (pa_cons (pe_make MI GI r7 rfl TM.g BI .nil passF (pa_cons (pv 2) pa_nil)) (pa_cons pe_int (pa_cons (pe_lst pa_nil) (pa_cons (pe_lst pa_nil) pa_nil))))) (pg_tup rfl (pgs_cons (pg_name (i := 3) scLa.nd rfl (.inl rfl)) (pgs_cons (pg_name (i := 4) scLa.nd rfl (.inl rfl)) (pgs_cons (pg_name (i := 5) scLa.nd rfl (.inl rfl)) (pgs_cons (pg_name (i := 6) scLa.nd rfl (.inl rfl)) pgs_nil))))))
      (pss_cons (ps_for PassesOwn.never rfl (pi_range2 (by rfl) B.range (pa_cons pe_int (pa_cons (pe_callB (call_max2 rfl) (by rfl) B.max (by decide +kernel) (pa_cons pe_int (pa_cons (pe_callB (call_min2 rfl) (by rfl) B.min (by decide +kernel) (pa_cons (pe_callB (clen (K := K) rfl) (by rfl) B.len PySem.boot_len (pa_cons (pv 0) pa_nil)) (pa_cons pe_int pa_nil))) pa_nil))) pa_nil))) (pg_name (i := 7) scLa.nd rfl (.inl rfl)) htt)
      (pss_cons (ps_if (pt_cmpR op_ne (pv 4) (pc DL GL r1 pass0 (pa_cons (pv 2) (pa_cons pe_int (pa_cons (pv 5) pa_nil)))) (nomark _)) (pss_one (ps_ret pe_bl)) pss_nil)
      (pss_one (ps_ret (pe_and (pc DAl GAl r9 pass0 (pa_cons (pv 1) (pa_cons (pv 3) (pa_cons (pv 2) pa_nil)))) (pe_and (pc DAl GAl r9 pass0 (pa_cons (pc DB GB r1 pass0 (pa_cons (pv 0) (pa_cons pe_int pa_nil))) (pa_cons (pv 3) (pa_cons (pv 2) pa_nil)))) (pe_one (pc DFa GFa r9 pass0 (pa_cons (pv 1) pa_nil))))))))))), ?_⟩
    refine ⟨_, rfl, a, ns, _, rfl, hS, hn, by decide, by decide, fun b H1 s1 nb bo => ?_⟩
    refine gn ?_
    dsimp only [List.set]
    refine ⟨_, rfl, b, rfl, bo, fun p ts H3 bx3 npb tl hW ht => ?_⟩
    refine gn ?_
    dsimp only [List.set]
    refine ⟨_, rfl, fun m dx hm hdx ne => ?_⟩
    have s0 : Same H3 (upd (upd H3 dx (.own m)) m (.ins M dx [])) := (same_new hdx).trans (same_new (by rw [upd_ne ne.symm]; exact hm))
    refine ⟨m, dx, _, _, rfl, upd_same, (tl.same s0).mv, fun z hz => (by rw [chk_wf hW] at hz; cases hz), fun _ ts' ets ta H5 k5 hM => ⟨rfl, ?_⟩⟩
    obtain rfl : vts ts = ts' := map_some (Option.some.inj ets)
    have s5 := mkS hm hdx k5
    have tl5 := tl.same s5
    clear k5 hm hdx s0
    have npb5 : ∀ c, H5 c = none → p ≠ c := fun c e => by
      obtain ⟨as0, h1, _⟩ := tl5
      exact ne_of_none h1 e
    refine ⟨by decide, fun S hS5 => ?_⟩
    have sA : Same H5 (upd H5 S (.lst [])) := same_new hS5
    refine ⟨by decide, fun hd hhd => ?_⟩
    have sB : Same H5 (upd (upd H5 S (.lst [])) hd (.lst [])) := sA.trans (same_new hhd)
    refine ⟨(by show 4 ≤ sizeLine; decide), fun q4 hq4 => ?_⟩
    have sC : Same H5 (upd (upd (upd H5 S (.lst [])) hd (.lst [])) q4 (.tup [.ref m, .int 0, .ref S, .ref hd])) := sB.trans (same_new hq4)
    refine ⟨q4, _, rfl, SqT.of upd_same, rfl, ?_⟩
    refine ⟨_, _, rfl, gn ⟨_, _, rfl, gn ⟨_, _, rfl, gn ⟨_, _, rfl, gn ⟨rfl, ?_⟩⟩⟩⟩⟩
    dsimp only [List.set]
    have hne : hd ≠ S := fun z => by rw [z, upd_same] at hhd; cases hhd
    have gS : (upd (upd (upd H5 S (.lst [])) hd (.lst [])) q4 (.tup [.ref m, .int 0, .ref S, .ref hd])) S = some (.lst []) := (same_new hq4) _ _ (by rw [upd_ne hne.symm]; exact upd_same)
    have gH : (upd (upd (upd H5 S (.lst [])) hd (.lst [])) q4 (.tup [.ref m, .int 0, .ref S, .ref hd])) hd = some (.lst []) := (same_new hq4) _ _ upd_same
    have hN0 : Hn (upd (upd (upd H5 S (.lst [])) hd (.lst [])) q4 (.tup [.ref m, .int 0, .ref S, .ref hd])) S hd [] [] [] [] := ⟨gS, gH, hne, rfl, rfl, List.nodup_nil, fun i a r x y w e => by cases e⟩
    have hM0 : Hm ts [] [] 0 := ⟨fun x hx => absurd hx (by simp), by simp, by simp, fun e he => absurd he (by simp)⟩
    have nab : (∀ H' : Hp, SqL K H' a (ns.map V.int)) ∨ a ≠ b := by
      rcases hS with (h | ⟨ob, h⟩) | h
      · exact .inr (ne_of_none h nb)
      · exact .inr (ne_of_none h nb)
      · exact .inl fun _ => .inr h
    have kept : ∀ o, H a = some o → H5 a = some o := fun o e => s5 _ _ (bx3.2 _ _ (s1 _ _ e) (ne_of_none e nb))
    have hSc : Scr K (upd (upd (upd H5 S (.lst [])) hd (.lst [])) q4 (.tup [.ref m, .int 0, .ref S, .ref hd])) a (ns.map V.int) S hd [] := Scr.of hS fun o e => ⟨sC _ _ (kept o e), ne_of_none (kept o e) hS5, ne_of_none (sA _ _ (kept o e)) hhd⟩
    have tl6 := tl5.same sC
    have hM6 := hM.same sC
    have bo6 : BoxO (upd (upd (upd H5 S (.lst [])) hd (.lst [])) q4 (.tup [.ref m, .int 0, .ref S, .ref hd])) b := (bx3.1.same s5).same sC
    generalize (upd (upd (upd H5 S (.lst [])) hd (.lst [])) q4 (.tup [.ref m, .int 0, .ref S, .ref hd])) = H6 at hN0 hSc tl6 hM6 bo6 ⊢
    clear gS gH sA sB sC hhd hq4 hS5 kept npb5
    refine ⟨_, rfl, a, _, rfl, .inl hSc.sq, _, _, rfl, _, _, rfl, _, _, rfl, ⟨by decide, by decide, ?_, ?_⟩, for_range (lo := 1) (fun i σ H' => ∃ S' story' as' rs' L' b' w7 w8 w9 w10 w11 w12 w13 w14, σ = [some (.ref a), some (.ref b'), some (.ref p), some (.ref m), some (.int (run ts 0 story')), some (.ref S'), some (.ref hd), w7, w8, w9, w10, w11, w12, w13, w14] ∧ Scr K H' a (ns.map V.int) S' hd as' ∧ TabL H' p (vts ts) ∧ MachAt M H' m ta (vts ts) ∧ Hn H' S' hd story' as' rs' L' ∧ Hm ts story' L' i ∧ BoxO H' b' ∧ p ≠ b' ∧ ((∀ H' : Hp, SqL K H' a (ns.map V.int)) ∨ a ≠ b')) ⟨S, [], [], [], [], b, _, _, _, _, _, _, _, _, rfl, hSc, tl6, hM6, hN0, hM0, bo6, npb, nab⟩ ?_ ?_⟩
    · rw [List.length_map]; split <;> split <;> omega
    · rw [List.length_map]; split <;> split <;> omega
    · rintro i σ H7 hi ⟨S', story', as', rs', L', b', w7, w8, w9, w10, w11, w12, w13, w14, rfl, hS7, tl7, hM7, hN7, hm7, bo7, npb7, nab7⟩
      refine gn ?_
      dsimp only [List.set]
      have hi60 : i ≤ 60 := by
        rw [List.length_map] at hi
        revert hi
        split <;> split <;> omega
      exact qt _ H7 a p m ta S' hd ns ts story' as' rs' L' i _ _ _ _ _ _ _ _ hS7 hn tl7 hW hM7 ht hN7 hm7 hi60 fun H' S2 story2 as2 rs2 L2_ x1 x8 x9 x10 x11 x12 x13 x14 y1 y2 y3 y4 y5 ⟨b2, e2, y6, y7, y8⟩ => ⟨S2, story2, as2, rs2, L2_, b2, some (.int (1 + (i : Int))), x8, x9, x10, x11, x12, x13, x14, by rw [e2], y1, y2, y3, y4, y5, y6, y7, y8⟩
    · rintro σ H7 ⟨S', story', as', rs', L', b', w7, w8, w9, w10, w11, w12, w13, w14, rfl, hS7, tl7, hM7, hN7, hm7, bo7, npb7, nab7⟩
      have s1' := hW.s1
      refine ⟨_, rfl, _, rfl, _, rfl, p, ts, 0, S', story', rfl, tl7, hW, ⟨by decide, by omega⟩, .inl hN7.hs, hm7.vs, neV rfl ⟨_, rfl, iteF (nxP ?_)⟩⟩
      refine ⟨_, rfl, _, rfl, _, rfl, b', m, p, ta, ts, rfl, bo7, tl7, npb7, hW, hM7, ht, fun H8 bx8 => ⟨true, rfl, ?_⟩⟩
      rw [if_pos rfl]
      have sq8 : SqL K H8 a (ns.map V.int) := by
        rcases hS7 with z | ⟨o, e, g, _⟩
        · exact z H8
        · rcases nab7 with z | n
          · exact z H8
          · have g8 := bx8.2 _ _ g n
            rcases e with rfl | ⟨ob, rfl⟩
            · exact SqL.of g8
            · exact .inl (.inr ⟨ob, g8⟩)
      refine ⟨_, rfl, a, ns, _, rfl, sq8, hn, by decide, by decide, fun c H9 s9 nc bc => ?_⟩
      have tl8 := tl7.bx npb7 bo7 bx8
      have tl9 := tl8.same s9
      have npc : p ≠ c := by
        obtain ⟨as0, h1, _⟩ := tl8
        exact ne_of_none h1 nc
      have hM9 := (hM7.bx bo7 bx8).same s9
      refine ⟨_, rfl, _, rfl, c, m, p, ta, ts, rfl, bc, tl9, npc, hW, hM9, ht, fun H10 bx10 => ⟨true, rfl, ?_⟩⟩
      rw [if_pos rfl]
      have nb'c : b' ≠ c := by
        obtain ⟨x, y, e⟩ := bx8.1
        exact ne_of_none e nc
      have bo10 : BoxO H10 b' := by
        obtain ⟨x, y, e⟩ := bx8.1
        exact ⟨x, y, bx10.2 _ _ (s9 _ _ e) nb'c⟩
      exact ⟨_, rfl, b', rfl, bo10, fun H11 => qq H11⟩
end
end K1
namespace K1
open PySem PySem.Spec PyProof.Rows L2
/-- the caller's call of a law that is told where nothing is being shown; some tables of code objects stand by -/
theorem call_laws {P : Program} {w : World} {K : PySem.W.Frag} {mg mb : Str → Option Value} {k : Nat} {fa a : Addr} (Ps : List (Addr × Addr)) {fd : FuncData} {x : Str} {sp : Sp} {s : Shared} {vs : List Value} {ns : List Int}
    (KX : K.In s.heap) (hmg : s.heap.Ns mainGlobals mg) (hmb : s.heap.Ns builtinsNs mb) (hbb : ∀ x : Str, x ≠ "__name__" → mb x = bootBuiltins x) (hlim : s.heap.NoLimit) (hg : s.gens = #[])
    (hPs : ∀ p ∈ Ps, s.heap.get? p.2 = some { cls := .none, data := .fields #[] } ∧ K.lookup p.2 = none ∧ PySem.W.CodeHd s.heap p.1 p.2)
    (hbm : ∃ (bm : Addr) (ob : Obj), mg "__builtins__" = some (.ref bm) ∧ bm ≠ builtinsNs ∧ s.heap.get? bm = some ob ∧ ob.cls = .type "module" ∧ ob.dict = some builtinsNs ∧ ob.data = .plain)
    (ha : s.heap.get? a = some { cls := .type "list", data := .seq vs.toArray }) (hi : IntsAre vs ns) (hl : ns.length ≤ sizeLine) (hr : Room k callerA)
    (F : ∀ base : Heap, K.In base → base.Ns mainGlobals mg → (∀ p ∈ Ps, LamX.TabB base mg p.1 p.2) → FnG P w K mg base k fa fd [x] sp) (hbind : ∀ (s : Shared) (u : Value), BindsTo s fd ⟨[u], []⟩ [(x, u)])
    (hsp : ∀ H : Hp, (∀ p ∈ Ps, H p.2 = some (.tbl #[])) → SqL K H a (ns.map V.int) → sp [.ref a] H (fun v _ => v = .bl true) fun _ _ _ => False) :
    codeAny (model P w) callerA (.call (.ref fa) ⟨[.ref a], []⟩) (fun r s' => r = .ok (.ret (.bool true)) ∧ OldK s.heap s'.heap ∧ s'.os = s.os ∧ AllBare s'.gens) s := by
  have hTS : ∀ b, b ∈ Ps.map (·.2) → s.heap.get? b = some { cls := .none, data := .fields #[] } ∧ K.lookup b = none ∧ ∃ c, PySem.W.CodeHd s.heap c b := fun b hb => by
    obtain ⟨p, hp, rfl⟩ := List.mem_map.mp hb
    obtain ⟨h1, h2, h3⟩ := hPs p hp
    exact ⟨h1, h2, _, h3⟩
  generalize hTSd : Ps.map (·.2) = TS at hTS
  have inTS : ∀ p ∈ Ps, p.2 ∈ TS := fun p hp => by rw [← hTSd]; exact List.mem_map.mpr ⟨p, hp, rfl⟩
  have nPa : ∀ b ∈ TS, b ≠ a := fun b hb z => by
    have hT := (hTS b hb).1
    rw [z, ha] at hT
    cases Option.some.inj hT
  -- told of any way to follow the script
  have told : ∀ H : Hp, (∀ b ∈ TS, H b = some (.tbl #[])) → (∀ b, b ∉ TS → H b = none ∨ (b = a ∧ K.lookup a = none ∧ ∃ o xs, H a = some (.frz o (.lst xs)))) → SqL K H a (ns.map V.int) → HOk P w H s.heap →
      codeAny (model P w) callerA (.call (.ref fa) ⟨[.ref a], []⟩) (fun r s' => r = .ok (.ret (.bool true)) ∧ OldK s.heap s'.heap ∧ s'.os = s.os ∧ AllBare s'.gens) s := by
    intro H hP hO hS hok
    have out : ∀ {b : Addr} {o : Obj}, s.heap.get? b = some o → b ∉ TS → b ≠ a → (hidT s.heap H).get? b = some o := fun {b o} e n1 n2 => hidT_get e ((hO b n1).resolve_right fun z => n2 z.1)
    have neD : ∀ {b : Addr} {o : Obj}, s.heap.get? b = some o → (∀ v n, o.data ≠ .seq v n) → (o.data ≠ .fields #[]) → b ∉ TS ∧ b ≠ a := fun {b o} e h1 h2 => ⟨fun z => by
      have hT := (hTS b z).1
      rw [hT] at e
      cases Option.some.inj e
      exact h2 rfl, fun z => by
      rw [z, ha] at e
      cases Option.some.inj e
      exact h1 _ _ rfl⟩
    have ns_ : ∀ {b : Addr} {m : Str → Option Value}, s.heap.Ns b m → (hidT s.heap H).Ns b m := fun {b m} ⟨o, es, ep, e, d, r⟩ => by
      have n := neD e (fun v n z => by rw [d] at z; cases z) (fun z => by rw [d] at z; cases z)
      exact ⟨o, es, ep, out e n.1 n.2, d, r⟩
    have kin : K.In (hidT s.heap H) := fun b o e => by
      refine hidT_get (KX b o e) ?_
      by_cases z : b ∈ TS
      · rw [(hTS b z).2.1] at e; cases e
      · refine (hO b z).resolve_right fun ⟨z1, z2, _⟩ => ?_
        rw [z1, z2] at e
        cases e
    have hM : L2.Mod K mg (hidT s.heap H) := ⟨kin, ns_ hmg, ⟨mb, ns_ hmb, hbb⟩, let ⟨mc, h1, h2⟩ := hlim; ⟨mc, ns_ h1, h2⟩⟩
    have TB : ∀ p ∈ Ps, LamX.TabB (hidT s.heap H) mg p.1 p.2 := fun p hp => by
      obtain ⟨hT, nT, hC⟩ := hPs p hp
      refine ⟨?_, ?_, fun z => ?_⟩
      · obtain ⟨o, us, file, tf, flags, tg, inF, text, tt, e, e2, e3, r⟩ := hC
        have n := neD e (fun v n z => by rw [e3] at z; cases z) (fun z => by
          rw [e3] at z
          cases z
          have := r.1
          simp at this)
        exact ⟨o, us, file, tf, flags, tg, inF, text, tt, out e n.1 n.2, e2, e3, r⟩
      · obtain ⟨bm, ob, b1, b2, b3, b4, b5, b6⟩ := hbm
        have n := neD b3 (fun v n z => by rw [b6] at z; cases z) (fun z => by rw [b6] at z; cases z)
        refine ⟨bm, ob, b1, b2, fun z => ?_, fun z => n.1 (by rw [z]; exact inTS p hp), out b3 n.1 n.2, b4, b5, b6⟩
        obtain ⟨o, es, ep, e, d, _⟩ := hmg
        rw [z, e] at b3
        cases Option.some.inj b3
        rw [d] at b6
        cases b6
      · obtain ⟨o, es, ep, e, d, _⟩ := hmg
        rw [z, hT] at e
        cases Option.some.inj e
        cases d
    have e0 : Env0 P w K mg (hidT s.heap H) callerA [] s H := ⟨rfl, hM, fun b o e => of_hidT e, Nat.le_of_eq (hidT_size _ _), trivial, fun b hb => absurd (show b ∈ ([] : List Addr) from hb) (by simp), hok, .of_eq hg⟩
    refine codeAny_mono ((F _ kin (ns_ hmg) TB).run callerA [] s H ⟨[.ref a], []⟩ [.ref a] [.ref a] _ _ hr rfl e0 (hbind s (.ref a)) (.cons rfl .nil) (hsp H (fun p hp => hP _ (inTS p hp)) hS)) fun r s' h => ?_
    cases r with
    | error e => exact (show False from h).elim
    | ok fl =>
      cases fl with
      | next => exact False.elim h
      | brk => exact False.elim h
      | cont => exact False.elim h
      | ret u =>
        obtain ⟨v, H', os, bare, un, hok', r', q⟩ := h
        obtain rfl : v = V.bl true := q
        obtain rfl : u = Value.bool true := r'
        have hm' : ∀ b ∈ TS, ∃ more, s'.heap.get? b = some { cls := .none, data := .fields more } := fun b hb => by
          obtain ⟨more, hm⟩ := un.tbls b #[] (hP b hb)
          have z := hok' b _ hm
          rw [Array.empty_append] at z
          exact ⟨more, z⟩
        have rest : ∀ b o, b ∉ TS → s.heap.get? b = some o → s'.heap.get? b = some o := fun b o n e => by
          rcases hO b n with z | ⟨z, _, ob, xs, hf⟩
          · exact un.keep b o e z (fun w => absurd (show b ∈ ([] : List Addr) from w) (by simp)) (by simp)
          · rw [z] at e ⊢
            have e1 := (hok a _ hf).1
            rw [e] at e1
            rw [Option.some.inj e1]
            exact (hok' a _ (un.frzs a ob _ hf)).1
        refine ⟨rfl, ⟨fun b o e => ?_, fun b o e => ?_⟩, os, bare⟩
        · by_cases z : b ∈ TS
          · obtain ⟨hT, _, c, hC⟩ := hTS b z
            obtain ⟨more, hm⟩ := hm' b z
            rw [hT] at e
            cases Option.some.inj e
            exact .inr (.inl ⟨(hC.tab hT).isCodeTable, rfl, #[], more, rfl, by rw [Array.empty_append]; exact hm⟩)
          · exact .inl (rest b o z e)
        · by_cases z : b ∈ TS
          · obtain ⟨more, hm⟩ := hm' b z
            exact ⟨_, hm⟩
          · exact ⟨o, rest b o z e⟩
  have rv := vals_ints hi
  have naTS : a ∉ TS := fun z => nPa a z rfl
  cases hk : K.lookup a with
  | some o =>
    have e := KX a o hk
    rw [ha] at e
    cases Option.some.inj e
    refine told (fun b => if b ∈ TS then some (.tbl #[]) else none) (fun b hb => if_pos hb) (fun b n => .inl (if_neg n)) (.inr ⟨_, vs.toArray, _, hk, rfl, rfl, rfl, by rw [List.size_toArray, hi.length]; exact hl, by simpa using rv⟩) fun b u z => ?_
    by_cases n : b ∈ TS
    · have z' : some (HO.tbl #[]) = some u := (if_pos n).symm.trans z
      cases z'
      exact (hTS b n).1
    · have z' : (none : Option HO) = some u := (if_neg n).symm.trans z
      cases z'
  | none =>
    refine told (fun b => if b ∈ TS then some (.tbl #[]) else if b = a then some (.frz { cls := .type "list", data := .seq vs.toArray } (.lst (ns.map V.int))) else none) (fun b hb => if_pos hb) (fun b n => ?_) (.inl (.inr ⟨_, (if_neg naTS).trans (if_pos rfl)⟩)) fun b u z => ?_
    · by_cases n2 : b = a
      · exact .inr ⟨n2, hk, _, _, (if_neg naTS).trans (if_pos rfl)⟩
      · exact .inl ((if_neg n).trans (if_neg n2))
    · by_cases n : b ∈ TS
      · have z' : some (HO.tbl #[]) = some u := (if_pos n).symm.trans z
        cases z'
        exact (hTS b n).1
      · by_cases n2 : b = a
        · have z' := ((if_neg n).trans (if_pos n2)).symm.trans z
          cases z'
          rw [n2]
          exact ⟨ha, by rw [List.length_map]; exact hl, vs, _, rv, ha⟩
        · have z' := ((if_neg n).trans (if_neg n2)).symm.trans z
          cases z'
end K1
namespace K1
open PySem PySem.Spec PyProof.Rows L2
/-- what the top has left -/
structure Tp (K : PySem.W.Frag) (mg : Str → Option Value) (M CM CS CU fa : Addr) (fd : FuncData) : Prop where
  B : Bt mg
  ct : Ct mg
  whole : ∃ f fd, Df K mg "is_whole" sWhole ["value"] f fd
  below : ∃ f fd, Df K mg "is_below" sBelow ["value", "limit"] f fd
  seq : ∃ f fd, Df K mg "is_sequence" sSeq ["value", "least", "most"] f fd
  fnb : ∃ f fd, Df K mg "first_not_below" sFnb ["items", "limit"] f fd
  istab : ∃ f fd, Df K mg "is_table" sIsTab ["value", "states"] f fd
  chk : ∃ f fd, Df K mg "checked_tables" sChk ["value"] f fd
  needS : ∃ f fd, Df K mg "need_state" sNeedS ["machine", "state"] f fd
  first : ∃ f fd, DfF K mg f fd
  needSs : ∃ f fd, Df K mg "need_states" sNeedSs ["machine", "states"] f fd
  joined : ∃ f fd, Df K mg "joined" sJoined ["machine", "archive", "here", "there"] f fd
  join : ∃ f fd, Df K mg "join" sJoin ["machine", "archive", "here", "there"] f fd
  jall : ∃ f fd, Df K mg "joined_all" sJAll ["machine", "archive", "states"] f fd
  box : ∃ f fd, Df K mg "_law_box" sBox ["_law_script", "_law_k"] f fd
  take : ∃ f fd, Df K mg "_law_take" sTake ["_law_box_here", "_law_many"] f fd
  pick : ∃ f fd, Df K mg "_law_pick" sPick ["_law_box_here", "_law_some"] f fd
  tabs : ∃ f fd, Df K mg "_law_tables" sTabs ["_law_box_here", "_law_most"] f fd
  maps : ∃ f fd, Df K mg "_law_maps" sMaps ["_law_tables_here"] f fd
  ltells : ∃ f fd, Df K mg "_law_tells" sLTells ["_law_tables_here", "_law_maps_here", "_law_state"] f fd
  ltelling : ∃ f fd, Df K mg "_law_telling" sLTelling ["_law_box_here"] f fd
  lled : ∃ f fd, Df K mg "_law_led" sLLed ["_law_tables_here", "_law_state", "_law_row"] f fd
  all : ∃ f fd, Df K mg "_law_all_right" sAll ["_law_box_here", "_law_machine", "_law_tables_here"] f fd
  faults : ∃ f fd, Df K mg "_law_faults_right" sFaults ["_law_box_here"] f fd
  law : Df K mg "law" sLaw ["_law_script"] fa fd
  lawb : ∀ (s : Shared) (u : Value), BindsTo s fd ⟨[u], []⟩ [("_law_script", u)]
  init : ∃ f fd, Fun K "__init__" "Machine.__init__" sMInit f fd ∧ Mk K M f ∧ Binds K fd ["self", "tables"] []
  T : McT K mg M
  t1 : ∃ q b i, LAt.Txt K mg "BadMachine" q b CM i
  t3 : ∃ q b i, LState.Txt K mg "NoState" q b CS i
  g3 : mg "NoState" = some (.ref CS)
  u : UnC K mg CU
  ui : ∃ f fd, Fun K "__init__" "Untold.__init__" sUInit f fd ∧ PySem.W.findIn K (.ref CU) "__init__" = some (some (.ref f)) ∧ PySem.W.typeIn K (.ref f) = some (.type "function") ∧ Binds K fd ["self", "archive", "here", "there"] []
  ess : PySem.W.exmOne K (.ref CS) (.ref CS) = some true
  euu : PySem.W.exmOne K (.ref CU) (.ref CU) = some true
section
variable {P : Program} {w : World} {K : PySem.W.Frag} {mg : Str → Option Value} {base : Heap}
theorem asm {M CM CS CU fa : Addr} {fd : FuncData} (t : Tp K mg M CM CS CU fa fd) : FnG P w K mg base 11 fa fd ["_law_script"] (spLaw K) := by
  have B := t.B
  have ct := t.ct
  have T := t.T
  obtain ⟨_, _, dWhole⟩ := t.whole
  obtain ⟨_, _, dBelow⟩ := t.below
  obtain ⟨_, _, dSeq⟩ := t.seq
  obtain ⟨_, _, dFnb⟩ := t.fnb
  obtain ⟨_, _, dIstab⟩ := t.istab
  obtain ⟨_, _, dChk⟩ := t.chk
  obtain ⟨_, _, dNeedS⟩ := t.needS
  obtain ⟨_, _, dFirst⟩ := t.first
  obtain ⟨_, _, dNeedSs⟩ := t.needSs
  obtain ⟨_, _, dJoined⟩ := t.joined
  obtain ⟨_, _, dJoin⟩ := t.join
  obtain ⟨_, _, dJall⟩ := t.jall
  obtain ⟨_, _, dBox⟩ := t.box
  obtain ⟨_, _, dTake⟩ := t.take
  obtain ⟨_, _, dPick⟩ := t.pick
  obtain ⟨_, _, dTabs⟩ := t.tabs
  obtain ⟨_, _, dMaps⟩ := t.maps
  obtain ⟨_, _, dLtells⟩ := t.ltells
  obtain ⟨_, _, dLtelling⟩ := t.ltelling
  obtain ⟨_, _, dLled⟩ := t.lled
  obtain ⟨_, _, dAll⟩ := t.all
  obtain ⟨_, _, dFaults⟩ := t.faults
  obtain ⟨_, _, fInit, mk, bInit⟩ := t.init
  obtain ⟨_, _, fUi, iC, tI, bUi⟩ := t.ui
  obtain ⟨_, _, _, x1⟩ := id t.t1
  obtain ⟨_, _, _, x3⟩ := id t.t3
  have gWhole := ok_whole (P := P) (w := w) (base := base) dWhole B
  have gBelow := ok_below (P := P) (w := w) (base := base) dBelow dWhole B
  have gSeq := ok_seq (P := P) (w := w) (base := base) dSeq B
  have gFnb := ok_fnb (P := P) (w := w) (base := base) dFnb dBelow B gBelow
  have gIstab := ok_istab (P := P) (w := w) (base := base) dIstab dSeq dFnb gSeq gFnb
  have gChk := ok_chk (P := P) (w := w) (base := base) dChk dSeq dIstab B ct x1 gSeq gIstab
  have gInit := ok_minit (P := P) (w := w) (base := base) fInit dChk B T gChk
  have gNeedS := ok_needS (P := P) (w := w) (base := base) dNeedS dBelow T x3 gBelow
  have gFirst := ok_first (P := P) (w := w) (base := base) dFirst B T
  have gNeedSs := ok_needSs (P := P) (w := w) (base := base) dNeedSs dNeedS gNeedS
  have gUi := ok_uinit (P := P) (w := w) (base := base) fUi t.u
  have gJoined := ok_joined (P := P) (w := w) (base := base) dJoined dFirst t.u B iC tI bUi gUi gFirst
  have gJoin := ok_join (P := P) (w := w) (base := base) (CU := CU) dJoin dNeedSs dJoined gNeedSs gJoined
  have gJall := ok_jall (P := P) (w := w) (base := base) (CU := CU) dJall dNeedS dJoined gNeedS gJoined
  have gTake := ok_take (P := P) (w := w) (base := base) dTake B
  have gPick := ok_pick (P := P) (w := w) (base := base) dPick dTake B gTake
  have gBox := ok_box (P := P) (w := w) (base := base) dBox B
  have gTabs := ok_tabs (P := P) (w := w) (base := base) dTabs dTake dPick B gTake gPick
  have gMaps := ok_maps (P := P) (w := w) (base := base) dMaps B
  have gLtells := ok_ltells (P := P) (w := w) (base := base) dLtells B
  have gLtelling := ok_ltelling (P := P) (w := w) (base := base) dLtelling dTabs dMaps dLtells dPick B gTabs gMaps gLtells gPick
  have gLled := ok_lled (P := P) (w := w) (base := base) dLled
  have dn : Da P w K mg base M CM CS CU := ⟨B, T, ⟨_, _, mk, bInit, gInit⟩, ⟨_, _, dTake, gTake⟩, ⟨_, _, dPick, gPick⟩, ⟨_, _, dJoin, gJoin⟩, ⟨_, _, dJall, gJall⟩, ⟨_, _, dLled, gLled⟩⟩
  have gAll := ok_all (P := P) (w := w) (base := base) dAll dn
  have gFaults := ok_faults (P := P) (w := w) (base := base) dFaults dn t.u t.g3 t.t3 t.ess t.euu
  exact ok_law t.law dn ⟨_, _, dBox, gBox⟩ ⟨_, _, dLtelling, gLtelling⟩ ⟨_, _, dAll, gAll⟩ ⟨_, _, dFaults, gFaults⟩
end
/-- the end: from what the top has left -/
theorem walkK {l : PySem.W.OpenLaw} {q : Program} {loose : List Str} {XP : (Str → Option Value) → Heap → Prop} {YP : World → Heap → Prop} {d : DefRec} {K : Params → PySem.W.Frag} (hn : l.most = some 63) (hdf : d.params.defaults = []) (hY : ∀ (w : World) (h : Heap), YP w h → (K w.params).In h)
    (F : ∀ (w : World) (mg : Str → Option Value) (fa : Addr) (h : Heap), (K w.params).In h → h.Ns mainGlobals mg → mg d.name = some (.ref fa) → ∃ (M CM CS CU : Addr) (fd : FuncData), Tp (K w.params) mg M CM CS CU fa fd) :
    PySem.W.WalkO q loose XP YP l.row.toRowW d [] (fun f vs => PySem.call f vs) := by
  refine Att.attach_callB hn hdf fun w s₀ s₁ mg mb fa o pm cd doc a vs ns G Y ho hd hcd hmg hobj hints hlen hbits hg => ?_
  have KX := hY w _ Y
  obtain ⟨M, CM, CS, CU, fd, t⟩ := F w mg fa _ KX G.T.g hmg
  exact call_laws (k := 11) [] (x := "_law_script") (sp := spLaw (K w.params)) KX G.T.g G.T.b G.T.builtins G.T.nolimit hg (fun p hp => absurd hp (by simp)) G.T.bmain hobj hints (Nat.le_trans hlen (by decide)) ⟨rfl, by decide, by decide⟩ (fun base _ _ _ => asm t) t.lawb
    fun H hP hS => ⟨a, ns, rfl, hS, hlen, fun _ => rfl⟩
end K1
namespace K1
open PySem PySem.Spec PyProof.Rows L2
section
variable {K : PySem.W.Frag} {h : Heap} {mg : Str → Option Value} {x qual : Str} {st : Stmt} {ps : List Str} {f C : Addr} {oc kV doc pm cdv ct : Value} {od an : Option Addr} {osl : Array (Option Value)}
theorem df_of (X : K.In h) (G : h.Ns mainGlobals mg) (a : PySem.W.nsIn K mainGlobals x = some (some (.ref f))) (l : K.lookup f = some ⟨oc, od, .func (PySem.W.fnOf x x (defArgs st) (defBody st) (defScope st) .none kV doc pm an cdv ct), osl⟩)
    (c : PySem.W.codeIn K cdv x = true) (k : PySem.W.keepIn K (.ref f) = true)
    (b : ∀ (kV doc pm : Value) (an : Option Addr) (cdv ct : Value) (us : List Value), us.length = ps.length → bindArgs (PySem.W.fnOf x x (defArgs st) (defBody st) (defScope st) .none kV doc pm an cdv ct) ⟨us, []⟩ = pure (ps.zip us)) : ∃ f fd, Df K mg x st ps f fd :=
  ⟨f, _, ⟨fun_mk l c k, PySem.W.mg_of X G a, (fun_mk l c k).binds b⟩⟩
theorem dfF_of {T : Addr} {o1 : Value} {o2 : Option Addr} {n : Nat} {o4 : Array (Option Value)} (X : K.In h) (G : h.Ns mainGlobals mg) (a : PySem.W.nsIn K mainGlobals "first_rows" = some (some (.ref f)))
    (l : K.lookup f = some ⟨oc, od, .func (PySem.W.fnOf "first_rows" "first_rows" (defArgs sFirst) (defBody sFirst) (defScope sFirst) (.ref T) kV doc pm an cdv ct), osl⟩)
    (c : PySem.W.codeIn K cdv "first_rows" = true) (k : PySem.W.keepIn K (.ref f) = true) (lT : K.lookup T = some ⟨o1, o2, .seq #[.none, .none] n, o4⟩) : ∃ f fd, DfF K mg f fd :=
  ⟨f, _, ⟨⟨⟨oc, od, .ref T, kV, doc, pm, an, cdv, ct, osl, rfl, l, c, .inr ⟨by simp, T, _, [.none, .none], n, rfl, lT, rfl, .cons rfl (.cons rfl .nil)⟩, .inl rfl⟩, k⟩, PySem.W.mg_of X G a⟩⟩
theorem law_of {fa : Addr} (X : K.In h) (G : h.Ns mainGlobals mg) (e : mg "law" = some (.ref fa)) (a : PySem.W.nsIn K mainGlobals "law" = some (some (.ref f))) (l : K.lookup f = some ⟨oc, od, .func (PySem.W.fnOf "law" "law" (defArgs sLaw) (defBody sLaw) (defScope sLaw) .none kV doc pm an cdv ct), osl⟩)
    (c : PySem.W.codeIn K cdv "law" = true) (k : PySem.W.keepIn K (.ref f) = true) : ∃ fd, Df K mg "law" sLaw ["_law_script"] fa fd ∧ ∀ (s : Shared) (u : Value), BindsTo s fd ⟨[u], []⟩ [("_law_script", u)] := by
  have z := e.symm.trans (PySem.W.mg_of X G a)
  cases Option.some.inj z
  exact ⟨_, ⟨fun_mk l c k, e, (fun_mk l c k).binds fun _ _ _ _ _ _ us hl => match us, hl with | [_], _ => rfl⟩, fun s u => .of_eq rfl⟩
theorem init_of {M : Addr} (a : PySem.W.findIn K (.ref M) "__init__" = some (some (.ref f))) (i : PySem.W.isFn K (.ref f) = true) (m : PySem.W.makesIn K M = true) (kM : PySem.W.keepIn K (.ref M) = true)
    (l : K.lookup f = some ⟨oc, od, .func (PySem.W.fnOf "__init__" "Machine.__init__" (defArgs sMInit) (defBody sMInit) (defScope sMInit) .none kV doc pm an cdv ct), osl⟩) (c : PySem.W.codeIn K cdv "Machine.__init__" = true) (k : PySem.W.keepIn K (.ref f) = true) :
    ∃ f fd, Fun K "__init__" "Machine.__init__" sMInit f fd ∧ Mk K M f ∧ Binds K fd ["self", "tables"] [] :=
  ⟨f, _, fun_mk l c k, ⟨m, a, i, kM⟩, (fun_mk l c k).binds fun _ _ _ _ _ _ us hl => match us, hl with | [_, _], _ => rfl⟩
theorem ui_of {CU : Addr} (a : PySem.W.findIn K (.ref CU) "__init__" = some (some (.ref f))) (i : PySem.W.typeIn K (.ref f) = some (.type "function"))
    (l : K.lookup f = some ⟨oc, od, .func (PySem.W.fnOf "__init__" "Untold.__init__" (defArgs sUInit) (defBody sUInit) (defScope sUInit) .none kV doc pm an cdv ct), osl⟩) (c : PySem.W.codeIn K cdv "Untold.__init__" = true) (k : PySem.W.keepIn K (.ref f) = true) :
    ∃ f fd, Fun K "__init__" "Untold.__init__" sUInit f fd ∧ PySem.W.findIn K (.ref CU) "__init__" = some (some (.ref f)) ∧ PySem.W.typeIn K (.ref f) = some (.type "function") ∧ Binds K fd ["self", "archive", "here", "there"] [] :=
  ⟨f, _, fun_mk l c k, a, i, (fun_mk l c k).binds fun _ _ _ _ _ _ us hl => match us, hl with | [_, _, _, _], _ => rfl⟩
end
section
variable {K : PySem.W.Frag} {h : Heap} {mg : Str → Option Value} {cn ql nm q : Str} {C N0 N fI : Addr} {bs sub : List Value} {sn : List Str} {ab : Bool} {col : Option Bool} {dd : Option Addr} {k0 k1 k2 k3 k5 : Option Value} {oc doc pm cdv ct : Value} {od an : Option Addr} {osl : Array (Option Value)} {p1 p2 q1 q2 q3 q4 : Pos}
theorem at_of_ (X : K.In h) (G : h.Ns mainGlobals mg) (a : PySem.W.nsIn K mainGlobals cn = some (some (.ref C))) (xl : K.lookup C = some (excClassObj nm q C N bs (.ref N0 :: veT) true sn sub ab col dd k0 k1 k2 k3 k5 "ValueError.__new__"))
    (sa : PySem.W.findIn K (.ref C) "__setattr__" = some (some (.builtin "object.__setattr__"))) (ga : PySem.W.findIn K (.ref C) "__getattribute__" = some (some (.builtin "BaseException.__getattribute__"))) (gg : PySem.W.findIn K (.ref C) "__getattr__" = some none) (no : PySem.W.findIn K (.ref C) "at" = some none)
    (ic : PySem.W.findIn K (.ref C) "__init__" = some (some (.ref fI))) (tc : PySem.W.typeIn K (.ref fI) = some (.type "function")) (kc : PySem.W.keepIn K (.ref C) = true) (ec : PySem.W.subIn K (.ref C) (.type "BaseException") = some true) (ty : PySem.W.typeIn K (.ref C) = some (.type "type")) (hc : PySem.W.hasDictIn K C = true)
    (l : K.lookup fI = some ⟨oc, od, .func (PySem.W.fnOf "__init__" ql (LAt.iA p1 p2) (LAt.iB q1 q2 q3 q4) LAt.iS .none .none doc pm an cdv ct), osl⟩) (c : PySem.W.codeIn K cdv ql = true) : ∃ q b i, LAt.Txt K mg cn q b C i :=
  ⟨ql, _, fI, ⟨PySem.W.mg_of X G a, ⟨nm, q, N, bs, sn, sub, ab, col, dd, k0, k1, k2, k3, k5, xl⟩, mro_ve N0, sa, ga, gg, no, ic, tc, kc, ec, ty, hc, ⟨oc, od, doc, pm, an, cdv, ct, osl, p1, p2, q1, q2, q3, q4, l, c⟩⟩⟩
theorem state_of_ (X : K.In h) (G : h.Ns mainGlobals mg) (a : PySem.W.nsIn K mainGlobals cn = some (some (.ref C))) (xl : K.lookup C = some (excClassObj nm q C N bs keT true sn sub ab col dd k0 k1 k2 k3 k5 "LookupError.__new__"))
    (sa : PySem.W.findIn K (.ref C) "__setattr__" = some (some (.builtin "object.__setattr__"))) (ga : PySem.W.findIn K (.ref C) "__getattribute__" = some (some (.builtin "BaseException.__getattribute__"))) (gg : PySem.W.findIn K (.ref C) "__getattr__" = some none) (no : PySem.W.findIn K (.ref C) "state" = some none)
    (ic : PySem.W.findIn K (.ref C) "__init__" = some (some (.ref fI))) (tc : PySem.W.typeIn K (.ref fI) = some (.type "function")) (kc : PySem.W.keepIn K (.ref C) = true) (ec : PySem.W.subIn K (.ref C) (.type "BaseException") = some true) (ty : PySem.W.typeIn K (.ref C) = some (.type "type")) (hc : PySem.W.hasDictIn K C = true)
    (l : K.lookup fI = some ⟨oc, od, .func (PySem.W.fnOf "__init__" ql (LState.iA p1 p2) (LState.iB q1 q2 q3 q4) LState.iS .none .none doc pm an cdv ct), osl⟩) (c : PySem.W.codeIn K cdv ql = true) : ∃ q b i, LState.Txt K mg cn q b C i :=
  ⟨ql, _, fI, ⟨PySem.W.mg_of X G a, ⟨nm, q, N, bs, sn, sub, ab, col, dd, k0, k1, k2, k3, k5, xl⟩, mro_ke, sa, ga, gg, no, ic, tc, kc, ec, ty, hc, ⟨oc, od, doc, pm, an, cdv, ct, osl, p1, p2, q1, q2, q3, q4, l, c⟩⟩⟩
theorem un_of (X : K.In h) (G : h.Ns mainGlobals mg) (a : PySem.W.nsIn K mainGlobals "Untold" = some (some (.ref C))) (xl : K.lookup C = some (excClassObj nm q C N bs (.ref N0 :: veT) true sn sub ab col dd k0 k1 k2 k3 k5 "ValueError.__new__")) (rv : PySem.HandSPX.refsVE (.ref N0 :: veT) = true)
    (sa : PySem.W.findIn K (.ref C) "__setattr__" = some (some (.builtin "object.__setattr__"))) (ga : PySem.W.findIn K (.ref C) "__getattribute__" = some (some (.builtin "BaseException.__getattribute__"))) (gg : PySem.W.findIn K (.ref C) "__getattr__" = some none)
    (n1 : PySem.W.findIn K (.ref C) "archive" = some none) (n2 : PySem.W.findIn K (.ref C) "here" = some none) (n3 : PySem.W.findIn K (.ref C) "there" = some none)
    (kc : PySem.W.keepIn K (.ref C) = true) (ec : PySem.W.subIn K (.ref C) (.type "BaseException") = some true) (ty : PySem.W.typeIn K (.ref C) = some (.type "type")) (hc : PySem.W.hasDictIn K C = true) : UnC K mg C :=
  ⟨⟨⟨nm, q, N, bs, _, sn, sub, ab, col, dd, k0, k1, k2, k3, k5, xl, rv⟩, sa, ec, ty, kc⟩, n1, n2, n3, ⟨ga, gg, ec, hc⟩, PySem.W.mg_of X G a⟩
end
theorem ct_of {K : PySem.W.Frag} {h : Heap} {mg : Str → Option Value} {t1 t2 : Tok} (X : K.In h) (G : h.Ns mainGlobals mg) (a : PySem.W.nsIn K mainGlobals "MOST_TABLES" = some (some (.int 8 t1))) (b : PySem.W.nsIn K mainGlobals "MOST_STATES" = some (some (.int 12 t2))) : Ct mg :=
  ⟨⟨_, PySem.W.mg_of X G a⟩, ⟨_, PySem.W.mg_of X G b⟩⟩
theorem bt_of {K : PySem.W.Frag} {h : Heap} {mg : Str → Option Value} (X : K.In h) (G : h.Ns mainGlobals mg) (z : ∀ x ∈ ([("isinstance" : Str), "int", "bool", "list", "tuple", "len", "enumerate", "range", "sorted", "set", "repr", "abs", "min", "max"]), PySem.W.nsIn K mainGlobals x = some none) : Bt mg := by
  have n := fun x hx => PySem.W.mg_none_of X G (z x hx)
  exact ⟨n _ (by decide), n _ (by decide), n _ (by decide), n _ (by decide), n _ (by decide), n _ (by decide), n _ (by decide), n _ (by decide), n _ (by decide), n _ (by decide), n _ (by decide), n _ (by decide), n _ (by decide), n _ (by decide)⟩
/-- the facts of the head, by the words that k_is answers -/
theorem tp_of {K : PySem.W.Frag} {h : Heap} {mg : Str → Option Value} {fa M CM CS CU fN : Addr} {oc kV doc pm cdv ct : Value} {od an : Option Addr} {osl : Array (Option Value)} (X : K.In h) (G : h.Ns mainGlobals mg)
    (B : Bt mg) (c_ : Ct mg)
    (whole : ∃ f fd, Df K mg "is_whole" sWhole ["value"] f fd)
    (below : ∃ f fd, Df K mg "is_below" sBelow ["value", "limit"] f fd)
    (seq : ∃ f fd, Df K mg "is_sequence" sSeq ["value", "least", "most"] f fd)
    (fnb : ∃ f fd, Df K mg "first_not_below" sFnb ["items", "limit"] f fd)
    (istab : ∃ f fd, Df K mg "is_table" sIsTab ["value", "states"] f fd)
    (chk : ∃ f fd, Df K mg "checked_tables" sChk ["value"] f fd)
    (needS : ∃ f fd, Df K mg "need_state" sNeedS ["machine", "state"] f fd)
    (first : ∃ f fd, DfF K mg f fd)
    (needSs : ∃ f fd, Df K mg "need_states" sNeedSs ["machine", "states"] f fd)
    (joined : ∃ f fd, Df K mg "joined" sJoined ["machine", "archive", "here", "there"] f fd)
    (join : ∃ f fd, Df K mg "join" sJoin ["machine", "archive", "here", "there"] f fd)
    (jall : ∃ f fd, Df K mg "joined_all" sJAll ["machine", "archive", "states"] f fd)
    (box : ∃ f fd, Df K mg "_law_box" sBox ["_law_script", "_law_k"] f fd)
    (take : ∃ f fd, Df K mg "_law_take" sTake ["_law_box_here", "_law_many"] f fd)
    (pick : ∃ f fd, Df K mg "_law_pick" sPick ["_law_box_here", "_law_some"] f fd)
    (tabs : ∃ f fd, Df K mg "_law_tables" sTabs ["_law_box_here", "_law_most"] f fd)
    (maps : ∃ f fd, Df K mg "_law_maps" sMaps ["_law_tables_here"] f fd)
    (ltells : ∃ f fd, Df K mg "_law_tells" sLTells ["_law_tables_here", "_law_maps_here", "_law_state"] f fd)
    (ltelling : ∃ f fd, Df K mg "_law_telling" sLTelling ["_law_box_here"] f fd)
    (lled : ∃ f fd, Df K mg "_law_led" sLLed ["_law_tables_here", "_law_state", "_law_row"] f fd)
    (all : ∃ f fd, Df K mg "_law_all_right" sAll ["_law_box_here", "_law_machine", "_law_tables_here"] f fd)
    (faults : ∃ f fd, Df K mg "_law_faults_right" sFaults ["_law_box_here"] f fd)
    (eL : mg "law" = some (.ref fa)) (aN : PySem.W.nsIn K mainGlobals "law" = some (some (.ref fN))) (lN : K.lookup fN = some ⟨oc, od, .func (PySem.W.fnOf "law" "law" (defArgs sLaw) (defBody sLaw) (defScope sLaw) .none kV doc pm an cdv ct), osl⟩)
    (cN : PySem.W.codeIn K cdv "law" = true) (kN : PySem.W.keepIn K (.ref fN) = true)
    (aM : PySem.W.nsIn K mainGlobals "Machine" = some (some (.ref M))) (pg : PySem.W.plainGet K M Str.empty = true) (hd : PySem.W.hasDictIn K M = true) (po : PySem.W.plainOver K M = true) (sa : PySem.W.findIn K (.ref M) "__setattr__" = some (some (.builtin "object.__setattr__")))
    (n1 : PySem.W.findIn K (.ref M) "tables" = some Option.none) (n2 : PySem.W.findIn K (.ref M) "deeds" = some Option.none) (n3 : PySem.W.findIn K (.ref M) "states" = some Option.none)
    (ca : PySem.W.findIn K (.ref M) "__class__" = some (some (.builtin "object.__class__"))) (sp : PySem.W.specialIn K (.builtin "object.__class__") "__get__" = some (some (.builtin "getset_descriptor.__get__"))) (tk : PySem.W.takesIn K (.builtin "object.__class__") = some true) (mo : PySem.W.mroIn K M (.type "object") = some true)
    (init : ∃ f fd, Fun K "__init__" "Machine.__init__" sMInit f fd ∧ Mk K M f ∧ Binds K fd ["self", "tables"] [])
    (aCM : PySem.W.nsIn K mainGlobals "BadMachine" = some (some (.ref CM))) (aCS : PySem.W.nsIn K mainGlobals "NoState" = some (some (.ref CS)))
    (t1 : ∃ q b i, LAt.Txt K mg "BadMachine" q b CM i) (t3 : ∃ q b i, LState.Txt K mg "NoState" q b CS i)
    (u : UnC K mg CU)
    (ui : ∃ f fd, Fun K "__init__" "Untold.__init__" sUInit f fd ∧ PySem.W.findIn K (.ref CU) "__init__" = some (some (.ref f)) ∧ PySem.W.typeIn K (.ref f) = some (.type "function") ∧ Binds K fd ["self", "archive", "here", "there"] [])
    (ess : PySem.W.exmOne K (.ref CS) (.ref CS) = some true) (euu : PySem.W.exmOne K (.ref CU) (.ref CU) = some true) : ∃ (M CM CS CU : Addr) (fd : FuncData), Tp K mg M CM CS CU fa fd := by
  obtain ⟨fd, l1, l2⟩ := law_of X G eL aN lN cN kN
  exact ⟨M, CM, CS, CU, fd, ⟨B, c_, whole, below, seq, fnb, istab, chk, needS, first, needSs, joined, join, jall, box, take, pick, tabs, maps, ltells, ltelling, lled, all, faults, l1, l2, init, ⟨⟨pg, hd, po, sa⟩, n1, n2, n3, PySem.W.mg_of X G aM, ca, sp, tk, mo⟩, t1, t3, PySem.W.mg_of X G aCS, u, ui, ess, euu⟩⟩
end K1
open PySem PySem.W PyProof.Rows
set_option maxRecDepth 100000 in
set_option maxHeartbeats 0 in
theorem PySem.Challenge.cw_houseslessties_k09_whole_hands_that_come_holds : PySem.Challenge.rw_houseslessties_k09_whole_hands_that_come.Holds := by
  w_on; o_law; k_head; (case hw => w_witness2)
  k_fill
  refine K1.walkK (l := PySem.Challenge.rw_houseslessties_k09_whole_hands_that_come) rfl rfl (fun w h Y => PySem.W.kIn_of Y) ?F
  case F =>
    intro w mg fa h KX G hmg
    refine' K1.tp_of KX G ?B ?c_ ?zwhole ?zbelow ?zseq ?zfnb ?zistab ?zchk ?zneedS ?zfirst ?zneedSs ?zjoined ?zjoin ?zjall ?zbox ?ztake ?zpick ?ztabs ?zmaps ?zltells ?zltelling ?zlled ?zall ?zfaults hmg ?aN ?lN ?cN ?kN ?aM ?pg ?hd ?po ?sa ?n1 ?n2 ?n3 ?ca ?sp ?tk ?mo ?init ?aCM ?aCS ?t1 ?t3 ?u ?ui ?ess ?euu
    case B =>
      refine K1.bt_of KX G fun x hx => ?_
      simp only [List.mem_cons, List.mem_nil_iff, or_false] at hx
      rcases hx with rfl | rfl | rfl | rfl | rfl | rfl | rfl | rfl | rfl | rfl | rfl | rfl | rfl | rfl <;> k_is
    case c_ => refine' K1.ct_of KX G ?a_1 ?b_1; (case a_1 => k_is); (case b_1 => k_is)
    case zwhole =>
      (refine' K1.df_of (by assumption) (by assumption) ?a_2 ?l_2 ?c_2 ?k_2 ?b_2; (case a_2 => k_is); (case l_2 => k_is); (case c_2 => k_is); (case k_2 => k_is))
      case b_2 => exact fun _ _ _ _ _ _ us hl => match us, hl with | [_], _ => rfl
    case zbelow =>
      (refine' K1.df_of (by assumption) (by assumption) ?a_3 ?l_3 ?c_3 ?k_3 ?b_3; (case a_3 => k_is); (case l_3 => k_is); (case c_3 => k_is); (case k_3 => k_is))
      case b_3 => exact fun _ _ _ _ _ _ us hl => match us, hl with | [_, _], _ => rfl
    case zseq =>
      (refine' K1.df_of (by assumption) (by assumption) ?a_4 ?l_4 ?c_4 ?k_4 ?b_4; (case a_4 => k_is); (case l_4 => k_is); (case c_4 => k_is); (case k_4 => k_is))
      case b_4 => exact fun _ _ _ _ _ _ us hl => match us, hl with | [_, _, _], _ => rfl
    case zfnb =>
      (refine' K1.df_of (by assumption) (by assumption) ?a_5 ?l_5 ?c_5 ?k_5 ?b_5; (case a_5 => k_is); (case l_5 => k_is); (case c_5 => k_is); (case k_5 => k_is))
      case b_5 => exact fun _ _ _ _ _ _ us hl => match us, hl with | [_, _], _ => rfl
    case zistab =>
      (refine' K1.df_of (by assumption) (by assumption) ?a_6 ?l_6 ?c_6 ?k_6 ?b_6; (case a_6 => k_is); (case l_6 => k_is); (case c_6 => k_is); (case k_6 => k_is))
      case b_6 => exact fun _ _ _ _ _ _ us hl => match us, hl with | [_, _], _ => rfl
    case zchk =>
      (refine' K1.df_of (by assumption) (by assumption) ?a_7 ?l_7 ?c_7 ?k_7 ?b_7; (case a_7 => k_is); (case l_7 => k_is); (case c_7 => k_is); (case k_7 => k_is))
      case b_7 => exact fun _ _ _ _ _ _ us hl => match us, hl with | [_], _ => rfl
    case zneedS =>
      (refine' K1.df_of (by assumption) (by assumption) ?a_8 ?l_8 ?c_8 ?k_8 ?b_8; (case a_8 => k_is); (case l_8 => k_is); (case c_8 => k_is); (case k_8 => k_is))
      case b_8 => exact fun _ _ _ _ _ _ us hl => match us, hl with | [_, _], _ => rfl
    case zfirst => (refine' K1.dfF_of (by assumption) (by assumption) ?a_9 ?l_9 ?c_9 ?k_9 ?lT_9; (case a_9 => k_is); (case l_9 => k_is); (case c_9 => k_is); (case k_9 => k_is); (case lT_9 => k_is))
    case zneedSs =>
      (refine' K1.df_of (by assumption) (by assumption) ?a_10 ?l_10 ?c_10 ?k_10 ?b_10; (case a_10 => k_is); (case l_10 => k_is); (case c_10 => k_is); (case k_10 => k_is))
      case b_10 => exact fun _ _ _ _ _ _ us hl => match us, hl with | [_, _], _ => rfl
    case zjoined =>
      (refine' K1.df_of (by assumption) (by assumption) ?a_11 ?l_11 ?c_11 ?k_11 ?b_11; (case a_11 => k_is); (case l_11 => k_is); (case c_11 => k_is); (case k_11 => k_is))
      case b_11 => exact fun _ _ _ _ _ _ us hl => match us, hl with | [_, _, _, _], _ => rfl
    case zjoin =>
      (refine' K1.df_of (by assumption) (by assumption) ?a_12 ?l_12 ?c_12 ?k_12 ?b_12; (case a_12 => k_is); (case l_12 => k_is); (case c_12 => k_is); (case k_12 => k_is))
      case b_12 => exact fun _ _ _ _ _ _ us hl => match us, hl with | [_, _, _, _], _ => rfl
    case zjall =>
      (refine' K1.df_of (by assumption) (by assumption) ?a_13 ?l_13 ?c_13 ?k_13 ?b_13; (case a_13 => k_is); (case l_13 => k_is); (case c_13 => k_is); (case k_13 => k_is))
      case b_13 => exact fun _ _ _ _ _ _ us hl => match us, hl with | [_, _, _], _ => rfl
    case zbox =>
      (refine' K1.df_of (by assumption) (by assumption) ?a_14 ?l_14 ?c_14 ?k_14 ?b_14; (case a_14 => k_is); (case l_14 => k_is); (case c_14 => k_is); (case k_14 => k_is))
      case b_14 => exact fun _ _ _ _ _ _ us hl => match us, hl with | [_, _], _ => rfl
    case ztake =>
      (refine' K1.df_of (by assumption) (by assumption) ?a_15 ?l_15 ?c_15 ?k_15 ?b_15; (case a_15 => k_is); (case l_15 => k_is); (case c_15 => k_is); (case k_15 => k_is))
      case b_15 => exact fun _ _ _ _ _ _ us hl => match us, hl with | [_, _], _ => rfl
    case zpick =>
      (refine' K1.df_of (by assumption) (by assumption) ?a_16 ?l_16 ?c_16 ?k_16 ?b_16; (case a_16 => k_is); (case l_16 => k_is); (case c_16 => k_is); (case k_16 => k_is))
      case b_16 => exact fun _ _ _ _ _ _ us hl => match us, hl with | [_, _], _ => rfl
    case ztabs =>
      (refine' K1.df_of (by assumption) (by assumption) ?a_17 ?l_17 ?c_17 ?k_17 ?b_17; (case a_17 => k_is); (case l_17 => k_is); (case c_17 => k_is); (case k_17 => k_is))
      case b_17 => exact fun _ _ _ _ _ _ us hl => match us, hl with | [_, _], _ => rfl
    case zmaps =>
      (refine' K1.df_of (by assumption) (by assumption) ?a_18 ?l_18 ?c_18 ?k_18 ?b_18; (case a_18 => k_is); (case l_18 => k_is); (case c_18 => k_is); (case k_18 => k_is))
      case b_18 => exact fun _ _ _ _ _ _ us hl => match us, hl with | [_], _ => rfl
    case zltells =>
      (refine' K1.df_of (by assumption) (by assumption) ?a_19 ?l_19 ?c_19 ?k_19 ?b_19; (case a_19 => k_is); (case l_19 => k_is); (case c_19 => k_is); (case k_19 => k_is))
      case b_19 => exact fun _ _ _ _ _ _ us hl => match us, hl with | [_, _, _], _ => rfl
    case zltelling =>
      (refine' K1.df_of (by assumption) (by assumption) ?a_20 ?l_20 ?c_20 ?k_20 ?b_20; (case a_20 => k_is); (case l_20 => k_is); (case c_20 => k_is); (case k_20 => k_is))
      case b_20 => exact fun _ _ _ _ _ _ us hl => match us, hl with | [_], _ => rfl
    case zlled =>
      (refine' K1.df_of (by assumption) (by assumption) ?a_21 ?l_21 ?c_21 ?k_21 ?b_21; (case a_21 => k_is); (case l_21 => k_is); (case c_21 => k_is); (case k_21 => k_is))
      case b_21 => exact fun _ _ _ _ _ _ us hl => match us, hl with | [_, _, _], _ => rfl
    case zall =>
      (refine' K1.df_of (by assumption) (by assumption) ?a_22 ?l_22 ?c_22 ?k_22 ?b_22; (case a_22 => k_is); (case l_22 => k_is); (case c_22 => k_is); (case k_22 => k_is))
      case b_22 => exact fun _ _ _ _ _ _ us hl => match us, hl with | [_, _, _], _ => rfl
    case zfaults =>
      (refine' K1.df_of (by assumption) (by assumption) ?a_23 ?l_23 ?c_23 ?k_23 ?b_23; (case a_23 => k_is); (case l_23 => k_is); (case c_23 => k_is); (case k_23 => k_is))
      case b_23 => exact fun _ _ _ _ _ _ us hl => match us, hl with | [_], _ => rfl
    (case aN => k_is); (case lN => k_is); (case cN => k_is); (case kN => k_is)
    (case aM => k_is); (case pg => k_is); (case hd => k_is); (case po => k_is); (case sa => k_is); (case n1 => k_is); (case n2 => k_is); (case n3 => k_is); (case ca => k_is); (case sp => k_is); (case tk => k_is); (case mo => k_is)
    case init => refine' K1.init_of ?a_65 ?i_65 ?m_65 ?kM_65 ?l_65 ?c_65 ?k_65; (case a_65 => k_is); (case i_65 => k_is); (case m_65 => k_is); (case kM_65 => k_is); (case l_65 => k_is); (case c_65 => k_is); (case k_65 => k_is)
    (case aCM => k_is); (case aCS => k_is)
    case t1 => (refine' K1.at_of_ (by assumption) (by assumption) ?a_67 ?xl_67 ?sa_67 ?ga_67 ?gg_67 ?no_67 ?ic_67 ?tc_67 ?kc_67 ?ec_67 ?ty_67 ?hc_67 ?l_67 ?c_67; (case a_67 => k_is); (case xl_67 => k_is); (case sa_67 => k_is); (case ga_67 => k_is); (case gg_67 => k_is); (case no_67 => k_is); (case ic_67 => k_is); (case tc_67 => k_is); (case kc_67 => k_is); (case ec_67 => k_is); (case ty_67 => k_is); (case hc_67 => k_is); (case l_67 => k_is); (case c_67 => k_is))
    case t3 => (refine' K1.state_of_ (by assumption) (by assumption) ?a_69 ?xl_69 ?sa_69 ?ga_69 ?gg_69 ?no_69 ?ic_69 ?tc_69 ?kc_69 ?ec_69 ?ty_69 ?hc_69 ?l_69 ?c_69; (case a_69 => k_is); (case xl_69 => k_is); (case sa_69 => k_is); (case ga_69 => k_is); (case gg_69 => k_is); (case no_69 => k_is); (case ic_69 => k_is); (case tc_69 => k_is); (case kc_69 => k_is); (case ec_69 => k_is); (case ty_69 => k_is); (case hc_69 => k_is); (case l_69 => k_is); (case c_69 => k_is))
    case u => (refine' K1.un_of (by assumption) (by assumption) ?a_70 ?xl_70 ?rv_70 ?sa_70 ?ga_70 ?gg_70 ?n1_70 ?n2_70 ?n3_70 ?kc_70 ?ec_70 ?ty_70 ?hc_70; (case a_70 => k_is); (case xl_70 => k_is); (case rv_70 => rfl); (case sa_70 => k_is); (case ga_70 => k_is); (case gg_70 => k_is); (case n1_70 => k_is); (case n2_70 => k_is); (case n3_70 => k_is); (case kc_70 => k_is); (case ec_70 => k_is); (case ty_70 => k_is); (case hc_70 => k_is))
    case ui => refine' K1.ui_of ?a_71 ?i_71 ?l_71 ?c_71 ?k_71; (case a_71 => k_is); (case i_71 => k_is); (case l_71 => k_is); (case c_71 => k_is); (case k_71 => k_is)
    case ess => first | k_is | kernel_rfl
    case euu => first | k_is | kernel_rfl
