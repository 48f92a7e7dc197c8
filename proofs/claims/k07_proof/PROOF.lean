import PyProof.Rows.All
import Wide.All
import OpenK.AllK
import Wide.FinOn
import HandS.ForMost
import HandS.ForExc
import HandS.ExcInit
import PyProof.ExcBaseAll.LookupError
import KE.KExcIs
import HandS.IsInst
import KE.GoesEnum
import PyProof.ReprRoads
import PySem.Challenge.RW_houseslessties_k07_whole_machines_that_t
import HandS.TryMany
import HandS.Lambda
import HandS.Nested
import HandS.EndTab
import HandS.DictTup
import HandS.OwnEq
import HandS.Strs
import HandS.Conv
import HandS.TupAny
import HandS.TupMul
import HandS.SortInts
import HandS.Style
import HandS.MakeKw
import HandS.Defaults
import HandS.TupLe
import HandS.SetKeys
import HandS.SetFor
import HandS.RaiseMore
import KE.KDictDisplayH
import HandS.Iter
import KE.KDictWalk
import HandS.TryOnly
import HandS.CallLocal
import HandS.MakeKwOnly
import HandS.CallSlots
import HandS.EndBits
set_option Elab.async false
set_option linter.all false
set_option maxRecDepth 100000
set_option maxHeartbeats 4000000
/-! exceptions of own classes whose base may be ValueError or KeyError: what is asked of the chain of classes stands as premises -/
namespace K1
open PySem PySem.HandSPX Builtin Builtin.ObjectAttr
/-- what the chain of classes behind the own one must be -/
structure Mro (B : String) (bm : List Value) : Prop where
  b : bm.contains (.type B) = true
  a : bm.contains (.type "AttributeError") = false
  n : bm.contains (.type "NameError") = false
  o : bm.contains (.type "object") = true
  p : ∀ self : Value, refuseLoop self "__setattr__" bm = pure ()
section
variable {prog : Program} {w : World} {A : Around} {E : Value → Shared → Prop} {R : Result → Shared → Prop} {h : Heap} {g : Array GenState} {d : Drawn} {t : Nat} {os : OsState}
variable {nm q : Str} {C N : Addr} {bs bm bmB : List Value} {hdct : Bool} {sn : List Str} {sub : List Value} {ab : Bool} {col : Option Bool} {dd : Option Addr} {k0 k1 k2 k3 k5 : Option Value} {B newId initId : String}
theorem check_newG {M : Model} (F : ExcBaseFacts B newId initId bmB) (T : Mro B bm) {rest : List Value} {Q : Unit → Shared → Prop}
    (hC : h.get? C = some (excClassObj nm q C N bs bm hdct sn sub ab col dd k0 k1 k2 k3 k5 newId)) (hq : Q () ⟨h, g, d, t, os⟩) : wpAny M A (checkBuiltinCall newId ⟨.ref C :: rest, []⟩) Q E ⟨h, g, d, t, os⟩ := by
  have hcont : (Value.ref C :: bm).contains (.type B) = true := by rw [List.contains_cons, T.b, Bool.or_true]
  have hstar := F.noStar
  simp only [checkBuiltinCall, F.newKind, F.newSplit, F.newRow]
  repeat (first | refine wpAny_loadPart_at hC ?_ | (refine wpAny_isSubtype_exc hC ?_; rw [hcont]) | refine wpAny_staticBase_exc hC ?_ | refine wpAny_madeBy_exc hC ?_ | simp only [bne_self_eq_false, Bool.false_eq_true, if_false] | wp_step)
  exact hq
theorem newG (F : ExcBaseFacts B newId initId bmB) (T : Mro B bm) {rest : List Value}
    (hC : h.get? C = some (excClassObj nm q C N bs bm hdct sn sub ab col dd k0 k1 k2 k3 k5 newId))
    (hq : R (.ok (.ret (.ref (h.objs.size + 1)))) ⟨(h.push { cls := .type "tuple", data := .seq rest.toArray }).push
      { cls := .ref C, data := .fields #[.ref h.objs.size, .none, .none, .none, .bool false, .none] }, g, d, t, os⟩) (hrest : rest.length ≤ sizeLine) :
    codeAny (model prog w) A (.builtin newId ⟨.ref C :: rest, []⟩) R ⟨h, g, d, t, os⟩ := by
  have hends := F.ends
  have hcB : (Value.ref C :: bm).contains (.type B) = true := by rw [List.contains_cons, T.b, Bool.or_true]
  have hcA : (Value.ref C :: bm).contains (.type "AttributeError") = false := by rw [List.contains_cons, T.a]; rfl
  have hcN : (Value.ref C :: bm).contains (.type "NameError") = false := by rw [List.contains_cons, T.n]; rfl
  refine codeAny_builtinAt F.entry ?_
  unfold Builtin.«BaseException.__new__»
  refine wpAt_bind ?_
  show wpAt _ _ _ (stack >>= _) _ _ _
  refine wpAt_bind (wpAt_stack fun p below => wpAt_of_wpAny ?_)
  wp_walk
  refine wpAt_of_wpAny ?_
  rw [F.owner]
  repeat (first | with_reducible refine wpAny_madeHere_exc F.canon hC ?_ | with_reducible refine wpAny_loadPart_at hC ?_ | (with_reducible refine wpAny_isSubtype_exc hC ?_; first | rw [hcB] | rw [hcA] | rw [hcN]) | wp_step)
  show R _ _
  rw [Heap.size_push]
  exact hq
theorem type_callG (F : ExcBaseFacts B newId initId bmB) (T : Mro B bm) {rest : List Value} {fI : Addr} {Q : Fin → Shared → Prop}
    (hC : h.get? C = some (excClassObj nm q C N bs bm hdct sn sub ab col dd k0 k1 k2 k3 k5 newId))
    (hi : W.Looks (model prog w) h (typeLookup (.ref C) "__init__") (some (.ref fI))) (hb : ∀ self, W.Looks (model prog w) h (bindSpecial (.ref fI) self) (.ref fI, [self])) (hrest : rest.length ≤ sizeLine)
    (hq : codeAny (model prog w) A (.call (.ref fI) ⟨.ref (h.objs.size + 1) :: rest, []⟩)
      (fun r s' => match r with | .ok (.ret v) => v = .none ∧ Q (.done (.ret (.ref (h.objs.size + 1)))) s' | .ok _ => False | .error e => E e s')
      ⟨(h.push (W.kdv_tup rest)).push (excO C h.objs.size), g, d, t, os⟩) :
    wpAny (model prog w) A (Builtin.«type.__call__» ⟨.ref C :: rest, []⟩) Q E ⟨h, g, d, t, os⟩ := by
  repeat (first | with_reducible refine wpAny_loadPart_at hC ?_ | with_reducible refine wpAny_madeBy_exc hC ?_ | wp_step)
  refine codeAny_call_builtin_code (Code.quiet_builtin _ F.quiet) (check_newG F T hC ?_)
  refine newG F T hC ?_ hrest
  show wpAny _ _ _ _ _ _
  have k : ∀ b o, h.get? b = some o → ((h.push (W.kdv_tup rest)).push (excO C h.objs.size)).get? b = some o := fun b o e => Heap.get?_push_of_some _ (Heap.get?_push_of_some _ e)
  have hC₁ := k _ _ hC
  have hget : ((h.push (W.kdv_tup rest)).push (excO C h.objs.size)).get? (h.objs.size + 1) = some (excO C h.objs.size) := by heap_get
  have hcC : (Value.ref C :: bm).contains (.ref C) = true := by simp
  have i1 := hi.keeps k
  have b1 := (hb (.ref (h.objs.size + 1))).keeps k
  unfold isInstance
  repeat (first | with_reducible refine wpAny_loadPart_at hget ?_ | (with_reducible refine wpAny_isSubtype_exc hC₁ ?_; rw [hcC]) | wp_step)
  show wpAny _ _ (typeLookup (.ref C) _) _ _ _
  refine i1.at ?_
  refine wpAny_holding (wpAny_bind (b1.at ?_))
  refine wpAny_bind (wpAny_call (codeAny_mono hq fun r s' z => ?_))
  rcases r with e | (v | _ | _ | _) <;> first | exact z | exact z.elim | skip
  obtain ⟨rfl, z⟩ := z
  first
    | exact wpAny_pure (wpAny_pure z)
    | (wp_walk; exact z)
theorem call_ownG (F : ExcBaseFacts B newId initId bmB) (T : Mro B bm) {rest : List Value} {fI : Addr}
    (hC : h.get? C = some (excClassObj nm q C N bs bm hdct sn sub ab col dd k0 k1 k2 k3 k5 newId))
    (hi : W.Looks (model prog w) h (typeLookup (.ref C) "__init__") (some (.ref fI))) (hb : ∀ self, W.Looks (model prog w) h (bindSpecial (.ref fI) self) (.ref fI, [self])) (hrest : rest.length ≤ sizeLine)
    (hq : codeAny (model prog w) (A.under (.builtin "type.__call__" ⟨.ref C :: rest, []⟩)) (.call (.ref fI) ⟨.ref (h.objs.size + 1) :: rest, []⟩) (W.InitBack (h.objs.size + 1) R)
      ⟨(h.push (W.kdv_tup rest)).push (excO C h.objs.size), g, d, t, os⟩) :
    codeAny (model prog w) A (.call (.ref C) ⟨rest, []⟩) R ⟨h, g, d, t, os⟩ := by
  have f1 := tc_lookup
  have f2 := tc_bind (.ref C)
  have hTy : (⟨h, g, d, t, os⟩ : Shared).TypeIs (.ref C) "type" := ⟨_, hC, rfl⟩
  refine codeAny_of_tree ?_
  show wpAny _ _ (callAny (.ref C) _) _ _ _
  repeat (any_goals (first | assumption | with_reducible refine wpAny_loadPart_at hC ?_ | wp_step))
  refine ⟨rfl, ?_⟩
  refine codeAny_call_builtin_at (Code.quiet_builtin _ (by decide +kernel)) entry_typeCall (wpAny_check_type_call_sub hC (type_callG F T hC hi hb hrest ?_))
  refine codeAny_mono hq fun r s' z => ?_
  rcases r with e | (v | _ | _ | _) <;> exact z
end
section
variable {prog : Program} {w : World} {A : Around} {E : Value → Shared → Prop} {R : Result → Shared → Prop} {hp : Heap} {g : Array GenState} {d : Drawn} {t : Nat} {os : OsState}
theorem exc_osaG {K : W.Frag} {name : Str} {tk : Tok} {v : Value} {x C : Addr} {fv : Array Value} {cd : ClassData} {B : String} {bm : List Value}
    (X : K.In hp) (hx : hp.get? x = some { cls := .ref C, data := .fields fv }) (hcd : W.clsIn K C = some cd) (hm : cd.mro = .ref C :: bm) (T : Mro B bm) (hh : cd.hasDict = true) (ha : W.findIn K (.ref C) name = some none)
    (hq : ∀ h' tk' dx, (∀ b o, b ≠ x → hp.get? b = some o → h'.get? b = some o) → hp.objs.size ≤ dx → dx ≠ x → h'.get? x = some { cls := .ref C, dict := some dx, data := .fields fv } →
      h'.Ns1 dx (fun y => if y = name then some v else none) → R (.ok (.ret .none)) ⟨h', g, d, tk', os⟩) :
    codeAny (model prog w) A (.call (.builtin "object.__setattr__") ⟨[.ref x, .str name tk, v], []⟩) R ⟨hp, g, d, t, os⟩ := by
  have I : W.InstAt hp x { cls := .ref C, data := .fields fv } C none := ⟨hx, rfl, rfl, trivial⟩
  have SF := F.store_object
  have ne : cd.mro.isEmpty = false := by rw [hm]; rfl
  have hob : cd.mro.contains (.type "object") = true := by rw [hm, List.contains_cons, T.o, Bool.or_true]
  have hxs : x ≠ hp.objs.size := Nat.ne_of_lt (Heap.lt_size hx)
  have sub : W.Looks (model prog w) hp (isInstance (.ref x) (.type "object")) true := I.type.andThen (W.looks_mroIn X (by unfold W.mroIn; rw [hcd, Option.bind_some, if_neg (by rw [ne]; decide), hob]))
  refine codeAny_call_builtin SF.slot.plain SF.entry (@W.check_slot (model prog w) _ _ ⟨hp, g, d, t, os⟩ "object.__setattr__" "object" "__setattr__" (.ref x) [.str name tk, v] [] _ SF.kind SF.split sub (SF.args (.ref x) (.str name tk) v) ?_)
  have hmr : W.Looks (model prog w) hp (mroOf (.ref C)) cd.mro := (W.looks_clsIn X hcd).andThen .now
  have L3 : W.Looks (model prog w) hp (storeTaker? none) none := .now
  have hcls : W.Looks (model prog w) hp (classData C) cd := W.looks_clsIn X hcd
  rw [W.osa_eq, refuse_eq]
  refine wpAny_bind (wpAny_bind (I.type.at (wpAny_bind (hmr.at ?_))))
  rw [hm, refuseLoop_ref, T.p]
  refine wpAny_pure (wpAny_bind (I.type.at (wpAny_bind ((W.looks_findIn X ha).at (wpAny_bind (L3.at ?_))))))
  show wpAny _ _ (storeInOwnDict (.ref x) (.ref C) (.str name tk) name v false) _ _ _
  obtain ⟨nm, bs, mro, ns, qn, hd, sn, sb, ab, col, del⟩ := cd
  dsimp only at hh
  subst hh
  unfold storeInOwnDict ownDictForStores
  repeat (first | with_reducible refine store_in_new ?_ ?_ | with_reducible refine wpAny_loadPart_at hx ?_ | with_reducible refine hcls.at ?_ | wp_step)
  · exact ⟨_, #[], _, (Heap.get?_update_ne _ _ _ _ hxs.symm).trans (Heap.get?_push_at rfl rfl), rfl, fun e he => absurd he (by simp), fun _ => rfl⟩
  · intro h' tk' hn' hs
    have hx₁ : (hp.push { cls := .type "dict", data := .dict #[] }).get? x = some { cls := .ref C, data := .fields fv } := Heap.get?_push_of_some _ hx
    refine hq h' tk' hp.objs.size (fun b o hb ho => ?_) (Nat.le_refl _) hxs.symm ?_ hn'
    · exact (hs.2 b (Nat.ne_of_lt (Heap.lt_size ho))).trans ((Heap.get?_update_ne _ _ _ _ hb).trans (Heap.get?_push_of_some _ ho))
    · exact (hs.2 x hxs).trans (Heap.get?_update_self _ hx₁ rfl)
end
abbrev veT : List Value := [.type "ValueError", .type "Exception", .type "BaseException", .type "object"]
abbrev keT : List Value := [.type "KeyError", .type "LookupError", .type "Exception", .type "BaseException", .type "object"]
theorem mro_ve (c : Addr) : Mro "ValueError" (.ref c :: veT) := ⟨rfl, rfl, rfl, rfl, fun self => by rw [refuseLoop_ref]; exact F.store_ValueError.passes self⟩
theorem ke_pass (self : Value) : refuseLoop self "__setattr__" keT = pure () := by kernel_rfl
theorem mro_ke : Mro "LookupError" keT := ⟨by decide +kernel, by decide +kernel, by decide +kernel, by decide +kernel, ke_pass⟩
end K1
/-! own exception classes whose __init__ stores one field -/

namespace K1
open PySem PySem.W PySem.Calls PyProof.Rows PySem.HandSPX
theorem one_le (v : Value) : [v].length ≤ sizeLine := by
  rw [sizeLine_eq]
  exact (by decide : 1 ≤ 16777216)
theorem ldE {M : Model} {s : Shared} {name : Str} {scope : Scope} {L a : Addr} {cd : Value} {m : Str → Option Value} {x : Str} {pos : Pos} {v : Value} {Q : Value → Shared → Prop} {A : Around} {E : Value → Shared → Prop} (hn : s.heap.Ns L m) (hv : m x = some v) (h : Q v s)
    (hk : scope.kind = .function := by rfl) (hl : (envOfC name scope L a cd).kindOf x = some .local := by rfl) (hd : (x == ("__debug__" : Str)) = false := by decide) :
    wpAny M A (eval (.Name x pos) (envOfC name scope L a cd)) Q E s := wpAny_Name (wpAny_loadName_local hk hl hn hv h) hd
end K1
namespace K1
open PySem PySem.Spec PyProof.Rows L2
theorem relO_one {v : V} {v' : Value} {g : Str} (r : RelV v v') (f : Str) : RelO (List.lookup f [(g, v)]) (if f = g then some v' else none) := by
  by_cases hw : f = g
  · subst hw
    rw [if_pos rfl]
    have q : List.lookup f [(f, v)] = some v := by simp [List.lookup]
    rw [q]
    exact r
  · rw [if_neg hw]
    have qw : (f == g) = false := by simpa using hw
    have q2 : List.lookup f [(g, v)] = none := by simp [List.lookup, qw]
    rw [q2]
    trivial
/-- C(e), C's __init__ storing e as the field g -/
def tMkF (g : Str) (C : Addr) (ta : TA) : L2.St → Hp → XK → Prop := fun σ H Q => ta σ H fun vs H1 => ∃ v, vs = [v] ∧ ∀ d, H1 d = none → Q (.ref C) (some d) (upd H1 d (.xd [(g, v)]))
def tRaiseF (g : Str) (C : Addr) (W : WX) (ta : TA) : TS := fun _ σ H => tMkF g C ta σ H fun cls d H' => W cls d σ H'
def tByF (g : Str) (C : Addr) (a : Addr) (cls : Value) (d : Option Addr) (te : TE) : TE := fun σ H Q => te σ H fun x H1 => x = .ref a ∧ cls = .ref C ∧ ∃ (dd : Addr) (v : V), d = some dd ∧ H1 dd = some (.xd [(g, v)]) ∧ Q v H1
end K1

namespace K1
namespace LAt
open PySem PySem.W PySem.Calls PyProof.Rows PySem.HandSPX
/-- the text of __init__ -/
def iA (p1 p2 : Pos) : Arguments := { posonlyargs := [], args := [{ arg := "self", annotation := none, pos := p1 }, { arg := "at", annotation := none, pos := p2 }], vararg := none, kwonlyargs := [], kw_defaults := [], kwarg := none, defaults := [] }
def iB (q1 q2 q3 q4 : Pos) : List Stmt := [.Assign [.Attribute (.Name "self" q1) "at" q2] (.Name "at" q3) q4]
def iS : Scope := { kind := .function, names := [(PySem.Str.ofString "self", .local), (PySem.Str.ofString "at", .local)], isGenerator := false, isCoroutine := false, more := [] }
/-- what the written part says of the class at C (named cn), of its chain bm, and of its __init__, at fI -/
structure Txt (K : Frag) (mg : Str → Option Value) (cn ql : Str) (bm : List Value) (C fI : Addr) : Prop where
  gC : mg cn = some (.ref C)
  cls : ∃ nm q N bs sn sub ab col dd k0 k1 k2 k3 k5, K.lookup C = some (excClassObj nm q C N bs bm true sn sub ab col dd k0 k1 k2 k3 k5 "ValueError.__new__")
  mr : Mro "ValueError" bm
  sa : findIn K (.ref C) "__setattr__" = some (some (.builtin "object.__setattr__"))
  ga : findIn K (.ref C) "__getattribute__" = some (some (.builtin "BaseException.__getattribute__"))
  gg : findIn K (.ref C) "__getattr__" = some none
  noN : findIn K (.ref C) "at" = some none
  iC : findIn K (.ref C) "__init__" = some (some (.ref fI))
  tC : typeIn K (.ref fI) = some (.type "function")
  kC : keepIn K (.ref C) = true
  exC : subIn K (.ref C) (.type "BaseException") = some true
  tyC : typeIn K (.ref C) = some (.type "type")
  hdC : hasDictIn K C = true
  fn : ∃ (oc : Value) (od : Option Addr) (doc pm : Value) (an : Option Addr) (cdv ct : Value) (osl : Array (Option Value)) (p1 p2 q1 q2 q3 q4 : Pos),
    K.lookup fI = some ⟨oc, od, .func (fnOf "__init__" ql (iA p1 p2) (iB q1 q2 q3 q4) iS .none .none doc pm an cdv ct), osl⟩ ∧ codeIn K cdv ql = true
/-- what __init__ leaves of a fresh exception at x -/
structure InitEnd (h h' : Heap) (x C dx t1 : Addr) (v : Value) : Prop where
  keep : ∀ b o, b ≠ x → h.get? b = some o → h'.get? b = some o
  obj : h'.get? x = some { cls := .ref C, dict := some dx, data := .fields #[.ref t1, .none, .none, .none, .bool false, .none] }
  dbig : h.objs.size ≤ dx
  dne : dx ≠ x
  ns : h'.Ns1 dx (fun y => if y = "at" then some v else none)
structure OwnMade (h h' : Heap) (e C d : Addr) (v : Value) : Prop where
  keep : ∀ b o, h.get? b = some o → h'.get? b = some o
  new : h.objs.size ≤ e
  obj : ∃ oe vs, h'.get? e = some oe ∧ oe.cls = .ref C ∧ oe.dict = some d ∧ oe.data = .fields vs ∧ vs[1]? = some .none
  dbig : h.objs.size ≤ d
  dne : d ≠ e
  ns : h'.Ns1 d (fun y => if y = "at" then some v else none)
section
variable {prog : Program} {w : World} {A : Around} {E : Value → Shared → Prop} {R : Result → Shared → Prop} {s : Shared} {K : Frag} {mg : Str → Option Value} {cn ql : Str} {bm : List Value} {C fI : Addr}
theorem init (T : Txt K mg cn ql bm C fI) {x t0 : Addr} {v : Value} (X : K.In s.heap) (hlim : s.heap.NoLimit) (hx : s.heap.get? x = some (excO C t0)) (hnx : K.lookup x = none) (hroom : A.depth < recursionLimit)
    (hq : ∀ h' tk dx, InitEnd s.heap h' x C dx t0 v → R (.ok (.ret .none)) { s with heap := h', toks := tk }) :
    codeAny (model prog w) A (.call (.ref fI) ⟨[.ref x, v], []⟩) R s := by
  obtain ⟨oc, od, doc, pm, an, cdv, ct, osl, p1, p2, q1, q2, q3, q4, ho, hcd⟩ := T.fn
  obtain ⟨nm, q, N, bs, sn, sub, ab, col, dd, k0, k1, k2, k3, k5, hC⟩ := T.cls
  have hcl : clsIn K C = some { name := nm, bases := bs, mro := .ref C :: bm, ns := N, qualname := q, hasDict := true, slotNames := sn, subclasses := sub, abstract := ab, collection := col, hasDel := false } := by unfold clsIn; rw [hC] <;> rfl
  refine Att.call_fn (binds := [("self", .ref x), ("at", v)]) X hlim ho hcd hroom (BindsTo.of_eq (by first | rfl | with_unfolding_all rfl)) (by first | rfl | decide | with_unfolding_all rfl) (fun s₁ IC => ?_) rfl rfl rfl
  obtain ⟨h₁, tk₁, rfl⟩ := IC.toInCall.same
  have k : ∀ b o, s.heap.get? b = some o → h₁.get? b = some o := IC.toInCall.keep
  have hn := IC.toInCall.ns
  have X₁ : K.In h₁ := X.keeps k
  have hx₁ := k _ _ hx
  show wpAny _ _ (execs _ _) _ _ _
  refine wpAny_execs_cons (plainObj_wpAny_Assign_Attribute ?_)
  refine ldE (v := v) hn (by first | rfl | with_unfolding_all rfl | kernel_rfl) (ldE (v := .ref x) hn (by first | rfl | with_unfolding_all rfl | kernel_rfl) ?_)
  refine set_plain X₁ (ox := excO C t0) (od := none) ⟨hx₁, rfl, rfl, trivial⟩ T.sa ?_
  refine exc_osaG X₁ hx₁ hcl rfl T.mr rfl T.noN (fun h₃ tk₃ dx k₃ dn dne hx₃ hn₃ => ?_)
  show wpAny _ _ (execs _ _) _ _ _
  have z : s.heap.objs.size < h₁.objs.size := hn.lt
  exact wpAny_execs_nil (hq h₃ tk₃ dx ⟨fun b o hb e => k₃ b o hb (k b o e), hx₃, Nat.le_of_lt (Nat.lt_of_lt_of_le z dn), dne, hn₃⟩)
theorem made (T : Txt K mg cn ql bm C fI) {v : Value} (X : K.In s.heap) (hlim : s.heap.NoLimit) (hroom : A.depth + 1 < recursionLimit)
    (hq : ∀ h' tk e d, OwnMade s.heap h' e C d v → R (.ok (.ret (.ref e))) { s with heap := h', toks := tk }) :
    codeAny (model prog w) A (.call (.ref C) ⟨[v], []⟩) R s := by
  obtain ⟨nm, q, N, bs, sn, sub, ab, col, dd, k0, k1, k2, k3, k5, hC⟩ := T.cls
  obtain ⟨hp, g, dr, tk, os⟩ := s
  have k : ∀ b o, hp.get? b = some o → ((hp.push (kdv_tup [v])).push (excO C hp.objs.size)).get? b = some o := fun b o e => Heap.get?_push_of_some _ (Heap.get?_push_of_some _ e)
  have hget : ((hp.push (kdv_tup [v])).push (excO C hp.objs.size)).get? (hp.objs.size + 1) = some (excO C hp.objs.size) := by heap_get
  have hnx : K.lookup (hp.objs.size + 1) = none := by
    cases e : K.lookup (hp.objs.size + 1) with
    | none => rfl
    | some o =>
      have z : hp.get? (hp.objs.size + 1) = some o := X _ _ e
      exact absurd (Nat.lt_of_succ_lt (Heap.lt_size z)) (Nat.lt_irrefl _)
  refine call_ownG F.excBase_ValueError T.mr (X _ _ hC) (looks_findIn X T.iC) (fun self => bind_fn X self T.tC) (one_le v) ?_
  refine init (s := ⟨(hp.push (kdv_tup [v])).push (excO C hp.objs.size), g, dr, tk, os⟩) T (X.keeps k) (hlim.keeps k) hget hnx ?_ fun h' tk' dx ⟨k', hx, dn, dne, hns⟩ => ?_
  · show A.depth + 1 < recursionLimit
    exact hroom
  · have old : ∀ b o, hp.get? b = some o → h'.get? b = some o := fun b o e => k' b o (Nat.ne_of_lt (Nat.lt_succ_of_lt (Heap.lt_size e))) (k b o e)
    have z : hp.objs.size + 1 + 1 ≤ dx := by
      first
        | (simpa only [Heap.size_push] using dn)
        | exact dn
        | (have q := dn; rw [Heap.size_push, Heap.size_push] at q; exact q)
    exact ⟨rfl, hq h' tk' (hp.objs.size + 1) dx ⟨old, Nat.le_succ _, ⟨_, _, hx, rfl, rfl, rfl, rfl⟩, Nat.le_trans (Nat.le_trans (Nat.le_succ _) (Nat.le_succ _)) z, dne, hns⟩⟩
end
end LAt
end K1
namespace K1
open PySem PySem.Spec PyProof.Rows L2
section
variable {X : Cx} {cn ql : Str} {bm : List Value} {C fI : Addr}
theorem pmk_LAt {a : Expr} {ta : TA} {p pos : Pos} {k : Nat} (T : LAt.Txt X.K X.mg cn ql bm C fI) (hr : Room k X.A) (ha : PA X [a] ta) (hg : Gl X cn := by rfl)
    (he : starEach (a :: []) X.env = (false, eval a X.env) :: starEach [] X.env := by rfl) (hpl : (backTo pos (starEach [] X.env)).any (·.1) = false := by rfl) (hdb : (cn == ("__debug__" : Str)) = false := by decide) :
    PMk X (.Call (.Name cn p) [a] [] pos) (tMkF "at" C ta) := by
  intro pins s σ H Q I h
  refine wpAny_Call_Name_kw (ld_glob I hg T.gC ?_ hdb)
  refine PySem.W.callWith_K (h₀ := X.base) I.ok.mod.kin T.kC (thn (ha.run pos pins s σ H _ I h) fun us s1 hh => ?_) he hpl
  obtain ⟨vs, H1, I1, r1, v, ev, q1⟩ := hh
  subst ev
  refine ⟨I1.kIn, ?_⟩
  cases r1 with
  | cons rv rn =>
    rename_i v' us'
    cases rn
    show wpAny _ _ (call (.ref C) [v']) _ _ _
    have hlim := I1.nolimit
    obtain ⟨hp, g, dr, tk, os⟩ := s1
    refine wpAny_call (LAt.made T I1.kIn hlim (by have := hr.dp; omega) fun h' tk' e d M => ?_)
    show MkP X pins σ Q (.ref e) ⟨h', g, dr, tk', os⟩
    obtain ⟨oe, fv, hoe, hc, hd, hdat, h1⟩ := M.obj
    have hns := M.ns
    obtain ⟨G', g1, g2⟩ := restrict h' fun b => decide (b ≠ e)
    have gk : ∀ b, b ≠ e → G'.get? b = h'.get? b := fun b hb => g1 b (decide_eq_true hb)
    have ge : G'.get? e = none := g2 e (by simp)
    have old : ∀ b o, hp.get? b = some o → G'.get? b = some o := fun b o q => (gk b (Nat.ne_of_lt (Nat.lt_of_lt_of_le (Heap.lt_size q) M.new))).trans (M.keep b o q)
    have ob : ObjOk X.prog X.w (upd H1 d (.xd [(("at" : Str), v)])) G' d (.xd [(("at" : Str), v)]) :=
      ⟨_, hns.at (fun o q => (gk d M.dne).trans q), fun f => relO_one rv f⟩
    have J : Inv X pins σ (upd H1 d (.xd [(("at" : Str), v)])) ⟨G', g, dr, tk', os⟩ := I1.laid (t' := tk') old M.dbig ob
    refine ⟨e, oe, fv, ⟨G', g, dr, tk', os⟩, _, .ref C, some d, rfl, J, fun b o q => ?_, ge, hoe, ⟨hc, hd⟩, hdat, h1, ?_, rfl, I1.bare, raises_own T.exC T.tyC, q1 d (I1.hok.fresh M.dbig)⟩
    · by_cases hb : b = e
      · have q' : G'.get? b = some o := q
        rw [hb, ge] at q'; cases q'
      · exact (gk b hb).symm.trans q
    · rw [upd_ne (Ne.symm M.dne)]
      exact I1.hok.fresh M.new
theorem ps_raise_LAt {a : Expr} {ta : TA} {W : WX} {p pos pos2 : Pos} {k : Nat} (hc : X.calm = true) (T : LAt.Txt X.K X.mg cn ql bm C fI) (hr : Room k X.A) (tk : Takes X W) (ha : PA X [a] ta) (hg : Gl X cn := by rfl)
    (he : starEach (a :: []) X.env = (false, eval a X.env) :: starEach [] X.env := by rfl) (hpl : (backTo pos (starEach [] X.env)).any (·.1) = false := by rfl) (hdb : (cn == ("__debug__" : Str)) = false := by decide) :
    PS X (.Raise (some (.Call (.Name cn p) [a] [] pos)) none pos2) (tRaiseF "at" C W ta) := ps_raise hc tk (pmk_LAt T hr ha hg he hpl hdb)
theorem pe_by_LAt {a : Addr} {oe : Obj} {cls : Value} {d : Option Addr} {pn : List (Addr × Obj)} {e : Expr} {te : TE} {pos : Pos} (T : LAt.Txt X.K X.mg cn ql bm C fI) (hz : Zc cls d oe) (hf : ∃ vs, oe.data = .fields vs) (he : PE (X.suite a ((a, oe) :: pn)) e te)
    (hb : attributeBase e "at" X.env (eval e X.env) = eval e X.env := by rfl) :
    PE (X.suite a ((a, oe) :: pn)) (.Attribute e "at" pos) (tByF "at" C a cls d te) := by
  refine ⟨fun pins s σ H Q I h => ?_⟩
  refine attr_of hb (thn (he.run pins s σ H _ I h) fun u s1 hh => ?_)
  obtain ⟨x, H1, I1, rx, ex, ec, dd, v, ed, ea, q⟩ := hh
  subst ex
  obtain rfl : u = Value.ref a := rx
  subst ec
  subst ed
  obtain ⟨ha, _⟩ := I1.pin (a, oe) (List.mem_append_left _ List.mem_cons_self)
  obtain ⟨vs, hd⟩ := hf
  have hx : ObjOk X.prog X.w H1 s1.heap dd (.xd [(("at" : Str), v)]) := I1.hok dd _ ea
  obtain ⟨mA, hns, hr⟩ := hx
  obtain ⟨od, ho, hl⟩ := lookIn_ns hns
  have l : List.lookup ("at" : Str) [(("at" : Str), v)] = some v := by simp [List.lookup]
  obtain ⟨u, hu, ru⟩ := RelO.some_of (v := v) (o := mA "at") (by rw [← l]; exact hr "at")
  have J : PySem.W.InstAt s1.heap a oe C (some od) := ⟨ha, hz.1, by unfold PySem.W.notCls; rw [hd] <;> rfl, by rw [hz.2]; exact ho⟩
  exact HandSPX.exc_get I1.kIn J T.ga T.gg T.exC (PySem.W.findObj_own T.hdC T.noN rfl (by rw [hl, hu])) (handed_of ru) ⟨v, H1, I1.tok _, ru, q⟩
end
end K1

namespace K1
namespace LState
open PySem PySem.W PySem.Calls PyProof.Rows PySem.HandSPX
/-- the text of __init__ -/
def iA (p1 p2 : Pos) : Arguments := { posonlyargs := [], args := [{ arg := "self", annotation := none, pos := p1 }, { arg := "state", annotation := none, pos := p2 }], vararg := none, kwonlyargs := [], kw_defaults := [], kwarg := none, defaults := [] }
def iB (q1 q2 q3 q4 : Pos) : List Stmt := [.Assign [.Attribute (.Name "self" q1) "state" q2] (.Name "state" q3) q4]
def iS : Scope := { kind := .function, names := [(PySem.Str.ofString "self", .local), (PySem.Str.ofString "state", .local)], isGenerator := false, isCoroutine := false, more := [] }
/-- what the written part says of the class at C (named cn), of its chain bm, and of its __init__, at fI -/
structure Txt (K : Frag) (mg : Str → Option Value) (cn ql : Str) (bm : List Value) (C fI : Addr) : Prop where
  gC : mg cn = some (.ref C)
  cls : ∃ nm q N bs sn sub ab col dd k0 k1 k2 k3 k5, K.lookup C = some (excClassObj nm q C N bs bm true sn sub ab col dd k0 k1 k2 k3 k5 "LookupError.__new__")
  mr : Mro "LookupError" bm
  sa : findIn K (.ref C) "__setattr__" = some (some (.builtin "object.__setattr__"))
  ga : findIn K (.ref C) "__getattribute__" = some (some (.builtin "BaseException.__getattribute__"))
  gg : findIn K (.ref C) "__getattr__" = some none
  noN : findIn K (.ref C) "state" = some none
  iC : findIn K (.ref C) "__init__" = some (some (.ref fI))
  tC : typeIn K (.ref fI) = some (.type "function")
  kC : keepIn K (.ref C) = true
  exC : subIn K (.ref C) (.type "BaseException") = some true
  tyC : typeIn K (.ref C) = some (.type "type")
  hdC : hasDictIn K C = true
  fn : ∃ (oc : Value) (od : Option Addr) (doc pm : Value) (an : Option Addr) (cdv ct : Value) (osl : Array (Option Value)) (p1 p2 q1 q2 q3 q4 : Pos),
    K.lookup fI = some ⟨oc, od, .func (fnOf "__init__" ql (iA p1 p2) (iB q1 q2 q3 q4) iS .none .none doc pm an cdv ct), osl⟩ ∧ codeIn K cdv ql = true
/-- what __init__ leaves of a fresh exception at x -/
structure InitEnd (h h' : Heap) (x C dx t1 : Addr) (v : Value) : Prop where
  keep : ∀ b o, b ≠ x → h.get? b = some o → h'.get? b = some o
  obj : h'.get? x = some { cls := .ref C, dict := some dx, data := .fields #[.ref t1, .none, .none, .none, .bool false, .none] }
  dbig : h.objs.size ≤ dx
  dne : dx ≠ x
  ns : h'.Ns1 dx (fun y => if y = "state" then some v else none)
structure OwnMade (h h' : Heap) (e C d : Addr) (v : Value) : Prop where
  keep : ∀ b o, h.get? b = some o → h'.get? b = some o
  new : h.objs.size ≤ e
  obj : ∃ oe vs, h'.get? e = some oe ∧ oe.cls = .ref C ∧ oe.dict = some d ∧ oe.data = .fields vs ∧ vs[1]? = some .none
  dbig : h.objs.size ≤ d
  dne : d ≠ e
  ns : h'.Ns1 d (fun y => if y = "state" then some v else none)
section
variable {prog : Program} {w : World} {A : Around} {E : Value → Shared → Prop} {R : Result → Shared → Prop} {s : Shared} {K : Frag} {mg : Str → Option Value} {cn ql : Str} {bm : List Value} {C fI : Addr}
theorem init (T : Txt K mg cn ql bm C fI) {x t0 : Addr} {v : Value} (X : K.In s.heap) (hlim : s.heap.NoLimit) (hx : s.heap.get? x = some (excO C t0)) (hnx : K.lookup x = none) (hroom : A.depth < recursionLimit)
    (hq : ∀ h' tk dx, InitEnd s.heap h' x C dx t0 v → R (.ok (.ret .none)) { s with heap := h', toks := tk }) :
    codeAny (model prog w) A (.call (.ref fI) ⟨[.ref x, v], []⟩) R s := by
  obtain ⟨oc, od, doc, pm, an, cdv, ct, osl, p1, p2, q1, q2, q3, q4, ho, hcd⟩ := T.fn
  obtain ⟨nm, q, N, bs, sn, sub, ab, col, dd, k0, k1, k2, k3, k5, hC⟩ := T.cls
  have hcl : clsIn K C = some { name := nm, bases := bs, mro := .ref C :: bm, ns := N, qualname := q, hasDict := true, slotNames := sn, subclasses := sub, abstract := ab, collection := col, hasDel := false } := by unfold clsIn; rw [hC] <;> rfl
  refine Att.call_fn (binds := [("self", .ref x), ("state", v)]) X hlim ho hcd hroom (BindsTo.of_eq (by first | rfl | with_unfolding_all rfl)) (by first | rfl | decide | with_unfolding_all rfl) (fun s₁ IC => ?_) rfl rfl rfl
  obtain ⟨h₁, tk₁, rfl⟩ := IC.toInCall.same
  have k : ∀ b o, s.heap.get? b = some o → h₁.get? b = some o := IC.toInCall.keep
  have hn := IC.toInCall.ns
  have X₁ : K.In h₁ := X.keeps k
  have hx₁ := k _ _ hx
  show wpAny _ _ (execs _ _) _ _ _
  refine wpAny_execs_cons (plainObj_wpAny_Assign_Attribute ?_)
  refine ldE (v := v) hn (by first | rfl | with_unfolding_all rfl | kernel_rfl) (ldE (v := .ref x) hn (by first | rfl | with_unfolding_all rfl | kernel_rfl) ?_)
  refine set_plain X₁ (ox := excO C t0) (od := none) ⟨hx₁, rfl, rfl, trivial⟩ T.sa ?_
  refine exc_osaG X₁ hx₁ hcl rfl T.mr rfl T.noN (fun h₃ tk₃ dx k₃ dn dne hx₃ hn₃ => ?_)
  show wpAny _ _ (execs _ _) _ _ _
  have z : s.heap.objs.size < h₁.objs.size := hn.lt
  exact wpAny_execs_nil (hq h₃ tk₃ dx ⟨fun b o hb e => k₃ b o hb (k b o e), hx₃, Nat.le_of_lt (Nat.lt_of_lt_of_le z dn), dne, hn₃⟩)
theorem made (T : Txt K mg cn ql bm C fI) {v : Value} (X : K.In s.heap) (hlim : s.heap.NoLimit) (hroom : A.depth + 1 < recursionLimit)
    (hq : ∀ h' tk e d, OwnMade s.heap h' e C d v → R (.ok (.ret (.ref e))) { s with heap := h', toks := tk }) :
    codeAny (model prog w) A (.call (.ref C) ⟨[v], []⟩) R s := by
  obtain ⟨nm, q, N, bs, sn, sub, ab, col, dd, k0, k1, k2, k3, k5, hC⟩ := T.cls
  obtain ⟨hp, g, dr, tk, os⟩ := s
  have k : ∀ b o, hp.get? b = some o → ((hp.push (kdv_tup [v])).push (excO C hp.objs.size)).get? b = some o := fun b o e => Heap.get?_push_of_some _ (Heap.get?_push_of_some _ e)
  have hget : ((hp.push (kdv_tup [v])).push (excO C hp.objs.size)).get? (hp.objs.size + 1) = some (excO C hp.objs.size) := by heap_get
  have hnx : K.lookup (hp.objs.size + 1) = none := by
    cases e : K.lookup (hp.objs.size + 1) with
    | none => rfl
    | some o =>
      have z : hp.get? (hp.objs.size + 1) = some o := X _ _ e
      exact absurd (Nat.lt_of_succ_lt (Heap.lt_size z)) (Nat.lt_irrefl _)
  refine call_ownG F.excBase_LookupError T.mr (X _ _ hC) (looks_findIn X T.iC) (fun self => bind_fn X self T.tC) (one_le v) ?_
  refine init (s := ⟨(hp.push (kdv_tup [v])).push (excO C hp.objs.size), g, dr, tk, os⟩) T (X.keeps k) (hlim.keeps k) hget hnx ?_ fun h' tk' dx ⟨k', hx, dn, dne, hns⟩ => ?_
  · show A.depth + 1 < recursionLimit
    exact hroom
  · have old : ∀ b o, hp.get? b = some o → h'.get? b = some o := fun b o e => k' b o (Nat.ne_of_lt (Nat.lt_succ_of_lt (Heap.lt_size e))) (k b o e)
    have z : hp.objs.size + 1 + 1 ≤ dx := by
      first
        | (simpa only [Heap.size_push] using dn)
        | exact dn
        | (have q := dn; rw [Heap.size_push, Heap.size_push] at q; exact q)
    exact ⟨rfl, hq h' tk' (hp.objs.size + 1) dx ⟨old, Nat.le_succ _, ⟨_, _, hx, rfl, rfl, rfl, rfl⟩, Nat.le_trans (Nat.le_trans (Nat.le_succ _) (Nat.le_succ _)) z, dne, hns⟩⟩
end
end LState
end K1
namespace K1
open PySem PySem.Spec PyProof.Rows L2
section
variable {X : Cx} {cn ql : Str} {bm : List Value} {C fI : Addr}
theorem pmk_LState {a : Expr} {ta : TA} {p pos : Pos} {k : Nat} (T : LState.Txt X.K X.mg cn ql bm C fI) (hr : Room k X.A) (ha : PA X [a] ta) (hg : Gl X cn := by rfl)
    (he : starEach (a :: []) X.env = (false, eval a X.env) :: starEach [] X.env := by rfl) (hpl : (backTo pos (starEach [] X.env)).any (·.1) = false := by rfl) (hdb : (cn == ("__debug__" : Str)) = false := by decide) :
    PMk X (.Call (.Name cn p) [a] [] pos) (tMkF "state" C ta) := by
  intro pins s σ H Q I h
  refine wpAny_Call_Name_kw (ld_glob I hg T.gC ?_ hdb)
  refine PySem.W.callWith_K (h₀ := X.base) I.ok.mod.kin T.kC (thn (ha.run pos pins s σ H _ I h) fun us s1 hh => ?_) he hpl
  obtain ⟨vs, H1, I1, r1, v, ev, q1⟩ := hh
  subst ev
  refine ⟨I1.kIn, ?_⟩
  cases r1 with
  | cons rv rn =>
    rename_i v' us'
    cases rn
    show wpAny _ _ (call (.ref C) [v']) _ _ _
    have hlim := I1.nolimit
    obtain ⟨hp, g, dr, tk, os⟩ := s1
    refine wpAny_call (LState.made T I1.kIn hlim (by have := hr.dp; omega) fun h' tk' e d M => ?_)
    show MkP X pins σ Q (.ref e) ⟨h', g, dr, tk', os⟩
    obtain ⟨oe, fv, hoe, hc, hd, hdat, h1⟩ := M.obj
    have hns := M.ns
    obtain ⟨G', g1, g2⟩ := restrict h' fun b => decide (b ≠ e)
    have gk : ∀ b, b ≠ e → G'.get? b = h'.get? b := fun b hb => g1 b (decide_eq_true hb)
    have ge : G'.get? e = none := g2 e (by simp)
    have old : ∀ b o, hp.get? b = some o → G'.get? b = some o := fun b o q => (gk b (Nat.ne_of_lt (Nat.lt_of_lt_of_le (Heap.lt_size q) M.new))).trans (M.keep b o q)
    have ob : ObjOk X.prog X.w (upd H1 d (.xd [(("state" : Str), v)])) G' d (.xd [(("state" : Str), v)]) :=
      ⟨_, hns.at (fun o q => (gk d M.dne).trans q), fun f => relO_one rv f⟩
    have J : Inv X pins σ (upd H1 d (.xd [(("state" : Str), v)])) ⟨G', g, dr, tk', os⟩ := I1.laid (t' := tk') old M.dbig ob
    refine ⟨e, oe, fv, ⟨G', g, dr, tk', os⟩, _, .ref C, some d, rfl, J, fun b o q => ?_, ge, hoe, ⟨hc, hd⟩, hdat, h1, ?_, rfl, I1.bare, raises_own T.exC T.tyC, q1 d (I1.hok.fresh M.dbig)⟩
    · by_cases hb : b = e
      · have q' : G'.get? b = some o := q
        rw [hb, ge] at q'; cases q'
      · exact (gk b hb).symm.trans q
    · rw [upd_ne (Ne.symm M.dne)]
      exact I1.hok.fresh M.new
theorem ps_raise_LState {a : Expr} {ta : TA} {W : WX} {p pos pos2 : Pos} {k : Nat} (hc : X.calm = true) (T : LState.Txt X.K X.mg cn ql bm C fI) (hr : Room k X.A) (tk : Takes X W) (ha : PA X [a] ta) (hg : Gl X cn := by rfl)
    (he : starEach (a :: []) X.env = (false, eval a X.env) :: starEach [] X.env := by rfl) (hpl : (backTo pos (starEach [] X.env)).any (·.1) = false := by rfl) (hdb : (cn == ("__debug__" : Str)) = false := by decide) :
    PS X (.Raise (some (.Call (.Name cn p) [a] [] pos)) none pos2) (tRaiseF "state" C W ta) := ps_raise hc tk (pmk_LState T hr ha hg he hpl hdb)
theorem pe_by_LState {a : Addr} {oe : Obj} {cls : Value} {d : Option Addr} {pn : List (Addr × Obj)} {e : Expr} {te : TE} {pos : Pos} (T : LState.Txt X.K X.mg cn ql bm C fI) (hz : Zc cls d oe) (hf : ∃ vs, oe.data = .fields vs) (he : PE (X.suite a ((a, oe) :: pn)) e te)
    (hb : attributeBase e "state" X.env (eval e X.env) = eval e X.env := by rfl) :
    PE (X.suite a ((a, oe) :: pn)) (.Attribute e "state" pos) (tByF "state" C a cls d te) := by
  refine ⟨fun pins s σ H Q I h => ?_⟩
  refine attr_of hb (thn (he.run pins s σ H _ I h) fun u s1 hh => ?_)
  obtain ⟨x, H1, I1, rx, ex, ec, dd, v, ed, ea, q⟩ := hh
  subst ex
  obtain rfl : u = Value.ref a := rx
  subst ec
  subst ed
  obtain ⟨ha, _⟩ := I1.pin (a, oe) (List.mem_append_left _ List.mem_cons_self)
  obtain ⟨vs, hd⟩ := hf
  have hx : ObjOk X.prog X.w H1 s1.heap dd (.xd [(("state" : Str), v)]) := I1.hok dd _ ea
  obtain ⟨mA, hns, hr⟩ := hx
  obtain ⟨od, ho, hl⟩ := lookIn_ns hns
  have l : List.lookup ("state" : Str) [(("state" : Str), v)] = some v := by simp [List.lookup]
  obtain ⟨u, hu, ru⟩ := RelO.some_of (v := v) (o := mA "state") (by rw [← l]; exact hr "state")
  have J : PySem.W.InstAt s1.heap a oe C (some od) := ⟨ha, hz.1, by unfold PySem.W.notCls; rw [hd] <;> rfl, by rw [hz.2]; exact ho⟩
  exact HandSPX.exc_get I1.kIn J T.ga T.gg T.exC (PySem.W.findObj_own T.hdC T.noN rfl (by rw [hl, hu])) (handed_of ru) ⟨v, H1, I1.tok _, ru, q⟩
end
end K1

namespace K1
namespace LDeed
open PySem PySem.W PySem.Calls PyProof.Rows PySem.HandSPX
/-- the text of __init__ -/
def iA (p1 p2 : Pos) : Arguments := { posonlyargs := [], args := [{ arg := "self", annotation := none, pos := p1 }, { arg := "deed", annotation := none, pos := p2 }], vararg := none, kwonlyargs := [], kw_defaults := [], kwarg := none, defaults := [] }
def iB (q1 q2 q3 q4 : Pos) : List Stmt := [.Assign [.Attribute (.Name "self" q1) "deed" q2] (.Name "deed" q3) q4]
def iS : Scope := { kind := .function, names := [(PySem.Str.ofString "self", .local), (PySem.Str.ofString "deed", .local)], isGenerator := false, isCoroutine := false, more := [] }
/-- what the written part says of the class at C (named cn), of its chain bm, and of its __init__, at fI -/
structure Txt (K : Frag) (mg : Str → Option Value) (cn ql : Str) (bm : List Value) (C fI : Addr) : Prop where
  gC : mg cn = some (.ref C)
  cls : ∃ nm q N bs sn sub ab col dd k0 k1 k2 k3 k5, K.lookup C = some (excClassObj nm q C N bs bm true sn sub ab col dd k0 k1 k2 k3 k5 "LookupError.__new__")
  mr : Mro "LookupError" bm
  sa : findIn K (.ref C) "__setattr__" = some (some (.builtin "object.__setattr__"))
  ga : findIn K (.ref C) "__getattribute__" = some (some (.builtin "BaseException.__getattribute__"))
  gg : findIn K (.ref C) "__getattr__" = some none
  noN : findIn K (.ref C) "deed" = some none
  iC : findIn K (.ref C) "__init__" = some (some (.ref fI))
  tC : typeIn K (.ref fI) = some (.type "function")
  kC : keepIn K (.ref C) = true
  exC : subIn K (.ref C) (.type "BaseException") = some true
  tyC : typeIn K (.ref C) = some (.type "type")
  hdC : hasDictIn K C = true
  fn : ∃ (oc : Value) (od : Option Addr) (doc pm : Value) (an : Option Addr) (cdv ct : Value) (osl : Array (Option Value)) (p1 p2 q1 q2 q3 q4 : Pos),
    K.lookup fI = some ⟨oc, od, .func (fnOf "__init__" ql (iA p1 p2) (iB q1 q2 q3 q4) iS .none .none doc pm an cdv ct), osl⟩ ∧ codeIn K cdv ql = true
/-- what __init__ leaves of a fresh exception at x -/
structure InitEnd (h h' : Heap) (x C dx t1 : Addr) (v : Value) : Prop where
  keep : ∀ b o, b ≠ x → h.get? b = some o → h'.get? b = some o
  obj : h'.get? x = some { cls := .ref C, dict := some dx, data := .fields #[.ref t1, .none, .none, .none, .bool false, .none] }
  dbig : h.objs.size ≤ dx
  dne : dx ≠ x
  ns : h'.Ns1 dx (fun y => if y = "deed" then some v else none)
structure OwnMade (h h' : Heap) (e C d : Addr) (v : Value) : Prop where
  keep : ∀ b o, h.get? b = some o → h'.get? b = some o
  new : h.objs.size ≤ e
  obj : ∃ oe vs, h'.get? e = some oe ∧ oe.cls = .ref C ∧ oe.dict = some d ∧ oe.data = .fields vs ∧ vs[1]? = some .none
  dbig : h.objs.size ≤ d
  dne : d ≠ e
  ns : h'.Ns1 d (fun y => if y = "deed" then some v else none)
section
variable {prog : Program} {w : World} {A : Around} {E : Value → Shared → Prop} {R : Result → Shared → Prop} {s : Shared} {K : Frag} {mg : Str → Option Value} {cn ql : Str} {bm : List Value} {C fI : Addr}
theorem init (T : Txt K mg cn ql bm C fI) {x t0 : Addr} {v : Value} (X : K.In s.heap) (hlim : s.heap.NoLimit) (hx : s.heap.get? x = some (excO C t0)) (hnx : K.lookup x = none) (hroom : A.depth < recursionLimit)
    (hq : ∀ h' tk dx, InitEnd s.heap h' x C dx t0 v → R (.ok (.ret .none)) { s with heap := h', toks := tk }) :
    codeAny (model prog w) A (.call (.ref fI) ⟨[.ref x, v], []⟩) R s := by
  obtain ⟨oc, od, doc, pm, an, cdv, ct, osl, p1, p2, q1, q2, q3, q4, ho, hcd⟩ := T.fn
  obtain ⟨nm, q, N, bs, sn, sub, ab, col, dd, k0, k1, k2, k3, k5, hC⟩ := T.cls
  have hcl : clsIn K C = some { name := nm, bases := bs, mro := .ref C :: bm, ns := N, qualname := q, hasDict := true, slotNames := sn, subclasses := sub, abstract := ab, collection := col, hasDel := false } := by unfold clsIn; rw [hC] <;> rfl
  refine Att.call_fn (binds := [("self", .ref x), ("deed", v)]) X hlim ho hcd hroom (BindsTo.of_eq (by first | rfl | with_unfolding_all rfl)) (by first | rfl | decide | with_unfolding_all rfl) (fun s₁ IC => ?_) rfl rfl rfl
  obtain ⟨h₁, tk₁, rfl⟩ := IC.toInCall.same
  have k : ∀ b o, s.heap.get? b = some o → h₁.get? b = some o := IC.toInCall.keep
  have hn := IC.toInCall.ns
  have X₁ : K.In h₁ := X.keeps k
  have hx₁ := k _ _ hx
  show wpAny _ _ (execs _ _) _ _ _
  refine wpAny_execs_cons (plainObj_wpAny_Assign_Attribute ?_)
  refine ldE (v := v) hn (by first | rfl | with_unfolding_all rfl | kernel_rfl) (ldE (v := .ref x) hn (by first | rfl | with_unfolding_all rfl | kernel_rfl) ?_)
  refine set_plain X₁ (ox := excO C t0) (od := none) ⟨hx₁, rfl, rfl, trivial⟩ T.sa ?_
  refine exc_osaG X₁ hx₁ hcl rfl T.mr rfl T.noN (fun h₃ tk₃ dx k₃ dn dne hx₃ hn₃ => ?_)
  show wpAny _ _ (execs _ _) _ _ _
  have z : s.heap.objs.size < h₁.objs.size := hn.lt
  exact wpAny_execs_nil (hq h₃ tk₃ dx ⟨fun b o hb e => k₃ b o hb (k b o e), hx₃, Nat.le_of_lt (Nat.lt_of_lt_of_le z dn), dne, hn₃⟩)
theorem made (T : Txt K mg cn ql bm C fI) {v : Value} (X : K.In s.heap) (hlim : s.heap.NoLimit) (hroom : A.depth + 1 < recursionLimit)
    (hq : ∀ h' tk e d, OwnMade s.heap h' e C d v → R (.ok (.ret (.ref e))) { s with heap := h', toks := tk }) :
    codeAny (model prog w) A (.call (.ref C) ⟨[v], []⟩) R s := by
  obtain ⟨nm, q, N, bs, sn, sub, ab, col, dd, k0, k1, k2, k3, k5, hC⟩ := T.cls
  obtain ⟨hp, g, dr, tk, os⟩ := s
  have k : ∀ b o, hp.get? b = some o → ((hp.push (kdv_tup [v])).push (excO C hp.objs.size)).get? b = some o := fun b o e => Heap.get?_push_of_some _ (Heap.get?_push_of_some _ e)
  have hget : ((hp.push (kdv_tup [v])).push (excO C hp.objs.size)).get? (hp.objs.size + 1) = some (excO C hp.objs.size) := by heap_get
  have hnx : K.lookup (hp.objs.size + 1) = none := by
    cases e : K.lookup (hp.objs.size + 1) with
    | none => rfl
    | some o =>
      have z : hp.get? (hp.objs.size + 1) = some o := X _ _ e
      exact absurd (Nat.lt_of_succ_lt (Heap.lt_size z)) (Nat.lt_irrefl _)
  refine call_ownG F.excBase_LookupError T.mr (X _ _ hC) (looks_findIn X T.iC) (fun self => bind_fn X self T.tC) (one_le v) ?_
  refine init (s := ⟨(hp.push (kdv_tup [v])).push (excO C hp.objs.size), g, dr, tk, os⟩) T (X.keeps k) (hlim.keeps k) hget hnx ?_ fun h' tk' dx ⟨k', hx, dn, dne, hns⟩ => ?_
  · show A.depth + 1 < recursionLimit
    exact hroom
  · have old : ∀ b o, hp.get? b = some o → h'.get? b = some o := fun b o e => k' b o (Nat.ne_of_lt (Nat.lt_succ_of_lt (Heap.lt_size e))) (k b o e)
    have z : hp.objs.size + 1 + 1 ≤ dx := by
      first
        | (simpa only [Heap.size_push] using dn)
        | exact dn
        | (have q := dn; rw [Heap.size_push, Heap.size_push] at q; exact q)
    exact ⟨rfl, hq h' tk' (hp.objs.size + 1) dx ⟨old, Nat.le_succ _, ⟨_, _, hx, rfl, rfl, rfl, rfl⟩, Nat.le_trans (Nat.le_trans (Nat.le_succ _) (Nat.le_succ _)) z, dne, hns⟩⟩
end
end LDeed
end K1
namespace K1
open PySem PySem.Spec PyProof.Rows L2
section
variable {X : Cx} {cn ql : Str} {bm : List Value} {C fI : Addr}
theorem pmk_LDeed {a : Expr} {ta : TA} {p pos : Pos} {k : Nat} (T : LDeed.Txt X.K X.mg cn ql bm C fI) (hr : Room k X.A) (ha : PA X [a] ta) (hg : Gl X cn := by rfl)
    (he : starEach (a :: []) X.env = (false, eval a X.env) :: starEach [] X.env := by rfl) (hpl : (backTo pos (starEach [] X.env)).any (·.1) = false := by rfl) (hdb : (cn == ("__debug__" : Str)) = false := by decide) :
    PMk X (.Call (.Name cn p) [a] [] pos) (tMkF "deed" C ta) := by
  intro pins s σ H Q I h
  refine wpAny_Call_Name_kw (ld_glob I hg T.gC ?_ hdb)
  refine PySem.W.callWith_K (h₀ := X.base) I.ok.mod.kin T.kC (thn (ha.run pos pins s σ H _ I h) fun us s1 hh => ?_) he hpl
  obtain ⟨vs, H1, I1, r1, v, ev, q1⟩ := hh
  subst ev
  refine ⟨I1.kIn, ?_⟩
  cases r1 with
  | cons rv rn =>
    rename_i v' us'
    cases rn
    show wpAny _ _ (call (.ref C) [v']) _ _ _
    have hlim := I1.nolimit
    obtain ⟨hp, g, dr, tk, os⟩ := s1
    refine wpAny_call (LDeed.made T I1.kIn hlim (by have := hr.dp; omega) fun h' tk' e d M => ?_)
    show MkP X pins σ Q (.ref e) ⟨h', g, dr, tk', os⟩
    obtain ⟨oe, fv, hoe, hc, hd, hdat, h1⟩ := M.obj
    have hns := M.ns
    obtain ⟨G', g1, g2⟩ := restrict h' fun b => decide (b ≠ e)
    have gk : ∀ b, b ≠ e → G'.get? b = h'.get? b := fun b hb => g1 b (decide_eq_true hb)
    have ge : G'.get? e = none := g2 e (by simp)
    have old : ∀ b o, hp.get? b = some o → G'.get? b = some o := fun b o q => (gk b (Nat.ne_of_lt (Nat.lt_of_lt_of_le (Heap.lt_size q) M.new))).trans (M.keep b o q)
    have ob : ObjOk X.prog X.w (upd H1 d (.xd [(("deed" : Str), v)])) G' d (.xd [(("deed" : Str), v)]) :=
      ⟨_, hns.at (fun o q => (gk d M.dne).trans q), fun f => relO_one rv f⟩
    have J : Inv X pins σ (upd H1 d (.xd [(("deed" : Str), v)])) ⟨G', g, dr, tk', os⟩ := I1.laid (t' := tk') old M.dbig ob
    refine ⟨e, oe, fv, ⟨G', g, dr, tk', os⟩, _, .ref C, some d, rfl, J, fun b o q => ?_, ge, hoe, ⟨hc, hd⟩, hdat, h1, ?_, rfl, I1.bare, raises_own T.exC T.tyC, q1 d (I1.hok.fresh M.dbig)⟩
    · by_cases hb : b = e
      · have q' : G'.get? b = some o := q
        rw [hb, ge] at q'; cases q'
      · exact (gk b hb).symm.trans q
    · rw [upd_ne (Ne.symm M.dne)]
      exact I1.hok.fresh M.new
theorem ps_raise_LDeed {a : Expr} {ta : TA} {W : WX} {p pos pos2 : Pos} {k : Nat} (hc : X.calm = true) (T : LDeed.Txt X.K X.mg cn ql bm C fI) (hr : Room k X.A) (tk : Takes X W) (ha : PA X [a] ta) (hg : Gl X cn := by rfl)
    (he : starEach (a :: []) X.env = (false, eval a X.env) :: starEach [] X.env := by rfl) (hpl : (backTo pos (starEach [] X.env)).any (·.1) = false := by rfl) (hdb : (cn == ("__debug__" : Str)) = false := by decide) :
    PS X (.Raise (some (.Call (.Name cn p) [a] [] pos)) none pos2) (tRaiseF "deed" C W ta) := ps_raise hc tk (pmk_LDeed T hr ha hg he hpl hdb)
theorem pe_by_LDeed {a : Addr} {oe : Obj} {cls : Value} {d : Option Addr} {pn : List (Addr × Obj)} {e : Expr} {te : TE} {pos : Pos} (T : LDeed.Txt X.K X.mg cn ql bm C fI) (hz : Zc cls d oe) (hf : ∃ vs, oe.data = .fields vs) (he : PE (X.suite a ((a, oe) :: pn)) e te)
    (hb : attributeBase e "deed" X.env (eval e X.env) = eval e X.env := by rfl) :
    PE (X.suite a ((a, oe) :: pn)) (.Attribute e "deed" pos) (tByF "deed" C a cls d te) := by
  refine ⟨fun pins s σ H Q I h => ?_⟩
  refine attr_of hb (thn (he.run pins s σ H _ I h) fun u s1 hh => ?_)
  obtain ⟨x, H1, I1, rx, ex, ec, dd, v, ed, ea, q⟩ := hh
  subst ex
  obtain rfl : u = Value.ref a := rx
  subst ec
  subst ed
  obtain ⟨ha, _⟩ := I1.pin (a, oe) (List.mem_append_left _ List.mem_cons_self)
  obtain ⟨vs, hd⟩ := hf
  have hx : ObjOk X.prog X.w H1 s1.heap dd (.xd [(("deed" : Str), v)]) := I1.hok dd _ ea
  obtain ⟨mA, hns, hr⟩ := hx
  obtain ⟨od, ho, hl⟩ := lookIn_ns hns
  have l : List.lookup ("deed" : Str) [(("deed" : Str), v)] = some v := by simp [List.lookup]
  obtain ⟨u, hu, ru⟩ := RelO.some_of (v := v) (o := mA "deed") (by rw [← l]; exact hr "deed")
  have J : PySem.W.InstAt s1.heap a oe C (some od) := ⟨ha, hz.1, by unfold PySem.W.notCls; rw [hd] <;> rfl, by rw [hz.2]; exact ho⟩
  exact HandSPX.exc_get I1.kIn J T.ga T.gg T.exC (PySem.W.findObj_own T.hdC T.noN rfl (by rw [hl, hu])) (handed_of ru) ⟨v, H1, I1.tok _, ru, q⟩
end
end K1
/-! enumerate over a tuple, repr of data of any depth, isinstance of a held exception -/
namespace K1
open PySem PySem.Spec PyProof.Rows L2
theorem meets_enum1 {v : Value} {o : Obj} {H : Heap → Prop} (B : Begins v o H) :
    Meets (Builtin.«enumerate.__new__» ⟨[.type "enumerate", v], []⟩) (fun _ R s => H s.heap ∧
      R (.ok (.ret (.ref (s.heap.push o).objs.size))) { s with heap := (s.heap.push o).push { cls := .type "enumerate", data := .fields #[.none, .bool false, .ref s.heap.objs.size, rawInt 0, .none, .none] } }) :=
  .of_wp fun prog w A R s h => by
    obtain ⟨hp, g, d, tk, os⟩ := s
    obtain ⟨h1, h⟩ := h
    have hsub := sub_enumerate
    have q1 : ∀ {A' : Around} {E : Value → Shared → Prop} {Q : Value → Shared → Prop}, Q (.ref hp.objs.size) ⟨hp.push o, g, d, tk, os⟩ → wpAny (model prog w) A' (pyIter v) Q E ⟨hp, g, d, tk, os⟩ :=
      fun q => B.iter prog w _ _ ⟨hp, g, d, tk, os⟩ _ h1 q
    wp_walk using q1
    refine wpAny_stack_any fun st => wpAny_pure ?_
    split
    · rename_i c _ _ _ _ _
      cases (c == Value.type "enumerate") <;> (wp_walk using q1; exact ⟨_, rfl, h⟩)
    · wp_walk using q1
      exact ⟨_, rfl, h⟩
theorem enum_begins1 {prog : Program} {w : World} {A : Around} {E : Value → Shared → Prop} {s : Shared} {v : Value} {o : Obj} {H : Heap → Prop} {Q : Value → Shared → Prop} (B : Begins v o H) (h1 : H s.heap)
    (h : ∀ h', IsEnum h' (s.heap.objs.size + 1) s.heap.objs.size 0 .none → h'.get? s.heap.objs.size = some o → h'.objs.size = s.heap.objs.size + 2 →
      (∀ b o, s.heap.get? b = some o → h'.get? b = some o) → Q (.ref (s.heap.objs.size + 1)) { s with heap := h' }) :
    wpAny (model prog w) A (call (.type "enumerate") [v]) Q E s := by
  refine callType_new F.called_enumerate (by decide) (F.typeCall_enumerate_1 _) (F.newCall_enumerate_1 _) (fun obj => F.args_object_init_2 obj _) F.entry_enumerate_new (meets_enum1 B) ⟨h1, ?_⟩
  have hz : (s.heap.push o).objs.size = s.heap.objs.size + 1 := Heap.size_push ..
  show _ ∧ _
  rw [hz]
  have he := Heap.get?_push_size (s.heap.push o) (o := { cls := .type "enumerate", data := .fields #[.none, .bool false, .ref s.heap.objs.size, rawInt 0, .none, .none] }) rfl
  rw [hz] at he
  exact ⟨⟨_, he, rfl⟩, h _ he (Heap.get?_push_of_some _ (Heap.get?_push_size _ B.free)) (by rw [Heap.size_push, hz]) fun b o x => Heap.get?_push_of_some _ (Heap.get?_push_of_some _ x)⟩
/-- the tuple at a, each item in a new pair -/
def IteT (K : PySem.W.Frag) (a : Addr) : It :=
  ⟨fun i H => ∃ (xs : List V) (x : V), SqT K H a xs ∧ xs[i]? = some x, fun i H v H' => ∃ T x, v = .ref T ∧ H T = none ∧ H' = upd H T (.tup [.int (i : Nat), x]) ∧ ∀ xs, SqT K H a xs → xs[i]? = some x, fun i H => ∃ xs : List V, SqT K H a xs ∧ xs.length ≤ i⟩
theorem turn_enumT {P : Program} {w : World} {K : PySem.W.Frag} {elts : List Expr} {kk : Nat} {tpos : Pos} (a e it : Addr) :
    Turn P w K (.Tuple elts kk tpos) (IteT K a) [e, it] e (fun i h => (∃ old, IsEnum h e it ((i : Nat) : Int) old) ∧ h.IsTupleIter it a i ∧ e ≠ it ∧ e ≠ a ∧ a ≠ it) where
  mem := by simp
  obj := fun i h st b hb => by
    obtain ⟨⟨old, he⟩, ⟨o, ho, hc, hd⟩, _⟩ := st
    rcases (show b = e ∨ b = it by simpa using hb) with z | z
    · rw [z]; exact ⟨_, he, fun v q => nomatch q⟩
    · rw [z]; exact ⟨o, ho, fun v q => by rw [hd] at q; cases q⟩
  keep := fun i h h' st k => let ⟨⟨old, he⟩, hi, hne⟩ := st; ⟨⟨old, k e (by simp) _ he⟩, hi.at fun o q => k it (by simp) o q, hne⟩
  item := by
    intro X hP hw hK hc i pins s σ H E I hf st hg
    subst hP hw hK
    obtain ⟨⟨old, he⟩, hit, hne, nea, nai⟩ := st
    obtain ⟨xs, x, hq, hx⟩ := hg
    obtain ⟨its, rv, p, hz⟩ := I.tuple hq
    obtain ⟨u, hu, ru⟩ := rv.get hx
    have hil' := (List.getElem?_eq_some_iff.mp hu).1
    have hel : e < s.heap.objs.size := Heap.lt_size he
    have hil : it < s.heap.objs.size := by obtain ⟨_, q, _⟩ := hit; exact Heap.lt_size q
    have D := Draws.tuple (prog := X.prog) (w := X.w) (A := X.A.in1) (show X.A.in1.handled = none from I.ok.hd hc) it a nai its.toArray
    refine wpAny_pyNext_enum_itemD D he ⟨hit, (show s.heap.IsTuple a its.toArray from p)⟩ (by simpa using hil') hne (by simp [hne, nea]) fun y h' tk hy ho hst hT hsz hk => ?_
    have ey : y = u := by
      have z : its[i]? = some y := by simpa using hy
      rw [hu] at z
      exact (Option.some.inj z).symm
    subst ey
    refine ⟨_, rfl, wpAny_letOwnedTupleGo_enum (s := { s with heap := h', toks := tk + 1 }) ho fun h'' he' sb => ?_⟩
    have hT2 : h''.get? s.heap.objs.size = some { cls := .type "tuple", data := .seq #[.int i tk, y] } := (sb.2 _ (Nat.ne_of_gt hel)).trans hT
    have new : ObjOk X.prog X.w (upd H s.heap.objs.size (.tup [.int (i : Nat), x])) h'' s.heap.objs.size (.tup [.int (i : Nat), x]) :=
      ⟨by show 2 ≤ sizeLine; decide, [.int i tk, y], .cons ⟨_, rfl⟩ (.cons ru .nil), ⟨_, hT2, rfl, _, rfl⟩⟩
    have I1 : Inv X pins σ (upd H s.heap.objs.size (.tup [.int (i : Nat), x])) { s with heap := h'', toks := tk + 1 } :=
      I.turnedNew (ch := [e, it]) (fun b ob hb q => (sb.2 b (fun z => hb (by simp [z]))).trans (hk b ob (fun z => hb (by simp [z])) (fun z => hb (by simp [z])) q)) hf (Nat.le_refl _) new
    refine ⟨.ref s.heap.objs.size, _, I1, rfl, ⟨_, x, rfl, I.hok.fresh (Nat.le_refl _), rfl, fun ys hy => by rw [I.tuple_inj hy hq]; exact hx⟩, ⟨⟨y, ?_⟩, hst.1.at fun o q => (sb.2 it (Ne.symm hne)).trans q, hne, nea, nai⟩, fun b hb => ?_⟩
    · have e1 : ((i + 1 : Nat) : Int) = (i : Int) + 1 := by omega
      rw [e1]; exact he'
    · have hb' : b < s.heap.objs.size := by
        rcases (show b = e ∨ b = it by simpa using hb) with z | z
        · rw [z]; exact hel
        · rw [z]; exact hil
      rw [upd_ne (Nat.ne_of_lt hb')]
      exact (hf b hb).1
  done := by
    intro X hP hw hK hc i pins s σ H E I hf st hg
    subst hP hw hK
    obtain ⟨⟨old, he⟩, hit, hne, nea, nai⟩ := st
    obtain ⟨xs, hq, hx⟩ := hg
    obtain ⟨its, rv, p, hz⟩ := I.tuple hq
    obtain ⟨f0, f1, f2, f3, f4, f5⟩ := hf it (by simp)
    have hl := rv.length
    have hTs : s.TypeIs (.ref e) "enumerate" := ⟨_, he, rfl⟩
    unfold pyNext
    refine wpAny_bind (wpAny_attempt (wpAny_callSpecial?_slot (name := Str.ofString "__next__") hTs F.slot_enumerate_next
      (wpAny_call_entry F.slot_enumerate_next hTs F.entry_enumerate_next ?_ (F.args_enumerate_next_1 _))))
    show wpAny _ _ (field (.ref e) 2 >>= _) _ _ _
    refine wpAny_bind (wpAny_field he rfl (x := .ref it) rfl ?_)
    refine wpAny_bind (wpAny_nextOf_tuple_end (show X.A.in1.handled = none from I.ok.hd hc) hit (show s.heap.IsTuple a its.toArray from p) (by simp; omega) fun h' y eb hx' => ?_)
    obtain ⟨o, ho, hc'⟩ := hx'
    refine wpAny_bind (wpAny_isInstance (T := "StopIteration") (b := true) ⟨o, ho, hc'⟩ isSubtype_stop ?_)
    exact wpAny_pure ⟨rfl, I.turned (t' := s.toks) (fun b o hb q => eb b o hb q) f0 f1 f3 f4 f5⟩
  self := fun A i s Q E st h => let ⟨⟨_, he⟩, _⟩ := st; wpAny_pyIter_enum he h
def iEnumA (K : PySem.W.Frag) (ta : TA) : TI := fun σ H R => ta σ H fun vs H1 => ∃ a, vs = [.ref a] ∧ ((∃ xs, SqL K H1 a xs ∧ R (Ite K a) H1) ∨ (∃ xs, SqT K H1 a xs ∧ R (IteT K a) H1))
theorem pi_enumA {X : Cx} {e : Expr} {ta : TA} {p pos tpos : Pos} {elts : List Expr} {kk : Nat} (hg : Gl X "enumerate") (hm : X.mg "enumerate" = none) (ha : PA X [e] ta) (hs : starEach [e] X.env = [(false, eval e X.env)] := by rfl) :
    PI X (.Tuple elts kk tpos) (.Call (.Name "enumerate" p) [e] [] pos) (iEnumA X.K ta) := by
  refine ⟨fun pins s σ H R I h => ?_⟩
  refine Call_ (ld_blt I hg hm boot_enumerate (PyProof.Rows.callWith_type1 (thn (ha.run pos pins s σ H _ I h) fun us s1 ⟨vs, H1, I1, r1, q1⟩ => ?_) hs rfl))
  obtain ⟨a, ex, q⟩ := q1
  subst ex
  cases r1 with
  | cons r rr =>
    cases rr
    cases r
    have big : ∀ b ∈ [s1.heap.objs.size + 1, s1.heap.objs.size], s1.heap.objs.size ≤ b := fun b hb => by
      rcases (show b = s1.heap.objs.size + 1 ∨ b = s1.heap.objs.size by simpa using hb) with z | z
      · rw [z]; exact Nat.le_add_right _ _
      · rw [z]; exact Nat.le_refl _
    rcases q with ⟨xs, hq, q⟩ | ⟨xs, hq, q⟩
    · obtain ⟨its, rv, p', hz⟩ := I1.list hq
      refine call_enumerate_list p'.isList fun h' he hit hsz hk => wpAny_pyIter_enum he ?_
      have I2 : Inv X pins σ H1 { s1 with heap := h' } := I1.kept (t' := s1.toks) hk
      exact ⟨s1.heap.objs.size + 1, [s1.heap.objs.size + 1, s1.heap.objs.size], _, _, H1, rfl, I2, turn_enum a (s1.heap.objs.size + 1) s1.heap.objs.size, ⟨⟨.none, he⟩, hit, Nat.succ_ne_self _⟩, fun b hb => I1.fpOk (big b hb) (I1.hok.fresh (big b hb)), q⟩
    · obtain ⟨its, rv, p', hz⟩ := I1.tuple hq
      have hp : s1.heap.IsTuple a its.toArray := p'
      have hal : a < s1.heap.objs.size := by obtain ⟨_, q, _⟩ := hp; exact Heap.lt_size q
      refine enum_begins1 (begins_tuple a its.toArray) hp fun h' he hit hsz hk => wpAny_pyIter_enum he ?_
      have I2 : Inv X pins σ H1 { s1 with heap := h' } := I1.kept (t' := s1.toks) hk
      exact ⟨s1.heap.objs.size + 1, [s1.heap.objs.size + 1, s1.heap.objs.size], _, _, H1, rfl, I2, turn_enumT a (s1.heap.objs.size + 1) s1.heap.objs.size, ⟨⟨.none, he⟩, ⟨_, hit, rfl, rfl⟩, Nat.succ_ne_self _, Nat.ne_of_gt (Nat.lt_succ_of_lt hal), Nat.ne_of_lt hal⟩, fun b hb => I1.fpOk (big b hb) (I1.hok.fresh (big b hb)), q⟩
section
variable {K : PySem.W.Frag} {a : Addr} {xs : List V} {g : TG} {tb : TS} {D : Ends} {σ : L2.St} {H : Hp}
theorem for_enumL (Pv : Nat → L2.St → Hp → Prop) (h0 : Pv 0 σ H) (hl : ∀ i σ H, i ≤ xs.length → Pv i σ H → SqL K H a xs)
    (hs : ∀ i x T σ H, xs[i]? = some x → H T = none → Pv i σ H → g (.ref T) σ (upd H T (.tup [.int (i : Nat), x])) fun σ2 H2 => tb { D with nx := Pv (i + 1), ct := Pv (i + 1), bk := D.nx } σ2 H2) (hd : ∀ σ H, Pv xs.length σ H → D.nx σ H) :
    ∃ W : Nat → Nat → L2.St → Hp → Prop, (∃ m, W 0 m σ H) ∧ ∀ i m σ H, W i m σ H →
      ((Ite K a).stop i H ∧ D.nx σ H) ∨ ((Ite K a).go i H ∧ ∃ N : L2.St → Hp → Prop, (∀ σ' H', N σ' H' → ∃ m', m' < m ∧ W (i + 1) m' σ' H') ∧ ∀ x H', (Ite K a).yld i H x H' → g x σ H' fun σ2 H2 => tb { D with nx := N, ct := N, bk := D.nx } σ2 H2) := by
  refine ⟨fun i m σ H => m = xs.length - i ∧ i ≤ xs.length ∧ Pv i σ H, ⟨xs.length, by simp, Nat.zero_le _, h0⟩, ?_⟩
  rintro i m σ H ⟨rfl, hi, p⟩
  have q := hl i σ H hi p
  by_cases hlt : i < xs.length
  · refine .inr ⟨⟨xs, xs[i], q, by simp [hlt]⟩, Pv (i + 1), fun σ' H' p' => ⟨xs.length - (i + 1), by omega, rfl, hlt, p'⟩, fun x H' y => ?_⟩
    obtain ⟨T, x', e1, e2, e3, e4⟩ := y
    subst e1 e3
    exact hs i x' T σ H (e4 xs q) e2 p
  · have e : i = xs.length := by omega
    subst e
    exact .inl ⟨⟨xs, q, Nat.le_refl _⟩, hd σ H p⟩
theorem for_enumT (Pv : Nat → L2.St → Hp → Prop) (h0 : Pv 0 σ H) (hl : ∀ i σ H, i ≤ xs.length → Pv i σ H → SqT K H a xs)
    (hs : ∀ i x T σ H, xs[i]? = some x → H T = none → Pv i σ H → g (.ref T) σ (upd H T (.tup [.int (i : Nat), x])) fun σ2 H2 => tb { D with nx := Pv (i + 1), ct := Pv (i + 1), bk := D.nx } σ2 H2) (hd : ∀ σ H, Pv xs.length σ H → D.nx σ H) :
    ∃ W : Nat → Nat → L2.St → Hp → Prop, (∃ m, W 0 m σ H) ∧ ∀ i m σ H, W i m σ H →
      ((IteT K a).stop i H ∧ D.nx σ H) ∨ ((IteT K a).go i H ∧ ∃ N : L2.St → Hp → Prop, (∀ σ' H', N σ' H' → ∃ m', m' < m ∧ W (i + 1) m' σ' H') ∧ ∀ x H', (IteT K a).yld i H x H' → g x σ H' fun σ2 H2 => tb { D with nx := N, ct := N, bk := D.nx } σ2 H2) := by
  refine ⟨fun i m σ H => m = xs.length - i ∧ i ≤ xs.length ∧ Pv i σ H, ⟨xs.length, by simp, Nat.zero_le _, h0⟩, ?_⟩
  rintro i m σ H ⟨rfl, hi, p⟩
  have q := hl i σ H hi p
  by_cases hlt : i < xs.length
  · refine .inr ⟨⟨xs, xs[i], q, by simp [hlt]⟩, Pv (i + 1), fun σ' H' p' => ⟨xs.length - (i + 1), by omega, rfl, hlt, p'⟩, fun x H' y => ?_⟩
    obtain ⟨T, x', e1, e2, e3, e4⟩ := y
    subst e1 e3
    exact hs i x' T σ H (e4 xs q) e2 p
  · have e : i = xs.length := by omega
    subst e
    exact .inl ⟨⟨xs, q, Nat.le_refl _⟩, hd σ H p⟩
end
/-! ### repr -/
/-- repr of what is no object -/
def rReprS : List V → Hp → VK → Prop := fun xs H Q => ∃ v, xs = [v] ∧ ((v = .non ∧ Q (.str "None") H) ∨ (∃ b : Bool, v = .bl b ∧ Q (.str (if b then "True" else "False")) H) ∨ (∃ i : Int, v = .int i ∧ i.natAbs.log2 < 1920 ∧ Q (.str (toString i)) H) ∨
  ∃ x : Str, v = .str x ∧ (reprText x).length ≤ sizeLine ∧ Q (.str (reprText x)) H)
theorem call_reprS {X : Cx} : CallR X (.builtin "repr") rReprS := by
  intro pins s σ H xs us Q I r h
  obtain ⟨v, rfl, h⟩ := h
  obtain ⟨u, rfl, rv⟩ := vals1 r
  rcases h with ⟨rfl, q⟩ | ⟨b, rfl, q⟩ | ⟨i, rfl, hz, q⟩ | ⟨x, rfl, hz, q⟩
  · cases rv
    exact PySem.P.repr_of_none ⟨.str _, H, I.tok _, ⟨_, rfl⟩, q⟩
  · cases rv
    exact PySem.P.repr_of_bool ⟨.str _, H, I.tok _, ⟨_, rfl⟩, q⟩
  · obtain ⟨t, rfl⟩ := rv
    exact PySem.P.repr_of_int hz ⟨.str _, H, I.tok _, ⟨_, rfl⟩, q⟩
  · obtain ⟨t, rfl⟩ := rv
    exact PySem.P.repr_of_str (t := t) ⟨.str _, H, I.tok _, ⟨_, rfl⟩, q⟩ hz
/-- repr of a list or tuple: plain data without dicts -/
def rRepr (K : PySem.W.Frag) : List V → Hp → VK → Prop := fun xs H Q => ∃ a d, xs = [.ref a] ∧ Dp K H (.ref a) d ∧ PyData.showable d = true ∧ PyData.hasDict d = false ∧ PyData.depth d ≤ 40 ∧ d.shown.length ≤ sizeLine ∧ Q (.str d.shown) H
theorem call_repr {X : Cx} (hg : X.A.guards = some []) (hu : X.A.units + 64 < cLine) : CallR X (.builtin "repr") (rRepr X.K) := by
  intro pins s σ H xs us Q I r h
  obtain ⟨a, d, rfl, hd, h1, h2, h3, h4, q⟩ := h
  obtain ⟨u, rfl, rv⟩ := vals1 r
  obtain ⟨as, R⟩ := Dp.reads I d _ u hd rv
  cases rv
  exact repr_of_reads' R h1 (PyData.noDict_hsm h2) hg (by omega) (fun _ _ e => e) (fun h' u' tk k => ⟨.str _, H, I.kept (t' := tk) k, ⟨_, rfl⟩, q⟩) h4
/-! ### isinstance of the exception that a suite holds, its own dict at d -/
structure ExcK (K : PySem.W.Frag) (C : Addr) : Prop where
  cl : (PySem.W.clsIn K C).isSome = true
  ga : PySem.W.findIn K (.ref C) "__getattribute__" = some (some (.builtin "BaseException.__getattribute__"))
  gt : PySem.W.findIn K (.ref C) "__getattr__" = some none
  sb : PySem.W.subIn K (.ref C) (.type "BaseException") = some true
  ca : PySem.W.findIn K (.ref C) "__class__" = some (some (.builtin "object.__class__"))
  sp : PySem.W.specialIn K (.builtin "object.__class__") "__get__" = some (some (.builtin "getset_descriptor.__get__"))
  tk : PySem.W.takesIn K (.builtin "object.__class__") = some true
  mo : PySem.W.mroIn K C (.type "object") = some true
def rIsD (K : PySem.W.Frag) (C d a : Addr) : List V → Hp → VK → Prop := fun xs H Q => ∃ (N : Addr) (g : Str) (v : V) (b : Bool), xs = [.ref a, .ref N] ∧ H d = some (.xd [(g, v)]) ∧ PySem.W.kitOne K (.ref C) (.ref N) = some b ∧ Q (.bl b) H
theorem call_isD {X : Cx} {a C d : Addr} {oe : Obj} {pn : List (Addr × Obj)} (T : ExcK X.K C) (hz : Zc (.ref C) (some d) oe) (hf : ∃ vs, oe.data = .fields vs) : CallR (X.suite a ((a, oe) :: pn)) (.builtin "isinstance") (rIsD X.K C d a) := by
  intro pins s σ H xs us Q I r h
  obtain ⟨N, g, v, b, rfl, hx, e, q⟩ := h
  obtain ⟨u1, u2, rfl, r1, r2⟩ := vals2 r
  cases r1
  cases r2
  obtain ⟨hget, _⟩ := I.pin (a, oe) (List.mem_append.mpr (.inl List.mem_cons_self))
  obtain ⟨vs, hd⟩ := hf
  have hx' : ObjOk X.prog X.w H s.heap d (.xd [(g, v)]) := I.hok d _ hx
  obtain ⟨mA, hns, hr⟩ := hx'
  obtain ⟨od, ho, hl⟩ := lookIn_ns hns
  have J : PySem.W.InstAt s.heap a oe C (some od) := ⟨hget, hz.1, by unfold PySem.W.notCls; rw [hd] <;> rfl, by rw [hz.2]; exact ho⟩
  exact PySem.W.kia_one (PySem.W.kitx_exc T.cl T.ga T.gt T.sb T.ca T.sp T.tk T.mo) I.kIn J e (fun z => nomatch z) fun tk => ⟨.bl b, H, I.kept (t' := tk) fun _ _ z => z, rfl, q⟩
/-! ### defs whose bodies show lists: they are told where nothing is being shown -/
structure FnG (P : Program) (w : World) (K : PySem.W.Frag) (mg : Str → Option Value) (base : Heap) (k : Nat) (f : Addr) (fd : FuncData) (ps : List Str) (sp : Sp) : Prop where
  len : ∀ vs H Q E, sp vs H Q E → vs.length = ps.length
  run : ∀ (A : Around) (outer : List Env) (s : Shared) (H : Hp) (args : Args) (us : List Value) (vs : List V) (Q : VK) (E : XK), Room k A → A.guards = some [] → Env0 P w K mg base A outer s H → BindsTo s fd args (ps.zip us) → Vals vs us → sp vs H Q E →
    codeAny (model P w) A (.call (.ref f) args) (CR CX0 outer P w H s Q E) s
end K1
/-! the text by places; short words for calls -/
namespace K1
open PySem PySem.Spec PyProof.Rows L2
def top (i : Nat) : Stmt := PySem.Challenge.pw_houseslessties_k07_whole_machines_that_t.main.body.getD i (.Pass ⟨0, 0, 0, 0⟩)
abbrev sWhole : Stmt := top 6
abbrev sBelow : Stmt := top 7
abbrev sSeq : Stmt := top 8
abbrev sFnb : Stmt := top 9
abbrev sMInit : Stmt := inClass (top 14) 0
abbrev sMEq : Stmt := inClass (top 14) 1
abbrev sIsTab : Stmt := top 15
abbrev sChk : Stmt := top 16
abbrev sNeedS : Stmt := top 17
abbrev sFault : Stmt := top 18
abbrev sMoved : Stmt := top 19
abbrev sFirst : Stmt := top 20
abbrev sOrbit : Stmt := top 21
abbrev sBox : Stmt := top 32
abbrev sTake : Stmt := top 33
abbrev sPick : Stmt := top 34
abbrev sTabs : Stmt := top 35
abbrev sLaw : Stmt := top 45
abbrev sParting : Stmt := top 24
abbrev sTPaper : Stmt := top 25
abbrev sIsTell : Stmt := top 26
abbrev sPRow : Stmt := top 27
abbrev sTHolds : Stmt := top 28
abbrev sCPaper : Stmt := top 30
abbrev sMaps : Stmt := top 36
abbrev sLLed : Stmt := top 37
abbrev sLTells : Stmt := top 38
abbrev sLComm : Stmt := top 39
abbrev sLWhole : Stmt := top 40
abbrev sLIsRow : Stmt := top 41
abbrev sLDue : Stmt := top 42
abbrev sLBent : Stmt := top 43
abbrev sLKept : Stmt := top 44
/-- a def of the text: its object, its name in the module, how its arguments bind -/
structure Df (K : PySem.W.Frag) (mg : Str → Option Value) (x : Str) (st : Stmt) (ps : List Str) (f : Addr) (fd : FuncData) : Prop where
  F : Fun K x x st f fd
  g : mg x = some (.ref f)
  b : Binds K fd ps []
section
variable {X : Cx} {CX : CXT} {k : Nat} {f : Addr} {fd : FuncData} {ps : List Str} {sp : Sp} {E : XK} {x : Str} {st : Stmt} {p pos : Pos} {e : Expr} {es : List Expr} {t : TA}
/-- x(e, ..) -/
theorem pc (D : Df X.K X.mg x st ps f fd) (G : FnOk X.prog X.w X.K X.mg X.base CX k f fd ps sp) (hr : Room k X.A) (hx : Passes CX X E) (ha : PA X (e :: es) t) (hg : Gl X x := by rfl)
    (hdb : (x == ("__debug__" : Str)) = false := by decide) (he : starEach (e :: es) X.env = (false, eval e X.env) :: starEach es X.env := by rfl) (hpl : (backTo pos (starEach es X.env)).any (·.1) = false := by rfl) :
    PE X (.Call (.Name x p) (e :: es) [] pos) (tCall sp [] E t) := pe_call G hr hg D.g D.F.kp D.b .nil hx ha hdb he hpl
end
/-- what a def that raises may let out at its caller's def -/
theorem pass1 {X : Cx} {E : XK} (tk : Takes X (fun cls d _ H => E cls d H)) : Passes (L2.CX X.prog X.w) X E := passes_call tk fun _ _ _ _ h => h
/-! ### tests by cases -/
theorem ifD {c : Bool} {A B : Prop} (h1 : c = true → A) (h2 : c = false → B) : if c = true then A else B := by
  cases c with
  | true => exact iteT (h1 rfl)
  | false => exact iteF (h2 rfl)
theorem eqv {α : Type} {P : α → Prop} {a b : α} (e : a = b) (h : P b) : P a := e ▸ h
theorem qbl {Q : VK} {H : Hp} {a b : Bool} (e : a = b) (h : Q (.bl b) H) : Q (.bl a) H := e ▸ h
/-! ### values of any kind -/
/-- what a value is: some items for a list or a tuple, none for the others -/
inductive KV (K : PySem.W.Frag) (H : Hp) : V → Option (List V) → Prop
  | int (i : Int) : KV K H (.int i) none
  | bl (b : Bool) : KV K H (.bl b) none
  | non : KV K H .non none
  | str (x : Str) : KV K H (.str x) none
  | lst {a : Addr} {xs : List V} (h : H a = some (.lst xs)) : KV K H (.ref a) (some xs)
  | tup {a : Addr} {xs : List V} (h : H a = some (.tup xs)) : KV K H (.ref a) (some xs)
theorem KV.same {K : PySem.W.Frag} {H H' : Hp} {v : V} {o : Option (List V)} (h : KV K H v o) (s : Same H H') : KV K H' v o := by
  cases h with
  | int i => exact .int i
  | bl b => exact .bl b
  | non => exact .non
  | str x => exact .str x
  | lst h => exact .lst (s _ _ h)
  | tup h => exact .tup (s _ _ h)
def wholeB : V → Bool | .int _ => true | _ => false
def boolB : V → Bool | .bl _ => true | _ => false
inductive Tg where | i | b | n | s | l | t
def Tg.nm : Tg → String | .i => "int" | .b => "bool" | .n => "NoneType" | .s => "str" | .l => "list" | .t => "tuple"
def Tg.isI : Tg → Bool | .i => true | _ => false
def Tg.isB : Tg → Bool | .b => true | _ => false
def Tg.isQ : Tg → Bool | .l => true | .t => true | _ => false
theorem KV.ty {K : PySem.W.Frag} {H : Hp} {v : V} {o : Option (List V)} (h : KV K H v o) : ∃ g : Tg, TyX K H v (.type g.nm) ∧ g.isI = wholeB v ∧ g.isB = boolB v ∧ g.isQ = o.isSome := by
  cases h with
  | int i => exact ⟨.i, .base (.int i), rfl, rfl, rfl⟩
  | bl b => exact ⟨.b, .base (.bl b), rfl, rfl, rfl⟩
  | non => exact ⟨.n, .base .non, rfl, rfl, rfl⟩
  | str x => exact ⟨.s, .base (.str x), rfl, rfl, rfl⟩
  | lst h => exact ⟨.l, .base (.lst h), rfl, rfl, rfl⟩
  | tup h => exact ⟨.t, .base (.tup h), rfl, rfl, rfl⟩
theorem kit_I (K : PySem.W.Frag) (g : Tg) : PySem.W.kitOne K (.type g.nm) (.type "int") = some (g.isI || g.isB) := by
  cases g <;> exact kit_ty (by decide +kernel)
theorem kit_B (K : PySem.W.Frag) (g : Tg) : PySem.W.kitOne K (.type g.nm) (.type "bool") = some g.isB := by
  cases g <;> exact kit_ty (by decide +kernel)
def Tg.isL : Tg → Bool | .l => true | _ => false
def Tg.isT : Tg → Bool | .t => true | _ => false
theorem kit_L (K : PySem.W.Frag) (g : Tg) : PySem.W.kitOne K (.type g.nm) (.type "list") = some g.isL := by
  cases g <;> exact kit_ty (by decide +kernel)
theorem kit_T (K : PySem.W.Frag) (g : Tg) : PySem.W.kitOne K (.type g.nm) (.type "tuple") = some g.isT := by
  cases g <;> exact kit_ty (by decide +kernel)
theorem kit_Q (K : PySem.W.Frag) (g : Tg) : PySem.W.kitAny K (.type g.nm) [.type "list", .type "tuple"] = some g.isQ := by
  refine kitAny_cons (kit_L K g) (fun e => kitAny_cons (kit_T K g) (fun e2 => ?_) fun e2 => ?_) fun e => ?_
  all_goals (cases g <;> first | rfl | (cases e; done) | (cases e2; done))
/-- the built-in names that the text uses are the built-in ones -/
structure Bt (mg : Str → Option Value) : Prop where
  isinstance : mg "isinstance" = none
  int : mg "int" = none
  bool : mg "bool" = none
  list : mg "list" = none
  tuple : mg "tuple" = none
  len : mg "len" = none
  enumerate : mg "enumerate" = none
  range : mg "range" = none
  sorted : mg "sorted" = none
  set : mg "set" = none
  repr : mg "repr" = none
  abs : mg "abs" = none
  min : mg "min" = none
  max : mg "max" = none
end K1
namespace K1
open PySem PySem.Spec PyProof.Rows L2
def belowB (v : V) (lim : Int) : Bool := match v with | .int i => decide (0 ≤ i) && decide (i < lim) | _ => false
def seqB (o : Option (List V)) (least most : Int) : Bool := match o with | some xs => decide (least ≤ (xs.length : Int)) && decide ((xs.length : Int) ≤ most) | none => false
def spWhole (K : PySem.W.Frag) : Sp := fun vs H Q _ => ∃ v o, vs = [v] ∧ KV K H v o ∧ Q (.bl (wholeB v)) H
def spBelow (K : PySem.W.Frag) : Sp := fun vs H Q _ => ∃ v o lim, vs = [v, .int lim] ∧ KV K H v o ∧ Q (.bl (belowB v lim)) H
def spSeq (K : PySem.W.Frag) : Sp := fun vs H Q _ => ∃ v o least most, vs = [v, .int least, .int most] ∧ KV K H v o ∧ ∀ H', Same H H' → Q (.bl (seqB o least most)) H'
section
variable {P : Program} {w : World} {K : PySem.W.Frag} {mg : Str → Option Value} {base : Heap}
theorem scW : FnScope ["value"] ["value"] (defScope sWhole) := ⟨rfl, rfl, rfl, by decide +kernel, rfl, by decide +kernel, by decide +kernel⟩
theorem ok_whole {f : Addr} {fd : FuncData} (D : Df K mg "is_whole" sWhole ["value"] f fd) (B : Bt mg) : FnOk P w K mg base CX0 1 f fd ["value"] (spWhole K) := by
  refine D.F.ok scW (fun vs H Q E h => ?_) (fun cdv A outer s H vs Q E hr h => ?_)
  · obtain ⟨v, o, rfl, _⟩ := h
    rfl
  · obtain ⟨v, o, rfl, kv, q⟩ := h
    obtain ⟨g, ty, eI, eB, eQ⟩ := kv.ty
    refine ⟨_, pss_one (ps_ret (pe_and (pe_callB call_isi (by rfl) B.isinstance (by decide +kernel) (pa_cons (pv 0) (pa_cons (pe_bltn (v := .ty "int") (by rfl) B.int PyProof.Rows.boot_int rfl) pa_nil)))
      (pe_one (pe_not (pe_callB call_isi (by rfl) B.isinstance (by decide +kernel) (pa_cons (pv 0) (pa_cons (pe_bltn (v := .ty "bool") (by rfl) B.bool PyProof.Rows.boot_bool rfl) pa_nil))))))), ?_⟩
    refine ⟨_, rfl, _, _, _, _, _, rfl, .ty _, ty, kit_I K g, _, rfl, ifD (fun e => ?_) fun e => ?_⟩
    · refine ⟨_, rfl, _, _, _, _, _, rfl, .ty _, ty, kit_B K g, _, rfl, ?_⟩
      have z : (!g.isB) = wholeB v := by rw [← eI]; cases g <;> first | rfl | cases e
      exact qbl z q
    · have z : false = wholeB v := by rw [← eI]; cases g <;> first | rfl | cases e
      exact qbl z q
theorem scB : FnScope ["value", "limit"] ["value", "limit"] (defScope sBelow) := ⟨rfl, rfl, rfl, by decide +kernel, rfl, by decide +kernel, by decide +kernel⟩
theorem ok_below {f fW : Addr} {fd fdW : FuncData} (D : Df K mg "is_below" sBelow ["value", "limit"] f fd) (DW : Df K mg "is_whole" sWhole ["value"] fW fdW) (B : Bt mg) : FnOk P w K mg base CX0 2 f fd ["value", "limit"] (spBelow K) := by
  have GW : FnOk P w K mg base CX0 1 fW fdW ["value"] (spWhole K) := ok_whole DW B
  refine D.F.ok scB (fun vs H Q E h => ?_) (fun cdv A outer s H vs Q E hr h => ?_)
  · obtain ⟨v, o, lim, rfl, _⟩ := h
    rfl
  · obtain ⟨v, o, lim, rfl, kv, q⟩ := h
    refine ⟨_, pss_one (ps_ret (pe_and (pc DW GW hr pass0 (pa_cons (pv 0) pa_nil)) (pe_one (pe_chain op_le op_lt pe_int (pv 0) (pv 1))))), ?_⟩
    refine ⟨_, rfl, _, _, rfl, kv, _, rfl, ifD (fun e => ?_) fun e => ?_⟩
    · obtain ⟨i, rfl⟩ : ∃ i, v = .int i := by
        cases v <;> first | exact ⟨_, rfl⟩ | cases e
      refine ⟨_, rfl, _, _, rfl, rfl, _, rfl, ifD (fun e2 => ?_) fun e2 => ?_⟩
      · refine ⟨_, rfl, _, _, rfl, rfl, ?_⟩
        have z : decide (i < lim) = belowB (.int i) lim := by
          show _ = (decide (0 ≤ i) && decide (i < lim))
          rw [e2]; rfl
        exact qbl z q
      · have z : false = belowB (.int i) lim := by
          show _ = (decide (0 ≤ i) && decide (i < lim))
          rw [e2]; rfl
        exact qbl z q
    · have z : false = belowB v lim := by cases v <;> first | rfl | cases e
      exact qbl z q
theorem scS : FnScope ["value", "least", "most"] ["value", "least", "most"] (defScope sSeq) := ⟨rfl, rfl, rfl, by decide +kernel, rfl, by decide +kernel, by decide +kernel⟩
theorem ok_seq {f : Addr} {fd : FuncData} (D : Df K mg "is_sequence" sSeq ["value", "least", "most"] f fd) (B : Bt mg) : FnOk P w K mg base CX0 1 f fd ["value", "least", "most"] (spSeq K) := by
  refine D.F.ok scS (fun vs H Q E h => ?_) (fun cdv A outer s H vs Q E hr h => ?_)
  · obtain ⟨v, o, least, most, rfl, _⟩ := h
    rfl
  · obtain ⟨v, o, least, most, rfl, kv, q⟩ := h
    refine ⟨_, pss_one (ps_ret (pe_and (pe_callB call_isiT (by rfl) B.isinstance (by decide +kernel) (pa_cons (pv 0) (pa_cons (pe_tup (pa_cons (pe_bltn (v := .ty "list") (by rfl) B.list PyProof.Rows.boot_list rfl) (pa_cons (pe_bltn (v := .ty "tuple") (by rfl) B.tuple PyProof.Rows.boot_tuple rfl) pa_nil))) pa_nil)))
      (pe_one (pe_chain op_le op_le (pv 1) (pe_callB call_len_seq (by rfl) B.len PySem.boot_len (pa_cons (pv 0) pa_nil)) (pv 2))))), ?_⟩
    refine ⟨_, rfl, (by show 2 ≤ sizeLine; decide), fun p hp => ?_⟩
    have sm : Same H (upd H p (.tup [.ty "list", .ty "tuple"])) := fun b o e => by rw [upd_ne (ne_of_none e hp)]; exact e
    obtain ⟨g, ty, eI, eB, eQ⟩ := (kv.same sm).ty
    refine ⟨_, _, _, _, _, _, rfl, upd_same, .cons (.ty _) (.cons (.ty _) .nil), ty, kit_Q K g, _, rfl, ifD (fun e => ?_) fun e => ?_⟩
    · have kv2 := kv.same sm
      generalize hH1 : upd H p (.tup [.ty "list", .ty "tuple"]) = H1 at *
      rw [eQ] at e
      have q2 := q _ sm
      cases kv with
      | lst h =>
        rename_i a xs
        have h1 : H1 a = some (.lst xs) := sm _ _ h
        refine ⟨_, rfl, _, rfl, _, _, rfl, .inl (SqL.of h1), _, _, rfl, rfl, _, rfl, ifD (fun e2 => ?_) fun e2 => ?_⟩
        · refine ⟨_, rfl, _, _, rfl, rfl, qbl ?_ q2⟩
          show _ = (decide (least ≤ (xs.length : Int)) && decide ((xs.length : Int) ≤ most))
          rw [e2]; rfl
        · refine qbl ?_ q2
          show _ = (decide (least ≤ (xs.length : Int)) && decide ((xs.length : Int) ≤ most))
          rw [e2]; rfl
      | tup h =>
        rename_i a xs
        have h1 : H1 a = some (.tup xs) := sm _ _ h
        refine ⟨_, rfl, _, rfl, _, _, rfl, .inr (SqT.of h1), _, _, rfl, rfl, _, rfl, ifD (fun e2 => ?_) fun e2 => ?_⟩
        · refine ⟨_, rfl, _, _, rfl, rfl, qbl ?_ q2⟩
          show _ = (decide (least ≤ (xs.length : Int)) && decide ((xs.length : Int) ≤ most))
          rw [e2]; rfl
        · refine qbl ?_ q2
          show _ = (decide (least ≤ (xs.length : Int)) && decide ((xs.length : Int) ≤ most))
          rw [e2]; rfl
      | _ => cases e
    · rw [eQ] at e
      have z : o = none := by cases o <;> first | rfl | cases e
      subst z
      exact q _ sm
end
end K1
namespace K1
open PySem PySem.Spec PyProof.Rows L2
def fnb (xs : List V) (lim : Int) : V := match xs.findIdx? (fun x => !belowB x lim) with | some i => .int (i : Nat) | none => .non
theorem fnb_at {xs : List V} {lim : Int} {i : Nat} {x : V} (hx : xs[i]? = some x) (hn : belowB x lim = false) (hb : ∀ j y, j < i → xs[j]? = some y → belowB y lim = true) : fnb xs lim = .int (i : Nat) := by
  obtain ⟨hi, ex⟩ := List.getElem?_eq_some_iff.mp hx
  have e : xs.findIdx? (fun x => !belowB x lim) = some i := by
    rw [List.findIdx?_eq_some_iff_getElem]
    refine ⟨hi, by rw [ex, hn]; rfl, fun j hj => ?_⟩
    have hj' : j < xs.length := Nat.lt_trans hj hi
    have := hb j xs[j] hj (by simp [hj'])
    simp [this]
  unfold fnb
  rw [e]
theorem fnb_none {xs : List V} {lim : Int} (hb : ∀ j y, j < xs.length → xs[j]? = some y → belowB y lim = true) : fnb xs lim = .non := by
  have e : xs.findIdx? (fun x => !belowB x lim) = none := by
    rw [List.findIdx?_eq_none_iff]
    intro x hx
    obtain ⟨j, hj, e⟩ := List.mem_iff_getElem.mp hx
    have := hb j xs[j] hj (by simp [hj])
    rw [← e, this]; rfl
  unfold fnb
  rw [e]
/-- a list or tuple at a -/
def SeqA (H : Hp) (a : Addr) (xs : List V) : Prop := H a = some (.lst xs) ∨ H a = some (.tup xs)
theorem SeqA.same {H H' : Hp} {a : Addr} {xs : List V} (h : SeqA H a xs) (s : Same H H') : SeqA H' a xs := h.elim (fun h => .inl (s _ _ h)) fun h => .inr (s _ _ h)
theorem SeqA.kv {K : PySem.W.Frag} {H : Hp} {a : Addr} {xs : List V} (h : SeqA H a xs) : KV K H (.ref a) (some xs) := h.elim .lst .tup
/-- each item is of some kind -/
def Kinds (K : PySem.W.Frag) (H : Hp) (xs : List V) : Prop := ∀ x ∈ xs, ∃ o, KV K H x o
theorem Kinds.same {K : PySem.W.Frag} {H H' : Hp} {xs : List V} (h : Kinds K H xs) (s : Same H H') : Kinds K H' xs := fun x hx => let ⟨o, k⟩ := h x hx; ⟨o, k.same s⟩
theorem same_new {H : Hp} {p : Addr} {o : HO} (hp : H p = none) : Same H (upd H p o) := fun b u e => by rw [upd_ne (ne_of_none e hp)]; exact e
def spFnb (K : PySem.W.Frag) : Sp := fun vs H Q _ => ∃ a xs lim, vs = [.ref a, .int lim] ∧ SeqA H a xs ∧ Kinds K H xs ∧ ∀ H', Same H H' → Q (fnb xs lim) H'
section
variable {P : Program} {w : World} {K : PySem.W.Frag} {mg : Str → Option Value} {base : Heap}
theorem scF : FnScope ["items", "limit", "at", "item"] ["items", "limit"] (defScope sFnb) := ⟨rfl, rfl, rfl, by decide +kernel, rfl, by decide +kernel, by decide +kernel⟩
/-- one turn of the search, and the way behind it: the iterator is a list's or a tuple's -/
theorem ok_fnb {f fB : Addr} {fd fdB : FuncData} (D : Df K mg "first_not_below" sFnb ["items", "limit"] f fd) (DB : Df K mg "is_below" sBelow ["value", "limit"] fB fdB) (B : Bt mg)
    (GB : FnOk P w K mg base CX0 2 fB fdB ["value", "limit"] (spBelow K)) : FnOk P w K mg base CX0 3 f fd ["items", "limit"] (spFnb K) := by
  refine D.F.ok scF (fun vs H Q E h => ?_) (fun cdv A outer s H vs Q E hr h => ?_)
  · obtain ⟨a, xs, lim, rfl, _⟩ := h
    rfl
  · obtain ⟨a, xs, lim, rfl, hS, hK, q⟩ := h
    refine ⟨_, pss_cons (ps_for PassesOwn.never rfl (pi_enumA (by rfl) B.enumerate (pa_cons (pv 0) pa_nil))
        (pg_tup rfl (pgs_cons (pg_name (i := 2) scF.nd rfl (.inl rfl)) (pgs_cons (pg_name (i := 3) scF.nd rfl (.inl rfl)) pgs_nil)))
        (pss_one (ps_if (pt_not (pt_val (pc DB GB hr pass0 (pa_cons (pv 3) (pa_cons (pv 1) pa_nil))))) (pss_one (ps_ret (pv 2))) pss_nil)))
      (pss_one (ps_ret pe_non)), ?_⟩
    let Pv : Nat → L2.St → Hp → Prop := fun i σ H' => ∃ v2 v3 : Option V, σ = [some (.ref a), some (.int lim), v2, v3] ∧ Same H H' ∧ ∀ j y, j < i → xs[j]? = some y → belowB y lim = true
    have end_ : ∀ σ H', Pv xs.length σ H' → Q .non H' := fun σ H' ⟨v2, v3, _, sm, hb⟩ => by
      have := q H' sm
      rw [fnb_none hb] at this
      exact this
    refine ⟨_, rfl, a, rfl, ?_⟩
    rcases hS with hS | hS
    · refine .inl ⟨xs, SqL.of hS, for_enumL (K := K) Pv ⟨none, none, rfl, Same.refl H, fun j y hj => absurd hj (Nat.not_lt_zero _)⟩ (fun i σ H' _ ⟨_, _, _, sm, _⟩ => SqL.of (sm _ _ hS)) ?_ end_⟩
      rintro i x T σ H' hx hT ⟨v2, v3, rfl, sm, hb⟩
      have sm2 : Same H (upd H' T (.tup [.int (i : Nat), x])) := sm.trans (same_new hT)
      obtain ⟨o, kv⟩ := hK x (List.mem_of_getElem? hx)
      refine ⟨T, _, rfl, SqT.of upd_same, rfl, _, _, rfl, _, _, rfl, rfl, ?_⟩
      refine ⟨_, rfl, _, rfl, _, o, lim, rfl, kv.same sm2, _, rfl, ?_⟩
      refine ifD (fun e => ?_) fun e => ?_
      · refine ⟨_, rfl, ?_⟩
        have e' : belowB x lim = false := by simpa using e
        have := q _ sm2
        rw [fnb_at hx e' hb] at this
        exact this
      · have e' : belowB x lim = true := by simpa using e
        refine ⟨_, _, rfl, sm2, fun j y hj hy => ?_⟩
        rcases Nat.lt_succ_iff_lt_or_eq.mp hj with z | z
        · exact hb j y z hy
        · subst z
          rw [hx] at hy
          rw [← Option.some.inj hy]
          exact e'
    · refine .inr ⟨xs, SqT.of hS, for_enumT (K := K) Pv ⟨none, none, rfl, Same.refl H, fun j y hj => absurd hj (Nat.not_lt_zero _)⟩ (fun i σ H' _ ⟨_, _, _, sm, _⟩ => SqT.of (sm _ _ hS)) ?_ end_⟩
      rintro i x T σ H' hx hT ⟨v2, v3, rfl, sm, hb⟩
      have sm2 : Same H (upd H' T (.tup [.int (i : Nat), x])) := sm.trans (same_new hT)
      obtain ⟨o, kv⟩ := hK x (List.mem_of_getElem? hx)
      refine ⟨T, _, rfl, SqT.of upd_same, rfl, _, _, rfl, _, _, rfl, rfl, ?_⟩
      refine ⟨_, rfl, _, rfl, _, o, lim, rfl, kv.same sm2, _, rfl, ?_⟩
      refine ifD (fun e => ?_) fun e => ?_
      · refine ⟨_, rfl, ?_⟩
        have e' : belowB x lim = false := by simpa using e
        have := q _ sm2
        rw [fnb_at hx e' hb] at this
        exact this
      · have e' : belowB x lim = true := by simpa using e
        refine ⟨_, _, rfl, sm2, fun j y hj hy => ?_⟩
        rcases Nat.lt_succ_iff_lt_or_eq.mp hj with z | z
        · exact hb j y z hy
        · subst z
          rw [hx] at hy
          rw [← Option.some.inj hy]
          exact e'
end
end K1
namespace K1
open PySem PySem.Spec PyProof.Rows L2
/-- the module's numbers -/
structure Ct (mg : Str → Option Value) : Prop where
  tabs : ∃ t, mg "MOST_TABLES" = some (.int 8 t)
  states : ∃ t, mg "MOST_STATES" = some (.int 12 t)
  row : ∃ t, mg "MOST_ROW" = some (.int 10000 t)
/-- a walk over a list or a tuple -/
def iSeqA (K : PySem.W.Frag) (tl : TE) : TI := fun σ H R => tl σ H fun x H1 => ∃ a, x = .ref a ∧ ((∃ xs, SqL K H1 a xs ∧ R (Itl K a) H1) ∨ (∃ xs, SqT K H1 a xs ∧ R (Itt K a) H1))
theorem pi_seqA {X : Cx} {tg l : Expr} {tl : TE} (hl : PE X l tl) : PI X tg l (iSeqA X.K tl) := by
  refine ⟨fun pins s σ H R I h => ?_⟩
  refine thn (hl.run pins s σ H _ I h) fun v s1 ⟨x, H1, I1, r1, q1⟩ => ?_
  obtain ⟨a, e, q⟩ := q1
  subst e
  cases r1
  rcases q with ⟨xs, hq, q⟩ | ⟨xs, hq, q⟩
  · obtain ⟨its, rv, p, hz⟩ := I1.list hq
    refine wpAny_pyIter_list p.isList ?_
    refine ⟨s1.heap.objs.size, [s1.heap.objs.size], _, _, H1, rfl, I1.kept (t' := s1.toks) fun b o e => Heap.get?_push_of_some _ e, turn_list a _, ⟨_, Heap.get?_push_size _ rfl, rfl, rfl⟩, fun b hb => ?_, q⟩
    have e : b = s1.heap.objs.size := by simpa using hb
    subst e
    exact I1.fpOk (Nat.le_refl _) (I1.hok.fresh (Nat.le_refl _))
  · obtain ⟨its, rv, p, hz⟩ := I1.tuple hq
    refine wpAny_pyIter_tuple (show s1.heap.IsTuple a its.toArray from p) ?_
    refine ⟨s1.heap.objs.size, [s1.heap.objs.size], _, _, H1, rfl, I1.kept (t' := s1.toks) fun b o e => Heap.get?_push_of_some _ e, turn_tuple a _, ⟨_, Heap.get?_push_size _ rfl, rfl, rfl⟩, fun b hb => ?_, q⟩
    have e : b = s1.heap.objs.size := by simpa using hb
    subst e
    exact I1.fpOk (Nat.le_refl _) (I1.hok.fresh (Nat.le_refl _))
/-- a table of n states, by its items (none: no sequence) -/
def isTab (r : Option (List V)) (n : Int) : Bool := seqB r n n && match r with | some ys => decide (fnb ys n = V.non) | none => false
/-- a value and, if it is a sequence, the kinds of its items -/
structure Rw (K : PySem.W.Frag) (H : Hp) (x : V) (r : Option (List V)) : Prop where
  kv : KV K H x r
  ks : ∀ ys, r = some ys → Kinds K H ys
theorem Rw.same {K : PySem.W.Frag} {H H' : Hp} {x : V} {r : Option (List V)} (h : Rw K H x r) (s : Same H H') : Rw K H' x r := ⟨h.kv.same s, fun ys e => (h.ks ys e).same s⟩
theorem KV.seqA {K : PySem.W.Frag} {H : Hp} {x : V} {ys : List V} (h : KV K H x (some ys)) : ∃ a, x = .ref a ∧ SeqA H a ys := by
  cases h with
  | lst h => exact ⟨_, rfl, .inl h⟩
  | tup h => exact ⟨_, rfl, .inr h⟩
def spIsTab (K : PySem.W.Frag) : Sp := fun vs H Q _ => ∃ x r n, vs = [x, .int n] ∧ Rw K H x r ∧ ∀ H', Same H H' → Q (.bl (isTab r n)) H'
section
variable {P : Program} {w : World} {K : PySem.W.Frag} {mg : Str → Option Value} {base : Heap}
theorem scIT : FnScope ["value", "states"] ["value", "states"] (defScope sIsTab) := ⟨rfl, rfl, rfl, by decide +kernel, rfl, by decide +kernel, by decide +kernel⟩
theorem ok_istab {f fS fF : Addr} {fd fdS fdF : FuncData} (D : Df K mg "is_table" sIsTab ["value", "states"] f fd) (DS : Df K mg "is_sequence" sSeq ["value", "least", "most"] fS fdS) (DF : Df K mg "first_not_below" sFnb ["items", "limit"] fF fdF)
    (GS : FnOk P w K mg base CX0 1 fS fdS ["value", "least", "most"] (spSeq K)) (GF : FnOk P w K mg base CX0 3 fF fdF ["items", "limit"] (spFnb K)) : FnOk P w K mg base CX0 4 f fd ["value", "states"] (spIsTab K) := by
  refine D.F.ok scIT (fun vs H Q E h => ?_) (fun cdv A outer s H vs Q E hr h => ?_)
  · obtain ⟨x, r, n, rfl, _⟩ := h
    rfl
  · obtain ⟨x, r, n, rfl, hw, q⟩ := h
    refine ⟨_, pss_one (ps_ret (pe_and (pc DS GS (hr.mono (by decide)) pass0 (pa_cons (pv 0) (pa_cons (pv 1) (pa_cons (pv 1) pa_nil)))) (pe_one (pe_cmp (pc_isN (pc DF GF hr pass0 (pa_cons (pv 0) (pa_cons (pv 1) pa_nil)))) rfl)))), ?_⟩
    refine ⟨_, rfl, _, rfl, _, rfl, _, r, n, n, rfl, hw.kv, fun H1 sm => ⟨_, rfl, ifD (fun e => ?_) fun e => ?_⟩⟩
    · cases r with
      | none => cases e
      | some ys =>
        obtain ⟨a, rfl, hS⟩ := hw.kv.seqA
        refine ⟨_, rfl, _, rfl, a, ys, n, rfl, hS.same sm, (hw.ks ys rfl).same sm, fun H2 sm2 => qbl ?_ (q _ (sm.trans sm2))⟩
        show _ = (seqB (some ys) n n && _)
        rw [e]; rfl
    · refine qbl ?_ (q _ sm)
      show _ = (seqB r n n && _)
      rw [e]; rfl
end
end K1
namespace K1
open PySem PySem.Spec PyProof.Rows L2
/-- the items of a lot of tables, each with what it holds -/
structure Rws (K : PySem.W.Frag) (H : Hp) (xs : List V) (rs : List (Option (List V))) : Prop where
  len : xs.length = rs.length
  at_ : ∀ (i : Nat) x r, xs[i]? = some x → rs[i]? = some r → Rw K H x r
theorem Rws.same {K : PySem.W.Frag} {H H' : Hp} {xs : List V} {rs : List (Option (List V))} (h : Rws K H xs rs) (s : Same H H') : Rws K H' xs rs := ⟨h.len, fun i x r e1 e2 => (h.at_ i x r e1 e2).same s⟩
theorem Rws.get {K : PySem.W.Frag} {H : Hp} {xs : List V} {rs : List (Option (List V))} (h : Rws K H xs rs) {i : Nat} {x : V} (e : xs[i]? = some x) : ∃ r, rs[i]? = some r ∧ Rw K H x r := by
  have hi : i < rs.length := h.len ▸ (List.getElem?_eq_some_iff.mp e).1
  exact ⟨rs[i], by simp [hi], h.at_ i x _ e (by simp [hi])⟩
/-- what is told of a value that is no machine: none for a machine's tables (xs of the value, by their items) -/
def chkAt (o : Option (List (Option (List V)))) : Option Int :=
  match o with
  | none => some (-1)
  | some rs => if rs.length < 1 ∨ 8 < rs.length then some (-1) else
    match rs[0]? with
    | some (some y0) => if y0.length < 1 ∨ 12 < y0.length then some 0 else (rs.findIdx? fun r => !isTab r (y0.length : Int)).map fun i => (i : Int)
    | _ => some 0
/-- a value that may be a machine's tables; of its items nothing is known where there are too many, or none -/
inductive Mv (K : PySem.W.Frag) (H : Hp) : V → Option (List (Option (List V))) → Prop
  | no {v : V} (h : KV K H v none) : Mv K H v none
  | yes {v : V} {xs : List V} {rs : List (Option (List V))} (h : KV K H v (some xs)) (r : Rws K H xs rs) : Mv K H v (some rs)
theorem Mv.same {K : PySem.W.Frag} {H H' : Hp} {v : V} {o : Option (List (Option (List V)))} (h : Mv K H v o) (s : Same H H') : Mv K H' v o := by
  cases h with
  | no h => exact .no (h.same s)
  | yes h r => exact .yes (h.same s) (r.same s)
/-- tables that stand at ta, each as a tuple -/
def TabsAt (H : Hp) (ta : Addr) (ts : List (List V)) : Prop := ∃ as : List Addr, H ta = some (.tup (as.map V.ref)) ∧ as.length = ts.length ∧ ∀ (i : Nat) a t, as[i]? = some a → ts[i]? = some t → H a = some (.tup t)
theorem TabsAt.same {H H' : Hp} {ta : Addr} {ts : List (List V)} (h : TabsAt H ta ts) (s : Same H H') : TabsAt H' ta ts := let ⟨as, h1, h2, h3⟩ := h; ⟨as, s _ _ h1, h2, fun i a t e1 e2 => s _ _ (h3 i a t e1 e2)⟩
/-- an error of the class at C, its field f at v -/
def Rz (C : Addr) (f : Str) (v : V) (H : Hp) (E : XK) : Prop := ∀ d H', Same H H' → H d = none → H' d = some (.xd [(f, v)]) → E (.ref C) (some d) H'
/-- checked_tables: the tables, or the error -/
def spChk (K : PySem.W.Frag) (C : Addr) : Sp := fun vs H Q E => ∃ v o, vs = [v] ∧ Mv K H v o ∧ (∀ z, chkAt o = some z → Rz C "at" (.int z) H E) ∧
  (chkAt o = none → ∀ (ts : List (List V)), o = some (ts.map some) → ∀ ta H', Same H H' → TabsAt H' ta ts → Q (.ref ta) H')
theorem chk_neg {o : Option (List (Option (List V)))} (h : seqB (o.map fun rs => rs.map fun _ => V.non) 1 8 = false) : chkAt o = some (-1) := by
  cases o with
  | none => rfl
  | some rs =>
    have z : rs.length < 1 ∨ 8 < rs.length := by
      have e : (decide ((1 : Int) ≤ ((rs.map fun _ => V.non).length : Int)) && decide (((rs.map fun _ => V.non).length : Int) ≤ 8)) = false := h
      rw [List.length_map] at e
      simp only [Bool.and_eq_false_iff, decide_eq_false_iff_not] at e
      omega
    show (if rs.length < 1 ∨ 8 < rs.length then some (-1) else _) = _
    rw [if_pos z]
theorem chk_zero {rs : List (Option (List V))} {r0 : Option (List V)} (h1 : seqB (some (rs.map fun _ => V.non)) 1 8 = true) (h0 : rs[0]? = some r0) (h : seqB r0 1 12 = false) : chkAt (some rs) = some 0 := by
  have e : (decide ((1 : Int) ≤ ((rs.map fun _ => V.non).length : Int)) && decide (((rs.map fun _ => V.non).length : Int) ≤ 8)) = true := h1
  rw [List.length_map] at e
  simp only [Bool.and_eq_true, decide_eq_true_eq] at e
  have z : ¬ (rs.length < 1 ∨ 8 < rs.length) := by omega
  show (if rs.length < 1 ∨ 8 < rs.length then some (-1) else _) = _
  rw [if_neg z, h0]
  cases r0 with
  | none => rfl
  | some y0 =>
    have e : (decide ((1 : Int) ≤ (y0.length : Int)) && decide ((y0.length : Int) ≤ 12)) = false := h
    simp only [Bool.and_eq_false_iff, decide_eq_false_iff_not] at e
    have z : y0.length < 1 ∨ 12 < y0.length := by omega
    show (if y0.length < 1 ∨ 12 < y0.length then some 0 else _) = _
    rw [if_pos z]
theorem chk_in {rs : List (Option (List V))} {y0 : List V} (h1 : seqB (some (rs.map fun _ => V.non)) 1 8 = true) (h0 : rs[0]? = some (some y0)) (h : seqB (some y0) 1 12 = true) : chkAt (some rs) = (rs.findIdx? fun r => !isTab r (y0.length : Int)).map fun i => (i : Int) := by
  have e : (decide ((1 : Int) ≤ ((rs.map fun _ => V.non).length : Int)) && decide (((rs.map fun _ => V.non).length : Int) ≤ 8)) = true := h1
  rw [List.length_map] at e
  simp only [Bool.and_eq_true, decide_eq_true_eq] at e
  have z : ¬ (rs.length < 1 ∨ 8 < rs.length) := by omega
  have e2 : (decide ((1 : Int) ≤ (y0.length : Int)) && decide ((y0.length : Int) ≤ 12)) = true := h
  simp only [Bool.and_eq_true, decide_eq_true_eq] at e2
  have z2 : ¬ (y0.length < 1 ∨ 12 < y0.length) := by omega
  show (if rs.length < 1 ∨ 8 < rs.length then some (-1) else _) = _
  rw [if_neg z, h0]
  show (if y0.length < 1 ∨ 12 < y0.length then some 0 else _) = _
  rw [if_neg z2]
theorem find_at {α : Type} {rs : List α} {p : α → Bool} {i : Nat} {r : α} (hr : rs[i]? = some r) (hn : p r = true) (hb : ∀ (j : Nat) y, j < i → rs[j]? = some y → p y = false) : rs.findIdx? p = some i := by
  obtain ⟨hi, ex⟩ := List.getElem?_eq_some_iff.mp hr
  rw [List.findIdx?_eq_some_iff_getElem]
  refine ⟨hi, by rw [ex, hn], fun j hj => ?_⟩
  have hj' : j < rs.length := Nat.lt_trans hj hi
  have := hb j rs[j] hj (by simp [hj'])
  simp [this]
theorem find_none {α : Type} {rs : List α} {p : α → Bool} (hb : ∀ (j : Nat) y, j < rs.length → rs[j]? = some y → p y = false) : rs.findIdx? p = none := by
  rw [List.findIdx?_eq_none_iff]
  intro x hx
  obtain ⟨j, hj, e⟩ := List.mem_iff_getElem.mp hx
  exact e ▸ hb j rs[j] hj (by simp [hj])
theorem isTab_some {r : Option (List V)} {n : Int} (h : isTab r n = true) : ∃ ys, r = some ys := by
  cases r with
  | none => cases h
  | some ys => exact ⟨ys, rfl⟩
/-- tuple(x) -/
def rTup (K : PySem.W.Frag) : List V → Hp → VK → Prop := fun xs H Q => ∃ p ys, xs = [.ref p] ∧ ((SqL K H p ys ∧ ∀ l, H l = none → Q (.ref l) (upd H l (.tup ys))) ∨ (SqT K H p ys ∧ Q (.ref p) H))
theorem ctup {X : Cx} {K : PySem.W.Frag} (h : X.K = K) : CallR X (.type "tuple") (rTup K) := by
  subst h
  exact call_tuple_of
section
variable {P : Program} {w : World} {K : PySem.W.Frag} {mg : Str → Option Value} {base : Heap}
theorem scC : FnScope ["value", "states", "at", "table"] ["value"] (defScope sChk) := ⟨rfl, rfl, rfl, by decide +kernel, rfl, by decide +kernel, by decide +kernel⟩
theorem ok_chk {f fS fI C cI : Addr} {fd fdS fdI : FuncData} {bm : List Value} {ql : Str} (D : Df K mg "checked_tables" sChk ["value"] f fd) (DS : Df K mg "is_sequence" sSeq ["value", "least", "most"] fS fdS) (DI : Df K mg "is_table" sIsTab ["value", "states"] fI fdI)
    (B : Bt mg) (c : Ct mg) (T : LAt.Txt K mg "BadMachine" ql bm C cI) (GS : FnOk P w K mg base CX0 1 fS fdS ["value", "least", "most"] (spSeq K)) (GI : FnOk P w K mg base CX0 4 fI fdI ["value", "states"] (spIsTab K)) :
    FnOk P w K mg base (L2.CX P w) 5 f fd ["value"] (spChk K C) := by
  obtain ⟨t1, hc1⟩ := c.tabs
  obtain ⟨t2, hc2⟩ := c.states
  refine D.F.okX scC (fun vs H Q E h => ?_) (fun cdv A outer s H vs Q E hr h => ?_)
  · obtain ⟨v, o, rfl, _⟩ := h
    rfl
  · obtain ⟨v, o, rfl, hm, qE, qQ⟩ := h
    have hr1 : Room 1 _ := hr.mono (by decide)
    refine ⟨_, pss_cons (ps_if (pt_not (pt_val (pc DS GS hr1 pass0 (pa_cons (pv 0) (pa_cons pe_int (pa_cons (pe_glob (v := .int 8) (by rfl) hc1 ⟨_, rfl⟩) pa_nil)))))) (pss_one (ps_raise_LAt rfl T hr (takes_of rfl rfl rfl rfl) (pa_cons (pe_un un_neg pe_int) pa_nil))) pss_nil)
      (pss_cons (ps_if (pt_not (pt_val (pc DS GS hr1 pass0 (pa_cons (pe_ix ix_seq (pv 0) pe_int (fun _ _ => rfl)) (pa_cons pe_int (pa_cons (pe_glob (v := .int 12) (by rfl) hc2 ⟨_, rfl⟩) pa_nil)))))) (pss_one (ps_raise_LAt rfl T hr (takes_of rfl rfl rfl rfl) (pa_cons pe_int pa_nil))) pss_nil)
      (pss_cons (ps_set (i := 1) scC.nd rfl (.inl rfl) (pe_callB call_len_seq (by rfl) B.len PySem.boot_len (pa_cons (pe_ix ix_seq (pv 0) pe_int (fun _ _ => rfl)) pa_nil)))
      (pss_cons (ps_for (passes_of rfl) rfl (pi_enumA (by rfl) B.enumerate (pa_cons (pv 0) pa_nil)) (pg_tup rfl (pgs_cons (pg_name (i := 2) scC.nd rfl (.inl rfl)) (pgs_cons (pg_name (i := 3) scC.nd rfl (.inl rfl)) pgs_nil)))
        (pss_one (ps_if (pt_not (pt_val (pc DI GI hr pass0 (pa_cons (pv 3) (pa_cons (pv 1) pa_nil))))) (pss_one (ps_raise_LAt rfl T hr (takes_of rfl rfl rfl rfl) (pa_cons (pv 2) pa_nil))) pss_nil)))
      (pss_one (ps_ret (pe_callTy call_tuple_of (by rfl) B.tuple (by decide +kernel) (pa_cons
        (pe_lc (own := [("table", 3)]) (g := gName 3) (tt := tYes) rfl scC.nd (pi_seqA (pv 0)) (blkOk_by (N := ["value", "states", "at", "table"]) (sc := defScope sChk) (by decide +kernel)) (fun _ _ _ _ _ => pg_name (i := 3) scC.nd rfl (Or.inl rfl)) (fun _ _ _ _ _ => pts_nil)
          (fun _ _ _ _ _ => pe_callTy (ctup (K := K) rfl) (by rfl) B.tuple PyProof.Rows.boot_tuple (pa_cons (pv 3) pa_nil))) pa_nil))))))), ?_⟩
    cases hm with
    | no kv =>
      refine ⟨_, rfl, _, none, 1, 8, rfl, kv, fun H1 s1 => ⟨_, rfl, ?_⟩⟩
      exact iteT ⟨_, rfl, _, rfl, fun d hd => qE (-1) rfl d _ (s1.trans (same_new hd)) (s1.free hd) upd_same⟩
    | yes kv R =>
      rename_i xs rs
      have eqs : ∀ l m, seqB (some xs) l m = seqB (some (rs.map fun _ => V.non)) l m := fun l m => by
        show (_ && _) = (_ && _)
        rw [List.length_map, R.len]
      refine ⟨_, rfl, _, some xs, 1, 8, rfl, kv, fun H1 s1 => ⟨_, rfl, ifD (fun e1 => ?_) fun e1 => ?_⟩⟩
      · have e1' : seqB (some xs) 1 8 = false := by simpa using e1
        rw [eqs] at e1'
        exact ⟨_, rfl, _, rfl, fun d hd => qE (-1) (chk_neg (o := some rs) e1') d _ (s1.trans (same_new hd)) (s1.free hd) upd_same⟩
      · have e1' : seqB (some xs) 1 8 = true := by simpa using e1
        have e1r := e1'
        rw [eqs] at e1r
        have hx0 : ∃ x0, xs[0]? = some x0 := by
          have z : (decide ((1 : Int) ≤ (xs.length : Int)) && decide ((xs.length : Int) ≤ 8)) = true := e1'
          simp only [Bool.and_eq_true, decide_eq_true_eq] at z
          exact ⟨xs[0]'(by omega), by simp⟩
        obtain ⟨x0, hx0⟩ := hx0
        obtain ⟨r0, hr0, W0⟩ := R.get hx0
        obtain ⟨a, rfl, hS⟩ := kv.seqA
        have ixr : ∀ {H' : Hp} {Qv : VK}, Same H H' → Qv x0 H' → rIx K (.ref a) (.int 0) H' Qv := fun {H' Qv} sm q => by
          rcases hS.same sm with h | h
          · exact .inl ⟨a, xs, 0, x0, rfl, rfl, SqL.of h, atI_nat (j := 0) hx0, q⟩
          · exact .inr (.inl ⟨a, xs, 0, x0, rfl, rfl, SqT.of h, atI_nat (j := 0) hx0, q⟩)
        refine ⟨_, rfl, ixr s1 ?_⟩
        refine ⟨_, r0, 1, 12, rfl, W0.kv.same s1, fun H2 s2 => ⟨_, rfl, ifD (fun e2 => ?_) fun e2 => ?_⟩⟩
        · have e2' : seqB r0 1 12 = false := by simpa using e2
          exact ⟨_, rfl, fun d hd => qE 0 (chk_zero e1r hr0 e2') d _ ((s1.trans s2).trans (same_new hd)) ((s1.trans s2).free hd) upd_same⟩
        · have e2' : seqB r0 1 12 = true := by simpa using e2
          have s12 := s1.trans s2
          obtain ⟨y0, rfl⟩ : ∃ y0, r0 = some y0 := by
            cases r0 with
            | none => cases e2'
            | some y0 => exact ⟨y0, rfl⟩
          have hc := chk_in e1r hr0 e2'
          obtain ⟨a0, rfl, hS0⟩ := W0.kv.seqA
          refine ⟨_, rfl, ixr s12 ⟨a0, y0, rfl, (hS0.same s12).elim (fun h => .inl (SqL.of h)) (fun h => .inr (SqT.of h)), ?_⟩⟩
          -- the loop
          let Pv : Nat → L2.St → Hp → Prop := fun i σ H' => ∃ v2 v3 : Option V, σ = [some (.ref a), some (.int (y0.length : Int)), v2, v3] ∧ Same H H' ∧ ∀ (j : Nat) r, j < i → rs[j]? = some r → isTab r (y0.length : Int) = true
          refine ⟨_, rfl, a, rfl, ?_⟩
          have P0 : Pv 0 [some (.ref a), some (.int (y0.length : Int)), none, none] H2 := ⟨none, none, rfl, s12, fun j r hj => absurd hj (Nat.not_lt_zero _)⟩
          rcases hS with hS | hS
          · refine .inl ⟨xs, SqL.of (s12 _ _ hS), for_enumL (K := K) Pv P0 (fun i σ H' _ ⟨_, _, _, sm, _⟩ => SqL.of (sm _ _ hS)) ?_ ?_⟩
            · rintro i x T σ H' hx hT ⟨v2, v3, rfl, sm, hb⟩
              have sm2 : Same H (upd H' T (.tup [.int (i : Nat), x])) := sm.trans (same_new hT)
              obtain ⟨r, hr', W⟩ := R.get hx
              refine ⟨T, _, rfl, SqT.of upd_same, rfl, _, _, rfl, _, _, rfl, rfl, ?_⟩
              refine ⟨_, rfl, _, rfl, x, r, (y0.length : Int), rfl, W.same sm2, fun H3 s3 => ⟨_, rfl, ifD (fun e => ?_) fun e => ?_⟩⟩
              · have e' : isTab r (y0.length : Int) = false := by simpa using e
                have hz : chkAt (some rs) = some (i : Int) := by
                  rw [hc, find_at hr' (by rw [e']; rfl) fun j y hj hy => by rw [hb j y hj hy]; rfl]; rfl
                exact ⟨_, rfl, _, rfl, fun d hd => qE _ hz d _ ((sm2.trans s3).trans (same_new hd)) ((sm2.trans s3).free hd) upd_same⟩
              · have e' : isTab r (y0.length : Int) = true := by simpa using e
                refine ⟨_, _, rfl, sm2.trans s3, fun j y hj hy => ?_⟩
                rcases Nat.lt_succ_iff_lt_or_eq.mp hj with z | z
                · exact hb j y z hy
                · subst z
                  rw [hr'] at hy
                  rw [← Option.some.inj hy]
                  exact e'
            · rintro σ H' ⟨v2, v3, rfl, sm, hb⟩
              have hz : chkAt (some rs) = none := by
                rw [hc, find_none fun j y hj hy => by rw [hb j y (by rw [R.len]; exact hj) hy]; rfl]; rfl
              have hsome : ∀ (i : Nat) r, rs[i]? = some r → ∃ ys, r = some ys := fun i r hi => isTab_some (hb i r (by rw [R.len]; exact (List.getElem?_eq_some_iff.mp hi).1) hi)
              have hts : some rs = some ((rs.map fun r => r.getD []).map some) := by
                congr 1
                rw [List.map_map]
                refine (List.map_id rs).symm.trans (List.map_congr_left fun r hr => ?_)
                obtain ⟨i, hi, e⟩ := List.mem_iff_getElem.mp hr
                obtain ⟨ys, rfl⟩ := hsome i r (by rw [← e]; simp [hi])
                rfl
              have qq := qQ hz _ hts
              have gett : ∀ (i : Nat) x, xs[i]? = some x → ∃ b ys, x = .ref b ∧ rs[i]? = some (some ys) ∧ SeqA H b ys := fun i x hx => by
                obtain ⟨r, h1, W⟩ := R.get hx
                obtain ⟨ys, rfl⟩ := hsome i r h1
                obtain ⟨b, rfl, h2⟩ := W.kv.seqA
                exact ⟨b, ys, rfl, h1, h2⟩
              let Lv : Addr → Nat → Hp → Prop := fun D i H2 => ∃ as : List Addr, as.length = i ∧ Same H' H2 ∧ H2 D = some (.lst (as.map V.ref)) ∧ ∀ (j : Nat) b t, as[j]? = some b → rs[j]? = some (some t) → H2 b = some (.tup t)
              refine ⟨_, rfl, a, rfl, .inl ⟨xs, SqL.of (sm _ _ hS), fun D hD => lc_list (K := K) (a := a) (xs := xs) (Lv D) ⟨[], rfl, same_new hD, upd_same, fun j b t z => nomatch z⟩ (fun i H2 _ ⟨as, _, s5, _⟩ => SqL.of (s5 _ _ (sm _ _ hS))) ?_ ?_⟩⟩
              · rintro i x H2 hx ⟨as, hl, s5, hD2, hA⟩
                obtain ⟨b, ys, rfl, h1, h2⟩ := gett i x hx
                have nD : ∀ c o, H' c = some o → c ≠ D := fun c o e => ne_of_none e hD
                have hlen : (as.map V.ref).length < sizeLine := by
                  rw [List.length_map, hl, sizeLine_eq]
                  have := (List.getElem?_eq_some_iff.mp hx).1
                  have z : (decide ((1 : Int) ≤ (xs.length : Int)) && decide ((xs.length : Int) ≤ 8)) = true := e1'
                  simp only [Bool.and_eq_true, decide_eq_true_eq] at z
                  omega
                have fin : ∀ (l : Addr) (H3 : Hp), Same H2 H3 → H3 l = some (.tup ys) → H3 D = some (.lst (as.map V.ref)) → l ≠ D → Lv D (i + 1) (upd H3 D (.lst (as.map V.ref ++ [.ref l]))) := fun l H3 s6 hl3 hD3 hne => by
                  have keep : ∀ c o, H3 c = some o → c ≠ D → upd H3 D (.lst (as.map V.ref ++ [.ref l])) c = some o := fun c o e n => by rw [upd_ne n]; exact e
                  refine ⟨as ++ [l], by rw [List.length_append, hl]; rfl, fun c o e => keep c o (s6 _ _ (s5 _ _ e)) (nD c o e), by rw [upd_same, List.map_append]; rfl, fun j b t hb ht => ?_⟩
                  by_cases hj : j < as.length
                  · rw [List.getElem?_append_left hj] at hb
                    have z := s6 _ _ (hA j b t hb ht)
                    exact keep _ _ z (ne_of z hD3 (by intro q; cases q))
                  · have hj2 : j = as.length := by
                      have := (List.getElem?_eq_some_iff.mp hb).1
                      rw [List.length_append] at this
                      have q : ([l] : List Addr).length = 1 := rfl
                      omega
                    subst hj2
                    rw [List.getElem?_append_right (Nat.le_refl _), Nat.sub_self] at hb
                    have eb : l = b := Option.some.inj hb
                    subst eb
                    rw [hl, h1] at ht
                    rw [← Option.some.inj (Option.some.inj ht)]
                    exact keep _ _ hl3 hne
                refine ⟨rfl, _, rfl, b, ys, rfl, ?_⟩
                rcases h2 with h2 | h2
                · have hb2 := s5 _ _ (sm _ _ h2)
                  refine .inl ⟨SqL.of hb2, fun l hl2 => ?_⟩
                  have nlD : l ≠ D := fun e => by rw [e, hD2] at hl2; cases hl2
                  exact ⟨_, (upd_ne nlD.symm).trans hD2, hlen, fin l _ (same_new hl2) upd_same ((upd_ne nlD.symm).trans hD2) nlD⟩
                · have hb2 := s5 _ _ (sm _ _ h2)
                  refine .inr ⟨SqT.of hb2, ?_⟩
                  exact ⟨_, hD2, hlen, fin b _ (Same.refl _) hb2 hD2 (ne_of hb2 hD2 (by intro q; cases q))⟩
              · rintro H2 ⟨as, hl, s5, hD2, hA⟩
                refine ⟨D, _, rfl, .inl ⟨SqL.of hD2, fun ta hta => ?_⟩⟩
                have s7 : Same H (upd H2 ta (.tup (as.map V.ref))) := (sm.trans s5).trans (same_new hta)
                refine qq ta _ s7 ⟨as, upd_same, by rw [hl, List.length_map, R.len], fun j b t hb ht => ?_⟩
                have hj : rs[j]? = some (some t) := by
                  rw [List.getElem?_map] at ht
                  cases e : rs[j]? with
                  | none => rw [e] at ht; cases ht
                  | some r =>
                    obtain ⟨ys, rfl⟩ := hsome j r e
                    rw [e] at ht
                    rw [← Option.some.inj ht]; rfl
                exact same_new hta _ _ (hA j b t hb hj)
          · refine .inr ⟨xs, SqT.of (s12 _ _ hS), for_enumT (K := K) Pv P0 (fun i σ H' _ ⟨_, _, _, sm, _⟩ => SqT.of (sm _ _ hS)) ?_ ?_⟩
            · rintro i x T σ H' hx hT ⟨v2, v3, rfl, sm, hb⟩
              have sm2 : Same H (upd H' T (.tup [.int (i : Nat), x])) := sm.trans (same_new hT)
              obtain ⟨r, hr', W⟩ := R.get hx
              refine ⟨T, _, rfl, SqT.of upd_same, rfl, _, _, rfl, _, _, rfl, rfl, ?_⟩
              refine ⟨_, rfl, _, rfl, x, r, (y0.length : Int), rfl, W.same sm2, fun H3 s3 => ⟨_, rfl, ifD (fun e => ?_) fun e => ?_⟩⟩
              · have e' : isTab r (y0.length : Int) = false := by simpa using e
                have hz : chkAt (some rs) = some (i : Int) := by
                  rw [hc, find_at hr' (by rw [e']; rfl) fun j y hj hy => by rw [hb j y hj hy]; rfl]; rfl
                exact ⟨_, rfl, _, rfl, fun d hd => qE _ hz d _ ((sm2.trans s3).trans (same_new hd)) ((sm2.trans s3).free hd) upd_same⟩
              · have e' : isTab r (y0.length : Int) = true := by simpa using e
                refine ⟨_, _, rfl, sm2.trans s3, fun j y hj hy => ?_⟩
                rcases Nat.lt_succ_iff_lt_or_eq.mp hj with z | z
                · exact hb j y z hy
                · subst z
                  rw [hr'] at hy
                  rw [← Option.some.inj hy]
                  exact e'
            · rintro σ H' ⟨v2, v3, rfl, sm, hb⟩
              have hz : chkAt (some rs) = none := by
                rw [hc, find_none fun j y hj hy => by rw [hb j y (by rw [R.len]; exact hj) hy]; rfl]; rfl
              have hsome : ∀ (i : Nat) r, rs[i]? = some r → ∃ ys, r = some ys := fun i r hi => isTab_some (hb i r (by rw [R.len]; exact (List.getElem?_eq_some_iff.mp hi).1) hi)
              have hts : some rs = some ((rs.map fun r => r.getD []).map some) := by
                congr 1
                rw [List.map_map]
                refine (List.map_id rs).symm.trans (List.map_congr_left fun r hr => ?_)
                obtain ⟨i, hi, e⟩ := List.mem_iff_getElem.mp hr
                obtain ⟨ys, rfl⟩ := hsome i r (by rw [← e]; simp [hi])
                rfl
              have qq := qQ hz _ hts
              have gett : ∀ (i : Nat) x, xs[i]? = some x → ∃ b ys, x = .ref b ∧ rs[i]? = some (some ys) ∧ SeqA H b ys := fun i x hx => by
                obtain ⟨r, h1, W⟩ := R.get hx
                obtain ⟨ys, rfl⟩ := hsome i r h1
                obtain ⟨b, rfl, h2⟩ := W.kv.seqA
                exact ⟨b, ys, rfl, h1, h2⟩
              let Lv : Addr → Nat → Hp → Prop := fun D i H2 => ∃ as : List Addr, as.length = i ∧ Same H' H2 ∧ H2 D = some (.lst (as.map V.ref)) ∧ ∀ (j : Nat) b t, as[j]? = some b → rs[j]? = some (some t) → H2 b = some (.tup t)
              refine ⟨_, rfl, a, rfl, .inr ⟨xs, SqT.of (sm _ _ hS), fun D hD => lc_tup (K := K) (a := a) (xs := xs) (Lv D) ⟨[], rfl, same_new hD, upd_same, fun j b t z => nomatch z⟩ (fun i H2 _ ⟨as, _, s5, _⟩ => SqT.of (s5 _ _ (sm _ _ hS))) ?_ ?_⟩⟩
              · rintro i x H2 hx ⟨as, hl, s5, hD2, hA⟩
                obtain ⟨b, ys, rfl, h1, h2⟩ := gett i x hx
                have nD : ∀ c o, H' c = some o → c ≠ D := fun c o e => ne_of_none e hD
                have hlen : (as.map V.ref).length < sizeLine := by
                  rw [List.length_map, hl, sizeLine_eq]
                  have := (List.getElem?_eq_some_iff.mp hx).1
                  have z : (decide ((1 : Int) ≤ (xs.length : Int)) && decide ((xs.length : Int) ≤ 8)) = true := e1'
                  simp only [Bool.and_eq_true, decide_eq_true_eq] at z
                  omega
                have fin : ∀ (l : Addr) (H3 : Hp), Same H2 H3 → H3 l = some (.tup ys) → H3 D = some (.lst (as.map V.ref)) → l ≠ D → Lv D (i + 1) (upd H3 D (.lst (as.map V.ref ++ [.ref l]))) := fun l H3 s6 hl3 hD3 hne => by
                  have keep : ∀ c o, H3 c = some o → c ≠ D → upd H3 D (.lst (as.map V.ref ++ [.ref l])) c = some o := fun c o e n => by rw [upd_ne n]; exact e
                  refine ⟨as ++ [l], by rw [List.length_append, hl]; rfl, fun c o e => keep c o (s6 _ _ (s5 _ _ e)) (nD c o e), by rw [upd_same, List.map_append]; rfl, fun j b t hb ht => ?_⟩
                  by_cases hj : j < as.length
                  · rw [List.getElem?_append_left hj] at hb
                    have z := s6 _ _ (hA j b t hb ht)
                    exact keep _ _ z (ne_of z hD3 (by intro q; cases q))
                  · have hj2 : j = as.length := by
                      have := (List.getElem?_eq_some_iff.mp hb).1
                      rw [List.length_append] at this
                      have q : ([l] : List Addr).length = 1 := rfl
                      omega
                    subst hj2
                    rw [List.getElem?_append_right (Nat.le_refl _), Nat.sub_self] at hb
                    have eb : l = b := Option.some.inj hb
                    subst eb
                    rw [hl, h1] at ht
                    rw [← Option.some.inj (Option.some.inj ht)]
                    exact keep _ _ hl3 hne
                refine ⟨rfl, _, rfl, b, ys, rfl, ?_⟩
                rcases h2 with h2 | h2
                · have hb2 := s5 _ _ (sm _ _ h2)
                  refine .inl ⟨SqL.of hb2, fun l hl2 => ?_⟩
                  have nlD : l ≠ D := fun e => by rw [e, hD2] at hl2; cases hl2
                  exact ⟨_, (upd_ne nlD.symm).trans hD2, hlen, fin l _ (same_new hl2) upd_same ((upd_ne nlD.symm).trans hD2) nlD⟩
                · have hb2 := s5 _ _ (sm _ _ h2)
                  refine .inr ⟨SqT.of hb2, ?_⟩
                  exact ⟨_, hD2, hlen, fin b _ (Same.refl _) hb2 hD2 (ne_of hb2 hD2 (by intro q; cases q))⟩
              · rintro H2 ⟨as, hl, s5, hD2, hA⟩
                refine ⟨D, _, rfl, .inl ⟨SqL.of hD2, fun ta hta => ?_⟩⟩
                have s7 : Same H (upd H2 ta (.tup (as.map V.ref))) := (sm.trans s5).trans (same_new hta)
                refine qq ta _ s7 ⟨as, upd_same, by rw [hl, List.length_map, R.len], fun j b t hb ht => ?_⟩
                have hj : rs[j]? = some (some t) := by
                  rw [List.getElem?_map] at ht
                  cases e : rs[j]? with
                  | none => rw [e] at ht; cases ht
                  | some r =>
                    obtain ⟨ys, rfl⟩ := hsome j r e
                    rw [e] at ht
                    rw [← Option.some.inj ht]; rfl
                exact same_new hta _ _ (hA j b t hb hj)
end
end K1
namespace K1
open PySem PySem.Spec PyProof.Rows L2
/-! ### the machine's object -/
def mf (ta : Addr) (n k : Int) : List (Str × V) := putF "states" (.int k) (putF "deeds" (.int n) (putF "tables" (.ref ta) []))
theorem mf_t (ta : Addr) (n k : Int) : (mf ta n k).lookup ("tables" : Str) = some (.ref ta) := by
  unfold mf
  rw [lookup_putF, if_neg (by decide +kernel), lookup_putF, if_neg (by decide +kernel), lookup_putF, if_pos rfl]
theorem mf_d (ta : Addr) (n k : Int) : (mf ta n k).lookup ("deeds" : Str) = some (.int n) := by
  unfold mf
  rw [lookup_putF, if_neg (by decide +kernel), lookup_putF, if_pos rfl]
theorem mf_s (ta : Addr) (n k : Int) : (mf ta n k).lookup ("states" : Str) = some (.int k) := by
  unfold mf
  rw [lookup_putF, if_pos rfl]
/-- the machine at m, of the class at M: tables that stand at ta -/
def MachAt (M : Addr) (H : Hp) (m ta : Addr) (ts : List (List V)) : Prop :=
  (∃ (dx : Addr) (t0 : List V), ts[0]? = some t0 ∧ H m = some (.ins M dx (mf ta (ts.length : Int) (t0.length : Int)))) ∧ TabsAt H ta ts
theorem MachAt.same {M : Addr} {H H' : Hp} {m ta : Addr} {ts : List (List V)} (h : MachAt M H m ta ts) (s : Same H H') : MachAt M H' m ta ts :=
  let ⟨⟨dx, t0, h0, h1⟩, h2⟩ := h
  ⟨⟨dx, t0, h0, s _ _ h1⟩, h2.same s⟩
/-- what the walk asks of the class Machine, at M -/
structure McT (K : PySem.W.Frag) (mg : Str → Option Value) (M : Addr) : Prop where
  cl : Cls K M
  nT : NoAttr K M "tables"
  nD : NoAttr K M "deeds"
  nS : NoAttr K M "states"
  g : mg "Machine" = some (.ref M)
  ca : PySem.W.findIn K (.ref M) "__class__" = some (some (.builtin "object.__class__"))
  sp : PySem.W.specialIn K (.builtin "object.__class__") "__get__" = some (some (.builtin "getset_descriptor.__get__"))
  tk : PySem.W.takesIn K (.builtin "object.__class__") = some true
  mo : PySem.W.mroIn K M (.type "object") = some true
/-- __init__ of a fresh machine -/
def spMInit (K : PySem.W.Frag) (C M : Addr) : Sp := fun vs H Q E => ∃ m dx v o, vs = [.ref m, v] ∧ H m = some (.ins M dx []) ∧ Mv K H v o ∧ (∀ z, chkAt o = some z → Rz C "at" (.int z) H E) ∧
  (chkAt o = none → ∀ (ts : List (List V)), o = some (ts.map some) → ∀ ta H', (∀ b u, H b = some u → b ≠ m → H' b = some u) → MachAt M H' m ta ts → Q .non H')
theorem chk_first {ts : List (List V)} (h : chkAt (some (ts.map some)) = none) : ∃ t0, ts[0]? = some t0 := by
  cases ts with
  | nil =>
    have z : chkAt (some ([] : List (Option (List V)))) = some (-1) := rfl
    rw [show (([] : List (List V)).map some) = [] from rfl, z] at h
    cases h
  | cons a r => exact ⟨a, rfl⟩
section
variable {P : Program} {w : World} {K : PySem.W.Frag} {mg : Str → Option Value} {base : Heap}
theorem scMI : FnScope ["self", "tables"] ["self", "tables"] (defScope sMInit) := ⟨rfl, rfl, rfl, by decide +kernel, rfl, by decide +kernel, by decide +kernel⟩
theorem ok_minit {f fC C M : Addr} {fd fdC : FuncData} (F : Fun K "__init__" "Machine.__init__" sMInit f fd) (DC : Df K mg "checked_tables" sChk ["value"] fC fdC) (B : Bt mg) (T : McT K mg M)
    (GC : FnOk P w K mg base (L2.CX P w) 5 fC fdC ["value"] (spChk K C)) : FnOk P w K mg base (L2.CX P w) 6 f fd ["self", "tables"] (spMInit K C M) := by
  refine F.okX scMI (fun vs H Q E h => ?_) (fun cdv A outer s H vs Q E hr h => ?_)
  · obtain ⟨m, dx, v, o, rfl, _⟩ := h
    rfl
  · obtain ⟨m, dx, v, o, rfl, hm, mv, qE, qQ⟩ := h
    refine ⟨_, pss_cons (ps_fld (pv 0) (pc DC GC hr (pass1 (takes_of rfl rfl rfl rfl)) (pa_cons (pv 1) pa_nil)) rfl)
      (pss_cons (ps_fld (pv 0) (pe_callB call_len_seq (by rfl) B.len PySem.boot_len (pa_cons (pe_fld (pv 0) rfl) pa_nil)) rfl)
      (pss_one (ps_fld (pv 0) (pe_callB call_len_seq (by rfl) B.len PySem.boot_len (pa_cons (pe_ix ix_tup (pe_fld (pv 0) rfl) pe_int (fun _ _ => rfl)) pa_nil)) rfl))), ?_⟩
    refine ⟨_, rfl, v, o, rfl, mv, fun z hz d H' sm hd he => qE z hz d H' sm hd he, fun hz ts hts ta H' sm hT => ?_⟩
    subst hts
    obtain ⟨t0, h0⟩ := chk_first hz
    have hm1 := sm _ _ hm
    obtain ⟨as, ha1, ha2, ha3⟩ := hT
    have nma : m ≠ ta := ne_of hm1 ha1 (by intro q; cases q)
    have k1 : ∀ {fs : List (Str × V)}, (upd H' m (.ins M dx fs)) ta = some (.tup (as.map V.ref)) := fun {fs} => by rw [upd_ne nma.symm]; exact ha1
    obtain ⟨a0, ea0⟩ : ∃ a0, as[0]? = some a0 := by
      have : 0 < as.length := by rw [ha2]; exact (List.getElem?_eq_some_iff.mp h0).1
      exact ⟨as[0], by simp [this]⟩
    have hA0 := ha3 0 a0 t0 ea0 h0
    have nm0 : m ≠ a0 := ne_of hm1 hA0 (by intro q; cases q)
    refine ⟨_, rfl, m, M, dx, [], rfl, hm1, T.cl, T.nT, (by show 0 < 1000; decide), ?_⟩
    refine ⟨_, rfl, m, M, dx, _, _, rfl, upd_same, T.cl, T.nT, (by rw [lookup_putF, if_pos rfl]), ta, _, rfl, .inr (SqT.of k1), _, rfl, m, M, dx, _, rfl, upd_same, T.cl, T.nD, (by show 1 < 1000; decide), ?_⟩
    rw [upd_upd]
    refine ⟨_, rfl, m, M, dx, _, _, rfl, upd_same, T.cl, T.nT, (by rw [lookup_putF, if_neg (by decide +kernel), lookup_putF, if_pos rfl]), ta, _, 0, _, rfl, rfl, SqT.of k1, atI_nat (j := 0) (by rw [List.getElem?_map, ea0]; rfl), a0, t0, rfl, .inr (SqT.of (by rw [upd_ne nm0.symm]; exact hA0)), _, rfl, m, M, dx, _, rfl, upd_same, T.cl, T.nS, (by show 2 < 1000; decide), ?_⟩
    rw [upd_upd]
    refine qQ hz ts rfl ta _ (fun b u e hb => ?_) ⟨⟨dx, t0, h0, ?_⟩, as, k1, ha2, fun i a t e1 e2 => ?_⟩
    · rw [upd_ne hb]
      exact sm _ _ e
    · rw [upd_same]
      show some (HO.ins M dx (putF "states" (.int t0.length) (putF "deeds" (.int ((as.map V.ref).length : Int)) (putF "tables" (.ref ta) [])))) = _
      rw [List.length_map, ha2]
      rfl
    · have z := ha3 i a t e1 e2
      rw [upd_ne (ne_of z hm1 (by intro q; cases q))]
      exact z
end
end K1
namespace K1
open PySem PySem.Spec PyProof.Rows L2
/-- x == y by x's own __eq__: y another such instance, or a tuple -/
def rEqOwn (C : Addr) (sp : Sp) : R2 := fun x y H Q => ∃ (a : Addr) (dx : Addr) (fs : List (Str × V)), x = .ref a ∧ H a = some (.ins C dx fs) ∧ ((∃ (b dy : Addr) (gs : List (Str × V)), y = .ref b ∧ H b = some (.ins C dy gs)) ∨ ∃ (b : Addr) (ys : List V), y = .ref b ∧ H b = some (.tup ys)) ∧
  sp [x, y] H (fun v H' => ∃ k, v = .bl k ∧ Q v H') E0
theorem op_eqOwn {X : Cx} {n : Nat} {C f : Addr} {fd : FuncData} {ps : List Str} {sp : Sp} (F : FnOk X.prog X.w X.K X.mg X.base CX0 n f fd ps sp) (hr : Room n X.A)
    (hs : PySem.W.findIn X.K (.ref C) "__eq__" = some (some (.ref f))) (hf : PySem.W.isFn X.K (.ref f) = true) (hb : Binds X.K fd ps []) (nf : PySem.W.notFirst X.K C (.type "tuple") = true) : OpR X (compareOp .Eq) (rEqOwn C sp) := by
  intro pins s σ H x y v u Q I rx ry hq
  obtain ⟨a, dx, fs, rfl, ha, hy, hsp⟩ := hq
  cases rx
  show wpAny (model X.prog X.w) X.A (richCompare .Eq (.ref a) u) (EP X pins σ Q) X.xe s
  obtain ⟨mA, J, _⟩ := ins_get I.hok ha
  obtain ⟨od, J, _⟩ := J.look
  obtain ⟨m, hF⟩ := I.fr
  have tl : ∃ tb, PySem.W.Looks (model X.prog X.w) s.heap (typeOf u) tb ∧ PySem.W.notFirst X.K C tb = true := by
    rcases hy with ⟨b, dy, gs, rfl, hb'⟩ | ⟨b, ys, rfl, hb'⟩
    · cases ry
      obtain ⟨mB, J', _⟩ := ins_get I.hok hb'
      obtain ⟨od', J', _⟩ := J'.look
      exact ⟨.ref C, J'.type, by simp [PySem.W.notFirst]⟩
    · cases ry
      obtain ⟨_, its, rv, o, h1, h2, _⟩ := (show ObjOk X.prog X.w H s.heap b (.tup ys) from I.hok b _ hb')
      exact ⟨.type "tuple", h2 ▸ (PySem.W.Looks.ld h1).andThen .now, nf⟩
  obtain ⟨tb, tl, hn⟩ := tl
  refine PySem.W.cmp_K (op := .Eq) (tb := tb) hr.units0 hF I.ok.mod.kin J tl hn hs hf ?_
  have hl := F.len _ _ _ _ hsp
  have r2 : Vals [V.ref a, y] [Value.ref a, u] := .cons rfl (.cons ry .nil)
  refine wpAny_call (codeAny_mono (F.run X.A X.stack s H ⟨[.ref a, u], []⟩ [.ref a, u] [.ref a, y] _ E0 hr I.env0 (by
    have := hb s [.ref a, u] I.kIn (by simpa using hl)
    simpa using this) r2 hsp) fun r s' hq => ?_)
  cases r with
  | error e => exact (show False from hq).elim
  | ok fl =>
    cases fl with
    | ret w =>
      obtain ⟨z, H', I', rz, k, ez, q⟩ := I.after hq
      subst ez
      cases rz
      exact ⟨.bl k, H', I', rfl, q⟩
    | next => exact False.elim hq
    | brk => exact False.elim hq
    | cont => exact False.elim hq
/-! ### whole numbers by rows -/
/-- the tables of a machine as lists of whole numbers -/
abbrev Ts := List (List Int)
def vrow (t : List Int) : List V := t.map V.int
def vts (ts : Ts) : List (List V) := ts.map vrow
def dI (t : List Int) : List PyData := t.map PyData.int
def dT (ts : Ts) : PyData := .tuple (ts.map fun t => .tuple (dI t))
section
variable {K : PySem.W.Frag} {H : Hp}
theorem dp_ints : ∀ t : List Int, DpAll K H (vrow t) (dI t)
  | [] => .nil
  | i :: r => .cons (.int i) (dp_ints r)
theorem dp_tup {a : Addr} {t : List Int} (h : H a = some (.tup (vrow t))) : Dp K H (.ref a) (.tuple (dI t)) := .tup (SqT.of h) (dp_ints t)
theorem dp_refs : ∀ (as : List Addr) (ts : Ts), as.length = ts.length → (∀ (i : Nat) a t, as[i]? = some a → (vts ts)[i]? = some t → H a = some (.tup t)) → DpAll K H (as.map V.ref) (ts.map fun t => PyData.tuple (dI t))
  | [], [], _, _ => .nil
  | a :: as, t :: ts, hl, h => .cons (dp_tup (h 0 a (vrow t) rfl rfl)) (dp_refs as ts (Nat.succ.inj hl) fun i b u e1 e2 => h (i + 1) b u e1 e2)
  | [], _ :: _, hl, _ => nomatch hl
  | _ :: _, [], hl, _ => nomatch hl
theorem TabsAt.dp {ta : Addr} {ts : Ts} (h : TabsAt H ta (vts ts)) : Dp K H (.ref ta) (dT ts) := by
  obtain ⟨as, h1, h2, h3⟩ := h
  exact .tup (SqT.of h1) (dp_refs as ts (by rw [h2]; exact List.length_map _) h3)
end
/-- plain data: shown shortly, compared by what they hold -/
structure Pl (d : PyData) (n w : Nat) : Prop where
  lay : d.canLay0 = true
  sh : d.showable = true
  nd : d.hasDict = false
  dp : d.depth ≤ n
  wt : d.weight ≤ w
  sr : d.leavesShort 20 = true
structure PlA (ds : List PyData) (n w : Nat) : Prop where
  lay : PyData.canLayAll0 ds = true
  sh : PyData.showableAll ds = true
  nd : PyData.hasDictAll ds = false
  dp : PyData.depthAll ds ≤ n
  wt : PyData.weightAll ds ≤ w
  sr : PyData.leavesShortAll 20 ds = true
theorem Pl.int {i : Int} (h : i.natAbs < 10 ^ 19) : Pl (.int i) 0 64 := by
  have h3 : i.natAbs ≠ 0 → i.natAbs.log2 < 64 := fun z => (Nat.log2_lt z).mpr (Nat.lt_of_lt_of_le h (by decide))
  refine ⟨by simp only [PyData.canLay0], ?_, by simp only [PyData.hasDict], by simp only [PyData.depth]; omega, ?_, ?_⟩
  · simp only [PyData.showable, decide_eq_true_eq]
    by_cases z : i.natAbs = 0
    · rw [z]; decide
    · have := h3 z
      omega
  · simp only [PyData.weight]
    split
    · omega
    · rename_i z
      have := h3 (fun e => z (by rw [Int.natAbs_eq_zero.mp e]; rfl))
      omega
  · have e := int_text_length_le10 (a := i) (k := 19) (by decide) h
    simp only [PyData.leavesShort, decide_eq_true_eq, PyData.shown]
    exact decide_eq_true (Nat.le_trans (Nat.le_of_eq (PySem.ofString_length _)) e)
theorem Pl.bl (b : Bool) : Pl (.bool b) 0 0 := ⟨by simp only [PyData.canLay0], by simp only [PyData.showable], by simp only [PyData.hasDict], by simp only [PyData.depth]; omega, by simp only [PyData.weight]; omega, by simp only [PyData.leavesShort]⟩
theorem PlA.nil : PlA [] 0 0 := ⟨by simp only [PyData.canLayAll0], by simp only [PyData.showableAll], by simp only [PyData.hasDictAll], by simp only [PyData.depthAll]; omega, by simp only [PyData.weightAll]; omega, by simp only [PyData.leavesShortAll]⟩
theorem PlA.cons {d : PyData} {ds : List PyData} {n m u v : Nat} (a : Pl d n u) (b : PlA ds m v) : PlA (d :: ds) (max n m) (u + 1 + v) := by
  refine ⟨by simp only [PyData.canLayAll0, a.lay, b.lay, Bool.and_self], by simp only [PyData.showableAll, a.sh, b.sh, Bool.and_self], by simp only [PyData.hasDictAll, a.nd, b.nd, Bool.or_self], ?_, ?_, by simp only [PyData.leavesShortAll, a.sr, b.sr, Bool.and_self]⟩
  · have h1 := a.dp; have h2 := b.dp
    simp only [PyData.depthAll]; omega
  · have h1 := a.wt; have h2 := b.wt
    simp only [PyData.weightAll]; omega
theorem Pl.list {ds : List PyData} {n w : Nat} (a : PlA ds n w) : Pl (.list ds) (n + 1) w := by
  refine ⟨by simp only [PyData.canLay0, a.lay], by simp only [PyData.showable, a.sh], by simp only [PyData.hasDict, a.nd], ?_, ?_, by simp only [PyData.leavesShort, a.sr]⟩
  · have h1 := a.dp
    simp only [PyData.depth]; omega
  · have h1 := a.wt
    simp only [PyData.weight]; omega
theorem Pl.tuple {ds : List PyData} {n w : Nat} (a : PlA ds n w) : Pl (.tuple ds) (n + 1) w := by
  refine ⟨by simp only [PyData.canLay0, a.lay], by simp only [PyData.showable, a.sh], by simp only [PyData.hasDict, a.nd], ?_, ?_, by simp only [PyData.leavesShort, a.sr]⟩
  · have h1 := a.dp
    simp only [PyData.depth]; omega
  · have h1 := a.wt
    simp only [PyData.weight]; omega
theorem Pl.mono {d : PyData} {n w m v : Nat} (a : Pl d n w) (h1 : n ≤ m) (h2 : w ≤ v) : Pl d m v := ⟨a.lay, a.sh, a.nd, Nat.le_trans a.dp h1, Nat.le_trans a.wt h2, a.sr⟩
theorem PlA.mono {d : List PyData} {n w m v : Nat} (a : PlA d n w) (h1 : n ≤ m) (h2 : w ≤ v) : PlA d m v := ⟨a.lay, a.sh, a.nd, Nat.le_trans a.dp h1, Nat.le_trans a.wt h2, a.sr⟩
theorem Pl.shaped {d : PyData} {n w : Nat} (a : Pl d n w) (h : n ≤ 40) : SeqAt.shaped d = true := by
  have := a.dp
  unfold SeqAt.shaped
  rw [a.lay, decide_eq_true (by omega)]; rfl
theorem Pl.short {d : PyData} {n w : Nat} (a : Pl d n w) (h : w ≤ 100000) : d.shown.length ≤ sizeLine := by
  have h1 := PyData.shown_le 20 (by decide) d a.sr
  have h2 := a.wt
  rw [sizeLine_eq]
  omega
/-- rows of whole numbers below 10 ^ 19 -/
theorem pla_ints : ∀ t : List Int, (∀ i ∈ t, i.natAbs < 10 ^ 19) → PlA (dI t) 0 (t.length * 65)
  | [], _ => PlA.nil
  | i :: r, h => (PlA.cons (Pl.int (h i List.mem_cons_self)) (pla_ints r fun j hj => h j (List.mem_cons_of_mem _ hj))).mono (by omega) (by show 64 + 1 + r.length * 65 ≤ (r.length + 1) * 65; omega)
theorem pla_rows {n : Nat} : ∀ ts : Ts, (∀ t ∈ ts, t.length ≤ n ∧ ∀ i ∈ t, i.natAbs < 10 ^ 19) → PlA (ts.map fun t => PyData.tuple (dI t)) 1 (ts.length * (n * 65 + 1))
  | [], _ => PlA.nil.mono (by omega) (by omega)
  | t :: r, h => by
    obtain ⟨h1, h2⟩ := h t List.mem_cons_self
    refine (PlA.cons (Pl.tuple (pla_ints t h2)) (pla_rows r fun u hu => h u (List.mem_cons_of_mem _ hu))).mono (by omega) ?_
    show t.length * 65 + 1 + r.length * (n * 65 + 1) ≤ (r.length + 1) * (n * 65 + 1)
    rw [Nat.add_mul]
    omega
theorem pl_dT {n : Nat} {ts : Ts} (h : ∀ t ∈ ts, t.length ≤ n ∧ ∀ i ∈ t, i.natAbs < 10 ^ 19) : Pl (dT ts) 2 (ts.length * (n * 65 + 1)) := Pl.tuple (pla_rows ts h)
end K1
namespace K1
open PySem PySem.Spec PyProof.Rows L2
/-- tables that are shown and compared: few, of few states -/
def Few (ts : Ts) : Prop := ts.length ≤ 8 ∧ ∀ t ∈ ts, t.length ≤ 12 ∧ ∀ i ∈ t, i.natAbs < 10 ^ 19
theorem Few.pl {ts : Ts} (h : Few ts) : Pl (dT ts) 2 10000 := (pl_dT h.2).mono (Nat.le_refl _) (by have := h.1; have : ts.length * (12 * 65 + 1) ≤ 8 * (12 * 65 + 1) := Nat.mul_le_mul_right _ h.1; omega)
/-- machine == other: another machine with the same tables, or a tuple -/
def spMEq (M : Addr) : Sp := fun vs H Q _ => ∃ m ta ts v, vs = [.ref m, v] ∧ MachAt M H m ta (vts ts) ∧ Few ts ∧
  ((∃ m2 ta2, v = .ref m2 ∧ MachAt M H m2 ta2 (vts ts) ∧ Q (.bl true) H) ∨ (∃ a xs, v = .ref a ∧ H a = some (.tup xs) ∧ Q (.bl false) H))
/-- which answers isinstance gives of the class -/
structure McI (K : PySem.W.Frag) (M : Addr) : Prop where
  y : PySem.W.kitOne K (.ref M) (.ref M) = some true
  n : PySem.W.kitOne K (.type "tuple") (.ref M) = some false
def spNeed (M C : Addr) (fld : Str) (g : Ts → Nat) : Sp := fun vs H Q E => ∃ m ta ts v, vs = [.ref m, v] ∧ MachAt M H m ta (vts ts) ∧ (∃ (K : PySem.W.Frag) (o : Option (List V)), KV K H v o) ∧
  (belowB v (g ts : Int) = true → Q v H) ∧ (belowB v (g ts : Int) = false → Rz C fld v H E)
theorem ints_of {t0 : List V} {ts : Ts} (h : (vts ts)[0]? = some t0) : ∃ r : List Int, ts[0]? = some r ∧ t0 = vrow r := by
  rw [vts, List.getElem?_map] at h
  cases e : ts[0]? with
  | none => rw [e] at h; cases h
  | some r =>
    rw [e] at h
    exact ⟨r, rfl, (Option.some.inj h).symm⟩
/-- how many states -/
def nS (ts : Ts) : Nat := (ts[0]?.getD []).length
theorem MachAt.fs {M : Addr} {H : Hp} {m ta : Addr} {ts : Ts} (h : MachAt M H m ta (vts ts)) : ∃ dx : Addr, H m = some (.ins M dx (mf ta (ts.length : Int) (nS ts : Int))) := by
  obtain ⟨⟨dx, t0, h0, h1⟩, _⟩ := h
  obtain ⟨r, hr, rfl⟩ := ints_of h0
  refine ⟨dx, ?_⟩
  rw [h1]
  have e1 : (vts ts).length = ts.length := List.length_map _
  have e2 : (vrow r).length = nS ts := by
    unfold nS
    rw [hr]
    exact List.length_map _
  rw [e1, e2]
section
variable {P : Program} {w : World} {K : PySem.W.Frag} {mg : Str → Option Value} {base : Heap}
theorem scME : FnScope ["self", "other"] ["self", "other"] (defScope sMEq) := ⟨rfl, rfl, rfl, by decide +kernel, rfl, by decide +kernel, by decide +kernel⟩
theorem ok_meq {f M : Addr} {fd : FuncData} (F : Fun K "__eq__" "Machine.__eq__" sMEq f fd) (B : Bt mg) (T : McT K mg M) (T2 : McI K M) : FnOk P w K mg base CX0 1 f fd ["self", "other"] (spMEq M) := by
  refine F.ok scME (fun vs H Q E h => ?_) (fun cdv A outer s H vs Q E hr h => ?_)
  · obtain ⟨m, ta, ts, v, rfl, _⟩ := h
    rfl
  · obtain ⟨m, ta, ts, v, rfl, hM, hF, q⟩ := h
    refine ⟨_, pss_one (ps_ret (pe_and (pe_callB call_isi (by rfl) B.isinstance (by decide +kernel) (pa_cons (pv 1) (pa_cons (pe_glob (v := .ref M) (by rfl) T.g rfl) pa_nil)))
      (pe_one (pe_cmpR (op_eqD hr.units) (pe_fld (pv 0) rfl) (pe_fld (pv 1) rfl) (nomark _))))), ?_⟩
    obtain ⟨dx, h1⟩ := hM.fs
    rcases q with ⟨m2, ta2, rfl, hM2, q⟩ | ⟨a, xs, rfl, ha, q⟩
    · obtain ⟨dx2, h2⟩ := hM2.fs
      refine ⟨_, rfl, _, _, _, _, _, rfl, .own M, .base (.ins h2 T.cl T.ca T.sp T.tk T.mo), T2.y, _, rfl, iteT ?_⟩
      refine ⟨_, rfl, m, M, dx, _, _, rfl, h1, T.cl, T.nT, mf_t _ _ _, _, rfl, m2, M, dx2, _, _, rfl, h2, T.cl, T.nT, mf_t _ _ _, dT ts, dT ts, hM.2.dp, hM2.2.dp, hF.pl.shaped (by decide), hF.pl.shaped (by decide), qbl ?_ q⟩
      exact SeqAt.eqv_refl _ hF.pl.lay
    · refine ⟨_, rfl, _, _, _, _, _, rfl, .own M, .base (.tup ha), T2.n, _, rfl, iteF q⟩
theorem scNS : FnScope ["machine", "state"] ["machine", "state"] (defScope sNeedS) := ⟨rfl, rfl, rfl, by decide +kernel, rfl, by decide +kernel, by decide +kernel⟩
theorem ok_needS {f fB C M cI : Addr} {fd fdB : FuncData} {bm : List Value} {ql : Str} (D : Df K mg "need_state" sNeedS ["machine", "state"] f fd) (DB : Df K mg "is_below" sBelow ["value", "limit"] fB fdB) (T : McT K mg M) (TX : LState.Txt K mg "NoState" ql bm C cI)
    (GB : FnOk P w K mg base CX0 2 fB fdB ["value", "limit"] (spBelow K)) : FnOk P w K mg base (L2.CX P w) 3 f fd ["machine", "state"] (spNeed M C "state" nS) := by
  refine D.F.okX scNS (fun vs H Q E h => ?_) (fun cdv A outer s H vs Q E hr h => ?_)
  · obtain ⟨m, ta, ts, v, rfl, _⟩ := h
    rfl
  · obtain ⟨m, ta, ts, v, rfl, hM, ⟨K', o, kv⟩, q1, q2⟩ := h
    refine ⟨_, pss_cons (ps_if (pt_not (pt_val (pc DB GB hr pass0 (pa_cons (pv 1) (pa_cons (pe_fld (pv 0) rfl) pa_nil))))) (pss_one (ps_raise_LState rfl TX hr (takes_of rfl rfl rfl rfl) (pa_cons (pv 1) pa_nil))) pss_nil) (pss_one (ps_ret (pv 1))), ?_⟩
    obtain ⟨dx, h1⟩ := hM.fs
    have kv' : KV K H v o := by cases kv <;> first | exact .int _ | exact .bl _ | exact .non | exact .str _ | exact .lst (by assumption) | exact .tup (by assumption)
    refine ⟨_, rfl, _, rfl, m, M, dx, _, _, rfl, h1, T.cl, T.nS, mf_s _ _ _, v, o, _, rfl, kv', _, rfl, ifD (fun e => ?_) fun e => ?_⟩
    · exact ⟨_, rfl, _, rfl, fun d hd => q2 (by simpa using e) d _ (same_new hd) hd upd_same⟩
    · exact ⟨_, rfl, q1 (by simpa using e)⟩
end
end K1
namespace K1
open PySem PySem.Spec PyProof.Rows L2
def rowF (r : Option (List V)) (n : Int) : V := if seqB r 0 10000 = true then fnb (r.getD []) n else .int (-1)
theorem fnb_non {xs : List V} {lim : Int} (h : fnb xs lim = .non) : ∀ x ∈ xs, belowB x lim = true := by
  unfold fnb at h
  cases e : xs.findIdx? (fun x => !belowB x lim) with
  | some i => rw [e] at h; cases h
  | none =>
    rw [List.findIdx?_eq_none_iff] at e
    intro x hx
    simpa using e x hx
theorem fnb_all {xs : List V} {lim : Int} (h : ∀ x ∈ xs, belowB x lim = true) : fnb xs lim = .non := fnb_none fun j y _ hy => h y (List.mem_of_getElem? hy)
theorem rowF_non {r : Option (List V)} {n : Int} (h : rowF r n = .non) : ∃ xs, r = some xs ∧ ∀ x ∈ xs, belowB x n = true := by
  unfold rowF at h
  by_cases e : seqB r 0 10000 = true
  · rw [if_pos e] at h
    cases r with
    | none => cases e
    | some xs => exact ⟨xs, rfl, fnb_non h⟩
  · rw [if_neg e] at h
    cases h
/-- where a deed leads a state; where a row leads it -/
def stp (ts : Ts) (s d : Int) : Int := ((ts[d.toNat]?.getD [])[s.toNat]?).getD 0
def run (ts : Ts) (s : Int) (row : List Int) : Int := row.foldl (stp ts) s
/-- well made tables -/
structure Wf (ts : Ts) : Prop where
  t1 : 1 ≤ ts.length
  t8 : ts.length ≤ 8
  s1 : 1 ≤ nS ts
  s12 : nS ts ≤ 12
  row : ∀ t ∈ ts, t.length = nS ts ∧ ∀ i ∈ t, 0 ≤ i ∧ i < (nS ts : Int)
theorem Wf.few {ts : Ts} (h : Wf ts) : Few ts := ⟨h.t8, fun t ht => ⟨by rw [(h.row t ht).1]; exact h.s12, fun i hi => by
  have := (h.row t ht).2 i hi
  have := h.s12
  omega⟩⟩
theorem Wf.at_ {ts : Ts} (h : Wf ts) {s d : Int} (hd : 0 ≤ d ∧ d < ts.length) (hs : 0 ≤ s ∧ s < (nS ts : Int)) : ∃ t, ts[d.toNat]? = some t ∧ t[s.toNat]? = some (stp ts s d) ∧ 0 ≤ stp ts s d ∧ stp ts s d < (nS ts : Int) := by
  have h1 : d.toNat < ts.length := by omega
  have ht : ts[d.toNat]? = some ts[d.toNat] := by simp [h1]
  have hm : ts[d.toNat] ∈ ts := List.getElem_mem h1
  obtain ⟨r1, r2⟩ := h.row _ hm
  have h2 : s.toNat < ts[d.toNat].length := by rw [r1]; omega
  have e : stp ts s d = ts[d.toNat][s.toNat] := by
    unfold stp
    rw [ht]
    simp [h2]
  refine ⟨_, ht, by rw [e]; simp [h2], ?_⟩
  rw [e]
  exact r2 _ (List.getElem_mem h2)
theorem Wf.run {ts : Ts} (h : Wf ts) : ∀ (row : List Int) (s : Int), (∀ d ∈ row, 0 ≤ d ∧ d < (ts.length : Int)) → 0 ≤ s ∧ s < (nS ts : Int) → 0 ≤ run ts s row ∧ run ts s row < (nS ts : Int)
  | [], s, _, hs => hs
  | d :: r, s, hd, hs => by
    obtain ⟨t, _, _, h3⟩ := h.at_ (hd d List.mem_cons_self) hs
    exact Wf.run h r (stp ts s d) (fun e he => hd e (List.mem_cons_of_mem _ he)) h3
theorem run_snoc (ts : Ts) (s : Int) (row : List Int) (d : Int) : run ts s (row ++ [d]) = stp ts (run ts s row) d := by
  unfold run
  rw [List.foldl_append]; rfl
theorem take_succ {α : Type} {l : List α} {i : Nat} {x : α} (h : l[i]? = some x) : l.take (i + 1) = l.take i ++ [x] := by
  rw [List.take_add_one, h]; rfl
def spFault (K : PySem.W.Frag) (M : Addr) : Sp := fun vs H Q _ => ∃ m ta ts v r, vs = [.ref m, v] ∧ MachAt M H m ta (vts ts) ∧ Rw K H v r ∧ ∀ H', Same H H' → Q (rowF r (ts.length : Int)) H'
def spRow (K : PySem.W.Frag) (M C : Addr) : Sp := fun vs H Q E => ∃ m ta ts v r, vs = [.ref m, v] ∧ MachAt M H m ta (vts ts) ∧ Rw K H v r ∧ (rowF r (ts.length : Int) ≠ .non → Rz C "at" (rowF r (ts.length : Int)) H E) ∧
  (rowF r (ts.length : Int) = .non → ∀ xs, r = some xs → ∀ p H', Same H H' → H' p = some (.tup xs) → Q (.ref p) H')
def spMoved (M : Addr) : Sp := fun vs H Q _ => ∃ m ta ts s p row, vs = [.ref m, .int s, .ref p] ∧ MachAt M H m ta (vts ts) ∧ Wf ts ∧ (0 ≤ s ∧ s < (nS ts : Int)) ∧ H p = some (.tup (vrow row)) ∧ (∀ d ∈ row, 0 ≤ d ∧ d < (ts.length : Int)) ∧ Q (.int (run ts s row)) H
def spLed (K : PySem.W.Frag) (M CS CR : Addr) : Sp := fun vs H Q E => ∃ m ta ts v rv, vs = [.ref m, v, rv] ∧ MachAt M H m ta (vts ts) ∧ Wf ts ∧ (∃ o, KV K H v o) ∧ (belowB v (nS ts : Int) = false → Rz CS "state" v H E) ∧
  ((belowB v (nS ts : Int) = true) → ∃ s r, v = .int s ∧ Rw K H rv r ∧ (rowF r (ts.length : Int) ≠ .non → Rz CR "at" (rowF r (ts.length : Int)) H E) ∧ (rowF r (ts.length : Int) = .non → ∃ row, r = some (vrow row) ∧ ∀ H', Same H H' → Q (.int (run ts s row)) H'))
section
variable {P : Program} {w : World} {K : PySem.W.Frag} {mg : Str → Option Value} {base : Heap}
theorem scFa : FnScope ["machine", "value"] ["machine", "value"] (defScope sFault) := ⟨rfl, rfl, rfl, by decide +kernel, rfl, by decide +kernel, by decide +kernel⟩
theorem ok_fault {f fS fF M : Addr} {fd fdS fdF : FuncData} (D : Df K mg "row_fault" sFault ["machine", "value"] f fd) (DS : Df K mg "is_sequence" sSeq ["value", "least", "most"] fS fdS) (DF : Df K mg "first_not_below" sFnb ["items", "limit"] fF fdF) (c : Ct mg) (T : McT K mg M)
    (GS : FnOk P w K mg base CX0 1 fS fdS ["value", "least", "most"] (spSeq K)) (GF : FnOk P w K mg base CX0 3 fF fdF ["items", "limit"] (spFnb K)) : FnOk P w K mg base CX0 4 f fd ["machine", "value"] (spFault K M) := by
  obtain ⟨t1, hc1⟩ := c.row
  refine D.F.ok scFa (fun vs H Q E h => ?_) (fun cdv A outer s H vs Q E hr h => ?_)
  · obtain ⟨m, ta, ts, v, r, rfl, _⟩ := h
    rfl
  · obtain ⟨m, ta, ts, v, r, rfl, hM, W, q⟩ := h
    refine ⟨_, pss_cons (ps_if (pt_not (pt_val (pc DS GS (hr.mono (by decide)) pass0 (pa_cons (pv 1) (pa_cons pe_int (pa_cons (pe_glob (v := .int 10000) (by rfl) hc1 ⟨_, rfl⟩) pa_nil)))))) (pss_one (ps_ret (pe_un un_neg pe_int))) pss_nil)
      (pss_one (ps_ret (pc DF GF hr pass0 (pa_cons (pv 1) (pa_cons (pe_fld (pv 0) rfl) pa_nil))))), ?_⟩
    refine ⟨_, rfl, v, r, 0, 10000, rfl, W.kv, fun H1 s1 => ⟨_, rfl, ifD (fun e => ?_) fun e => ?_⟩⟩
    · have e' : ¬ seqB r 0 10000 = true := by simpa using e
      refine ⟨_, rfl, ?_⟩
      have := q _ s1
      unfold rowF at this
      rw [if_neg e'] at this
      exact this
    · have e' : seqB r 0 10000 = true := by simpa using e
      obtain ⟨xs, rfl⟩ : ∃ xs, r = some xs := by cases r with
        | none => cases e'
        | some xs => exact ⟨xs, rfl⟩
      obtain ⟨a, rfl, hS⟩ := W.kv.seqA
      obtain ⟨dx, h1⟩ := (hM.same s1).fs
      refine ⟨_, rfl, _, rfl, m, M, dx, _, _, rfl, h1, T.cl, T.nD, mf_d _ _ _, a, xs, _, rfl, hS.same s1, (W.ks xs rfl).same s1, fun H2 s2 => ?_⟩
      have := q _ (s1.trans s2)
      unfold rowF at this
      rw [if_pos e'] at this
      exact this
theorem scMv : FnScope ["machine", "state", "row", "deed"] ["machine", "state", "row"] (defScope sMoved) := ⟨rfl, rfl, rfl, by decide +kernel, rfl, by decide +kernel, by decide +kernel⟩
theorem ok_moved {f M : Addr} {fd : FuncData} (D : Df K mg "moved" sMoved ["machine", "state", "row"] f fd) (T : McT K mg M) : FnOk P w K mg base CX0 1 f fd ["machine", "state", "row"] (spMoved M) := by
  refine D.F.ok scMv (fun vs H Q E h => ?_) (fun cdv A outer s H vs Q E hr h => ?_)
  · obtain ⟨m, ta, ts, v, p, row, rfl, _⟩ := h
    rfl
  · obtain ⟨m, ta, ts, s0, p, row, rfl, hM, hW, hs, hp, hd, q⟩ := h
    refine ⟨_, pss_cons (ps_for PassesOwn.never rfl (pi_tup (pv 2)) (pg_name (i := 3) scMv.nd rfl (.inl rfl)) (pss_one (ps_set (i := 1) scMv.nd rfl (.inl rfl) (pe_ix ix_tup (pe_ix ix_tup (pe_fld (pv 0) rfl) (pv 3) (fun _ _ => rfl)) (pv 1) (fun _ _ => rfl)))))
      (pss_one (ps_ret (pv 1))), ?_⟩
    refine ⟨_, rfl, p, rfl, ⟨_, SqT.of hp⟩, for_tup (K := K) (a := p) (xs := vrow row) (fun i σ H' => ∃ v3 : Option V, σ = [some (.ref m), some (.int (run ts s0 (row.take i))), some (.ref p), v3] ∧ H' = H)
      ⟨none, rfl, rfl⟩ (fun i σ H' _ ⟨_, _, e⟩ => by rw [e]; exact SqT.of hp) ?_ ?_⟩
    · rintro i y σ H' hi ⟨v3, rfl, rfl⟩
      obtain ⟨d, ed, rfl⟩ : ∃ d, row[i]? = some d ∧ y = V.int d := by
        rw [vrow, List.getElem?_map] at hi
        cases e : row[i]? with
        | none => rw [e] at hi; cases hi
        | some z =>
          rw [e] at hi
          exact ⟨z, rfl, (Option.some.inj hi).symm⟩
      have hb := hd d (List.mem_of_getElem? ed)
      have hr' := hW.run (row.take i) s0 (fun e he => hd e (List.mem_of_mem_take he)) hs
      obtain ⟨t, h1, h2, h3⟩ := hW.at_ hb hr'
      obtain ⟨dx, hm⟩ := hM.fs
      obtain ⟨as, ha1, ha2, ha3⟩ := hM.2
      have hla : d.toNat < as.length := by rw [ha2, vts, List.length_map]; omega
      have hA : as[d.toNat]? = some as[d.toNat] := by simp [hla]
      have hT := ha3 d.toNat _ (vrow t) hA (by rw [vts, List.getElem?_map, h1]; rfl)
      refine ⟨_, rfl, m, M, dx, _, _, rfl, hm, T.cl, T.nT, mf_t _ _ _, _, rfl, ta, _, d, _, rfl, rfl, SqT.of ha1, at_of (j := d.toNat) (by omega) (by rw [List.getElem?_map, hA]; rfl), ?_⟩
      refine ⟨_, rfl, _, _, _, .int (stp ts (run ts s0 (row.take i)) d), rfl, rfl, SqT.of hT, at_of (j := (run ts s0 (row.take i)).toNat) (by omega) (by rw [vrow, List.getElem?_map, h2]; rfl), ?_⟩
      refine ⟨some (.int d), ?_, rfl⟩
      rw [take_succ ed, run_snoc]
      rfl
    · rintro σ H' ⟨v3, rfl, rfl⟩
      have e : row.take (vrow row).length = row := by rw [vrow, List.length_map, List.take_length]
      rw [e]
      exact ⟨_, rfl, q⟩
end
end K1
namespace K1
/-! ### rows: the shorter ones ahead, then by their deeds -/
def LL : List Int → List Int → Prop
  | _, [] => False
  | [], _ :: _ => True
  | a :: r, b :: q => a < b ∨ (a = b ∧ LL r q)
theorem LL.irrefl : ∀ r, ¬ LL r r
  | [], h => h
  | a :: r, h => by
    rcases h with h | ⟨_, h⟩
    · omega
    · exact LL.irrefl r h
theorem LL.trans : ∀ {r q s : List Int}, LL r q → LL q s → LL r s
  | _, _, [], _, h => by
    cases ‹List Int› <;> exact absurd h (by simp [LL])
  | _, [], _ :: _, h, _ => by
    cases ‹List Int› <;> exact absurd h (by simp [LL])
  | [], _ :: _, _ :: _, _, _ => True.intro
  | a :: r, b :: q, c :: s, h1, h2 => by
    rcases h1 with h1 | ⟨rfl, h1⟩
    · rcases h2 with h2 | ⟨rfl, h2⟩
      · exact .inl (by omega)
      · exact .inl h1
    · rcases h2 with h2 | ⟨rfl, h2⟩
      · exact .inl h2
      · exact .inr ⟨rfl, h1.trans h2⟩
theorem LL.tri : ∀ {r q : List Int}, r.length = q.length → r = q ∨ LL r q ∨ LL q r
  | [], [], _ => .inl rfl
  | a :: r, b :: q, h => by
    by_cases e1 : a < b
    · exact .inr (.inl (.inl e1))
    · by_cases e2 : b < a
      · exact .inr (.inr (.inl e2))
      · obtain rfl : a = b := by omega
        rcases LL.tri (r := r) (q := q) (by simpa using h) with e | e | e
        · exact .inl (by rw [e])
        · exact .inr (.inl (.inr ⟨rfl, e⟩))
        · exact .inr (.inr (.inr ⟨rfl, e⟩))
  | [], _ :: _, h => by cases h
  | _ :: _, [], h => by cases h
theorem LL.app : ∀ {r q : List Int} (s t : List Int), r.length = q.length → LL r q → LL (r ++ s) (q ++ t)
  | [], [], _, _, _, h => h.elim
  | a :: r, b :: q, s, t, hl, h => by
    rcases h with h | ⟨e, h⟩
    · exact .inl h
    · exact .inr ⟨e, LL.app s t (by simpa using hl) h⟩
  | [], _ :: _, _, _, h, _ => by cases h
  | _ :: _, [], _, _, h, _ => by cases h
theorem LL.app' : ∀ (r : List Int) {s t : List Int}, LL s t → LL (r ++ s) (r ++ t)
  | [], _, _, h => h
  | _ :: r, _, _, h => .inr ⟨rfl, LL.app' r h⟩
def rlt (r q : List Int) : Prop := r.length < q.length ∨ (r.length = q.length ∧ LL r q)
theorem rlt.irrefl (r : List Int) : ¬ rlt r r := fun h => by
  rcases h with h | ⟨_, h⟩
  · omega
  · exact LL.irrefl r h
theorem rlt.trans {r q s : List Int} (a : rlt r q) (b : rlt q s) : rlt r s := by
  rcases a with a | ⟨a1, a2⟩ <;> rcases b with b | ⟨b1, b2⟩
  · exact .inl (by omega)
  · exact .inl (by omega)
  · exact .inl (by omega)
  · exact .inr ⟨by omega, a2.trans b2⟩
theorem rlt.tri (r q : List Int) : r = q ∨ rlt r q ∨ rlt q r := by
  by_cases e1 : r.length < q.length
  · exact .inr (.inl (.inl e1))
  · by_cases e2 : q.length < r.length
    · exact .inr (.inr (.inl e2))
    · have e : r.length = q.length := by omega
      rcases LL.tri e with h | h | h
      · exact .inl h
      · exact .inr (.inl (.inr ⟨e, h⟩))
      · exact .inr (.inr (.inr ⟨e.symm, h⟩))
theorem rlt.app {r q : List Int} (d e : Int) (h : rlt r q) : rlt (r ++ [d]) (q ++ [e]) := by
  rcases h with h | ⟨h1, h2⟩
  · exact .inl (by simp only [List.length_append, List.length_cons, List.length_nil]; omega)
  · exact .inr ⟨by simp only [List.length_append, List.length_cons, List.length_nil]; omega, LL.app _ _ h1 h2⟩
theorem rlt.last (r : List Int) {d e : Int} (h : d < e) : rlt (r ++ [d]) (r ++ [e]) := .inr ⟨by simp, LL.app' r (.inl h)⟩
theorem rlt.nil {r : List Int} (h : r ≠ []) : rlt [] r := .inl (by cases r with | nil => exact absurd rfl h | cons a r => simp)
def rle (r q : List Int) : Prop := r = q ∨ rlt r q
theorem rle.trans {r q s : List Int} (a : rle r q) (b : rle q s) : rle r s := by
  rcases a with rfl | a
  · exact b
  · rcases b with rfl | b
    · exact .inr a
    · exact .inr (a.trans b)
theorem rle.anti {r q : List Int} (a : rle r q) (b : rle q r) : r = q := by
  rcases a with rfl | a
  · rfl
  · rcases b with rfl | b
    · rfl
    · exact absurd (a.trans b) (rlt.irrefl _)
theorem rle.app {r q : List Int} (d : Int) (h : rle r q) : rle (r ++ [d]) (q ++ [d]) := by
  rcases h with rfl | h
  · exact .inl rfl
  · exact .inr (h.app d d)
/-! ### the search by rows, told without a heap -/
abbrev KR := List Int × List Int
def path (act : List Int → Int → List Int) (s : List Int) (r : List Int) : List Int := r.foldl act s
theorem path_snoc (act : List Int → Int → List Int) (s r : List Int) (d : Int) : path act s (r ++ [d]) = act (path act s r) d := by
  unfold path
  rw [List.foldl_append]; rfl
/-- all deeds of the first i things, and the first d deeds of the next one, are done -/
structure Bf (act : List Int → Int → List Int) (n : Nat) (s : List Int) (F : List KR) (i d : Nat) : Prop where
  nd : (F.map (·.1)).Nodup
  h0 : F[0]? = some (s, [])
  pth : ∀ (j : Nat) k r, F[j]? = some (k, r) → k = path act s r ∧ (∀ e ∈ r, 0 ≤ e ∧ e < (n : Int)) ∧ r.length ≤ j
  asc : ∀ (j j' : Nat) k k' r r', j < j' → F[j]? = some (k, r) → F[j']? = some (k', r') → rlt r r'
  old : ∀ (j : Nat) k r, F[j]? = some (k, r) → r = [] ∨ ∃ (p : Nat) (kp rp : List Int) (e : Int), F[p]? = some (kp, rp) ∧ r = rp ++ [e] ∧ 0 ≤ e ∧ (p < i ∨ (p = i ∧ e < (d : Int)))
  cl : ∀ (p : Nat) kp rp (e : Int), F[p]? = some (kp, rp) → 0 ≤ e → e < (n : Int) → (p < i ∨ (p = i ∧ e < (d : Int))) → ∃ (j : Nat) (r : List Int), F[j]? = some (act kp e, r) ∧ rle r (rp ++ [e])
variable {act : List Int → Int → List Int} {n : Nat} {s : List Int} {F : List KR} {i d : Nat}
theorem Bf.init : Bf act n s [(s, [])] 0 0 := by
  have one : ∀ (j : Nat) k r, ([(s, [])] : List KR)[j]? = some (k, r) → j = 0 ∧ k = s ∧ r = [] := fun j k r h => by
    cases j with
    | zero =>
      have e : (s, []) = (k, r) := Option.some.inj h
      injection e with e1 e2
      exact ⟨rfl, e1.symm, e2.symm⟩
    | succ j => cases h
  refine ⟨by simp, rfl, fun j k r h => ?_, fun j j' k k' r r' hj h h' => ?_, fun j k r h => .inl (one j k r h).2.2, fun p kp rp e h _ _ z => ?_⟩
  · obtain ⟨rfl, rfl, rfl⟩ := one j k r h
    exact ⟨rfl, fun e he => absurd he (by simp), Nat.zero_le _⟩
  · have := (one j' k' r' h').1
    omega
  · obtain ⟨rfl, rfl, rfl⟩ := one p kp rp h
    omega
/-- a row of the search against the row that is looked at -/
theorem Bf.ahead (b : Bf act n s F i d) {ki ri : List Int} (hi : F[i]? = some (ki, ri)) {j : Nat} {k r : List Int} (h : F[j]? = some (k, r)) : rlt r (ri ++ [(d : Int)]) := by
  rcases b.old j k r h with rfl | ⟨p, kp, rp, e, hp, rfl, _, z⟩
  · exact rlt.nil (by simp)
  · rcases z with z | ⟨rfl, z⟩
    · exact (b.asc p i kp ki rp ri z hp hi).app _ _
    · rw [hp] at hi
      have e2 : (kp, rp) = (ki, ri) := Option.some.inj hi
      injection e2 with _ e2
      subst e2
      exact rlt.last _ z
theorem Bf.more (b : Bf act n s F i d) {j : Nat} {k r : List Int} {ki ri : List Int} (hi : F[i]? = some (ki, ri)) (h : F[j]? = some (k, r)) (hk : k = act ki d) : Bf act n s F i (d + 1) := by
  refine ⟨b.nd, b.h0, b.pth, b.asc, fun j k r h => ?_, fun p kp rp e hp h0 hn z => ?_⟩
  · rcases b.old j k r h with e | ⟨p, kp, rp, e, hp, e1, e2, z⟩
    · exact .inl e
    · exact .inr ⟨p, kp, rp, e, hp, e1, e2, by omega⟩
  · by_cases q : p < i ∨ (p = i ∧ e < (d : Int))
    · exact b.cl p kp rp e hp h0 hn q
    · obtain ⟨rfl, rfl⟩ : p = i ∧ e = (d : Int) := by omega
      rw [hi] at hp
      have e2 : (ki, ri) = (kp, rp) := Option.some.inj hp
      injection e2 with e1 e2
      subst e1
      subst e2
      subst hk
      exact ⟨j, r, h, .inr (b.ahead hi h)⟩
theorem Bf.put (b : Bf act n s F i d) {ki ri : List Int} (hi : F[i]? = some (ki, ri)) (hn : act ki d ∉ F.map (·.1)) (hd : d < n) : Bf act n s (F ++ [(act ki d, ri ++ [(d : Int)])]) i (d + 1) := by
  have hil : i < F.length := (List.getElem?_eq_some_iff.mp hi).1
  have at_ : ∀ (j : Nat) k r, (F ++ [(act ki d, ri ++ [(d : Int)])])[j]? = some (k, r) → F[j]? = some (k, r) ∨ (j = F.length ∧ k = act ki d ∧ r = ri ++ [(d : Int)]) := fun j k r h => by
    by_cases hj : j < F.length
    · rw [List.getElem?_append_left hj] at h
      exact .inl h
    · rw [List.getElem?_append_right (by omega)] at h
      cases e : j - F.length with
      | zero =>
        rw [e] at h
        have e2 : (act ki d, ri ++ [(d : Int)]) = (k, r) := Option.some.inj h
        injection e2 with e1 e2
        exact .inr ⟨by omega, e1.symm, e2.symm⟩
      | succ q => rw [e] at h; cases h
  have up : ∀ (j : Nat) x, F[j]? = some x → (F ++ [(act ki d, ri ++ [(d : Int)])])[j]? = some x := fun j x h => by
    rw [List.getElem?_append_left (List.getElem?_eq_some_iff.mp h).1]; exact h
  have new : (F ++ [(act ki d, ri ++ [(d : Int)])])[F.length]? = some (act ki d, ri ++ [(d : Int)]) := by
    rw [List.getElem?_append_right (Nat.le_refl _), Nat.sub_self]; rfl
  refine ⟨?_, up _ _ b.h0, fun j k r h => ?_, fun j j' k k' r r' hj h h' => ?_, fun j k r h => ?_, fun p kp rp e hp h0 hne z => ?_⟩
  · rw [List.map_append, List.nodup_append]
    exact ⟨b.nd, by simp, fun y hy z hz e => by
      rw [List.map_cons, List.map_nil, List.mem_singleton] at hz
      rw [e, hz] at hy
      exact hn hy⟩
  · rcases at_ j k r h with h | ⟨rfl, rfl, rfl⟩
    · exact b.pth j k r h
    · obtain ⟨p1, p2, p3⟩ := b.pth i ki ri hi
      refine ⟨by rw [path_snoc, ← p1], fun e he => ?_, by simp only [List.length_append, List.length_cons, List.length_nil]; omega⟩
      rcases List.mem_append.mp he with he | he
      · exact p2 e he
      · rw [List.mem_singleton.mp he]; omega
  · rcases at_ j' k' r' h' with h' | ⟨rfl, rfl, rfl⟩
    · have hj' := (List.getElem?_eq_some_iff.mp h').1
      rcases at_ j k r h with h | ⟨rfl, _, _⟩
      · exact b.asc j j' k k' r r' hj h h'
      · omega
    · rcases at_ j k r h with h | ⟨rfl, _, _⟩
      · exact b.ahead hi h
      · omega
  · rcases at_ j k r h with h | ⟨rfl, rfl, rfl⟩
    · rcases b.old j k r h with e | ⟨p, kp, rp, e, hp, e1, e2, z⟩
      · exact .inl e
      · exact .inr ⟨p, kp, rp, e, up _ _ hp, e1, e2, by omega⟩
    · exact .inr ⟨i, ki, ri, d, up _ _ hi, rfl, by omega, by omega⟩
  · rcases at_ p kp rp hp with hp | ⟨rfl, _, _⟩
    · by_cases q : p < i ∨ (p = i ∧ e < (d : Int))
      · obtain ⟨j, r, h1, h2⟩ := b.cl p kp rp e hp h0 hne q
        exact ⟨j, r, up _ _ h1, h2⟩
      · obtain ⟨rfl, rfl⟩ : p = i ∧ e = (d : Int) := by omega
        rw [hi] at hp
        have e2 : (ki, ri) = (kp, rp) := Option.some.inj hp
        injection e2 with e1 e2
        subst e1
        subst e2
        exact ⟨F.length, _, new, .inl rfl⟩
    · omega
theorem Bf.next (b : Bf act n s F i n) : Bf act n s F (i + 1) 0 := by
  refine ⟨b.nd, b.h0, b.pth, b.asc, fun j k r h => ?_, fun p kp rp e hp h0 hn z => b.cl p kp rp e hp h0 hn (by omega)⟩
  rcases b.old j k r h with e | ⟨p, kp, rp, e, hp, e1, e2, z⟩
  · exact .inl e
  · exact .inr ⟨p, kp, rp, e, hp, e1, e2, by omega⟩
/-- all rows' first ones, ascending -/
structure Fst (act : List Int → Int → List Int) (n : Nat) (s : List Int) (F : List KR) : Prop where
  nd : (F.map (·.1)).Nodup
  h0 : F[0]? = some (s, [])
  pth : ∀ (j : Nat) k r, F[j]? = some (k, r) → k = path act s r ∧ (∀ e ∈ r, 0 ≤ e ∧ e < (n : Int)) ∧ r.length ≤ j
  asc : ∀ (j j' : Nat) k k' r r', j < j' → F[j]? = some (k, r) → F[j']? = some (k', r') → rlt r r'
  all : ∀ r : List Int, (∀ e ∈ r, 0 ≤ e ∧ e < (n : Int)) → ∃ (j : Nat) (r' : List Int), F[j]? = some (path act s r, r') ∧ rle r' r
theorem Bf.done (b : Bf act n s F i 0) (hi : F.length ≤ i) : Fst act n s F := by
  refine ⟨b.nd, b.h0, b.pth, b.asc, fun r => ?_⟩
  generalize hm : r.length = m
  induction m generalizing r with
  | zero =>
    intro _
    obtain rfl : r = [] := List.eq_nil_of_length_eq_zero hm
    exact ⟨0, [], b.h0, .inl rfl⟩
  | succ m ih =>
    intro hr
    rcases List.eq_nil_or_concat r with rfl | ⟨q, e, rfl⟩
    · cases hm
    · have hq : q.length = m := by
        simp only [List.concat_eq_append, List.length_append, List.length_cons, List.length_nil] at hm
        omega
      rw [List.concat_eq_append] at hr ⊢
      obtain ⟨j, r', h1, h2⟩ := ih q hq fun x hx => hr x (List.mem_append_left _ hx)
      have he := hr e (List.mem_append_right _ (List.mem_singleton.mpr rfl))
      have hj := (List.getElem?_eq_some_iff.mp h1).1
      obtain ⟨j2, r2, h3, h4⟩ := b.cl j _ _ e h1 he.1 he.2 (.inl (by omega))
      exact ⟨j2, r2, by rw [path_snoc]; exact h3, h4.trans (h2.app e)⟩
end K1
namespace K1
open PySem PySem.Spec PyProof.Rows L2
/-! ### {k: v}, k a tuple -/
def tDispT (tk tv : TE) : TE := fun σ H Q => ∀ p, H p = none → tk σ (upd H p (.dT [])) fun x H1 => tv σ H1 fun y H2 => ∃ b k, x = .ref b ∧ H2 b = some (.tup (k.map kV)) ∧ H2 p = some (.dT []) ∧ Q (.ref p) (upd H2 p (.dT [(k, y)]))
theorem pe_dispT {X : Cx} {pos : Pos} {ke ve : Expr} {tk tv : TE} (hu : X.A.units < cLine) (hk : PE X ke tk) (hv : PE X ve tv) : PE X (.Dict [some ke] [ve] pos) (tDispT tk tv) := by
  refine ⟨fun pins s σ H Q I q => ?_⟩
  have hn := I.hok.fresh (Nat.le_refl s.heap.objs.size)
  have I1 := I.laid (a := s.heap.objs.size) (o := .dT []) (h' := s.heap.push { cls := .type "dict", data := .dict #[] }) (t' := s.toks) (fun _ _ q => Heap.get?_push_of_some _ q) (Nat.le_refl _) (dt_empty s.heap I.big)
  have P := pps_cons (pos := pos) hk hv pps_nil
  rw [arm_eval_Dict, zip_pairTrees [some ke] [ve] X.env pos rfl rfl, dictDisplay_pairs _ (by intro e; cases e) (by show 1 < 17; decide)]
  refine wpAny_bind (wpAny_standAt (wpAny_bind (wpAny_subDictH (knd := tupleKind (mixKind X.prog X.w)) (Q := fun d s' => wpAny (model X.prog X.w) X.A (pure (Value.ref d)) (EP X pins σ Q) X.xe s') hu (by show 1 ≤ 15; decide) ?_)))
  let Φ : V → V → Hp → Prop := fun x y H2 => ∃ b k, x = .ref b ∧ H2 b = some (.tup (k.map kV)) ∧ H2 s.heap.objs.size = some (.dT []) ∧ Q (.ref s.heap.objs.size) (upd H2 s.heap.objs.size (.dT [(k, y)]))
  refine thn (P.run pins _ σ _ (fun ps H2 => match ps with | [(x, y)] => Φ x y H2 | _ => False) I1 (q _ hn)) fun ws s2 hh => ?_
  obtain ⟨ps, H2, I2, rel, hh⟩ := hh
  match ps, hh with
  | [(x, y)], ⟨b, k, ex, hb, hp, q2⟩ =>
    cases rel with
    | cons r1 r2 =>
      cases r2
      rename_i u
      obtain ⟨u1, u2⟩ := u
      obtain ⟨rx, ry⟩ := r1
      subst ex
      obtain rfl : u1 = Value.ref b := rx
      obtain ⟨z, hd, xs, kt, dd⟩ := dt_of I2.hok hp
      cases kt
      refine ⟨[(k, b, u2)], ⟨rfl, rfl, key_of I2.hok hb, trivial⟩, dd, fun h' tk' dd' hs => wpAny_pure ?_⟩
      have dd2 : h'.DictOfH (tupleKind (mixKind X.prog X.w)) s.heap.objs.size [(k, b, u2)] := dd'
      have he : ∃ q, h'.get? s.heap.objs.size = some q := let ⟨q, _, _, hq, _⟩ := dd2; ⟨q, hq⟩
      obtain ⟨ob, es, ep, hq, h2, h3, h4, _, h5⟩ := dd2
      have nb : b ≠ s.heap.objs.size := ne_of hb hp (fun z => nomatch z)
      have kt2 : KT (upd H2 s.heap.objs.size (.dT [(k, y)])) [(k, y)] [(k, b, u2)] := .cons ⟨rfl, by rw [upd_ne nb]; exact hb, ry⟩ .nil
      refine ⟨.ref s.heap.objs.size, _, d_write (ob := .dT [(k, y)]) I2 (by rw [hp]; exact True.intro) hs he ⟨by show 1 ≤ sizeLine; decide, hd, _, kt2, ob, es, ep, hq, h2, h3, h4, h5⟩, rfl, q2⟩
/-! ### the keys of a dict that nobody else sees: locked for good -/
def iKeysF (td : TE) : TI := fun σ H R => td σ H fun x H1 => ∃ d kvs, x = .ref d ∧ H1 d = some (.dT kvs) ∧ ∀ o, R (Itkt d o kvs) (upd H1 d (.frz o (.dT kvs)))
theorem pi_keysF {X : Cx} {tg e : Expr} {td : TE} (he : PE X e td) : PI X tg e (iKeysF td) := by
  refine ⟨fun pins s σ H R I h => ?_⟩
  refine thn (he.run pins s σ H _ I h) fun u s1 ⟨x, H1, I1, rx, d, kvs, ex, hd0, q⟩ => ?_
  subst ex
  obtain rfl : u = Value.ref d := rx
  obtain ⟨o, I2⟩ := I1.lock hd0 trivial
  obtain ⟨hs, hgd, hx, es, ep, hdt, hsz, ent⟩ := I2.frzT upd_same
  refine iter_keys hs hgd hx hdt (pi_one (tk := s1.toks) I2 _ (turn_keysT _ hdt) ⟨_, Heap.get?_push_size _ rfl, rfl, ?_⟩ (q o))
  rw [hsz] <;> rfl
theorem lc_keysF {d : Addr} {o : Obj} {kvs : List (List Key × V)} {g : TG} {tt : TT} {te : TE} {vs : List Nat} {σ : L2.St} {H1 : Hp} {D : Addr} {Qd : Hp → Prop} (Pv : Nat → Hp → Prop) (h0 : Pv 0 (upd H1 D (.lst []))) (hl : ∀ i H, i ≤ kvs.length → Pv i H → H d = some (.frz o (.dT kvs)))
    (hs : ∀ (i : Nat) k v q H, kvs[i]? = some (k, v) → H q = some (.tup (k.map kV)) → Pv i H → g (.ref q) (wipe σ vs) H fun σ2 H2 => wipe σ2 vs = wipe σ vs ∧ tt σ2 H2 fun b H3 =>
      if b = true then te σ2 H3 fun y H4 => ∃ acc, H4 D = some (.lst acc) ∧ acc.length < sizeLine ∧ Pv (i + 1) (upd H4 D (.lst (acc ++ [y]))) else Pv (i + 1) H3) (hd : ∀ H, Pv kvs.length H → Qd H) :
    ∃ W : Nat → Nat → Hp → Prop, (∃ m, W 0 m (upd H1 D (.lst []))) ∧ ∀ i m H, W i m H →
      ((Itkt d o kvs).stop i H ∧ Qd H) ∨ ((Itkt d o kvs).go i H ∧ ∃ Nx : Hp → Prop, (∀ H', Nx H' → ∃ m', m' < m ∧ W (i + 1) m' H') ∧ ∀ x H', (Itkt d o kvs).yld i H x H' → g x (wipe σ vs) H' fun σ2 H2 => wipe σ2 vs = wipe σ vs ∧ tt σ2 H2 fun b H3 =>
        if b = true then te σ2 H3 fun y H4 => ∃ acc, H4 D = some (.lst acc) ∧ acc.length < sizeLine ∧ Nx (upd H4 D (.lst (acc ++ [y]))) else Nx H3) := by
  refine ⟨fun i m H => m = kvs.length - i ∧ i ≤ kvs.length ∧ Pv i H, ⟨kvs.length, by simp, Nat.zero_le _, h0⟩, ?_⟩
  rintro i m H ⟨rfl, hi, p⟩
  have q := hl i H hi p
  by_cases hlt : i < kvs.length
  · refine .inr ⟨⟨q, hlt⟩, Pv (i + 1), fun H' p' => ⟨kvs.length - (i + 1), by omega, rfl, hlt, p'⟩, fun x H' y => ?_⟩
    obtain ⟨e, k, v, b, e1, e2, e3⟩ := y
    subst e e2
    exact hs i k v b _ e1 e3 p
  · have e : i = kvs.length := by omega
    subst e
    exact .inl ⟨⟨q, Nat.le_refl _⟩, hd H p⟩
end K1
namespace K1
open PySem PySem.Spec PyProof.Rows L2
/-- at most as many as there are numbers -/
theorem nodup_le : ∀ (n : Nat) (L : List Int), L.Nodup → (∀ x ∈ L, 0 ≤ x ∧ x < (n : Int)) → L.length ≤ n
  | 0, L, _, h => by
    cases L with
    | nil => exact Nat.le_refl _
    | cons a r => have := h a List.mem_cons_self; omega
  | n + 1, L, nd, h => by
    have ih := nodup_le n (L.erase (n : Int)) (nd.erase _) fun x hx => by
      have h1 := h x (List.mem_of_mem_erase hx)
      have h2 : x ≠ (n : Int) := fun e => by
        rw [e] at hx
        exact (List.Nodup.mem_erase_iff nd).mp hx |>.1 rfl
      omega
    have h3 : L.length ≤ (L.erase (n : Int)).length + 1 := by
      by_cases hm : (n : Int) ∈ L
      · rw [List.length_erase_of_mem hm]; omega
      · rw [List.erase_of_not_mem hm]; omega
    omega
theorem val_some {kvs : List (List Key × V)} {k : List Key} {v : V} (h : valV kvs k = some v) : ∃ i : Nat, kvs[i]? = some (k, v) := by
  unfold valV at h
  cases e : kvs.find? (fun kv => decide (kv.1 = k)) with
  | none => rw [e] at h; cases h
  | some p =>
    rw [e] at h
    have h1 := List.find?_some e
    have h2 := List.mem_of_find?_eq_some e
    obtain ⟨i, hi, ep⟩ := List.mem_iff_getElem.mp h2
    refine ⟨i, ?_⟩
    rw [List.getElem?_eq_getElem hi, ep]
    obtain ⟨p1, p2⟩ := p
    have e1 : p1 = k := of_decide_eq_true h1
    have e2 : p2 = v := Option.some.inj h
    rw [e1, e2]
theorem ixTK {X : Cx} {K : PySem.W.Frag} (h : X.K = K) : IxR X (rIxT K) := by
  subst h
  exact ix_tup

/-- keys of some states; where a deed leads them -/
def kK (xs : List Int) : List Key := xs.map Sum.inl
theorem kK_v (xs : List Int) : (kK xs).map kV = vrow xs := by
  unfold kK vrow
  rw [List.map_map]; rfl
theorem kK_inj : ∀ {a b : List Int}, kK a = kK b → a = b
  | [], [], _ => rfl
  | [], _ :: _, h => by cases h
  | _ :: _, [], h => by cases h
  | x :: a, y :: b, h => by
    have h : (Sum.inl x :: kK a : List Key) = Sum.inl y :: kK b := h
    injection h with h1 h2
    injection h1 with h1
    rw [h1, kK_inj h2]
def actL (ts : Ts) (x : List Int) (d : Int) : List Int := x.map fun s => stp ts s d
theorem path_run (ts : Ts) : ∀ (r x : List Int), path (actL ts) x r = x.map fun s => run ts s r
  | [], x => by
    show x = x.map fun s => s
    rw [List.map_id']
  | d :: r, x => by
    show path (actL ts) (actL ts x d) r = _
    rw [path_run ts r, actL, List.map_map]; rfl
/-- how the search stands: its dict, its queue -/
structure DQ (H : Hp) (d q : Addr) (F : List KR) (kvs : List (List Key × V)) (as : List Addr) : Prop where
  hd : H d = some (.dT kvs)
  ky : kvs.map (·.1) = F.map fun e => kK e.1
  vl : ∀ (i : Nat) k v x r, kvs[i]? = some (k, v) → F[i]? = some (x, r) → ∃ a, v = .ref a ∧ H a = some (.tup (vrow r))
  hq : H q = some (.lst (as.map V.ref))
  ln : as.length = F.length
  it : ∀ (i : Nat) a x r, as[i]? = some a → F[i]? = some (x, r) → H a = some (.tup (vrow x))
theorem DQ.same {H H' : Hp} {d q : Addr} {F : List KR} {kvs : List (List Key × V)} {as : List Addr} (b : DQ H d q F kvs as) (s : Same H H') : DQ H' d q F kvs as :=
  ⟨s _ _ b.hd, b.ky, fun i k v x r e1 e2 => let ⟨a, h1, h2⟩ := b.vl i k v x r e1 e2; ⟨a, h1, s _ _ h2⟩, s _ _ b.hq, b.ln, fun i a x r e1 e2 => s _ _ (b.it i a x r e1 e2)⟩
theorem DQ.klen {H : Hp} {d q : Addr} {F : List KR} {kvs : List (List Key × V)} {as : List Addr} (b : DQ H d q F kvs as) : kvs.length = F.length := by
  have := congrArg List.length b.ky
  simpa using this
theorem DQ.none {H : Hp} {d q : Addr} {F : List KR} {kvs : List (List Key × V)} {as : List Addr} (b : DQ H d q F kvs as) {x : List Int} : valV kvs (kK x) = none ↔ x ∉ F.map (·.1) := by
  have e := valV_any (kK x) kvs
  have h : (kvs.any fun kv => decide (kv.1 = kK x)) = true ↔ x ∈ F.map (·.1) := by
    have z : (kvs.any fun kv => decide (kv.1 = kK x)) = ((kvs.map (·.1)).any fun k => decide (k = kK x)) := by rw [List.any_map]; rfl
    rw [z, b.ky, List.any_map, List.any_eq_true]
    constructor
    · rintro ⟨y, hy, e⟩
      have e' : kK y.1 = kK x := of_decide_eq_true e
      exact List.mem_map.mpr ⟨y, hy, kK_inj e'⟩
    · intro hx
      obtain ⟨y, hy, e⟩ := List.mem_map.mp hx
      exact ⟨y, hy, decide_eq_true (congrArg kK e)⟩
  constructor
  · intro hn hx
    rw [hn] at e
    rw [h.mpr hx] at e
    cases e
  · intro hx
    cases q : valV kvs (kK x) with
    | none => rfl
    | some v =>
      rw [q] at e
      exact absurd (h.mp e) hx
theorem DQ.look {H : Hp} {d q : Addr} {F : List KR} {kvs : List (List Key × V)} {as : List Addr} (b : DQ H d q F kvs as) (nd : (F.map (·.1)).Nodup) {x r : List Int} {i : Nat} (hi : F[i]? = some (x, r)) : ∃ a, valV kvs (kK x) = some (.ref a) ∧ H a = some (.tup (vrow r)) := by
  cases e : valV kvs (kK x) with
  | none => exact absurd (List.mem_map.mpr ⟨_, List.mem_of_getElem? hi, rfl⟩) (b.none.mp e)
  | some v =>
    obtain ⟨j, hj⟩ := val_some e
    have hk : (kvs.map (·.1))[j]? = some (kK x) := by rw [List.getElem?_map, hj]; rfl
    rw [b.ky, List.getElem?_map] at hk
    cases e2 : F[j]? with
    | none => rw [e2] at hk; cases hk
    | some y =>
      rw [e2] at hk
      have e3 : y.1 = x := kK_inj (Option.some.inj hk)
      have hij : j = i := by
        have f1 : (F.map (·.1))[j]? = some x := by rw [List.getElem?_map, e2]; exact congrArg some e3
        have f2 : (F.map (·.1))[i]? = some x := by rw [List.getElem?_map, hi]; rfl
        obtain ⟨g1, e5⟩ := List.getElem?_eq_some_iff.mp f1
        obtain ⟨g2, e6⟩ := List.getElem?_eq_some_iff.mp f2
        exact (List.getElem_inj nd).mp (e5.trans e6.symm)
      subst hij
      obtain ⟨a, e4, h4⟩ := b.vl j _ _ _ _ hj hi
      exact ⟨a, by rw [e4], h4⟩
theorem DQ.put {H : Hp} {d q : Addr} {F : List KR} {kvs : List (List Key × V)} {as : List Addr} (b : DQ H d q F kvs as) {x r : List Int} {e a : Addr} (hx : x ∉ F.map (·.1)) (he : H e = some (.tup (vrow x))) (ha : H a = some (.tup (vrow r))) :
    DQ (upd (upd H d (.dT (putK kvs (kK x) (.ref a)))) q (.lst (as.map V.ref ++ [.ref e]))) d q (F ++ [(x, r)]) (kvs ++ [(kK x, .ref a)]) (as ++ [e]) := by
  have ndq : d ≠ q := ne_of b.hd b.hq (by intro z; cases z)
  have keep : ∀ c ys, H c = some (.tup ys) → (upd (upd H d (.dT (putK kvs (kK x) (.ref a)))) q (.lst (as.map V.ref ++ [.ref e]))) c = some (.tup ys) := fun c ys h => by
    rw [upd_ne (ne_of h b.hq (by intro z; cases z)), upd_ne (ne_of h b.hd (by intro z; cases z))]; exact h
  have lk := b.klen
  have ll := b.ln
  refine ⟨?_, ?_, fun i k v y s h h' => ?_, ?_, ?_, fun i c y s h h' => ?_⟩
  · rw [upd_ne ndq, upd_same, putK_new _ (b.none.mpr hx)]
  · rw [List.map_append, b.ky, List.map_append]; rfl
  · by_cases hi : i < F.length
    · rw [List.getElem?_append_left (by omega)] at h
      rw [List.getElem?_append_left hi] at h'
      obtain ⟨c, e1, e2⟩ := b.vl i k v y s h h'
      exact ⟨c, e1, keep _ _ e2⟩
    · have hi2 : i = F.length := by
        have := (List.getElem?_eq_some_iff.mp h').1
        simp only [List.length_append, List.length_cons, List.length_nil] at this
        omega
      subst hi2
      rw [← lk, List.getElem?_append_right (Nat.le_refl _), Nat.sub_self] at h
      rw [List.getElem?_append_right (Nat.le_refl _), Nat.sub_self] at h'
      have e1 : (kK x, V.ref a) = (k, v) := Option.some.inj h
      have e2 : (x, r) = (y, s) := Option.some.inj h'
      injection e1 with _ e1
      injection e2 with _ e2
      subst e2
      exact ⟨a, e1.symm, keep _ _ ha⟩
  · rw [upd_same, List.map_append]; rfl
  · rw [List.length_append, List.length_append, b.ln]; rfl
  · by_cases hi : i < F.length
    · rw [List.getElem?_append_left (by omega)] at h
      rw [List.getElem?_append_left hi] at h'
      exact keep _ _ (b.it i c y s h h')
    · have hi2 : i = F.length := by
        have := (List.getElem?_eq_some_iff.mp h').1
        simp only [List.length_append, List.length_cons, List.length_nil] at this
        omega
      subst hi2
      rw [← ll, List.getElem?_append_right (Nat.le_refl _), Nat.sub_self] at h
      rw [List.getElem?_append_right (Nat.le_refl _), Nat.sub_self] at h'
      have e2 : (x, r) = (y, s) := Option.some.inj h'
      injection e2 with e2 _
      subst e2
      rw [← Option.some.inj h]
      exact keep _ _ he
/-- what the search tells: a dict of keys with their first rows -/
def DAt (H : Hp) (d : Addr) (F : List KR) : Prop := ∃ kvs : List (List Key × V), H d = some (.dT kvs) ∧ kvs.map (·.1) = (F.map fun e => kK e.1) ∧ ∀ (i : Nat) k v x r, kvs[i]? = some (k, v) → F[i]? = some (x, r) → ∃ a, v = .ref a ∧ H a = some (.tup (vrow r))
theorem actL_rng {ts : Ts} (w : Wf ts) {x : List Int} {d : Int} (hd : 0 ≤ d ∧ d < (ts.length : Int)) (hx : ∀ s ∈ x, 0 ≤ s ∧ s < (nS ts : Int)) : ∀ s ∈ actL ts x d, 0 ≤ s ∧ s < (nS ts : Int) := fun s hs => by
  obtain ⟨y, hy, rfl⟩ := List.mem_map.mp hs
  exact (w.at_ hd (hx y hy)).choose_spec.2.2
theorem path_rng {ts : Ts} (w : Wf ts) {x r : List Int} (hr : ∀ e ∈ r, 0 ≤ e ∧ e < (ts.length : Int)) (hx : ∀ s ∈ x, 0 ≤ s ∧ s < (nS ts : Int)) : ∀ s ∈ path (actL ts) x r, 0 ≤ s ∧ s < (nS ts : Int) := fun s hs => by
  rw [path_run] at hs
  obtain ⟨y, hy, rfl⟩ := List.mem_map.mp hs
  exact w.run r y hr (hx y hy)
/-- there are at most a thousand keys, however far the search has come -/
def FewK (ts : Ts) (ss : List Int) : Prop := ∀ (F : List KR), (F.map (·.1)).Nodup → (∀ e ∈ F, ∃ r : List Int, (∀ x ∈ r, 0 ≤ x ∧ x < (ts.length : Int)) ∧ e.1 = path (actL ts) ss r) → F.length ≤ 1000
theorem Bf.few {ts : Ts} {ss : List Int} {F : List KR} {i d : Nat} (f : FewK ts ss) (b : Bf (actL ts) ts.length ss F i d) : F.length ≤ 1000 := f F b.nd fun e he => by
  obtain ⟨j, hj⟩ := List.getElem?_of_mem he
  obtain ⟨h1, h2, _⟩ := b.pth j e.1 e.2 hj
  exact ⟨e.2, h2, h1⟩
def spFirst (M : Addr) : Sp := fun vs H Q _ => ∃ m ta ts ss p, vs = [.ref m, .ref p, .non, .non] ∧ MachAt M H m ta (vts ts) ∧ Wf ts ∧ (∀ s ∈ ss, 0 ≤ s ∧ s < (nS ts : Int)) ∧ ss.length ≤ 12 ∧ H p = some (.tup (vrow ss)) ∧ FewK ts ss ∧
  ∀ d F H', Same H H' → H d = none → DAt H' d F → Fst (actL ts) ts.length ss F → F.length ≤ 1000 → Q (.ref d) H'
section
variable {P : Program} {w : World} {K : PySem.W.Frag} {mg : Str → Option Value} {base : Heap}
/-- a def with two defaults that are None -/
structure DfF (K : PySem.W.Frag) (mg : Str → Option Value) (f : Addr) (fd : FuncData) : Prop where
  F : FunD K "first_rows" "first_rows" (defArgs sFirst) (defBody sFirst) (defScope sFirst) [.non, .non] [] f fd
  g : mg "first_rows" = some (.ref f)
theorem DfF.b {f : Addr} {fd : FuncData} (D : DfF K mg f fd) : ∃ ds, Vals [.non, .non] ds ∧ Binds K fd ["machine", "states", "out", "most"] ds :=
  D.F.binds1 2 0 (by simp) rfl fun T kV doc pm an cdv ct us its h1 h2 => match us, its, h1, h2 with | [_, _], [_, _], _, _ => ⟨_, rfl, rfl⟩
abbrev nFR : List Str := ["machine", "states", "out", "most", "rows", "queue", "at", "here", "deed", "table", "ends", "state"]
theorem scFR : FnScope nFR ["machine", "states", "out", "most"] (defScope sFirst) := ⟨rfl, rfl, rfl, by decide +kernel, rfl, by decide +kernel, by decide +kernel⟩
theorem iteE {c : Bool} {A B : Prop} (e : c = true) (h : A) : if c = true then A else B := by subst e; exact iteT h
theorem iteN {c : Bool} {A B : Prop} (e : c = false) (h : B) : if c = true then A else B := by subst e; exact iteF h
/-- a test that the proof never comes to -/
theorem pt_never {X : Cx} {e : Expr} : PT X e fun _ _ _ => False := ⟨fun _ _ _ _ _ _ h => h.elim⟩
theorem ok_first {f M : Addr} {fd : FuncData} (D : DfF K mg f fd) (B : Bt mg) (T : McT K mg M) : FnOk P w K mg base CX0 1 f fd ["machine", "states", "out", "most"] (spFirst M) := by
  refine D.F.ok scFR (fun vs H Q E h => ?_) (fun cdv A outer s H vs Q E hr h => ?_)
  · obtain ⟨m, ta, ts, ss, p, rfl, _⟩ := h
    rfl
  · obtain ⟨m, ta, ts, ss, p, rfl, hM, hW, hs, hs12, hp, few, q⟩ := h
    have hu := hu_of hr
    suffices z : ∃ t, PSs (cxOf CX0 P w K mg base nFR "first_rows" (defScope sFirst) f cdv A outer s H E).nox (defBody sFirst) t ∧ t { nx := fun _ H' => Q .non H', rt := Q } (start nFR [.ref m, .ref p, .non, .non]) H from
      let ⟨t, h1, h2⟩ := z
      ⟨t, h1.nox, h2⟩
    refine ⟨_, pss_cons (ps_set (i := 4) scFR.nd rfl (.inl rfl) (pe_dispT (Nat.lt_of_succ_lt hu) (pv 1) (pe_tup pa_nil)))
      (pss_cons (ps_set (i := 5) scFR.nd rfl (.inl rfl) (pe_lst (pa_cons (pv 1) pa_nil)))
      (pss_cons (ps_set (i := 6) scFR.nd rfl (.inl rfl) pe_int)
      (pss_cons (ps_while PassesOwn.never (PW.pt (pw_and (pt_cmpR op_lt (pv 6) (pe_callB call_len_seq (by rfl) B.len PySem.boot_len (pa_cons (pv 5) pa_nil)) (nomark _))
          (pw_and1 (PW.pt (pw_or (pt_cmp (pc_isN (pv 2))) (pw_or1 pt_never))))))
        (pss_cons (ps_set (i := 7) scFR.nd rfl (.inl rfl) (pe_ix ix_list (pv 5) (pv 6) (fun _ _ => rfl)))
        (pss_cons (ps_for PassesOwn.never rfl (pi_enumA (by rfl) B.enumerate (pa_cons (pe_fld (pv 0) rfl) pa_nil)) (pg_tup rfl (pgs_cons (pg_name (i := 8) scFR.nd rfl (.inl rfl)) (pgs_cons (pg_name (i := 9) scFR.nd rfl (.inr rfl)) pgs_nil)))
          (pss_cons (ps_set (i := 10) scFR.nd rfl (.inl rfl) (pe_callTy call_tuple_of (by rfl) B.tuple PyProof.Rows.boot_tuple (pa_cons
              (pe_lc (own := [("state", 11)]) (g := gName 11) (tt := tYes) rfl scFR.nd (pi_tup (pv 7)) (blkOk_by (N := nFR) (sc := defScope sFirst) (by decide +kernel)) (fun _ _ _ _ _ => pg_name (i := 11) scFR.nd rfl (Or.inl rfl)) (fun _ _ _ _ _ => pts_nil)
                (fun _ _ _ _ _ => pe_ix (ixTK (K := K) rfl) (pv 9) (pv 11) (fun _ _ => rfl))) pa_nil)))
          (pss_one (ps_if (pt_cmp (pc_dnotin hu (pv 10) (pv 4))) (pss_cons (ps_dput hu (pv 4) (pv 10) (pe_op op_catA (pe_dget hu (pv 4) (pv 7) (fun _ _ => rfl)) (pe_tup (pa_cons (pv 8) pa_nil))) rfl)
            (pss_one (ps_expr (pe_bm PySem.F.plainAttrs_list PySem.F.slot_list_append PySem.F.type_list_append mt_append (pv 5) (pa_cons (pv 10) pa_nil))))) pss_nil))))
        (pss_cons (ps_if (PW.pt (pw_and (pt_cmp (pc_notN (pv 3))) (pw_and1 pt_never))) pss_never pss_nil)
        (pss_one (ps_aug (i := 6) scFR.nd rfl (.inl rfl) pe_int ip_add))))))
      (pss_one (ps_ret (pv 4)))))), ?_⟩
    intro d hd
    refine ⟨_, rfl, (by show 0 ≤ sizeLine; decide), fun e0 he0 => ?_⟩
    have ned : e0 ≠ d := fun z => by rw [z, upd_same] at he0; cases he0
    have se : Same H (upd (upd H d (.dT [])) e0 (.tup [])) := (same_new hd).trans (same_new he0)
    refine ⟨p, kK ss, rfl, by rw [kK_v]; exact se _ _ hp, by rw [upd_ne ned.symm, upd_same], ?_⟩
    generalize hH1 : upd (upd (upd H d (.dT [])) e0 (.tup [])) d (.dT [(kK ss, .ref e0)]) = H1
    have s1 : Same H H1 := fun b o e => by
      rw [← hH1, upd_ne (ne_of_none e hd)]
      exact se _ _ e
    have hd1' : H1 d = some (.dT [(kK ss, .ref e0)]) := by rw [← hH1, upd_same]
    have he1 : H1 e0 = some (.tup []) := by rw [← hH1, upd_ne ned, upd_same]
    refine ⟨_, rfl, (by show 1 ≤ sizeLine; decide), fun q0 hq0 => ?_⟩
    have s2 : Same H (upd H1 q0 (.lst [.ref p])) := s1.trans (same_new hq0)
    have b0 : DQ (upd H1 q0 (.lst [.ref p])) d q0 [(ss, [])] [(kK ss, .ref e0)] [p] := by
      have sm := same_new (o := HO.lst [.ref p]) hq0
      refine ⟨sm _ _ hd1', rfl, fun i k v x r h h' => ?_, upd_same, rfl, fun i a x r h1 h2 => ?_⟩
      · cases i with
        | zero =>
          have z : (kK ss, V.ref e0) = (k, v) := Option.some.inj h
          have z' : (ss, []) = (x, r) := Option.some.inj h'
          injection z with _ z
          injection z' with _ z'
          subst z'
          exact ⟨e0, z.symm, sm _ _ he1⟩
        | succ i => cases h
      · cases i with
        | zero =>
          obtain rfl : p = a := Option.some.inj h1
          have z' : (ss, []) = (x, r) := Option.some.inj h2
          injection z' with z' _
          subst z'
          exact s2 _ _ hp
        | succ i => cases h1
    have nd0 : H d = none := hd
    refine while_by (fun σ H' => ∃ (i : Nat) (F : List KR) (kvs : List (List Key × V)) (as : List Addr) (v5 v6 v7 v8 : Option V), σ = [some (.ref m), some (.ref p), some .non, some .non, some (.ref d), some (.ref q0), some (.int (i : Int)), v5, v6, v7, v8, none] ∧ Same H H' ∧ DQ H' d q0 F kvs as ∧ Bf (actL ts) ts.length ss F i 0 ∧ i ≤ F.length)
      (fun (σ : L2.St) _ => match σ[6]? with | some (some (V.int i)) => 1000 - i.toNat | _ => 0) ⟨0, _, _, _, none, none, none, none, rfl, s2, b0, Bf.init, Nat.zero_le _⟩ ?_
      (fun σ H Q Q' hQ ⟨v, h1, v3, h2, p, ys, h3, h4, i, j, h5, h6, k, h7, h8⟩ => by
        refine ⟨v, h1, v3, h2, p, ys, h3, h4, i, j, h5, h6, k, h7, ?_⟩
        cases k with
        | false => exact hQ _ _ h8
        | true =>
          obtain ⟨u, hu, c, hc, h9⟩ := h8
          refine ⟨u, hu, c, hc, ?_⟩
          cases c with
          | false => exact h9
          | true => exact hQ _ _ h9)
    rintro σ H' ⟨i, F, kvs, as, v5, v6, v7, v8, rfl, sm, b, bf, hi⟩
    refine ⟨_, rfl, _, rfl, q0, _, rfl, .inl (SqL.of b.hq), _, _, rfl, rfl, _, rfl, ifD (fun ec => ⟨_, rfl, _, rfl, iteE rfl (iteT ?_)⟩) fun ec => iteF ?_⟩
    · have hlt : i < F.length := by
        have z : (i : Int) < ((as.map V.ref).length : Int) := of_decide_eq_true ec
        rw [List.length_map, b.ln] at z
        omega
      obtain ⟨x, rx, hx⟩ : ∃ x rx, F[i]? = some (x, rx) := ⟨F[i].1, F[i].2, List.getElem?_eq_getElem hlt⟩
      obtain ⟨a, ha⟩ : ∃ a, as[i]? = some a := by
        have : i < as.length := by rw [b.ln]; exact hlt
        exact ⟨as[i], List.getElem?_eq_getElem this⟩
      have hax := b.it i a x rx ha hx
      obtain ⟨px, pv, pl⟩ := bf.pth i x rx hx
      have hxr : ∀ s ∈ x, 0 ≤ s ∧ s < (nS ts : Int) := by rw [px]; exact path_rng hW pv hs
      have hxl : x.length ≤ 12 := by rw [px, path_run, List.length_map]; exact hs12
      obtain ⟨dx, hm⟩ := hM.fs
      obtain ⟨tas, ht1, ht2, ht3⟩ := hM.2
      have ltas : tas.length = ts.length := by rw [ht2, vts, List.length_map]
      refine ⟨_, rfl, _, rfl, q0, _, (i : Int), .ref a, rfl, rfl, SqL.of b.hq, atI_nat (by rw [List.getElem?_map, ha]; rfl), ?_⟩
      refine ⟨_, rfl, m, M, dx, _, _, rfl, sm _ _ hm, T.cl, T.nT, mf_t _ _ _, ta, rfl, .inr ⟨_, SqT.of (sm _ _ ht1), for_enumT (K := K) (a := ta) (xs := tas.map V.ref)
        (fun j σ H' => ∃ (F : List KR) (kvs : List (List Key × V)) (as : List Addr) (v6 v7 v8 : Option V), σ = [some (.ref m), some (.ref p), some .non, some .non, some (.ref d), some (.ref q0), some (.int (i : Int)), some (.ref a), v6, v7, v8, none] ∧ Same H H' ∧ DQ H' d q0 F kvs as ∧ Bf (actL ts) ts.length ss F i j ∧ F[i]? = some (x, rx) ∧ H' a = some (.tup (vrow x)))
        ⟨F, kvs, as, _, _, _, rfl, sm, b, bf, hx, hax⟩ (fun j σ H' _ ⟨_, _, _, _, _, _, _, sm, _⟩ => SqT.of (sm _ _ ht1)) ?_ ?_⟩⟩
      · rintro j y T0 σ H' hy hT0 ⟨F, kvs, as, v6, v7, v8, rfl, sm, b, bf, hx, hax⟩
        obtain ⟨tj, htj, rfl⟩ : ∃ t, tas[j]? = some t ∧ y = V.ref t := by
          rw [List.getElem?_map] at hy
          cases e : tas[j]? with
          | none => rw [e] at hy; cases hy
          | some t => rw [e] at hy; exact ⟨t, rfl, (Option.some.inj hy).symm⟩
        have hjt : j < ts.length := by rw [← ltas]; exact (List.getElem?_eq_some_iff.mp htj).1
        have hdj : 0 ≤ (j : Int) ∧ (j : Int) < (ts.length : Int) := by omega
        obtain ⟨t, h1'⟩ : ∃ t, ts[j]? = some t := ⟨ts[j], List.getElem?_eq_getElem hjt⟩
        have hT := ht3 j tj (vrow t) htj (by rw [vts, List.getElem?_map, h1']; rfl)
        generalize hyy : actL ts x (j : Int) = yy
        have lyy : yy.length = x.length := by rw [← hyy, actL, List.length_map]
        have sT := same_new (o := HO.tup [.int (j : Nat), .ref tj]) hT0
        refine ⟨T0, _, rfl, SqT.of upd_same, rfl, _, _, rfl, _, _, rfl, rfl, ?_⟩
        generalize hH2 : upd H' T0 (.tup [.int (j : Nat), .ref tj]) = H2 at sT ⊢
        have b2 := b.same sT
        have sm2 := sm.trans sT
        have hax2 := sT _ _ hax
        -- ends
        refine ⟨_, rfl, a, rfl, ⟨_, SqT.of hax2⟩, fun D0 hD0 => lc_tup (K := K) (a := a) (xs := vrow x) (fun k H3 => Same H2 H3 ∧ H3 D0 = some (.lst ((vrow yy).take k))) ⟨same_new hD0, by rw [upd_same]; rfl⟩ (fun k H3 _ ⟨s3, _⟩ => SqT.of (s3 _ _ hax2)) ?_ ?_⟩
        · rintro k z H3 hz ⟨s3, hD3⟩
          obtain ⟨xk, hxk, rfl⟩ : ∃ xk, x[k]? = some xk ∧ z = V.int xk := by
            rw [vrow, List.getElem?_map] at hz
            cases e : x[k]? with
            | none => rw [e] at hz; cases hz
            | some xk => rw [e] at hz; exact ⟨xk, rfl, (Option.some.inj hz).symm⟩
          have hk : k < x.length := (List.getElem?_eq_some_iff.mp hxk).1
          have hxkr := hxr xk (List.mem_of_getElem? hxk)
          obtain ⟨t', g1, g2, _⟩ := hW.at_ hdj hxkr
          have g1' : ts[j]? = some t' := by simpa using g1
          obtain rfl : t = t' := Option.some.inj (h1'.symm.trans g1')
          refine ⟨rfl, _, rfl, _, rfl, tj, _, xk, .int (stp ts xk j), rfl, rfl, SqT.of (s3 _ _ (sm2 _ _ hT)), at_of (j := xk.toNat) (by omega) (by rw [vrow, List.getElem?_map, g2]; rfl), ?_⟩
          refine ⟨_, hD3, by rw [List.length_take, vrow, List.length_map, sizeLine_eq]; omega, ?_, ?_⟩
          · intro c o e
            rw [upd_ne (ne_of_none e hD0)]
            exact s3 _ _ e
          · have ez : (vrow yy)[k]? = some (V.int (stp ts xk j)) := by rw [← hyy, vrow, actL, List.map_map, List.getElem?_map, hxk]; rfl
            rw [upd_same, take_succ ez]
        · rintro H3 ⟨s3, hD3⟩
          have etk : (vrow yy).take (vrow x).length = vrow yy := by rw [List.take_of_length_le]; rw [vrow, vrow, List.length_map, List.length_map, lyy]; exact Nat.le_refl _
          rw [etk] at hD3
          refine ⟨D0, _, rfl, .inl ⟨SqL.of hD3, fun en hen => ?_⟩⟩
          have s4 := s3.trans (same_new (o := HO.tup (vrow yy)) hen)
          generalize hH4 : upd H3 en (.tup (vrow yy)) = H4
          have hen4 : H4 en = some (.tup (vrow yy)) := by rw [← hH4]; exact upd_same
          have s4' : Same H2 H4 := by rw [← hH4]; exact s4
          have b4 := b2.same s4'
          have sm4 := sm2.trans s4'
          have hax4 := s4' _ _ hax2
          have hsmall : F.length ≤ 1000 := bf.few few
          obtain ⟨_, pv', pl'⟩ := bf.pth i x rx hx
          have hil : i < F.length := (List.getElem?_eq_some_iff.mp hx).1
          refine ⟨_, rfl, _, rfl, d, _, rfl, DGet.t (k := kK yy) b4.hd (by rw [kK_v]; exact hen4), _, rfl, ?_⟩
          cases ev : valV kvs (kK yy) with
          | some v =>
            refine iteF ?_
            have hin : yy ∈ F.map (·.1) := by
              by_cases z : yy ∈ F.map (·.1)
              · exact z
              · rw [b4.none.mpr z] at ev; cases ev
            obtain ⟨e, he, e1⟩ := List.mem_map.mp hin
            obtain ⟨j2, hj2⟩ := List.getElem?_of_mem he
            exact ⟨F, kvs, as, _, _, _, rfl, sm4, b4, bf.more (j := j2) (k := e.1) (r := e.2) hx hj2 (by rw [hyy]; exact e1), hx, hax4⟩
          | none =>
            refine iteT ?_
            have hnin := b4.none.mp ev
            obtain ⟨ra, hv, hra⟩ := b4.look bf.nd hx
            refine ⟨_, rfl, _, rfl, d, .ref ra, rfl, by rw [← hv]; exact DGet.t b4.hd (by rw [kK_v]; exact hax4), _, rfl, (by show 1 ≤ sizeLine; decide), fun dt hdt => ?_⟩
            have s5 := same_new (o := HO.tup [V.int (j : Nat)]) hdt
            have bfn : Bf (actL ts) ts.length ss (F ++ [(yy, rx ++ [(j : Int)])]) i (j + 1) := by
              rw [← hyy]
              exact bf.put hx (by rw [hyy]; exact hnin) hjt
            have hx' : (F ++ [(yy, rx ++ [(j : Int)])])[i]? = some (x, rx) := by rw [List.getElem?_append_left hil]; exact hx
            -- whichever tuple stands for the row, the rest is the same
            have rest : ∀ (rb : Addr) (H6 : Hp), Same H4 H6 → H6 rb = some (.tup (vrow (rx ++ [(j : Int)]))) → DPut H6 d (.ref en) (.ref rb) (upd H6 d (.dT (putK kvs (kK yy) (.ref rb)))) ∧
                DQ (upd (upd H6 d (.dT (putK kvs (kK yy) (.ref rb)))) q0 (.lst (as.map V.ref ++ [.ref en]))) d q0 (F ++ [(yy, rx ++ [(j : Int)])]) (kvs ++ [(kK yy, .ref rb)]) (as ++ [en]) ∧ (upd H6 d (.dT (putK kvs (kK yy) (.ref rb)))) q0 = some (.lst (as.map V.ref)) ∧
                Same H (upd (upd H6 d (.dT (putK kvs (kK yy) (.ref rb)))) q0 (.lst (as.map V.ref ++ [.ref en]))) ∧ (upd (upd H6 d (.dT (putK kvs (kK yy) (.ref rb)))) q0 (.lst (as.map V.ref ++ [.ref en]))) a = some (.tup (vrow x)) := fun rb H6 s6 hrb => by
              have b6 := b4.same s6
              have hq6 := b6.hq
              have ndq : q0 ≠ d := ne_of hq6 b6.hd (by intro z; cases z)
              refine ⟨DPut.t b6.hd (by rw [kK_v]; exact s6 _ _ hen4) (by rw [b6.klen, sizeLine_eq]; omega), b6.put hnin (s6 _ _ hen4) hrb, by rw [upd_ne ndq]; exact hq6, fun c o e => ?_, ?_⟩
              · have hcq : c ≠ q0 := fun z => by rw [z, s1.free hq0] at e; cases e
                rw [upd_ne hcq, upd_ne (ne_of_none e nd0)]
                exact s6 _ _ (sm4 _ _ e)
              · have z := s6 _ _ hax4
                rw [upd_ne (ne_of z hq6 (by intro z; cases z)), upd_ne (ne_of z b6.hd (by intro z; cases z))]
                exact z
            have fin : (as.map V.ref).length < sizeLine := by
              rw [List.length_map, b4.ln, sizeLine_eq]; omega
            have hrl : (vrow rx).length ≤ 1000 := by rw [vrow, List.length_map]; omega
            refine ⟨ra, dt, vrow rx, [.int (j : Nat)], rfl, rfl, SqT.of (s5 _ _ hra), SqT.of upd_same, ?_, fun e => ?_, fun _ e => absurd e (by simp), fun _ _ pn hpn => ?_⟩
            · show (vrow rx).length + 1 ≤ sizeLine
              rw [sizeLine_eq]; omega
            · have e0 : rx = [] := by
                cases rx with
                | nil => rfl
                | cons z r => cases e
              subst e0
              obtain ⟨g1, g2, g3, g4, g5⟩ := rest dt _ s5 upd_same
              refine ⟨_, rfl, _, rfl, d, _, rfl, g1, ?_⟩
              refine ⟨_, rfl, .inl ⟨rfl, _, SqL.of g3⟩, _, rfl, q0, _, _, rfl, rfl, g3, fin, ?_⟩
              exact ⟨_, _, _, _, _, _, rfl, g4, g2, bfn, hx', g5⟩
            · have s6 := s5.trans (same_new (o := HO.tup (vrow rx ++ [V.int (j : Nat)])) hpn)
              obtain ⟨g1, g2, g3, g4, g5⟩ := rest pn _ s6 (by rw [upd_same, vrow, vrow, List.map_append]; rfl)
              refine ⟨_, rfl, _, rfl, d, _, rfl, g1, ?_⟩
              refine ⟨_, rfl, .inl ⟨rfl, _, SqL.of g3⟩, _, rfl, q0, _, _, rfl, rfl, g3, fin, ?_⟩
              exact ⟨_, _, _, _, _, _, rfl, g4, g2, bfn, hx', g5⟩
      · rintro σ H' ⟨F, kvs, as, v6, v7, v8, rfl, sm, b, bf, hx, hax⟩
        have hil : i < F.length := (List.getElem?_eq_some_iff.mp hx).1
        have hsmall : F.length ≤ 1000 := bf.few few
        rw [List.length_map, ltas] at bf
        refine ⟨_, rfl, _, rfl, iteN rfl (iteF ⟨_, rfl, _, _, rfl, rfl, ?_⟩)⟩
        refine ⟨⟨i + 1, F, kvs, as, some (.ref a), v6, v7, v8, ?_, sm, b, bf.next, by omega⟩, ?_⟩
        · have z : ((i + 1 : Nat) : Int) = (i : Int) + 1 := by omega
          rw [z]; rfl
        · show 1000 - ((i : Int) + 1).toNat < 1000 - (i : Int).toNat
          omega
    · have hge : F.length ≤ i := by
        have z : ¬ ((i : Int) < ((as.map V.ref).length : Int)) := of_decide_eq_false ec
        rw [List.length_map, b.ln] at z
        omega
      exact ⟨_, rfl, q d F H' sm nd0 ⟨kvs, b.hd, b.ky, b.vl⟩ (bf.done hge) (bf.few few)⟩
/-- first_rows(e, ..) with its defaults -/
theorem pcF {X : Cx} {CX : CXT} {k : Nat} {f : Addr} {fd : FuncData} {sp : Sp} {E : XK} {p pos : Pos} {e : Expr} {es : List Expr} {t : TA} {ds : List Value} (D : DfF X.K X.mg f fd) (G : FnOk X.prog X.w X.K X.mg X.base CX k f fd ["machine", "states", "out", "most"] sp) (hr : Room k X.A) (hx : Passes CX X E) (ha : PA X (e :: es) t)
    (hv : Vals [.non, .non] ds) (hb : Binds X.K fd ["machine", "states", "out", "most"] ds) (hg : Gl X "first_rows" := by rfl)
    (hdb : (("first_rows" : Str) == ("__debug__" : Str)) = false := by decide) (he : starEach (e :: es) X.env = (false, eval e X.env) :: starEach es X.env := by rfl) (hpl : (backTo pos (starEach es X.env)).any (·.1) = false := by rfl) :
    PE X (.Call (.Name "first_rows" p) (e :: es) [] pos) (tCall sp [.non, .non] E t) := pe_call G hr hg D.g D.F.kp hb hv hx ha hdb he hpl
end
end K1
namespace K1
open PySem PySem.Spec PyProof.Rows L2
/-! ### the pairs of a dict with tuple keys that nobody else sees -/
section
variable {X : Cx} {pins : List (Addr × Obj)} {σ : L2.St} {H : Hp} {s : Shared} {d : Addr} {o : Obj}
theorem frzT2 {kvs : List (List Key × V)} (I : Inv X pins σ H s) (h : H d = some (.frz o (.dT kvs))) :
    (d == sysModules) = false ∧ s.heap.get? d = some o ∧ o.ExactDict ∧ ∃ (es : Array DictEntry) (ep : Nat), o.data = .dict es ep ∧ es.size = kvs.length ∧
      ∀ (i : Nat) (k : List Key) (v : V), kvs[i]? = some (k, v) → ∃ (en : DictEntry) (q : Addr), es[i]? = some en ∧ en.key = .ref q ∧ H q = some (.tup (k.map kV)) ∧ RelV v en.val := by
  obtain ⟨hd, z, hs, xs, pr, o', es, ep, ho, hx, hdt, he, _⟩ := I.hok d _ h
  rw [hd] at ho
  cases ho
  refine ⟨hs, hd, hx, es, ep, hdt, ?_, fun i k v e => ?_⟩
  · have l1 : es.size = xs.length := size_of_entries he
    have l2 : kvs.length = xs.length := Paired.length pr
    omega
  · obtain ⟨b, hb, e1, e2, e3⟩ := paired_get pr e
    have q := entry_at he i
    rw [hb] at q
    exact ⟨_, b.2.1, q, rfl, e2, e3⟩
end
def Itit (d : Addr) (o : Obj) (kvs : List (List Key × V)) : It :=
  ⟨fun i H => H d = some (.frz o (.dT kvs)) ∧ i < kvs.length, fun i H x H' => ∃ (T q : Addr) (k : List Key) (v : V), kvs[i]? = some (k, v) ∧ x = .ref T ∧ H T = none ∧ H q = some (.tup (k.map kV)) ∧ H' = upd H T (.tup [.ref q, v]), fun i H => H d = some (.frz o (.dT kvs)) ∧ kvs.length ≤ i⟩
section
variable {P : Program} {w : World} {K : PySem.W.Frag} {d : Addr} {o : Obj} {es : Array DictEntry} {ep : Nat}
theorem turn_itemsT {kvs : List (List Key × V)} {elts : List Expr} {kk : Nat} {tpos : Pos} (it : Addr) (hod : o.data = .dict es ep) :
    Turn P w K (.Tuple elts kk tpos) (Itit d o kvs) [it] it (fun i h => ∃ ok ov, IsItemIter h it d i kvs.length ep ok ov) where
  mem := by simp
  obj := fun i h st b hb => by
    have e : b = it := by simpa using hb
    subst e
    obtain ⟨ok, ov, e⟩ := st
    exact ⟨_, e, fun v z => nomatch z⟩
  keep := fun i h h' st k => let ⟨ok, ov, e⟩ := st; ⟨ok, ov, k it (by simp) _ e⟩
  item := by
    intro X hP hw hK hc i pins s σ H E I hf st hg
    subst hP hw hK
    obtain ⟨hd, hi⟩ := hg
    obtain ⟨hs, hgd, hx, es', ep', hdt, hsz, ent⟩ := frzT2 I hd
    obtain ⟨rfl, rfl⟩ := dict_ep hod hdt
    obtain ⟨⟨k, v⟩, hkv⟩ : ∃ p, kvs[i]? = some p := ⟨kvs[i], List.getElem?_eq_getElem hi⟩
    obtain ⟨en, q, hen, hkey, hq, rv⟩ := ent i k v hkv
    have hm : s.heap.DictRaw d es' ep' := ⟨o, hgd, hx, hod⟩
    obtain ⟨ok, ov, he⟩ := st
    rw [← hsz] at he
    have hi' : i < es'.size := by omega
    have een : es'[i] = en := by
      rw [Array.getElem?_eq_getElem hi'] at hen
      exact Option.some.inj hen
    have hlt : it < s.heap.objs.size := Heap.lt_size he
    refine wpAny_pyNext_items_item_raw he hm hi' fun h' ho hT hz hk => ?_
    rw [een, hkey] at ho hT
    refine ⟨_, rfl, wpAny_letOwnedTupleGo_items (s := { s with heap := h' }) ho fun h'' he' sb => ?_⟩
    have hT2 : h''.get? s.heap.objs.size = some { cls := .type "tuple", data := .seq #[.ref q, en.val] } := (sb.2 _ (Nat.ne_of_gt hlt)).trans hT
    have new : ObjOk X.prog X.w (upd H s.heap.objs.size (.tup [.ref q, v])) h'' s.heap.objs.size (.tup [.ref q, v]) :=
      ⟨by show 2 ≤ sizeLine; decide, [.ref q, en.val], .cons rfl (.cons rv .nil), ⟨_, hT2, rfl, _, rfl⟩⟩
    have I1 : Inv X pins σ (upd H s.heap.objs.size (.tup [.ref q, v])) { s with heap := h'' } :=
      I.turnedNew (t' := s.toks) (ch := [it]) (fun b ob hb e => (sb.2 b (by simpa using hb)).trans (hk b ob (by simpa using hb) e)) hf (Nat.le_refl _) new
    refine ⟨.ref s.heap.objs.size, _, I1, rfl, ⟨_, q, k, v, hkv, rfl, I.hok.fresh (Nat.le_refl _), hq, rfl⟩, ⟨.ref q, en.val, ?_⟩, fun b hb => ?_⟩
    · rw [← hsz]; exact he'
    · have e : b = it := by simpa using hb
      rw [e, upd_ne (Nat.ne_of_lt hlt)]
      exact (hf it (by simp)).1
  done := by
    intro X hP hw hK hc i pins s σ H E I hf st hg
    subst hP hw hK
    obtain ⟨hd, hi⟩ := hg
    obtain ⟨f0, f1, f2, f3, f4, f5⟩ := hf it (by simp)
    obtain ⟨hs, hgd, hx, es', ep', hdt, hsz, ent⟩ := frzT2 I hd
    obtain ⟨rfl, rfl⟩ := dict_ep hod hdt
    obtain ⟨ok, ov, he⟩ := st
    rw [← hsz] at he
    exact wpAny_pyNext_items_end_raw (I.ok.hd hc) he ⟨o, hgd, hx, hod⟩ (by omega) fun h' eb => ⟨rfl, I.turned (t' := s.toks) (fun b ob hb e => eb b ob hb e) f0 f1 f3 f4 f5⟩
  self := fun A i s Q E st h => let ⟨_, _, e⟩ := st; PySem.W.kcp_self e h
end
def iItemsF (td : TE) : TI := fun σ H R => td σ H fun x H1 => ∃ d kvs, x = .ref d ∧ H1 d = some (.dT kvs) ∧ ∀ o, R (Itit d o kvs) (upd H1 d (.frz o (.dT kvs)))
theorem pi_itemsF {X : Cx} {e : Expr} {td : TE} {apos cpos : Pos} {elts : List Expr} {kk : Nat} {tpos : Pos} (he : PE X e td) (hbase : attributeBase e "items" X.env (eval e X.env) = eval e X.env := by rfl) (hline : (apos.endLine == cpos.line) = true := by rfl) :
    PI X (.Tuple elts kk tpos) (.Call (.Attribute e "items" apos) [] [] cpos) (iItemsF td) := by
  refine ⟨fun pins s σ H R I h => ?_⟩
  refine wpAny_Call_method (T := "dict") (id := "dict.items") hbase rfl hline F.plainAttrs_dict F.slot_dict_items F.type_dict_items (thn (he.run pins s σ H _ I h) fun u s1 ⟨x, H0, I0, rx, d, kvs, ex, hd0, q⟩ => ?_)
  subst ex
  obtain rfl : u = Value.ref d := rx
  obtain ⟨o, I1⟩ := I0.lock hd0 trivial
  obtain ⟨hs, hgd, hx, es, ep, hdt, hsz, ent⟩ := I1.frzT upd_same
  have hm : s1.heap.DictRaw d es ep := ⟨o, hgd, hx, hdt⟩
  refine ⟨hm.typeIs, fun a ea => ?_, ?_⟩
  · cases ea
    exact ⟨o, hgd, hx.2.1⟩
  have I2 : Inv X pins σ (upd H0 d (.frz o (.dT kvs))) { s1 with heap := s1.heap.push { cls := .type "dict_items", data := .fields #[.ref d] } } := I1.kept (t' := s1.toks) fun b ob q => Heap.get?_push_of_some _ q
  have fin : wpAny (model X.prog X.w) X.A (pyIter (.ref s1.heap.objs.size)) (PIE X pins σ (.Tuple elts kk tpos) R) X.xe { s1 with heap := s1.heap.push { cls := .type "dict_items", data := .fields #[.ref d] } } := by
    refine wpAny_pyIter_items_raw (d := d) ⟨_, Heap.get?_push_size _ rfl, rfl, rfl⟩ (hm.at fun ob e => Heap.get?_push_of_some _ e) (pi_one (tk := s1.toks) I2 _ (turn_itemsT _ hdt) ⟨.none, .none, ?_⟩ (q o))
    rw [← hsz]
    exact Heap.get?_push_size _ rfl
  show wpAny _ _ (callWith cpos (.builtin "dict.items") [.ref d] [] []) _ X.xe s1
  exact method_meetsIn F.slot_dict_items F.entry_dict_items rfl (PySem.evalArgs_none ⟨rfl, hm.typeIs, F.args_dict_items_1 _, _, meets_dict_items_raw d hs, ⟨es, ep, hm⟩, fin⟩)
theorem lc_itemsF {d : Addr} {o : Obj} {kvs : List (List Key × V)} {g : TG} {tt : TT} {te : TE} {vs : List Nat} {σ : L2.St} {H1 : Hp} {D : Addr} {Qd : Hp → Prop} (Pv : Nat → Hp → Prop) (h0 : Pv 0 (upd H1 D (.lst []))) (hl : ∀ i H, i ≤ kvs.length → Pv i H → H d = some (.frz o (.dT kvs)))
    (hs : ∀ (i : Nat) k v q T H, kvs[i]? = some (k, v) → H q = some (.tup (k.map kV)) → H T = none → Pv i H → g (.ref T) (wipe σ vs) (upd H T (.tup [.ref q, v])) fun σ2 H2 => wipe σ2 vs = wipe σ vs ∧ tt σ2 H2 fun b H3 =>
      if b = true then te σ2 H3 fun y H4 => ∃ acc, H4 D = some (.lst acc) ∧ acc.length < sizeLine ∧ Pv (i + 1) (upd H4 D (.lst (acc ++ [y]))) else Pv (i + 1) H3) (hd : ∀ H, Pv kvs.length H → Qd H) :
    ∃ W : Nat → Nat → Hp → Prop, (∃ m, W 0 m (upd H1 D (.lst []))) ∧ ∀ i m H, W i m H →
      ((Itit d o kvs).stop i H ∧ Qd H) ∨ ((Itit d o kvs).go i H ∧ ∃ Nx : Hp → Prop, (∀ H', Nx H' → ∃ m', m' < m ∧ W (i + 1) m' H') ∧ ∀ x H', (Itit d o kvs).yld i H x H' → g x (wipe σ vs) H' fun σ2 H2 => wipe σ2 vs = wipe σ vs ∧ tt σ2 H2 fun b H3 =>
        if b = true then te σ2 H3 fun y H4 => ∃ acc, H4 D = some (.lst acc) ∧ acc.length < sizeLine ∧ Nx (upd H4 D (.lst (acc ++ [y]))) else Nx H3) := by
  refine ⟨fun i m H => m = kvs.length - i ∧ i ≤ kvs.length ∧ Pv i H, ⟨kvs.length, by simp, Nat.zero_le _, h0⟩, ?_⟩
  rintro i m H ⟨rfl, hi, p⟩
  have q := hl i H hi p
  by_cases hlt : i < kvs.length
  · refine .inr ⟨⟨q, hlt⟩, Pv (i + 1), fun H' p' => ⟨kvs.length - (i + 1), by omega, rfl, hlt, p'⟩, fun x H' y => ?_⟩
    obtain ⟨T, r, k, v, e1, e2, e3, e4, e5⟩ := y
    subst e2
    rw [e5]
    exact hs i k v r T _ e1 e4 e3 p
  · have e : i = kvs.length := by omega
    subst e
    exact .inl ⟨⟨q, Nat.le_refl _⟩, hd H p⟩
end K1
namespace K1
open PySem PySem.Spec PyProof.Rows L2
theorem belowB_int {v : V} {n : Nat} (h : belowB v (n : Int) = true) : ∃ i : Int, v = .int i ∧ 0 ≤ i ∧ i < (n : Int) := by
  cases v with
  | int i =>
    have z : (decide (0 ≤ i) && decide (i < (n : Int))) = true := h
    rw [Bool.and_eq_true, decide_eq_true_eq, decide_eq_true_eq] at z
    exact ⟨i, rfl, z⟩
  | _ => cases h
theorem belowI {i : Int} {n : Nat} (h : 0 ≤ i ∧ i < (n : Int)) : belowB (.int i) (n : Int) = true := by
  show (decide (0 ≤ i) && decide (i < (n : Int))) = true
  rw [decide_eq_true h.1, decide_eq_true h.2]; rfl
/-! ### two states side by side -/
theorem nodup_of {α β : Type} {l : List α} {f : α → β} (h : (l.map f).Nodup) : l.Pairwise fun a b => f a ≠ f b := List.pairwise_map.mp h
theorem pair_few {ts : Ts} (w : Wf ts) {a h : Int} (ha : 0 ≤ a ∧ a < (nS ts : Int)) (hh : 0 ≤ h ∧ h < (nS ts : Int)) : FewK ts [a, h] := fun F nd hF => by
  have form : ∀ e ∈ F, ∃ x y : Int, e.1 = [x, y] ∧ 0 ≤ x ∧ x < 12 ∧ 0 ≤ y ∧ y < 12 := fun e he => by
    obtain ⟨r, hr, e1⟩ := hF e he
    have h1 := w.run r a hr ha
    have h2 := w.run r h hr hh
    have := w.s12
    rw [path_run] at e1
    exact ⟨run ts a r, run ts h r, e1, by omega, by omega, by omega, by omega⟩
  have nd2 : (F.map fun e => e.1.getD 0 0 * 12 + e.1.getD 1 0).Nodup := by
    refine List.pairwise_map.mpr (List.Pairwise.imp_of_mem (fun {e e'} he he' ne z => ?_) (nodup_of nd))
    obtain ⟨x, y, e1, _⟩ := form e he
    obtain ⟨x', y', e2, _⟩ := form e' he'
    rw [e1, e2] at z
    have z' : x * 12 + y = x' * 12 + y' := z
    obtain ⟨rfl, rfl⟩ : x = x' ∧ y = y' := by omega
    exact ne (e1.trans e2.symm)
  have := nodup_le 144 _ nd2 fun z hz => by
    obtain ⟨e, he, rfl⟩ := List.mem_map.mp hz
    obtain ⟨x, y, e1, _⟩ := form e he
    rw [e1]
    show 0 ≤ x * 12 + y ∧ x * 12 + y < ((144 : Nat) : Int)
    omega
  rw [List.length_map] at this
  omega
/-- the things whose first state is t -/
def onT (F : List KR) (t : Int) : List KR := F.filter fun e => decide (e.1.getD 0 0 = t)
def endsOf (F : List KR) (t : Int) : List Int := (onT F t).map fun e => e.1.getD 1 0
def rowsOf (F : List KR) (t : Int) : List (List Int) := (onT F t).map (·.2)
theorem onT_snoc {F : List KR} {t : Int} {i : Nat} {e : KR} (h : F[i]? = some e) : onT (F.take (i + 1)) t = onT (F.take i) t ++ (if e.1.getD 0 0 = t then [e] else []) := by
  rw [take_succ h, onT, List.filter_append]
  show _ = onT (F.take i) t ++ _
  unfold onT
  by_cases z : e.1.getD 0 0 = t
  · rw [if_pos z, List.filter_cons, if_pos (decide_eq_true z), List.filter_nil]
  · rw [if_neg z, List.filter_cons, if_neg (by simpa using z), List.filter_nil]
theorem onT_len (F : List KR) (t : Int) (i : Nat) : (onT (F.take i) t).length ≤ F.length := by
  refine Nat.le_trans (List.length_filter_le _ _) ?_
  rw [List.length_take]; omega
end K1
namespace K1
open PySem PySem.Spec PyProof.Rows L2
theorem seqG {t u : TS} {D : Ends} {σ : L2.St} {H : Hp} (G : L2.St → Hp → Prop) (hu : ∀ σ H, G σ H → u D σ H) (ht : (∀ σ H, G σ H → u D σ H) → t { D with nx := u D } σ H) : tSeq t u D σ H := ht hu
theorem gn {i : Nat} {x : V} {σ : L2.St} {H : Hp} {Q : L2.St → Hp → Prop} (h : Q (σ.set i (some x)) H) : gName i x σ H Q := h
theorem nxP {D : Ends} {σ : L2.St} {H : Hp} (h : D.nx σ H) : tNext D σ H := h
/-- a source of draws -/
def BoxO (H : Hp) (b : Addr) : Prop := ∃ x y : Int, H b = some (.lst [.int x, .int y])
/-- all but the source stands, which is one again -/
def Bx (b : Addr) (H H' : Hp) : Prop := BoxO H' b ∧ ∀ c o, H c = some o → c ≠ b → H' c = some o
theorem Bx.refl {b : Addr} {H : Hp} (h : BoxO H b) : Bx b H H := ⟨h, fun _ _ e _ => e⟩
theorem Bx.trans {b : Addr} {H H1 H2 : Hp} (a : Bx b H H1) (c : Bx b H1 H2) : Bx b H H2 := ⟨c.1, fun d o e n => c.2 d o (a.2 d o e n) n⟩
theorem BoxO.same {b : Addr} {H H' : Hp} (h : BoxO H b) (s : Same H H') : BoxO H' b := let ⟨x, y, e⟩ := h; ⟨x, y, s _ _ e⟩
theorem Bx.same {b : Addr} {H H1 H2 : Hp} (a : Bx b H H1) (s : Same H1 H2) : Bx b H H2 := ⟨a.1.same s, fun d o e n => s _ _ (a.2 d o e n)⟩
theorem Same.bx {b : Addr} {H H1 H2 : Hp} (s : Same H H1) (a : Bx b H1 H2) : Bx b H H2 := ⟨a.1, fun d o e n => a.2 d o (s _ _ e) n⟩
theorem Bx.set {b : Addr} {H : Hp} {x y : Int} : Bx b H (upd H b (.lst [.int x, .int y])) := ⟨⟨x, y, upd_same⟩, fun c o e n => by rw [upd_ne n]; exact e⟩
theorem Bx.free {b c : Addr} {H H' : Hp} (a : Bx b H H') (hb : c ≠ b) (h : H' c = none) : H c = none := by
  cases q : H c with
  | none => rfl
  | some o => rw [a.2 c o q hb] at h; cases h
theorem BoxO.ne {b c : Addr} {H : Hp} {o : HO} (h : BoxO H b) (e : H c = some o) (n : ∀ xs, o ≠ .lst xs) : c ≠ b := fun z => by
  obtain ⟨x, y, hb⟩ := h
  rw [z, hb] at e
  exact n _ (Option.some.inj e).symm
theorem Bx.ne {b c : Addr} {H H' : Hp} (a : Bx b H H') (h : H' c = none) : c ≠ b := fun z => by
  obtain ⟨x, y, hb⟩ := a.1
  rw [z, hb] at h
  cases h
theorem Bx.new {b p : Addr} {H H' : Hp} {o : HO} (a : Bx b H H') (h : H' p = none) : Bx b H (upd H' p o) := a.same (same_new h)
theorem Bx.put {b p : Addr} {H H' : Hp} {o : HO} (a : Bx b H H') (hp : H p = none) (n : p ≠ b) : Bx b H (upd H' p o) := ⟨let ⟨x, y, e⟩ := a.1; ⟨x, y, by rw [upd_ne n.symm]; exact e⟩, fun c o' e n' => by rw [upd_ne (ne_of_none e hp)]; exact a.2 c o' e n'⟩
theorem Bx.tup {b c : Addr} {H H' : Hp} {xs : List V} (x : Bx b H H') (hb : BoxO H b) (h : H c = some (.tup xs)) : H' c = some (.tup xs) := x.2 _ _ h (hb.ne h fun xs => by intro z; cases z)
def spTake : Sp := fun vs H Q _ => ∃ b n, vs = [.ref b, .int n] ∧ BoxO H b ∧ 1 ≤ n ∧ n < 1073741824 ∧ ∀ r H', 0 ≤ r → r < n → Bx b H H' → Q (.int r) H'
def spPick : Sp := fun vs H Q _ => ∃ (b l : Addr) (xs : List V), vs = [.ref b, .ref l] ∧ BoxO H b ∧ H l = some (.lst xs) ∧ l ≠ b ∧ 1 ≤ xs.length ∧ xs.length ≤ 1000 ∧ ∀ (i : Nat) v H', xs[i]? = some v → Bx b H H' → Q v H'
def spBox (K : PySem.W.Frag) : Sp := fun vs H Q _ => ∃ (a : Addr) (ns : List Int) (k : Int), vs = [.ref a, .int k] ∧ SqL K H a (ns.map V.int) ∧ ns.length ≤ 63 ∧ 0 ≤ k ∧ k ≤ 10 ∧ ∀ b H', Same H H' → H b = none → BoxO H' b → Q (.ref b) H'
section
variable {P : Program} {w : World} {K : PySem.W.Frag} {mg : Str → Option Value} {base : Heap}
theorem scTk : FnScope ["_law_box_here", "_law_many", "_law_digit", "_law_raw"] ["_law_box_here", "_law_many"] (defScope sTake) := ⟨rfl, rfl, rfl, by decide +kernel, rfl, by decide +kernel, by decide +kernel⟩
theorem ok_take {f : Addr} {fd : FuncData} (D : Df K mg "_law_take" sTake ["_law_box_here", "_law_many"] f fd) (B : Bt mg) : FnOk P w K mg base CX0 1 f fd ["_law_box_here", "_law_many"] spTake := by
  refine D.F.ok scTk (fun vs H Q E h => ?_) (fun cdv A outer s H vs Q E hr h => ?_)
  · obtain ⟨b, n, rfl, _⟩ := h
    rfl
  · obtain ⟨b, n, rfl, ⟨x, y, hb⟩, h1, h2, q⟩ := h
    refine ⟨_, pss_cons (ps_if (pt_cmpR op_gt (pe_ix ix_list (pv 0) pe_int (fun _ _ => rfl)) pe_int (nomark _))
        (pss_cons (ps_set (i := 2) scTk.nd rfl (.inl rfl) (pe_op op_mod (pe_callTy call_int1 (by rfl) B.int PyProof.Rows.boot_int (pa_cons (pe_ix ix_list (pv 0) pe_int (fun _ _ => rfl)) pa_nil)) (pv 1)))
        (pss_cons (ps_asg (pe_op op_fdivN (pe_ix ix_list (pv 0) pe_int (fun _ _ => rfl)) (pv 1)) (pg_sub (pv 0) pe_int set_list))
        (pss_one (ps_ret (pv 2))))) pss_nil)
      (pss_cons (ps_set (i := 3) scTk.nd rfl (.inl rfl) (pe_op op_mod (pe_callTy call_int1 (by rfl) B.int PyProof.Rows.boot_int (pa_cons (pe_op op_add (pe_op op_mul (pe_ix ix_list (pv 0) pe_int (fun _ _ => rfl)) pe_int) pe_int) pa_nil)) pe_int))
      (pss_cons (ps_asg (pe_op op_add (pe_op op_mod (pe_callTy call_int1 (by rfl) B.int PyProof.Rows.boot_int (pa_cons (pe_op op_add (pe_op op_mul (pv 3) pe_int) pe_int) pa_nil)) pe_int) pe_int) (pg_sub (pv 0) pe_int set_list))
      (pss_one (ps_ret (pe_op op_mod (pe_callTy call_int1 (by rfl) B.int PyProof.Rows.boot_int (pa_cons (pe_op op_fdivN (pe_op op_add (pe_op op_mul (pv 3) pe_int) (pe_ix ix_list (pv 0) pe_int (fun _ _ => rfl))) pe_int) pa_nil)) (pv 1)))))), ?_⟩
    have a0 : ∀ {u v : Int}, atI [V.int u, V.int v] 0 = some (V.int u) := fun {u v} => atI_nat (j := 0) rfl
    have a1 : ∀ {u v : Int}, atI [V.int u, V.int v] 1 = some (V.int v) := fun {u v} => atI_nat (j := 1) rfl
    have np : 0 < n := by omega
    refine ⟨_, rfl, b, _, 0, .int x, rfl, rfl, SqL.of hb, a0, _, _, rfl, rfl, _, rfl, ifD (fun e => ?_) fun e => ?_⟩
    · refine ⟨_, rfl, b, _, 0, .int x, rfl, rfl, SqL.of hb, a0, .inl ⟨x, rfl, _, rfl, _, _, rfl, rfl, np, ?_⟩⟩
      refine ⟨_, rfl, b, _, 0, .int x, rfl, rfl, SqL.of hb, a0, _, rfl, _, _, rfl, rfl, ⟨by omega, by omega⟩, _, rfl, b, _, 0, 0, rfl, rfl, hb, rfl, ?_⟩
      exact ⟨_, rfl, q _ _ (Int.emod_nonneg _ (by omega)) (Int.emod_lt_of_pos _ np) Bx.set⟩
    · refine ⟨_, rfl, b, _, 1, .int y, rfl, rfl, SqL.of hb, a1, _, _, rfl, rfl, .inr ⟨by decide, by decide⟩, _, _, rfl, rfl, .inl ⟨_, rfl, _, _, rfl, rfl, (by decide : (0 : Int) < 2147483647), ?_⟩⟩
      refine ⟨_, rfl, _, _, rfl, rfl, .inr ⟨by decide, by decide⟩, _, _, rfl, rfl, .inl ⟨_, rfl, _, _, rfl, rfl, (by decide : (0 : Int) < 2147483399), _, _, rfl, rfl, _, rfl, b, _, 1, 1, rfl, rfl, hb, rfl, ?_⟩⟩
      generalize hH2 : upd H b _ = H2
      have hb2 : ∃ y', H2 b = some (.lst [.int x, .int y']) := ⟨_, by rw [← hH2, upd_same]; rfl⟩
      obtain ⟨y', hb2⟩ := hb2
      have bx : Bx b H H2 := ⟨⟨_, _, hb2⟩, fun c o e n => by rw [← hH2, upd_ne n]; exact e⟩
      refine ⟨_, rfl, _, _, rfl, rfl, .inr ⟨by decide, by decide⟩, _, rfl, b, _, 1, .int y', rfl, rfl, SqL.of hb2, a1, _, _, rfl, rfl, _, _, rfl, rfl, ⟨by decide, by decide⟩, .inl ⟨_, rfl, _, rfl, _, _, rfl, rfl, np, ?_⟩⟩
      exact q _ _ (Int.emod_nonneg _ (by omega)) (Int.emod_lt_of_pos _ np) bx
theorem scPi : FnScope ["_law_box_here", "_law_some"] ["_law_box_here", "_law_some"] (defScope sPick) := ⟨rfl, rfl, rfl, by decide +kernel, rfl, by decide +kernel, by decide +kernel⟩
theorem ok_pick {f fT : Addr} {fd fdT : FuncData} (D : Df K mg "_law_pick" sPick ["_law_box_here", "_law_some"] f fd) (DT : Df K mg "_law_take" sTake ["_law_box_here", "_law_many"] fT fdT) (B : Bt mg) (GT : FnOk P w K mg base CX0 1 fT fdT ["_law_box_here", "_law_many"] spTake) :
    FnOk P w K mg base CX0 2 f fd ["_law_box_here", "_law_some"] spPick := by
  refine D.F.ok scPi (fun vs H Q E h => ?_) (fun cdv A outer s H vs Q E hr h => ?_)
  · obtain ⟨b, l, xs, rfl, _⟩ := h
    rfl
  · obtain ⟨b, l, xs, rfl, hb, hl, hne, h1, h2, q⟩ := h
    refine ⟨_, pss_one (ps_ret (pe_ix ix_list (pv 1) (pc DT GT hr pass0 (pa_cons (pv 0) (pa_cons (pe_callB call_len_seq (by rfl) B.len PySem.boot_len (pa_cons (pv 1) pa_nil)) pa_nil))) (fun _ _ => rfl))), ?_⟩
    refine ⟨_, rfl, _, rfl, _, rfl, l, xs, rfl, .inl (SqL.of hl), b, _, rfl, hb, by omega, by omega, fun r H' r0 r1 bx => ?_⟩
    have hi : r.toNat < xs.length := by omega
    refine ⟨l, xs, r, xs[r.toNat], rfl, rfl, SqL.of (bx.2 _ _ hl hne), at_of (j := r.toNat) (by omega) (List.getElem?_eq_getElem hi), q r.toNat _ H' (List.getElem?_eq_getElem hi) bx⟩
theorem scBx : FnScope ["_law_script", "_law_k", "_law_cell", "_law_great"] ["_law_script", "_law_k"] (defScope sBox) := ⟨rfl, rfl, rfl, by decide +kernel, rfl, by decide +kernel, by decide +kernel⟩
theorem ok_box {f : Addr} {fd : FuncData} (D : Df K mg "_law_box" sBox ["_law_script", "_law_k"] f fd) (B : Bt mg) : FnOk P w K mg base CX0 1 f fd ["_law_script", "_law_k"] (spBox K) := by
  refine D.F.ok scBx (fun vs H Q E h => ?_) (fun cdv A outer s H vs Q E hr h => ?_)
  · obtain ⟨a, ns, k, rfl, _⟩ := h
    rfl
  · obtain ⟨a, ns, k, rfl, hS, hl, k0, k1, q⟩ := h
    refine ⟨_, pss_cons (ps_set (i := 2) scBx.nd rfl (.inl rfl) (pe_op op_add (pe_op op_mul pe_int (pv 1)) pe_int))
      (pss_cons (ps_if (pt_cmpR op_lt (pv 1) (pe_callB call_len_seq (by rfl) B.len PySem.boot_len (pa_cons (pv 0) pa_nil)) (nomark _))
        (pss_one (ps_set (i := 2) scBx.nd rfl (.inl rfl) (pe_callB call_abs (by rfl) B.abs (by decide +kernel) (pa_cons (pe_callTy call_int1 (by rfl) B.int PyProof.Rows.boot_int (pa_cons (pe_ix ix_list (pv 0) (pv 1) (fun _ _ => rfl)) pa_nil)) pa_nil))))
        (pss_one (ps_if (pt_cmpR op_gt (pe_callB call_len_seq (by rfl) B.len PySem.boot_len (pa_cons (pv 0) pa_nil)) pe_int (nomark _))
          (pss_one (ps_set (i := 2) scBx.nd rfl (.inl rfl) (pe_op op_add (pv 2) (pe_op op_mul (pe_op op_mod (pe_callTy call_int1 (by rfl) B.int PyProof.Rows.boot_int (pa_cons (pe_callB call_abs (by rfl) B.abs (by decide +kernel) (pa_cons (pe_callTy call_int1 (by rfl) B.int PyProof.Rows.boot_int (pa_cons (pe_ix ix_list (pv 0)
            (pe_op op_mod (pe_callTy call_int1 (by rfl) B.int PyProof.Rows.boot_int (pa_cons (pv 1) pa_nil)) (pe_callB call_len_seq (by rfl) B.len PySem.boot_len (pa_cons (pv 0) pa_nil))) (fun _ _ => rfl)) pa_nil)) pa_nil)) pa_nil)) pe_int) pe_int)))) pss_nil)))
      (pss_cons (ps_set (i := 3) scBx.nd rfl (.inl rfl) (pe_ifExp (pt_cmpR op_ge (pv 2) (pe_op op_pow pe_int pe_int) (nomark _)) (pv 2) pe_int))
      (pss_one (ps_ret (pe_lst (pa_cons (pv 3)
        (pa_cons (pe_op op_add (pe_op op_mod (pe_callTy call_int1 (by rfl) B.int PyProof.Rows.boot_int (pa_cons (pe_op op_add (pe_op op_mul (pe_op op_mod (pe_callTy call_int1 (by rfl) B.int PyProof.Rows.boot_int (pa_cons (pv 2) pa_nil)) pe_int) pe_int) (pe_op op_mul pe_int (pv 1))) pa_nil)) pe_int) pe_int) pa_nil))))))), ?_⟩
    have hget : ∀ (j : Int), 0 ≤ j → j < (ns.length : Int) → ∃ z : Int, atI (ns.map V.int) j = some (V.int z) := fun j h0 h1 => by
      have hj : j.toNat < ns.length := by omega
      exact ⟨ns[j.toNat], at_of (j := j.toNat) (by omega) (by rw [List.getElem?_map, List.getElem?_eq_getElem hj]; rfl)⟩
    refine ⟨_, rfl, _, _, rfl, rfl, .inl ⟨by decide, by decide⟩, _, _, rfl, rfl, ?_⟩
    refine gn ?_
    dsimp only
    refine seqG (fun σ H' => ∃ c : Int, σ = [some (.ref a), some (.int k), some (.int c), none] ∧ H' = H) ?_ (fun kk => ?_)
    · rintro σ H' ⟨c, rfl, rfl⟩
      refine seqG (fun σ H'' => ∃ g : Int, σ = [some (.ref a), some (.int k), some (.int c), some (.int g)] ∧ H'' = H') ?_ (fun k2 => ⟨_, rfl, _, _, rfl, rfl, ⟨by decide, by decide, by decide⟩, _, _, rfl, rfl, _, rfl, ifD (fun e => ⟨_, rfl, k2 _ _ ⟨_, rfl, rfl⟩⟩) fun e => k2 _ _ ⟨_, rfl, rfl⟩⟩)
      rintro σ H'' ⟨g, rfl, e⟩
      subst e
      refine ⟨_, rfl, _, rfl, .inl ⟨_, rfl, _, _, rfl, rfl, (by decide : (0 : Int) < 2147483563), _, _, rfl, rfl, .inr ⟨by decide, by decide⟩, _, rfl, _, _, rfl, rfl, .inl ⟨by decide, by decide⟩, _, _, rfl, rfl, .inl ⟨_, rfl, _, _, rfl, rfl, (by decide : (0 : Int) < 2147483563), _, _, rfl, rfl, (by show 2 ≤ sizeLine; decide), fun p hp => ?_⟩⟩⟩
      exact q p _ (same_new hp) hp ⟨_, _, upd_same⟩
    · refine ⟨_, rfl, _, rfl, a, _, rfl, .inl (hS), _, _, rfl, rfl, _, rfl, ifD (fun e => ?_) fun e => ?_⟩
      · have e' : k < (ns.length : Int) := by
          have z := of_decide_eq_true e
          rw [List.length_map] at z
          exact z
        obtain ⟨z, hz⟩ := hget k k0 e'
        refine ⟨_, rfl, _, rfl, a, _, k, _, rfl, rfl, hS, hz, ?_⟩
        refine .inl ⟨z, rfl, _, rfl, ?_⟩
        exact kk _ _ ⟨_, rfl, rfl⟩
      · refine ⟨_, rfl, a, _, rfl, .inl hS, _, _, rfl, rfl, _, rfl, ifD (fun e => ?_) fun e => ?_⟩
        · have e' : 0 < (ns.length : Int) := by
            have z := of_decide_eq_true e
            rw [List.length_map] at z
            omega
          have em : (k % ((ns.map V.int).length : Int)) = k % (ns.length : Int) := by rw [List.length_map]
          obtain ⟨z, hz⟩ := hget (k % (ns.length : Int)) (Int.emod_nonneg _ (by omega)) (Int.emod_lt_of_pos _ e')
          refine ⟨_, rfl, _, rfl, _, rfl, .inl ⟨_, rfl, _, rfl, a, _, rfl, .inl hS, _, _, rfl, rfl, (by rw [List.length_map]; exact e'), a, _, _, _, rfl, rfl, hS, (by rw [em]; exact hz), ?_⟩⟩
          refine .inl ⟨z, rfl, _, rfl, .inl ⟨_, rfl, _, _, rfl, rfl, (by decide : (0 : Int) < 2147483563), _, _, rfl, rfl, .inr ⟨by decide, by decide⟩, _, _, rfl, rfl, ?_⟩⟩
          exact kk _ _ ⟨_, rfl, rfl⟩
        · exact kk _ _ ⟨_, rfl, rfl⟩
end
end K1
namespace K1
open PySem PySem.Spec PyProof.Rows L2
/-- the values of g below k -/
def gL (g : Int → Int) (k : Nat) : List Int := (List.range k).map fun i : Nat => g (i : Int)
theorem gL_succ (g : Int → Int) (k : Nat) : gL g (k + 1) = gL g k ++ [g (k : Int)] := by
  unfold gL
  rw [List.range_succ, List.map_append]; rfl
theorem gL_len (g : Int → Int) (k : Nat) : (gL g k).length = k := by unfold gL; rw [List.length_map, List.length_range]
theorem gL_at {g : Int → Int} {k i : Nat} (h : i < k) : (gL g k)[i]? = some (g (i : Int)) := by
  unfold gL
  rw [List.getElem?_map, List.getElem?_range h]; rfl
theorem gL_mem {g : Int → Int} {k : Nat} {x : Int} (h : x ∈ gL g k) : ∃ i : Int, 0 ≤ i ∧ i < (k : Int) ∧ x = g i := by
  obtain ⟨i, hi, rfl⟩ := List.mem_map.mp h
  exact ⟨i, by omega, by have := List.mem_range.mp hi; omega, rfl⟩
theorem gL_congr {g f : Int → Int} {k : Nat} (h : ∀ i : Int, 0 ≤ i → i < (k : Int) → g i = f i) : gL g k = gL f k :=
  List.map_congr_left fun i hi => h _ (by omega) (by have := List.mem_range.mp hi; omega)
def idL (n : Nat) : List Int := gL (fun s => s) n
def FewM (ts : Ts) : Prop := FewK ts (idL (nS ts))
theorem few_of {ts : Ts} {ss : List Int} (Form : List Int → Prop) (code : List Int → Int) (N : Nat) (hN : N ≤ 1000) (h0 : Form ss) (hs : ∀ x d, Form x → (0 ≤ d ∧ d < (ts.length : Int)) → Form (actL ts x d)) (hc : ∀ x, Form x → 0 ≤ code x ∧ code x < (N : Int))
    (inj : ∀ x y, Form x → Form y → code x = code y → x = y) : FewK ts ss := fun F nd hF => by
  have form : ∀ e ∈ F, Form e.1 := fun e he => by
    obtain ⟨r, hr, e1⟩ := hF e he
    rw [e1]
    clear e1
    have : ∀ (r x : List Int), (∀ y ∈ r, 0 ≤ y ∧ y < (ts.length : Int)) → Form x → Form (path (actL ts) x r) := fun r => by
      induction r with
      | nil => exact fun x _ h => h
      | cons d r ih => exact fun x hr h => ih _ (fun y hy => hr y (List.mem_cons_of_mem _ hy)) (hs x d h (hr d List.mem_cons_self))
    exact this r ss hr h0
  have nd2 : (F.map fun e => code e.1).Nodup :=
    List.pairwise_map.mpr (List.Pairwise.imp_of_mem (fun {e e'} he he' ne z => ne (inj _ _ (form e he) (form e' he') z)) (nodup_of nd))
  have := nodup_le N _ nd2 fun z hz => by
    obtain ⟨e, he, rfl⟩ := List.mem_map.mp hz
    exact hc _ (form e he)
  rw [List.length_map] at this
  omega
theorem getD_rng {x : List Int} {n : Int} (h0 : 0 < n) (h : ∀ s ∈ x, 0 ≤ s ∧ s < n) (i : Nat) : 0 ≤ x.getD i 0 ∧ x.getD i 0 < n := by
  rw [List.getD_eq_getElem?_getD]
  cases e : x[i]? with
  | none => exact ⟨Int.le_refl _, h0⟩
  | some s => exact h s (List.mem_of_getElem? e)
theorem idL_rng {n : Nat} : ∀ s ∈ idL n, 0 ≤ s ∧ s < (n : Int) := fun s hs => by
  obtain ⟨i, h1, h2, rfl⟩ := gL_mem hs
  exact ⟨h1, h2⟩
/-- machines of at most four states -/
theorem few_small {ts : Ts} (w : Wf ts) (h4 : nS ts ≤ 4) : FewM ts := by
  refine few_of (fun x => x.length = nS ts ∧ ∀ s ∈ x, 0 ≤ s ∧ s < (nS ts : Int)) (fun x => x.getD 0 0 + 4 * x.getD 1 0 + 16 * x.getD 2 0 + 64 * x.getD 3 0) 256 (by decide) ⟨gL_len _ _, idL_rng⟩ (fun x d h hd => ⟨by rw [actL, List.length_map]; exact h.1, actL_rng w hd h.2⟩) (fun x h => ?_) (fun x y hx hy e => ?_)
  · have s1 := w.s1
    have b : ∀ i, 0 ≤ x.getD i 0 ∧ x.getD i 0 < 4 := fun i => by
      have := getD_rng (n := (nS ts : Int)) (by omega) h.2 i
      omega
    have b0 := b 0; have b1 := b 1; have b2 := b 2; have b3 := b 3
    show 0 ≤ x.getD 0 0 + 4 * x.getD 1 0 + 16 * x.getD 2 0 + 64 * x.getD 3 0 ∧ x.getD 0 0 + 4 * x.getD 1 0 + 16 * x.getD 2 0 + 64 * x.getD 3 0 < ((256 : Nat) : Int)
    omega
  · have s1 := w.s1
    have b : ∀ z : List Int, (∀ s ∈ z, 0 ≤ s ∧ s < (nS ts : Int)) → ∀ i, 0 ≤ z.getD i 0 ∧ z.getD i 0 < 4 := fun z h i => by
      have := getD_rng (n := (nS ts : Int)) (by omega) h i
      omega
    have x0 := b x hx.2 0; have x1 := b x hx.2 1; have x2 := b x hx.2 2; have x3 := b x hx.2 3
    have y0 := b y hy.2 0; have y1 := b y hy.2 1; have y2 := b y hy.2 2; have y3 := b y hy.2 3
    have e : x.getD 0 0 + 4 * x.getD 1 0 + 16 * x.getD 2 0 + 64 * x.getD 3 0 = y.getD 0 0 + 4 * y.getD 1 0 + 16 * y.getD 2 0 + 64 * y.getD 3 0 := e
    have d0 : x.getD 0 0 = y.getD 0 0 := by omega
    have d1 : x.getD 1 0 = y.getD 1 0 := by omega
    have d2 : x.getD 2 0 = y.getD 2 0 := by omega
    have d3 : x.getD 3 0 = y.getD 3 0 := by omega
    refine List.ext_getElem (hx.1.trans hy.1.symm) fun i h1 h2 => ?_
    have g : ∀ (z : List Int) (h : i < z.length), z.getD i 0 = z[i] := fun z h => by rw [List.getD_eq_getElem?_getD, List.getElem?_eq_getElem h]; rfl
    rw [← g x h1, ← g y h2]
    have hi : i < 4 := by rw [hx.1] at h1; omega
    rcases (show i = 0 ∨ i = 1 ∨ i = 2 ∨ i = 3 by omega) with rfl | rfl | rfl | rfl <;> assumption
/-- tables of one form -/
structure Gen (ts : Ts) (n : Nat) (bys : List Int) (G : Int → Int → Int) : Prop where
  e : ts = bys.map fun b => gL (G b) n
  b1 : 1 ≤ bys.length
  b8 : bys.length ≤ 8
  n1 : 1 ≤ n
  n12 : n ≤ 12
  rg : ∀ b ∈ bys, ∀ s : Int, 0 ≤ s → s < (n : Int) → 0 ≤ G b s ∧ G b s < (n : Int)
theorem Gen.len {ts : Ts} {n : Nat} {bys : List Int} {G : Int → Int → Int} (g : Gen ts n bys G) : ts.length = bys.length := by rw [g.e, List.length_map]
theorem Gen.nS {ts : Ts} {n : Nat} {bys : List Int} {G : Int → Int → Int} (g : Gen ts n bys G) : nS ts = n := by
  have hb := g.b1
  have e : ts[0]? = some (gL (G (bys[0]'(by omega))) n) := by rw [g.e, List.getElem?_map, List.getElem?_eq_getElem (by omega)]; rfl
  unfold K1.nS
  rw [e]
  exact gL_len _ _
theorem Gen.wf {ts : Ts} {n : Nat} {bys : List Int} {G : Int → Int → Int} (g : Gen ts n bys G) : Wf ts := by
  have h1 := g.b1; have h8 := g.b8; have n1 := g.n1; have n12 := g.n12; have l := g.len; have e := g.nS
  refine ⟨by omega, by omega, by omega, by omega, fun t ht => ?_⟩
  rw [g.e] at ht
  obtain ⟨b, hb, rfl⟩ := List.mem_map.mp ht
  refine ⟨by rw [gL_len, e], fun i hi => ?_⟩
  obtain ⟨s, s0, s1, rfl⟩ := gL_mem hi
  rw [e]
  exact g.rg b hb s s0 s1
theorem Gen.stp {ts : Ts} {n : Nat} {bys : List Int} {G : Int → Int → Int} (g : Gen ts n bys G) {d : Int} (hd : 0 ≤ d ∧ d < (ts.length : Int)) : ∃ b ∈ bys, ∀ s : Int, 0 ≤ s → s < (n : Int) → stp ts s d = G b s := by
  have l := g.len
  have h : d.toNat < bys.length := by omega
  refine ⟨bys[d.toNat], List.getElem_mem h, fun s s0 s1 => ?_⟩
  unfold K1.stp
  rw [g.e, List.getElem?_map, List.getElem?_eq_getElem h]
  show ((gL (G bys[d.toNat]) n)[s.toNat]?).getD 0 = _
  rw [gL_at (by omega)]
  show G bys[d.toNat] ((s.toNat : Nat) : Int) = _
  rw [show ((s.toNat : Nat) : Int) = s by omega]
theorem few_gen {ts : Ts} {n : Nat} {bys : List Int} {G : Int → Int → Int} (g : Gen ts n bys G) (M : Int → Int → Int) (Pc : Int → Prop) (c0 : Int) (h0 : Pc c0) (hid : ∀ s, 0 ≤ s → s < (n : Int) → M c0 s = s) (hr : ∀ c, Pc c → ∀ s, 0 ≤ s → s < (n : Int) → 0 ≤ M c s ∧ M c s < (n : Int))
    (hs : ∀ b ∈ bys, ∀ c, Pc c → ∃ c', Pc c' ∧ ∀ s, 0 ≤ s → s < (n : Int) → G b (M c s) = M c' s)
    (inj : ∀ c c', Pc c → Pc c' → M c 0 = M c' 0 → (2 ≤ n → M c 1 = M c' 1) → ∀ s, 0 ≤ s → s < (n : Int) → M c s = M c' s) : FewM ts := by
  have n1 := g.n1; have n12 := g.n12
  refine few_of (fun x => ∃ c, Pc c ∧ x = gL (M c) n) (fun x => x.getD 0 0 * 12 + x.getD 1 0) 144 (by decide) ⟨c0, h0, ?_⟩ (fun x d ⟨c, hc, e⟩ hd => ?_) (fun x ⟨c, hc, e⟩ => ?_) (fun x y ⟨c, hc, e⟩ ⟨c', hc', e'⟩ z => ?_)
  · rw [g.nS]
    exact gL_congr fun i i0 i1 => (hid i i0 i1).symm
  · obtain ⟨b, hb, hst⟩ := g.stp hd
    obtain ⟨c', hc', h⟩ := hs b hb c hc
    refine ⟨c', hc', ?_⟩
    subst e
    unfold actL gL
    rw [List.map_map]
    refine List.map_congr_left fun i hi => ?_
    have hi' := List.mem_range.mp hi
    have r := hr c hc (i : Int) (by omega) (by omega)
    show K1.stp ts (M c (i : Int)) d = M c' (i : Int)
    rw [hst _ r.1 r.2]
    exact h _ (by omega) (by omega)
  · subst e
    have b : ∀ i, 0 ≤ (gL (M c) n).getD i 0 ∧ (gL (M c) n).getD i 0 < 12 := fun i => by
      have := getD_rng (x := gL (M c) n) (n := (n : Int)) (by omega) (fun s hs => by
        obtain ⟨j, j0, j1, rfl⟩ := gL_mem hs
        exact hr c hc j j0 j1) i
      omega
    have b0 := b 0; have b1 := b 1
    show 0 ≤ (gL (M c) n).getD 0 0 * 12 + (gL (M c) n).getD 1 0 ∧ (gL (M c) n).getD 0 0 * 12 + (gL (M c) n).getD 1 0 < ((144 : Nat) : Int)
    omega
  · subst e
    subst e'
    have b : ∀ c, Pc c → ∀ i, 0 ≤ (gL (M c) n).getD i 0 ∧ (gL (M c) n).getD i 0 < 12 := fun c hc i => by
      have := getD_rng (x := gL (M c) n) (n := (n : Int)) (by omega) (fun s hs => by
        obtain ⟨j, j0, j1, rfl⟩ := gL_mem hs
        exact hr c hc j j0 j1) i
      omega
    have b0 := b c hc 0; have b1 := b c hc 1; have b0' := b c' hc' 0; have b1' := b c' hc' 1
    have z : (gL (M c) n).getD 0 0 * 12 + (gL (M c) n).getD 1 0 = (gL (M c') n).getD 0 0 * 12 + (gL (M c') n).getD 1 0 := z
    have z0 : (gL (M c) n).getD 0 0 = (gL (M c') n).getD 0 0 := by omega
    have z1 : (gL (M c) n).getD 1 0 = (gL (M c') n).getD 1 0 := by omega
    have at_ : ∀ (c : Int) (i : Nat), i < n → (gL (M c) n).getD i 0 = M c (i : Int) := fun c i hi => by rw [List.getD_eq_getElem?_getD, gL_at hi]; rfl
    refine gL_congr (inj c c' hc hc' ?_ fun h2 => ?_)
    · have := (at_ c 0 (by omega)).symm.trans (z0.trans (at_ c' 0 (by omega)))
      simpa using this
    · have := (at_ c 1 (by omega)).symm.trans (z1.trans (at_ c' 1 (by omega)))
      simpa using this
/-- turns -/
theorem few_turn {ts : Ts} {n : Nat} {bys : List Int} (g : Gen ts n bys fun b s => (s + b) % (n : Int)) : FewM ts := by
  have n1 := g.n1
  refine few_gen g (fun c s => (s + c) % (n : Int)) (fun c => 0 ≤ c ∧ c < (n : Int)) 0 ⟨by omega, by omega⟩ (fun s s0 s1 => ?_) (fun c hc s s0 s1 => ⟨Int.emod_nonneg _ (by omega), Int.emod_lt_of_pos _ (by omega)⟩) (fun b hb c hc => ⟨(c + b) % (n : Int), ⟨Int.emod_nonneg _ (by omega), Int.emod_lt_of_pos _ (by omega)⟩, fun s s0 s1 => ?_⟩) (fun c c' hc hc' h _ => ?_)
  · show (s + 0) % (n : Int) = s
    rw [Int.add_zero, Int.emod_eq_of_lt s0 s1]
  · show ((s + c) % (n : Int) + b) % (n : Int) = (s + (c + b) % (n : Int)) % (n : Int)
    rw [Int.emod_add_emod, Int.add_emod_emod, Int.add_assoc]
  · have h : (0 + c) % (n : Int) = (0 + c') % (n : Int) := h
    rw [Int.zero_add, Int.zero_add, Int.emod_eq_of_lt hc.1 hc.2, Int.emod_eq_of_lt hc'.1 hc'.2] at h
    subst h
    exact fun s _ _ => rfl
/-- stops -/
theorem few_stop {ts : Ts} {n : Nat} {bys : List Int} (g : Gen ts n bys fun b s => if s + b < (n : Int) - 1 then s + b else (n : Int) - 1) (hb0 : ∀ b ∈ bys, 0 ≤ b) : FewM ts := by
  have n1 := g.n1
  refine few_gen g (fun c s => if s + c < (n : Int) - 1 then s + c else (n : Int) - 1) (fun c => 0 ≤ c ∧ c < (n : Int)) 0 ⟨by omega, by omega⟩ (fun s s0 s1 => ?_) (fun c hc s s0 s1 => ?_) (fun b hb c hc => ⟨if c + b < (n : Int) - 1 then c + b else (n : Int) - 1, ?_, fun s s0 s1 => ?_⟩) (fun c c' hc hc' h _ => ?_)
  · show (if s + 0 < (n : Int) - 1 then s + 0 else (n : Int) - 1) = s
    split <;> omega
  · show 0 ≤ (if s + c < (n : Int) - 1 then s + c else (n : Int) - 1) ∧ (if s + c < (n : Int) - 1 then s + c else (n : Int) - 1) < (n : Int)
    split <;> omega
  · have := hb0 b hb
    split <;> omega
  · have := hb0 b hb
    show (if (if s + c < (n : Int) - 1 then s + c else (n : Int) - 1) + b < (n : Int) - 1 then (if s + c < (n : Int) - 1 then s + c else (n : Int) - 1) + b else (n : Int) - 1) = (if s + (if c + b < (n : Int) - 1 then c + b else (n : Int) - 1) < (n : Int) - 1 then s + (if c + b < (n : Int) - 1 then c + b else (n : Int) - 1) else (n : Int) - 1)
    by_cases h1 : s + c < (n : Int) - 1
    · rw [if_pos h1]
      by_cases h2 : c + b < (n : Int) - 1
      · rw [if_pos h2]
        by_cases h3 : s + c + b < (n : Int) - 1
        · rw [if_pos h3, if_pos (by omega)]; omega
        · rw [if_neg h3, if_neg (by omega)]
      · rw [if_neg h2, if_neg (by omega), if_neg (by omega)]
    · rw [if_neg h1]
      by_cases h2 : c + b < (n : Int) - 1
      · rw [if_pos h2, if_neg (show ¬ (s + (c + b) < (n : Int) - 1) by omega)]
        split <;> omega
      · rw [if_neg h2, if_neg (show ¬ (s + ((n : Int) - 1) < (n : Int) - 1) by omega)]
        split <;> omega
  · have h : (if 0 + c < (n : Int) - 1 then 0 + c else (n : Int) - 1) = (if 0 + c' < (n : Int) - 1 then 0 + c' else (n : Int) - 1) := h
    have e : c = c' := by
      by_cases h1 : 0 + c < (n : Int) - 1 <;> by_cases h2 : 0 + c' < (n : Int) - 1
      · rw [if_pos h1, if_pos h2] at h; omega
      · rw [if_pos h1, if_neg h2] at h; omega
      · rw [if_neg h1, if_pos h2] at h; omega
      · omega
    subst e
    exact fun s _ _ => rfl
/-- the greater of two -/
theorem few_max {ts : Ts} {n : Nat} {bys : List Int} (g : Gen ts n bys fun b s => if s < b then b else s) (hb0 : ∀ b ∈ bys, 0 ≤ b ∧ b < (n : Int)) : FewM ts := by
  have n1 := g.n1
  refine few_gen g (fun c s => if s < c then c else s) (fun c => 0 ≤ c ∧ c < (n : Int)) 0 ⟨by omega, by omega⟩ (fun s s0 s1 => ?_) (fun c hc s s0 s1 => ?_) (fun b hb c hc => ⟨if c < b then b else c, ?_, fun s s0 s1 => ?_⟩) (fun c c' hc hc' h _ => ?_)
  · show (if s < 0 then 0 else s) = s
    rw [if_neg (by omega)]
  · show 0 ≤ (if s < c then c else s) ∧ (if s < c then c else s) < (n : Int)
    split <;> omega
  · have := hb0 b hb
    split <;> omega
  · have := hb0 b hb
    show (if (if s < c then c else s) < b then b else (if s < c then c else s)) = (if s < (if c < b then b else c) then (if c < b then b else c) else s)
    by_cases h1 : s < c <;> by_cases h2 : c < b
    · rw [if_pos h1, if_pos h2, if_pos (by omega)]
    · rw [if_pos h1, if_neg h2, if_pos h1]
    · rw [if_neg h1, if_pos h2]
    · rw [if_neg h1, if_neg h2, if_neg h1, if_neg (by omega)]
  · have h : (if 0 < c then c else 0) = (if 0 < c' then c' else 0) := h
    have e : c = c' := by
      by_cases h1 : 0 < c <;> by_cases h2 : 0 < c'
      · rw [if_pos h1, if_pos h2] at h; exact h
      · rw [if_pos h1, if_neg h2] at h; omega
      · rw [if_neg h1, if_pos h2] at h; omega
      · omega
    subst e
    exact fun s _ _ => rfl
/-- resets -/
theorem few_const {ts : Ts} {n : Nat} {bys : List Int} (g : Gen ts n bys fun b _ => b) : FewM ts := by
  have n1 := g.n1
  have hb0 : ∀ b ∈ bys, 0 ≤ b ∧ b < (n : Int) := fun b hb => g.rg b hb 0 (Int.le_refl _) (by omega)
  refine few_gen g (fun c s => if c < 0 then s else c) (fun c => -1 ≤ c ∧ c < (n : Int)) (-1) ⟨by omega, by omega⟩ (fun s s0 s1 => rfl) (fun c hc s s0 s1 => ?_) (fun b hb c hc => ⟨b, ⟨by have := hb0 b hb; omega, (hb0 b hb).2⟩, fun s s0 s1 => ?_⟩) (fun c c' hc hc' h h2 => ?_)
  · show 0 ≤ (if c < 0 then s else c) ∧ (if c < 0 then s else c) < (n : Int)
    split <;> omega
  · have := hb0 b hb
    show b = (if b < 0 then s else b)
    rw [if_neg (by omega)]
  · intro s s0 s1
    have h : (if c < 0 then (0 : Int) else c) = (if c' < 0 then 0 else c') := h
    have h2 : 2 ≤ n → (if c < 0 then (1 : Int) else c) = (if c' < 0 then 1 else c') := h2
    show (if c < 0 then s else c) = (if c' < 0 then s else c')
    by_cases e1 : c < 0 <;> by_cases e2 : c' < 0
    · rw [if_pos e1, if_pos e2]
    · rw [if_pos e1, if_neg e2] at h h2 ⊢
      by_cases e3 : 2 ≤ n
      · have := h2 e3; omega
      · omega
    · rw [if_neg e1, if_pos e2] at h h2 ⊢
      by_cases e3 : 2 ≤ n
      · have := h2 e3; omega
      · omega
    · rw [if_neg e1, if_neg e2] at h ⊢
      exact h
end K1
namespace K1
open PySem PySem.Spec PyProof.Rows L2
/-- tables at a list -/
def TabL (H : Hp) (p : Addr) (ts : List (List V)) : Prop := ∃ as : List Addr, H p = some (.lst (as.map V.ref)) ∧ as.length = ts.length ∧ ∀ (i : Nat) a t, as[i]? = some a → ts[i]? = some t → H a = some (.tup t)
theorem TabL.same {H H' : Hp} {ta : Addr} {ts : List (List V)} (h : TabL H ta ts) (s : Same H H') : TabL H' ta ts := let ⟨as, h1, h2, h3⟩ := h; ⟨as, s _ _ h1, h2, fun i a t e1 e2 => s _ _ (h3 i a t e1 e2)⟩
theorem TabL.bx {b : Addr} {H H' : Hp} {p : Addr} {ts : List (List V)} (h : TabL H p ts) (n : p ≠ b) (hb : BoxO H b) (a : Bx b H H') : TabL H' p ts :=
  let ⟨as, h1, h2, h3⟩ := h
  ⟨as, a.2 _ _ h1 n, h2, fun i c t e1 e2 => a.tup hb (h3 i c t e1 e2)⟩
theorem tabL_snoc {H : Hp} {p l : Addr} {as : List Addr} {rs : Ts} {t : List Int} (h1 : H p = some (.lst (as.map V.ref))) (h2 : as.length = (vts rs).length) (h3 : ∀ (i : Nat) a t, as[i]? = some a → (vts rs)[i]? = some t → H a = some (.tup t)) (hl : H l = none) :
    TabL (upd (upd H l (.tup (vrow t))) p (.lst (as.map V.ref ++ [.ref l]))) p (vts (rs ++ [t])) := by
  have las : as.length = rs.length := by rw [h2, vts, List.length_map]
  have sl := same_new (o := HO.tup (vrow t)) hl
  refine ⟨as ++ [l], by rw [upd_same, List.map_append]; rfl, by simp only [vts, List.length_append, List.length_map, las]; rfl, ?_⟩
  intro j a u e1 e2
  have hne : ∀ (c : Addr) (u : List V), H c = some (.tup u) → c ≠ p := fun c u e z => by rw [z, h1] at e; cases e
  simp only [vts, List.map_append] at e2
  by_cases hj : j < as.length
  · rw [List.getElem?_append_left hj] at e1
    rw [List.getElem?_append_left (by rw [List.length_map, ← las]; exact hj)] at e2
    have z := h3 j a u e1 e2
    rw [upd_ne (hne a u z)]
    exact sl _ _ z
  · have ej : j = as.length := by
      have := (List.getElem?_eq_some_iff.mp e1).1
      rw [List.length_append] at this
      simp only [List.length_cons, List.length_nil] at this
      omega
    rw [ej, List.getElem?_append_right (Nat.le_refl _), Nat.sub_self] at e1
    rw [ej, List.getElem?_append_right (by rw [List.length_map, las]; omega), List.length_map, las, Nat.sub_self] at e2
    obtain rfl : l = a := Option.some.inj e1
    obtain rfl : vrow t = u := Option.some.inj e2
    rw [upd_ne (fun z => by rw [z, h1] at hl; cases hl), upd_same]
theorem rowPut {H6 H8 : Hp} {D1 l : Addr} {rs : Ts} {row : List Int} (s : Same H6 H8) (hD : H6 D1 = none) (tl : TabL H8 D1 (vts rs)) (hl : H8 l = none) (hr : rs.length ≤ 100) :
    ∃ acc, (upd H8 l (.tup (vrow row))) D1 = some (.lst acc) ∧ acc.length < sizeLine ∧ Same H6 (upd (upd H8 l (.tup (vrow row))) D1 (.lst (acc ++ [.ref l]))) ∧ TabL (upd (upd H8 l (.tup (vrow row))) D1 (.lst (acc ++ [.ref l]))) D1 (vts (rs ++ [row])) := by
  obtain ⟨as, a1, a2, a3⟩ := tl
  have las : as.length = rs.length := by rw [a2, vts, List.length_map]
  refine ⟨_, (same_new hl) _ _ a1, by rw [List.length_map, las, sizeLine_eq]; omega, fun c o e => ?_, tabL_snoc a1 a2 a3 hl⟩
  rw [upd_ne (ne_of_none e hD)]
  exact (same_new hl) _ _ (s _ _ e)
/-- a row that a comprehension makes -/
def Gp (H1 : Hp) (D : Addr) (g : Int → Int) (k : Nat) (H' : Hp) : Prop := Same H1 H' ∧ H' D = some (.lst (vrow (gL g k)))
theorem Gp.nil {H1 : Hp} {D : Addr} {g : Int → Int} (hD : H1 D = none) : Gp H1 D g 0 (upd H1 D (.lst [])) := ⟨same_new hD, upd_same⟩
theorem Gp.put {H1 H' : Hp} {D : Addr} {g : Int → Int} {k : Nat} {v : Int} (a : Gp H1 D g k H') (hD : H1 D = none) (hv : v = g (k : Int)) (hk : k < 1000) : ∃ acc, H' D = some (.lst acc) ∧ acc.length < sizeLine ∧ Gp H1 D g (k + 1) (upd H' D (.lst (acc ++ [.int v]))) := by
  obtain ⟨s, h⟩ := a
  refine ⟨_, h, by rw [vrow, List.length_map, gL_len, sizeLine_eq]; omega, fun c o e => ?_, ?_⟩
  · rw [upd_ne (ne_of_none e hD)]; exact s _ _ e
  · rw [upd_same, gL_succ, hv, vrow, vrow, List.map_append]; rfl
/-- the same, by a source that gives numbers below m -/
def Rg (b D : Addr) (H1 : Hp) (m : Int) (i : Nat) (H' : Hp) : Prop := ∃ ns : List Int, ns.length = i ∧ (∀ x ∈ ns, 0 ≤ x ∧ x < m) ∧ Bx b H1 H' ∧ H' D = some (.lst (vrow ns))
theorem Rg.nil {b D : Addr} {H1 : Hp} {m : Int} (hb : BoxO H1 b) (hD : H1 D = none) : Rg b D H1 m 0 (upd H1 D (.lst [])) := ⟨[], rfl, fun x hx => absurd hx (by simp), (Bx.refl hb).new hD, upd_same⟩
theorem Rg.box {b D : Addr} {H1 H' : Hp} {m : Int} {i : Nat} (g : Rg b D H1 m i H') : BoxO H' b := let ⟨_, _, _, a, _⟩ := g; a.1
theorem Rg.put {b D : Addr} {H1 H' H2 : Hp} {m x : Int} {i : Nat} (g : Rg b D H1 m i H') (hb : BoxO H1 b) (hD : H1 D = none) (a : Bx b H' H2) (hx : 0 ≤ x ∧ x < m) (hi : i < 1000) : ∃ acc, H2 D = some (.lst acc) ∧ acc.length < sizeLine ∧ Rg b D H1 m (i + 1) (upd H2 D (.lst (acc ++ [.int x]))) := by
  obtain ⟨ns, h1, h2, h3, h4⟩ := g
  have nD : D ≠ b := (Bx.refl hb).ne hD
  refine ⟨vrow ns, a.2 _ _ h4 nD, by rw [vrow, List.length_map, h1, sizeLine_eq]; omega, ns ++ [x], by rw [List.length_append, h1]; rfl, fun y hy => ?_, (h3.trans a).put hD nD, by rw [upd_same]; simp only [vrow, List.map_append]; rfl⟩
  rcases List.mem_append.mp hy with z | z
  · exact h2 y z
  · rw [List.mem_singleton.mp z]; exact hx
theorem inV_st {st : Int} (h : inV (.int st) [.int 0, .int 2, .int 3, .int 4] = true) : st = 0 ∨ st = 2 ∨ st = 3 ∨ st = 4 := by
  simp [inV, eqV] at h
  omega
theorem vrow_at {ns : List Int} {i : Nat} {x : V} (h : (vrow ns)[i]? = some x) : ∃ z, ns[i]? = some z ∧ x = V.int z := by
  rw [vrow, List.getElem?_map] at h
  cases e : ns[i]? with
  | none => rw [e] at h; cases h
  | some z => rw [e] at h; exact ⟨z, rfl, (Option.some.inj h).symm⟩
theorem pe_imp {X : Cx} {e : Expr} {t t' : TE} (h : PE X e t) (i : ∀ σ H Q, t' σ H Q → t σ H Q) : PE X e t' := ⟨fun pins s σ H Q I q => h.run pins s σ H Q I (i _ _ _ q)⟩
/-- how many deeds -/
def tCnt : TE := fun σ H Q => ∃ (b : Addr) (st n : Int), σ[0]? = some (some (.ref b)) ∧ σ[2]? = some (some (.int st)) ∧ σ[3]? = some (some (.int n)) ∧ BoxO H b ∧ ∀ (cnt : Int) H', 1 ≤ cnt → cnt ≤ 8 → Bx b H H' → Q (.int cnt) H'
def spTabs : Sp := fun vs H Q _ => ∃ (b : Addr), vs = [.ref b, .int 4] ∧ BoxO H b ∧ ∀ p ts H', Bx b H H' → H p = none → p ≠ b → TabL H' p (vts ts) → Wf ts → FewM ts → Q (.ref p) H'
section
variable {P : Program} {w : World} {K : PySem.W.Frag} {mg : Str → Option Value} {base : Heap}
abbrev nTb : List Str := ["_law_box_here", "_law_most", "_law_style", "_law_states", "_law_by", "_law_found", "_law_deed", "_law_other", "_law_s"]
theorem scTb : FnScope nTb ["_law_box_here", "_law_most"] (defScope sTabs) := ⟨rfl, rfl, rfl, by decide +kernel, rfl, by decide +kernel, by decide +kernel⟩
theorem ok_tabs {f fT fP : Addr} {fd fdT fdP : FuncData} (D : Df K mg "_law_tables" sTabs ["_law_box_here", "_law_most"] f fd) (DT : Df K mg "_law_take" sTake ["_law_box_here", "_law_many"] fT fdT) (DP : Df K mg "_law_pick" sPick ["_law_box_here", "_law_some"] fP fdP) (B : Bt mg)
    (GT : FnOk P w K mg base CX0 1 fT fdT ["_law_box_here", "_law_many"] spTake) (GP : FnOk P w K mg base CX0 2 fP fdP ["_law_box_here", "_law_some"] spPick) : FnOk P w K mg base CX0 3 f fd ["_law_box_here", "_law_most"] spTabs := by
  refine D.F.ok scTb (fun vs H Q E h => ?_) (fun cdv A outer s H vs Q E hr h => ?_)
  · obtain ⟨b, rfl, _⟩ := h
    rfl
  · obtain ⟨b, rfl, hb, q⟩ := h
    have r1 := hr.mono (show 1 ≤ 2 by decide)
    have r2 := hr
    refine ⟨_, pss_cons (ps_asg (pe_tup (pa_cons (pc DT GT r1 pass0 (pa_cons (pv 0) (pa_cons pe_int pa_nil))) (pa_cons (pe_op op_add pe_int (pc DT GT r1 pass0 (pa_cons (pv 0) (pa_cons (pv 1) pa_nil)))) pa_nil))) (pg_tup rfl (pgs_cons (pg_name (i := 2) scTb.nd rfl (.inl rfl)) (pgs_cons (pg_name (i := 3) scTb.nd rfl (.inr rfl)) pgs_nil))))
      (pss_cons (ps_if (PW.pt (pw_and (pt_cmpR op_in_seq (pv 2) (pe_tup (pa_cons pe_int (pa_cons pe_int (pa_cons pe_int (pa_cons pe_int pa_nil))))) rfl) (pw_and1 (pt_cmpR op_eq (pc DT GT r1 pass0 (pa_cons (pv 0) (pa_cons pe_int pa_nil))) pe_int (nomark _))))) (pss_one (ps_set (i := 3) scTb.nd rfl (.inr rfl) (pe_op op_add pe_int (pc DT GT r1 pass0 (pa_cons (pv 0) (pa_cons pe_int pa_nil)))))) pss_nil)
      (pss_cons (ps_if (pt_cmpR op_eq (pv 2) pe_int (nomark _)) (pss_one (ps_ret (pe_lc (own := [("_law_by", 4)]) (g := gName 4) (tt := tYes) rfl scTb.nd (pi_list (pc DP GP r2 pass0 (pa_cons (pv 0) (pa_cons (pe_lst (pa_cons (pe_lst (pa_cons pe_int pa_nil)) (pa_cons (pe_lst (pa_cons pe_int (pa_cons pe_int pa_nil))) (pa_cons (pe_lst (pa_cons pe_int (pa_cons pe_int pa_nil))) (pa_cons (pe_lst (pa_cons pe_int (pa_cons pe_int pa_nil))) pa_nil))))) pa_nil)))) (blkOk_by (N := nTb) (sc := defScope sTabs) (by decide +kernel)) (fun _ _ _ _ _ => pg_name (i := 4) scTb.nd rfl (Or.inr rfl)) (fun _ _ _ _ _ => pts_nil)
            (fun _ _ _ _ _ => pe_callTy (ctup (K := K) rfl) (by rfl) B.tuple PyProof.Rows.boot_tuple (pa_cons (pe_lc (own := [("_law_s", 8)]) (g := gName 8) (tt := tYes) rfl scTb.nd (pi_range1 (by rfl) B.range (pa_cons (pv 3) pa_nil)) (blkOk_by (by rfl)) (fun _ _ _ _ _ => pg_name (i := 8) scTb.nd rfl (Or.inl rfl)) (fun _ _ _ _ _ => pts_nil)
              (fun _ _ _ _ _ => pe_op op_mod (pe_callTy call_int1 (by rfl) B.int PyProof.Rows.boot_int (pa_cons (pe_op op_add (pv 8) (pv 4)) pa_nil)) (pv 3))) pa_nil))))) pss_nil)
      (pss_cons (ps_if (PW.pt (pw_and (pt_cmpR op_eq (pv 2) pe_int (nomark _)) (pw_and1 (pt_cmpR op_ge (pv 1) pe_int (nomark _))))) (pss_one (ps_ret (pc DP GP r2 pass0 (pa_cons (pv 0) (pa_cons (pe_lst (pa_cons (pe_lst (pa_cons (pe_tup (pa_cons pe_int (pa_cons pe_int (pa_cons pe_int (pa_cons pe_int pa_nil))))) (pa_cons (pe_tup (pa_cons pe_int (pa_cons pe_int (pa_cons pe_int (pa_cons pe_int pa_nil))))) pa_nil))) (pa_cons (pe_lst (pa_cons (pe_tup (pa_cons pe_int (pa_cons pe_int (pa_cons pe_int (pa_cons pe_int pa_nil))))) (pa_cons (pe_tup (pa_cons pe_int (pa_cons pe_int (pa_cons pe_int (pa_cons pe_int pa_nil))))) pa_nil))) (pa_cons (pe_lst (pa_cons (pe_tup (pa_cons pe_int (pa_cons pe_int (pa_cons pe_int (pa_cons pe_int pa_nil))))) (pa_cons (pe_tup (pa_cons pe_int (pa_cons pe_int (pa_cons pe_int (pa_cons pe_int pa_nil))))) pa_nil))) (pa_cons (pe_lst (pa_cons (pe_tup (pa_cons pe_int (pa_cons pe_int (pa_cons pe_int (pa_cons pe_int pa_nil))))) (pa_cons (pe_tup (pa_cons pe_int (pa_cons pe_int (pa_cons pe_int (pa_cons pe_int pa_nil))))) pa_nil))) pa_nil))))) pa_nil))))) pss_nil)
      (pss_cons (ps_if (pt_cmpR op_eq (pv 2) pe_int (nomark _)) (pss_one (ps_ret (pe_lc (own := [("_law_by", 4)]) (g := gName 4) (tt := tYes) rfl scTb.nd (pi_tup (pe_tup (pa_cons pe_int (pa_cons (pe_op op_add pe_int (pc DT GT r1 pass0 (pa_cons (pv 0) (pa_cons pe_int pa_nil)))) pa_nil)))) (blkOk_by (N := nTb) (sc := defScope sTabs) (by decide +kernel)) (fun _ _ _ _ _ => pg_name (i := 4) scTb.nd rfl (Or.inr rfl)) (fun _ _ _ _ _ => pts_nil)
            (fun _ _ _ _ _ => pe_callTy (ctup (K := K) rfl) (by rfl) B.tuple PyProof.Rows.boot_tuple (pa_cons (pe_lc (own := [("_law_s", 8)]) (g := gName 8) (tt := tYes) rfl scTb.nd (pi_range1 (by rfl) B.range (pa_cons (pv 3) pa_nil)) (blkOk_by (by rfl)) (fun _ _ _ _ _ => pg_name (i := 8) scTb.nd rfl (Or.inl rfl)) (fun _ _ _ _ _ => pts_nil)
              (fun _ _ _ _ _ => pe_callB (call_min2 rfl) (by rfl) B.min (by decide +kernel) (pa_cons (pe_op op_sub (pv 3) pe_int) (pa_cons (pe_op op_add (pv 8) (pv 4)) pa_nil)))) pa_nil))))) pss_nil)
      (pss_cons (ps_if (pt_cmpR op_eq (pv 2) pe_int (nomark _)) (pss_one (ps_ret (pe_lc (own := [("_law_by", 4)]) (g := gName 4) (tt := tYes) rfl scTb.nd (pi_range1 (by rfl) B.range (pa_cons (pe_callB (call_min2 rfl) (by rfl) B.min (by decide +kernel) (pa_cons (pv 3) (pa_cons pe_int pa_nil))) pa_nil)) (blkOk_by (N := nTb) (sc := defScope sTabs) (by decide +kernel)) (fun _ _ _ _ _ => pg_name (i := 4) scTb.nd rfl (Or.inr rfl)) (fun _ _ _ _ _ => pts_nil)
            (fun _ _ _ _ _ => pe_callTy (ctup (K := K) rfl) (by rfl) B.tuple PyProof.Rows.boot_tuple (pa_cons (pe_lc (own := [("_law_s", 8)]) (g := gName 8) (tt := tYes) rfl scTb.nd (pi_range1 (by rfl) B.range (pa_cons (pv 3) pa_nil)) (blkOk_by (by rfl)) (fun _ _ _ _ _ => pg_name (i := 8) scTb.nd rfl (Or.inl rfl)) (fun _ _ _ _ _ => pts_nil)
              (fun _ _ _ _ _ => pe_callB (call_max2 rfl) (by rfl) B.max (by decide +kernel) (pa_cons (pv 8) (pa_cons (pv 4) pa_nil)))) pa_nil))))) pss_nil)
      (pss_cons (ps_set (i := 5) scTb.nd rfl (.inl rfl) (pe_lst pa_nil))
      (pss_cons (ps_for PassesOwn.never rfl (pi_range1 (by rfl) B.range (pa_cons (pe_imp (t' := tCnt) (pe_ifExp (PW.pt (pw_and (pt_cmpR op_eq (pv 2) pe_int (nomark _)) (pw_and1 (pt_cmpR op_gt (pv 3) pe_int (nomark _))))) pe_int (pe_op op_add pe_int (pc DT GT r1 pass0 (pa_cons (pv 0) (pa_cons pe_int pa_nil))))) (fun σ H Q ⟨b, st, n, h0, h2, h3, bo, q⟩ => ⟨_, h2, rfl, _, rfl, ifD (fun _ => ⟨_, h3, _, _, rfl, rfl, _, rfl, ifD (fun _ => q 8 H (by decide) (by decide) (Bx.refl bo)) fun _ => ⟨_, h0, b, 2, rfl, bo, by decide, by decide, fun u H6 u0 u1 bx6 => ⟨_, _, rfl, rfl, q (1 + u) H6 (by omega) (by omega) bx6⟩⟩⟩) fun _ => iteF ⟨_, h0, b, 2, rfl, bo, by decide, by decide, fun u H6 u0 u1 bx6 => ⟨_, _, rfl, rfl, q (1 + u) H6 (by omega) (by omega) bx6⟩⟩⟩)) pa_nil)) (pg_name (i := 6) scTb.nd rfl (.inl rfl))
        (pss_cons (ps_asg (pe_tup (pa_cons (pc DT GT r1 pass0 (pa_cons (pv 0) (pa_cons (pv 3) pa_nil))) (pa_cons (pc DT GT r1 pass0 (pa_cons (pv 0) (pa_cons (pv 3) pa_nil))) pa_nil))) (pg_tup rfl (pgs_cons (pg_name (i := 4) scTb.nd rfl (.inr rfl)) (pgs_cons (pg_name (i := 7) scTb.nd rfl (.inr rfl)) pgs_nil))))
        (pss_one (ps_if (pt_cmpR op_eq (pv 2) pe_int (nomark _)) (pss_one (ps_expr (pe_bm PySem.F.plainAttrs_list PySem.F.slot_list_append PySem.F.type_list_append mt_append (pv 5) (pa_cons (pe_callTy call_tuple_of (by rfl) B.tuple PyProof.Rows.boot_tuple (pa_cons (pe_lc (own := [("_law_s", 8)]) (g := gName 8) (tt := tYes) rfl scTb.nd (pi_range1 (by rfl) B.range (pa_cons (pv 3) pa_nil)) (blkOk_by (N := nTb) (sc := defScope sTabs) (by decide +kernel)) (fun _ _ _ _ _ => pg_name (i := 8) scTb.nd rfl (Or.inl rfl)) (fun _ _ _ _ _ => pts_nil)
              (fun _ _ _ _ _ => pv 4)) pa_nil)) pa_nil)))) (pss_one (ps_if (pt_cmpR op_eq (pv 2) pe_int (nomark _)) (pss_one (ps_expr (pe_bm PySem.F.plainAttrs_list PySem.F.slot_list_append PySem.F.type_list_append mt_append (pv 5) (pa_cons (pe_callTy call_tuple_of (by rfl) B.tuple PyProof.Rows.boot_tuple (pa_cons (pe_lc (own := [("_law_s", 8)]) (g := gName 8) (tt := tYes) rfl scTb.nd (pi_range1 (by rfl) B.range (pa_cons (pv 3) pa_nil)) (blkOk_by (N := nTb) (sc := defScope sTabs) (by decide +kernel)) (fun _ _ _ _ _ => pg_name (i := 8) scTb.nd rfl (Or.inl rfl)) (fun _ _ _ _ _ => pts_nil)
              (fun _ _ _ _ _ => pe_ifExp (pt_cmpR op_eq (pv 8) (pv 4) (nomark _)) (pv 7) (pe_ifExp (pt_cmpR op_eq (pv 8) (pv 7) (nomark _)) (pv 4) (pv 8)))) pa_nil)) pa_nil)))) (pss_one (ps_expr (pe_bm PySem.F.plainAttrs_list PySem.F.slot_list_append PySem.F.type_list_append mt_append (pv 5) (pa_cons (pe_callTy call_tuple_of (by rfl) B.tuple PyProof.Rows.boot_tuple (pa_cons (pe_lc (own := [("_law_s", 8)]) (g := gName 8) (tt := tYes) rfl scTb.nd (pi_range1 (by rfl) B.range (pa_cons (pv 3) pa_nil)) (blkOk_by (N := nTb) (sc := defScope sTabs) (by decide +kernel)) (fun _ _ _ _ _ => pg_name (i := 8) scTb.nd rfl (Or.inl rfl)) (fun _ _ _ _ _ => pts_nil)
              (fun _ _ _ _ _ => pc DT GT r1 pass0 (pa_cons (pv 0) (pa_cons (pv 3) pa_nil)))) pa_nil)) pa_nil))))))))))
      (pss_one (ps_ret (pv 5)))))))))), ?_⟩
    refine ⟨_, rfl, b, 8, rfl, hb, by decide, by decide, fun st H1 st0 st1 bx1 => ?_⟩
    refine ⟨_, rfl, _, rfl, b, 4, rfl, bx1.1, by decide, by decide, fun y H2 y0 y1 bx2 => ⟨_, _, rfl, rfl, (by show 2 ≤ sizeLine; decide), fun T hT => ⟨T, _, rfl, SqT.of upd_same, rfl, _, _, rfl, _, _, rfl, rfl, ?_⟩⟩⟩
    have bx3 := (bx1.trans bx2).new (o := HO.tup [.int st, .int (1 + y)]) hT
    generalize upd H2 T (.tup [.int st, .int (1 + y)]) = H3 at bx3 ⊢
    -- how many states
    dsimp only
    refine seqG (fun σ H' => ∃ n : Nat, σ = [some (.ref b), some (.int 4), some (.int st), some (.int (n : Int)), none, none, none, none, none] ∧ Bx b H H' ∧ 1 ≤ n ∧ n ≤ 12 ∧ (n ≤ 4 ∨ st = 0 ∨ st = 2 ∨ st = 3 ∨ st = 4)) ?_ (fun k => ?_)
    · rintro σ H4 ⟨n, rfl, bx4, n1, n12, hst⟩
      have mk : ∀ (bys : List Int) (G : Int → Int → Int), 1 ≤ bys.length → bys.length ≤ 8 → (∀ b ∈ bys, ∀ s : Int, 0 ≤ s → s < (n : Int) → 0 ≤ G b s ∧ G b s < (n : Int)) → Gen (bys.map fun b => gL (G b) n) n bys G := fun bys G h1 h8 hr => ⟨rfl, h1, h8, n1, n12, hr⟩
      refine ⟨_, rfl, rfl, _, rfl, ifD (fun e => ?_) fun e => ?_⟩
      · -- turns
        refine ⟨_, rfl, (by show 1 ≤ sizeLine; decide), fun l0 hl0 => ⟨(by show 2 ≤ sizeLine; decide), fun l1 hl1 => ⟨(by show 2 ≤ sizeLine; decide), fun l2 hl2 => ⟨(by show 2 ≤ sizeLine; decide), fun l3 hl3 => ⟨(by show 4 ≤ sizeLine; decide), fun lo hlo => ?_⟩⟩⟩⟩⟩
        have b0 := bx4
        have nl0 : l0 ≠ b := b0.ne hl0
        have b1 := b0.new (o := HO.lst [.int 1]) hl0
        have nl1 : l1 ≠ b := b1.ne hl1
        have b2 := b1.new (o := HO.lst [.int 1, .int 2]) hl1
        have nl2 : l2 ≠ b := b2.ne hl2
        have b3 := b2.new (o := HO.lst [.int 2, .int 3]) hl2
        have nl3 : l3 ≠ b := b3.ne hl3
        have b4 := b3.new (o := HO.lst [.int 1, .int 1]) hl3
        have nlo : lo ≠ b := b4.ne hlo
        have b5 := b4.new (o := HO.lst [.ref l0, .ref l1, .ref l2, .ref l3]) hlo
        have gl0 := ((same_new (o := HO.lst [.ref l0, .ref l1, .ref l2, .ref l3]) hlo) _ _ ((same_new (o := HO.lst [.int 1, .int 1]) hl3) _ _ ((same_new (o := HO.lst [.int 2, .int 3]) hl2) _ _ ((same_new (o := HO.lst [.int 1, .int 2]) hl1) _ _ (upd_same : (upd H4 l0 (.lst [.int 1])) l0 = some (.lst [.int 1]))))))
        have gl1 := ((same_new (o := HO.lst [.ref l0, .ref l1, .ref l2, .ref l3]) hlo) _ _ ((same_new (o := HO.lst [.int 1, .int 1]) hl3) _ _ ((same_new (o := HO.lst [.int 2, .int 3]) hl2) _ _ (upd_same : (upd (upd H4 l0 (.lst [.int 1])) l1 (.lst [.int 1, .int 2])) l1 = some (.lst [.int 1, .int 2])))))
        have gl2 := ((same_new (o := HO.lst [.ref l0, .ref l1, .ref l2, .ref l3]) hlo) _ _ ((same_new (o := HO.lst [.int 1, .int 1]) hl3) _ _ (upd_same : (upd (upd (upd H4 l0 (.lst [.int 1])) l1 (.lst [.int 1, .int 2])) l2 (.lst [.int 2, .int 3])) l2 = some (.lst [.int 2, .int 3]))))
        have gl3 := ((same_new (o := HO.lst [.ref l0, .ref l1, .ref l2, .ref l3]) hlo) _ _ (upd_same : (upd (upd (upd (upd H4 l0 (.lst [.int 1])) l1 (.lst [.int 1, .int 2])) l2 (.lst [.int 2, .int 3])) l3 (.lst [.int 1, .int 1])) l3 = some (.lst [.int 1, .int 1])))
        have glo := (upd_same : (upd (upd (upd (upd (upd H4 l0 (.lst [.int 1])) l1 (.lst [.int 1, .int 2])) l2 (.lst [.int 2, .int 3])) l3 (.lst [.int 1, .int 1])) lo (.lst [.ref l0, .ref l1, .ref l2, .ref l3])) lo = some (.lst [.ref l0, .ref l1, .ref l2, .ref l3]))
        generalize upd (upd (upd (upd (upd H4 l0 (.lst [.int 1])) l1 (.lst [.int 1, .int 2])) l2 (.lst [.int 2, .int 3])) l3 (.lst [.int 1, .int 1])) lo (.lst [.ref l0, .ref l1, .ref l2, .ref l3]) = H9 at b5 gl0 gl1 gl2 gl3 glo ⊢
        refine ⟨b, lo, _, rfl, b5.1, glo, nlo, (by decide : 1 ≤ 4), (by decide : 4 ≤ 1000), fun i v H6 hv bx6 => ?_⟩
        obtain ⟨lb, bys, rfl, hlb, c1, c2⟩ : ∃ (lb : Addr) (bys : List Int), v = .ref lb ∧ H6 lb = some (.lst (vrow bys)) ∧ 1 ≤ bys.length ∧ bys.length ≤ 2 := by
          match i, hv with
          | 0, hv => cases hv; exact ⟨l0, [1], rfl, bx6.2 _ _ gl0 nl0, by decide, by decide⟩
          | 1, hv => cases hv; exact ⟨l1, [1, 2], rfl, bx6.2 _ _ gl1 nl1, by decide, by decide⟩
          | 2, hv => cases hv; exact ⟨l2, [2, 3], rfl, bx6.2 _ _ gl2 nl2, by decide, by decide⟩
          | 3, hv => cases hv; exact ⟨l3, [1, 1], rfl, bx6.2 _ _ gl3 nl3, by decide, by decide⟩
          | i + 4, hv => cases hv
        have bxA := b5.trans bx6
        have gen := mk bys (fun b s => (s + b) % (n : Int)) c1 (by omega) (fun b _ s s0 s1 => ⟨Int.emod_nonneg _ (by omega), Int.emod_lt_of_pos _ (by omega)⟩)
        refine ⟨lb, rfl, ⟨_, SqL.of hlb⟩, fun D1 hD1 => lc_list (K := K) (a := lb) (xs := vrow bys) (fun i H' => Same H6 H' ∧ TabL H' D1 (vts ((bys.take i).map fun b => gL ((fun b s => (s + b) % (n : Int)) b) n))) ⟨same_new hD1, [], upd_same, rfl, fun i a t h => by cases h⟩ (fun i H' _ ⟨s, _⟩ => SqL.of (s _ _ hlb)) ?_ ?_⟩
        · rintro i x H7 hx ⟨s7, tl⟩
          obtain ⟨z, hz, rfl⟩ := vrow_at hx
          have hil : i < bys.length := (List.getElem?_eq_some_iff.mp hz).1
          refine ⟨rfl, _, rfl, (n : Int), rfl, by omega, by omega, fun D2 hD2 => lc_range (Gp H7 D2 (fun s => (s + z) % (n : Int))) (Gp.nil hD2) ?_ ?_⟩
          · rintro k H8 hk g
            exact ⟨rfl, _, rfl, _, rfl, _, _, rfl, rfl, .inl ⟨_, rfl, _, rfl, _, _, rfl, rfl, by omega, g.put hD2 (by show (0 + (k : Int) + z) % (n : Int) = ((k : Int) + z) % (n : Int); rw [Int.zero_add]) (by omega)⟩⟩
          · rintro H8 ⟨s8, hD8⟩
            refine ⟨D2, _, rfl, .inl ⟨SqL.of hD8, fun l hl => ?_⟩⟩
            have tl8 := tl.same s8
            have e8 : ((n : Int)).toNat = n := by omega
            rw [e8]
            obtain ⟨acc, a1, a2, a3, a4⟩ := rowPut (row := gL (fun s => (s + z) % (n : Int)) n) (s7.trans s8) hD1 tl8 hl (by rw [List.length_map, List.length_take]; omega)
            refine ⟨acc, a1, a2, a3, ?_⟩
            rw [take_succ hz, List.map_append]
            exact a4
        · rintro H7 ⟨s7, tl⟩
          rw [vrow, List.length_map, List.take_length] at tl
          exact q D1 _ H7 (bxA.same s7) (bxA.free (bxA.ne hD1) hD1) (bxA.ne hD1) tl gen.wf (few_turn gen)
      · refine ⟨_, rfl, rfl, _, rfl, ifD (fun e1 => ⟨_, rfl, _, _, rfl, rfl, _, rfl, iteT ?_⟩) fun e1 => iteF ?_⟩
        · -- told ones
          have bk0 := bx4
          generalize H4 = K0 at bk0 ⊢
          clear mk
          refine ⟨_, rfl, ?_⟩
          refine ⟨(by show 4 ≤ sizeLine; decide), fun a0 ha0 => ?_⟩
          have sa0 : Same K0 (upd K0 a0 (.tup [.int 1, .int 1, .int 3, .int 3])) := same_new ha0
          have ga0 : (upd K0 a0 (.tup [.int 1, .int 1, .int 3, .int 3])) a0 = some (.tup [.int 1, .int 1, .int 3, .int 3]) := upd_same
          generalize upd K0 a0 (.tup [.int 1, .int 1, .int 3, .int 3]) = K1 at sa0 ga0 ⊢
          have bk1 := bk0.same sa0
          refine ⟨(by show 4 ≤ sizeLine; decide), fun b0 hb0 => ?_⟩
          have sb0 : Same K1 (upd K1 b0 (.tup [.int 2, .int 3, .int 2, .int 3])) := same_new hb0
          have gb0 : (upd K1 b0 (.tup [.int 2, .int 3, .int 2, .int 3])) b0 = some (.tup [.int 2, .int 3, .int 2, .int 3]) := upd_same
          generalize upd K1 b0 (.tup [.int 2, .int 3, .int 2, .int 3]) = K2 at sb0 gb0 ⊢
          replace ga0 := sb0 _ _ ga0
          have bk2 := bk1.same sb0
          refine ⟨(by show 2 ≤ sizeLine; decide), fun l0 hl0 => ?_⟩
          have sl0 : Same K2 (upd K2 l0 (.lst [.ref a0, .ref b0])) := same_new hl0
          have gl0 : (upd K2 l0 (.lst [.ref a0, .ref b0])) l0 = some (.lst [.ref a0, .ref b0]) := upd_same
          generalize upd K2 l0 (.lst [.ref a0, .ref b0]) = K3 at sl0 gl0 ⊢
          replace ga0 := sl0 _ _ ga0
          replace gb0 := sl0 _ _ gb0
          have nl0 : l0 ≠ b := bk2.ne hl0
          have fl0 : H l0 = none := bk2.free nl0 hl0
          have bk3 := bk2.same sl0
          refine ⟨(by show 4 ≤ sizeLine; decide), fun a1 ha1 => ?_⟩
          have sa1 : Same K3 (upd K3 a1 (.tup [.int 1, .int 0, .int 3, .int 2])) := same_new ha1
          have ga1 : (upd K3 a1 (.tup [.int 1, .int 0, .int 3, .int 2])) a1 = some (.tup [.int 1, .int 0, .int 3, .int 2]) := upd_same
          generalize upd K3 a1 (.tup [.int 1, .int 0, .int 3, .int 2]) = K4 at sa1 ga1 ⊢
          replace ga0 := sa1 _ _ ga0
          replace gb0 := sa1 _ _ gb0
          replace gl0 := sa1 _ _ gl0
          have bk4 := bk3.same sa1
          refine ⟨(by show 4 ≤ sizeLine; decide), fun b1 hb1 => ?_⟩
          have sb1 : Same K4 (upd K4 b1 (.tup [.int 2, .int 3, .int 0, .int 1])) := same_new hb1
          have gb1 : (upd K4 b1 (.tup [.int 2, .int 3, .int 0, .int 1])) b1 = some (.tup [.int 2, .int 3, .int 0, .int 1]) := upd_same
          generalize upd K4 b1 (.tup [.int 2, .int 3, .int 0, .int 1]) = K5 at sb1 gb1 ⊢
          replace ga0 := sb1 _ _ ga0
          replace gb0 := sb1 _ _ gb0
          replace gl0 := sb1 _ _ gl0
          replace ga1 := sb1 _ _ ga1
          have bk5 := bk4.same sb1
          refine ⟨(by show 2 ≤ sizeLine; decide), fun l1 hl1 => ?_⟩
          have sl1 : Same K5 (upd K5 l1 (.lst [.ref a1, .ref b1])) := same_new hl1
          have gl1 : (upd K5 l1 (.lst [.ref a1, .ref b1])) l1 = some (.lst [.ref a1, .ref b1]) := upd_same
          generalize upd K5 l1 (.lst [.ref a1, .ref b1]) = K6 at sl1 gl1 ⊢
          replace ga0 := sl1 _ _ ga0
          replace gb0 := sl1 _ _ gb0
          replace gl0 := sl1 _ _ gl0
          replace ga1 := sl1 _ _ ga1
          replace gb1 := sl1 _ _ gb1
          have nl1 : l1 ≠ b := bk5.ne hl1
          have fl1 : H l1 = none := bk5.free nl1 hl1
          have bk6 := bk5.same sl1
          refine ⟨(by show 4 ≤ sizeLine; decide), fun a2 ha2 => ?_⟩
          have sa2 : Same K6 (upd K6 a2 (.tup [.int 1, .int 2, .int 3, .int 0])) := same_new ha2
          have ga2 : (upd K6 a2 (.tup [.int 1, .int 2, .int 3, .int 0])) a2 = some (.tup [.int 1, .int 2, .int 3, .int 0]) := upd_same
          generalize upd K6 a2 (.tup [.int 1, .int 2, .int 3, .int 0]) = K7 at sa2 ga2 ⊢
          replace ga0 := sa2 _ _ ga0
          replace gb0 := sa2 _ _ gb0
          replace gl0 := sa2 _ _ gl0
          replace ga1 := sa2 _ _ ga1
          replace gb1 := sa2 _ _ gb1
          replace gl1 := sa2 _ _ gl1
          have bk7 := bk6.same sa2
          refine ⟨(by show 4 ≤ sizeLine; decide), fun b2 hb2 => ?_⟩
          have sb2 : Same K7 (upd K7 b2 (.tup [.int 3, .int 2, .int 1, .int 0])) := same_new hb2
          have gb2 : (upd K7 b2 (.tup [.int 3, .int 2, .int 1, .int 0])) b2 = some (.tup [.int 3, .int 2, .int 1, .int 0]) := upd_same
          generalize upd K7 b2 (.tup [.int 3, .int 2, .int 1, .int 0]) = K8 at sb2 gb2 ⊢
          replace ga0 := sb2 _ _ ga0
          replace gb0 := sb2 _ _ gb0
          replace gl0 := sb2 _ _ gl0
          replace ga1 := sb2 _ _ ga1
          replace gb1 := sb2 _ _ gb1
          replace gl1 := sb2 _ _ gl1
          replace ga2 := sb2 _ _ ga2
          have bk8 := bk7.same sb2
          refine ⟨(by show 2 ≤ sizeLine; decide), fun l2 hl2 => ?_⟩
          have sl2 : Same K8 (upd K8 l2 (.lst [.ref a2, .ref b2])) := same_new hl2
          have gl2 : (upd K8 l2 (.lst [.ref a2, .ref b2])) l2 = some (.lst [.ref a2, .ref b2]) := upd_same
          generalize upd K8 l2 (.lst [.ref a2, .ref b2]) = K9 at sl2 gl2 ⊢
          replace ga0 := sl2 _ _ ga0
          replace gb0 := sl2 _ _ gb0
          replace gl0 := sl2 _ _ gl0
          replace ga1 := sl2 _ _ ga1
          replace gb1 := sl2 _ _ gb1
          replace gl1 := sl2 _ _ gl1
          replace ga2 := sl2 _ _ ga2
          replace gb2 := sl2 _ _ gb2
          have nl2 : l2 ≠ b := bk8.ne hl2
          have fl2 : H l2 = none := bk8.free nl2 hl2
          have bk9 := bk8.same sl2
          refine ⟨(by show 4 ≤ sizeLine; decide), fun a3 ha3 => ?_⟩
          have sa3 : Same K9 (upd K9 a3 (.tup [.int 1, .int 2, .int 3, .int 3])) := same_new ha3
          have ga3 : (upd K9 a3 (.tup [.int 1, .int 2, .int 3, .int 3])) a3 = some (.tup [.int 1, .int 2, .int 3, .int 3]) := upd_same
          generalize upd K9 a3 (.tup [.int 1, .int 2, .int 3, .int 3]) = K10 at sa3 ga3 ⊢
          replace ga0 := sa3 _ _ ga0
          replace gb0 := sa3 _ _ gb0
          replace gl0 := sa3 _ _ gl0
          replace ga1 := sa3 _ _ ga1
          replace gb1 := sa3 _ _ gb1
          replace gl1 := sa3 _ _ gl1
          replace ga2 := sa3 _ _ ga2
          replace gb2 := sa3 _ _ gb2
          replace gl2 := sa3 _ _ gl2
          have bk10 := bk9.same sa3
          refine ⟨(by show 4 ≤ sizeLine; decide), fun b3 hb3 => ?_⟩
          have sb3 : Same K10 (upd K10 b3 (.tup [.int 2, .int 3, .int 3, .int 3])) := same_new hb3
          have gb3 : (upd K10 b3 (.tup [.int 2, .int 3, .int 3, .int 3])) b3 = some (.tup [.int 2, .int 3, .int 3, .int 3]) := upd_same
          generalize upd K10 b3 (.tup [.int 2, .int 3, .int 3, .int 3]) = K11 at sb3 gb3 ⊢
          replace ga0 := sb3 _ _ ga0
          replace gb0 := sb3 _ _ gb0
          replace gl0 := sb3 _ _ gl0
          replace ga1 := sb3 _ _ ga1
          replace gb1 := sb3 _ _ gb1
          replace gl1 := sb3 _ _ gl1
          replace ga2 := sb3 _ _ ga2
          replace gb2 := sb3 _ _ gb2
          replace gl2 := sb3 _ _ gl2
          replace ga3 := sb3 _ _ ga3
          have bk11 := bk10.same sb3
          refine ⟨(by show 2 ≤ sizeLine; decide), fun l3 hl3 => ?_⟩
          have sl3 : Same K11 (upd K11 l3 (.lst [.ref a3, .ref b3])) := same_new hl3
          have gl3 : (upd K11 l3 (.lst [.ref a3, .ref b3])) l3 = some (.lst [.ref a3, .ref b3]) := upd_same
          generalize upd K11 l3 (.lst [.ref a3, .ref b3]) = K12 at sl3 gl3 ⊢
          replace ga0 := sl3 _ _ ga0
          replace gb0 := sl3 _ _ gb0
          replace gl0 := sl3 _ _ gl0
          replace ga1 := sl3 _ _ ga1
          replace gb1 := sl3 _ _ gb1
          replace gl1 := sl3 _ _ gl1
          replace ga2 := sl3 _ _ ga2
          replace gb2 := sl3 _ _ gb2
          replace gl2 := sl3 _ _ gl2
          replace ga3 := sl3 _ _ ga3
          replace gb3 := sl3 _ _ gb3
          have nl3 : l3 ≠ b := bk11.ne hl3
          have fl3 : H l3 = none := bk11.free nl3 hl3
          have bk12 := bk11.same sl3
          refine ⟨(by show 4 ≤ sizeLine; decide), fun lo hlo => ?_⟩
          have slo : Same K12 (upd K12 lo (.lst [.ref l0, .ref l1, .ref l2, .ref l3])) := same_new hlo
          have glo : (upd K12 lo (.lst [.ref l0, .ref l1, .ref l2, .ref l3])) lo = some (.lst [.ref l0, .ref l1, .ref l2, .ref l3]) := upd_same
          generalize upd K12 lo (.lst [.ref l0, .ref l1, .ref l2, .ref l3]) = K13 at slo glo ⊢
          replace ga0 := slo _ _ ga0
          replace gb0 := slo _ _ gb0
          replace gl0 := slo _ _ gl0
          replace ga1 := slo _ _ ga1
          replace gb1 := slo _ _ gb1
          replace gl1 := slo _ _ gl1
          replace ga2 := slo _ _ ga2
          replace gb2 := slo _ _ gb2
          replace gl2 := slo _ _ gl2
          replace ga3 := slo _ _ ga3
          replace gb3 := slo _ _ gb3
          replace gl3 := slo _ _ gl3
          have nlo : lo ≠ b := bk12.ne hlo
          have bk13 := bk12.same slo
          refine ⟨b, lo, _, rfl, bk13.1, glo, nlo, (by decide : 1 ≤ 4), (by decide : 4 ≤ 1000), fun i v K' hv bx => ?_⟩
          have two : ∀ (x y : Addr) (r u : List Int), K13 x = some (.tup (vrow r)) → K13 y = some (.tup (vrow u)) → ∀ (i : Nat) a t, ([x, y] : List Addr)[i]? = some a → (vts [r, u])[i]? = some t → K' a = some (.tup t) := fun x y r u hx hy i a t e1 e2 => by
            match i, e1, e2 with
            | 0, e1, e2 => cases e1; cases e2; exact bx.tup bk13.1 hx
            | 1, e1, e2 => cases e1; cases e2; exact bx.tup bk13.1 hy
            | i + 2, e1, _ => cases e1
          match i, hv with
          | 0, hv =>
            cases hv
            have w : Wf [[1, 1, 3, 3], [2, 3, 2, 3]] := ⟨by decide, by decide, by decide, by decide, by decide⟩
            exact q l0 [[1, 1, 3, 3], [2, 3, 2, 3]] K' (bk13.trans bx) fl0 nl0 ⟨[a0, b0], bx.2 _ _ gl0 nl0, rfl, two _ _ [1, 1, 3, 3] [2, 3, 2, 3] ga0 gb0⟩ w (few_small w (by decide))
          | 1, hv =>
            cases hv
            have w : Wf [[1, 0, 3, 2], [2, 3, 0, 1]] := ⟨by decide, by decide, by decide, by decide, by decide⟩
            exact q l1 [[1, 0, 3, 2], [2, 3, 0, 1]] K' (bk13.trans bx) fl1 nl1 ⟨[a1, b1], bx.2 _ _ gl1 nl1, rfl, two _ _ [1, 0, 3, 2] [2, 3, 0, 1] ga1 gb1⟩ w (few_small w (by decide))
          | 2, hv =>
            cases hv
            have w : Wf [[1, 2, 3, 0], [3, 2, 1, 0]] := ⟨by decide, by decide, by decide, by decide, by decide⟩
            exact q l2 [[1, 2, 3, 0], [3, 2, 1, 0]] K' (bk13.trans bx) fl2 nl2 ⟨[a2, b2], bx.2 _ _ gl2 nl2, rfl, two _ _ [1, 2, 3, 0] [3, 2, 1, 0] ga2 gb2⟩ w (few_small w (by decide))
          | 3, hv =>
            cases hv
            have w : Wf [[1, 2, 3, 3], [2, 3, 3, 3]] := ⟨by decide, by decide, by decide, by decide, by decide⟩
            exact q l3 [[1, 2, 3, 3], [2, 3, 3, 3]] K' (bk13.trans bx) fl3 nl3 ⟨[a3, b3], bx.2 _ _ gl3 nl3, rfl, two _ _ [1, 2, 3, 3] [2, 3, 3, 3] ga3 gb3⟩ w (few_small w (by decide))
          | i + 4, hv => cases hv
        · refine ⟨_, rfl, rfl, _, rfl, ifD (fun e2 => ?_) fun e2 => ?_⟩
          · -- stops
            refine ⟨_, rfl, b, 2, rfl, bx4.1, by decide, by decide, fun u H5 u0 u1 bx5 => ⟨_, _, rfl, rfl, (by show 2 ≤ sizeLine; decide), fun lb hlb0 => ?_⟩⟩
            have bxA := (bx4.trans bx5).new (o := HO.tup [.int 1, .int (1 + u)]) hlb0
            have hlb : (upd H5 lb (.tup [.int 1, .int (1 + u)])) lb = some (.tup [.int 1, .int (1 + u)]) := upd_same
            have bpos : ∀ b ∈ ([1, 1 + u] : List Int), 0 ≤ b := fun b hb => by
              simp only [List.mem_cons, List.mem_nil_iff, or_false] at hb
              rcases hb with rfl | rfl <;> omega
            have gen := mk [1, 1 + u] (fun b s => if s + b < (n : Int) - 1 then s + b else (n : Int) - 1) (by decide : 1 ≤ 2) (by decide : 2 ≤ 8) (fun b hb s s0 s1 => by have := bpos b hb; split <;> omega)
            refine ⟨lb, rfl, ⟨_, SqT.of hlb⟩, fun D1 hD1 => ?_⟩
            change (upd H5 lb (.tup [.int 1, .int (1 + u)])) D1 = none at hD1
            generalize hH6 : upd H5 lb (.tup [.int 1, .int (1 + u)]) = H6 at bxA hlb hD1
            refine lc_tup (K := K) (a := lb) (xs := vrow [1, 1 + u]) (fun i H' => Same H6 H' ∧ TabL H' D1 (vts ((([1, 1 + u] : List Int).take i).map fun b => gL ((fun b s => if s + b < (n : Int) - 1 then s + b else (n : Int) - 1) b) n))) (by rw [← hH6] at hD1 ⊢; exact ⟨same_new hD1, [], upd_same, rfl, fun i a t h => by cases h⟩) (fun i H' _ ⟨s, _⟩ => SqT.of (s _ _ hlb)) ?_ ?_
            · rintro i x H7 hx ⟨s7, tl⟩
              obtain ⟨z, hz, rfl⟩ := vrow_at hx
              have hil : i < 2 := (List.getElem?_eq_some_iff.mp hz).1
              refine ⟨rfl, _, rfl, (n : Int), rfl, by omega, by omega, fun D2 hD2 => lc_range (Gp H7 D2 (fun s => if s + z < (n : Int) - 1 then s + z else (n : Int) - 1)) (Gp.nil hD2) ?_ ?_⟩
              · rintro k H8 hk g
                exact ⟨rfl, _, rfl, _, _, rfl, rfl, _, rfl, _, rfl, _, _, rfl, rfl, _, _, rfl, g.put hD2 (by show (if 0 + (k : Int) + z < (n : Int) - 1 then 0 + (k : Int) + z else (n : Int) - 1) = _; rw [Int.zero_add]) (by omega)⟩
              · rintro H8 ⟨s8, hD8⟩
                refine ⟨D2, _, rfl, .inl ⟨SqL.of hD8, fun l hl => ?_⟩⟩
                have tl8 := tl.same s8
                have e8 : ((n : Int)).toNat = n := by omega
                rw [e8]
                obtain ⟨acc, a1, a2, a3, a4⟩ := rowPut (row := gL (fun s => if s + z < (n : Int) - 1 then s + z else (n : Int) - 1) n) (s7.trans s8) hD1 tl8 hl (by rw [List.length_map, List.length_take]; omega)
                refine ⟨acc, a1, a2, a3, ?_⟩
                rw [take_succ hz, List.map_append]
                exact a4
            · rintro H7 ⟨s7, tl⟩
              exact q D1 _ H7 (bxA.same s7) (bxA.free (bxA.ne hD1) hD1) (bxA.ne hD1) tl gen.wf (few_stop gen bpos)
          · refine ⟨_, rfl, rfl, _, rfl, ifD (fun e3 => ?_) fun e3 => ?_⟩
            · -- the greater
              have m3 : ∃ m : Nat, (if 3 < (n : Int) then 3 else (n : Int)) = (m : Int) ∧ 1 ≤ m ∧ m ≤ 3 ∧ m ≤ n := by
                by_cases h : 3 < (n : Int)
                · exact ⟨3, by rw [if_pos h]; rfl, by decide, by decide, by omega⟩
                · exact ⟨n, by rw [if_neg h], n1, by omega, Nat.le_refl _⟩
              obtain ⟨m, em, m1, m3, mn⟩ := m3
              have brg : ∀ b ∈ idL m, 0 ≤ b ∧ b < (n : Int) := fun b hb => by have := idL_rng b hb; omega
              have gen := mk (idL m) (fun b s => if s < b then b else s) (by rw [idL, gL_len]; exact m1) (by rw [idL, gL_len]; omega) (fun b hb s s0 s1 => by have := brg b hb; split <;> omega)
              refine ⟨_, rfl, _, _, rfl, (m : Int), by rw [em], by omega, by omega, fun D1 hD1 => lc_range (fun i H' => Same H4 H' ∧ TabL H' D1 (vts (((idL m).take i).map fun b => gL ((fun b s => if s < b then b else s) b) n))) ⟨same_new hD1, [], upd_same, rfl, fun i a t h => by cases h⟩ ?_ ?_⟩
              · rintro i H7 hi ⟨s7, tl⟩
                have hz : (idL m)[i]? = some (i : Int) := gL_at (by omega)
                refine ⟨rfl, _, rfl, (n : Int), rfl, by omega, by omega, fun D2 hD2 => lc_range (Gp H7 D2 (fun s => if s < (i : Int) then (i : Int) else s)) (Gp.nil hD2) ?_ ?_⟩
                · rintro k H8 hk g
                  exact ⟨rfl, _, rfl, _, rfl, _, _, rfl, g.put hD2 (by show (if 0 + (i : Int) > 0 + (k : Int) then 0 + (i : Int) else 0 + (k : Int)) = _; rw [Int.zero_add, Int.zero_add]) (by omega)⟩
                · rintro H8 ⟨s8, hD8⟩
                  refine ⟨D2, _, rfl, .inl ⟨SqL.of hD8, fun l hl => ?_⟩⟩
                  have tl8 := tl.same s8
                  have e8 : ((n : Int)).toNat = n := by omega
                  rw [e8]
                  obtain ⟨acc, a1, a2, a3, a4⟩ := rowPut (row := gL (fun s => if s < (i : Int) then (i : Int) else s) n) (s7.trans s8) hD1 tl8 hl (by rw [List.length_map, List.length_take, idL, gL_len]; omega)
                  refine ⟨acc, a1, a2, a3, ?_⟩
                  rw [take_succ hz, List.map_append]
                  exact a4
              · rintro H7 ⟨s7, tl⟩
                have e9 : ((m : Int)).toNat = (idL m).length := by rw [idL, gL_len]; omega
                rw [e9, List.take_length] at tl
                exact q D1 _ H7 (bx4.same s7) (bx4.free (bx4.ne hD1) hD1) (bx4.ne hD1) tl gen.wf (few_max gen brg)
            · -- drawn ones
              have hst4 : n ≤ 4 ∨ st = 4 := by
                have a0 : st ≠ 0 := fun z => by have := of_decide_eq_false e; exact this (by rw [z])
                have a2 : st ≠ 2 := fun z => by have := of_decide_eq_false e2; exact this (by rw [z])
                have a3 : st ≠ 3 := fun z => by have := of_decide_eq_false e3; exact this (by rw [z])
                omega
              refine ⟨(by show 0 ≤ sizeLine; decide), fun p hp => ?_⟩
              have npb : p ≠ b := bx4.ne hp
              have npH : H p = none := bx4.free npb hp
              have bx5 := bx4.new (o := HO.lst []) hp
              have hp5 : (upd H4 p (.lst [])) p = some (.lst []) := upd_same
              generalize upd H4 p (.lst []) = H5 at bx5 hp5 ⊢
              have stepIn : ∀ (H6 : Hp) (rs : Ts), Bx b H H6 → TabL H6 p (vts rs) → ∀ (D2 : Addr) (H8 : Hp) (row : List Int), Bx b H6 H8 → H8 D2 = some (.lst (vrow row)) → rs.length ≤ 8 → ∀ l, H8 l = none → ∃ acc, (upd H8 l (.tup (vrow row))) p = some (.lst acc) ∧ acc.length < sizeLine ∧ Bx b H (upd (upd H8 l (.tup (vrow row))) p (.lst (acc ++ [.ref l]))) ∧ TabL (upd (upd H8 l (.tup (vrow row))) p (.lst (acc ++ [.ref l]))) p (vts (rs ++ [row])) := fun H6 rs bx6 tl D2 H8 row bx8 hD8 hl8 l hl => by
                obtain ⟨as, a1, a2, a3⟩ := tl.bx npb bx6.1 bx8
                have las : as.length = rs.length := by rw [a2, vts, List.length_map]
                exact ⟨_, (same_new hl) _ _ a1, by rw [List.length_map, las, sizeLine_eq]; omega, ((bx6.trans bx8).new hl).put npH npb, tabL_snoc a1 a2 a3 hl⟩
              refine ⟨b, st, n, rfl, rfl, rfl, bx5.1, fun cnt H6 c1 c8 bx6 => ⟨cnt, rfl, by omega, by omega, for_range (fun i σ H' => ∃ (rs : Ts) (v4 v6 v7 : Option V), σ = [some (.ref b), some (.int 4), some (.int st), some (.int (n : Int)), v4, some (.ref p), v6, v7, none] ∧ Bx b H H' ∧ TabL H' p (vts rs) ∧ rs.length = i ∧ (∀ t ∈ rs, t.length = n ∧ ∀ x ∈ t, 0 ≤ x ∧ x < (n : Int)) ∧ (st = 4 → ∃ bys : List Int, rs = bys.map fun b => gL (fun _ => b) n))
                  ⟨[], none, none, none, rfl, bx5.trans bx6, ⟨[], bx6.2 _ _ hp5 npb, rfl, fun i a t h => by cases h⟩, rfl, fun t ht => absurd ht (by simp), fun _ => ⟨[], rfl⟩⟩ ?_ ?_⟩⟩
              · rintro i σ H7 hi ⟨rs, v4, v6, v7, rfl, bx7, tl7, hl7, hr7, h47⟩
                refine ⟨_, rfl, _, rfl, b, _, rfl, bx7.1, by omega, by omega, fun y1 H8 y10 y11 bx8 => ⟨_, rfl, _, rfl, b, _, rfl, bx8.1, by omega, by omega, fun y2 H9 y20 y21 bx9 => ⟨(by show 2 ≤ sizeLine; decide), fun T2 hT2 => ⟨T2, _, rfl, SqT.of upd_same, rfl, _, _, rfl, _, _, rfl, rfl, ?_⟩⟩⟩⟩
                have bxN := (bx8.trans bx9).new (o := HO.tup [.int y1, .int y2]) hT2
                generalize upd H9 T2 (.tup [.int y1, .int y2]) = H10 at bxN ⊢
                have tlN := tl7.bx npb bx7.1 bxN
                have hbN := bxN.1
                have bxI := bx7.trans bxN
                obtain ⟨asN, aN1, aN2, aN3⟩ := id tlN
                have e8 : ((n : Int)).toNat = n := by omega
                -- one row more
                have fin : ∀ (D2 : Addr) (H11 : Hp) (row : List Int), Bx b H10 H11 → H11 D2 = some (.lst (vrow row)) → row.length = n → (∀ x ∈ row, 0 ≤ x ∧ x < (n : Int)) → (st = 4 → row = gL (fun _ => y1) n) → ∀ l, H11 l = none → ∃ acc, (upd H11 l (.tup (vrow row))) p = some (.lst acc) ∧ acc.length < sizeLine ∧
                    ∃ (rs : Ts) (w4 w6 w7 : Option V), [some (.ref b), some (.int 4), some (.int st), some (.int (n : Int)), some (.int y1), some (.ref p), some (.int (0 + (i : Int))), some (.int y2), none] = [some (.ref b), some (.int 4), some (.int st), some (.int (n : Int)), w4, some (.ref p), w6, w7, none] ∧ Bx b H (upd (upd H11 l (.tup (vrow row))) p (.lst (acc ++ [.ref l]))) ∧ TabL (upd (upd H11 l (.tup (vrow row))) p (.lst (acc ++ [.ref l]))) p (vts rs) ∧ rs.length = i + 1 ∧ (∀ t ∈ rs, t.length = n ∧ ∀ x ∈ t, 0 ≤ x ∧ x < (n : Int)) ∧ (st = 4 → ∃ bys : List Int, rs = bys.map fun b => gL (fun _ => b) n) := fun D2 H11 row bx11 hD11 hlr hrr h4r l hl => by
                  obtain ⟨acc, a1, a2, a3, a4⟩ := stepIn H10 rs bxI tlN D2 H11 row bx11 hD11 (by omega) l hl
                  refine ⟨acc, a1, a2, rs ++ [row], _, _, _, rfl, a3, a4, by rw [List.length_append, hl7]; rfl, fun t ht => ?_, fun h4 => ?_⟩
                  · rcases List.mem_append.mp ht with z | z
                    · exact hr7 t z
                    · rw [List.mem_singleton.mp z]; exact ⟨hlr, hrr⟩
                  · obtain ⟨bys, rfl⟩ := h47 h4
                    exact ⟨bys ++ [y1], by rw [List.map_append, h4r h4]; rfl⟩
                refine ⟨_, rfl, rfl, _, rfl, ifD (fun e4 => ?_) fun e4 => ?_⟩
                · refine ⟨_, rfl, .inl ⟨rfl, _, SqL.of aN1⟩, _, rfl, (n : Int), rfl, by omega, by omega, fun D2 hD2 => lc_range (Gp H10 D2 (fun _ => y1)) (Gp.nil hD2) ?_ ?_⟩
                  · rintro k H11 hk g
                    exact ⟨rfl, _, rfl, g.put hD2 rfl (by omega)⟩
                  · rintro H11 ⟨s11, hD11⟩
                    rw [e8] at hD11
                    refine ⟨D2, _, rfl, .inl ⟨SqL.of hD11, fun l hl => ?_⟩⟩
                    obtain ⟨acc, a1, a2, a3⟩ := fin D2 H11 (gL (fun _ => y1) n) ((Bx.refl hbN).same s11) hD11 (gL_len _ _) (fun x hx => by
                      obtain ⟨_, _, _, rfl⟩ := gL_mem hx
                      exact ⟨y10, y11⟩) (fun _ => rfl) l hl
                    exact ⟨p, _, _, rfl, rfl, a1, a2, a3⟩
                · have n4 : st ≠ 4 := fun z => by have := of_decide_eq_false e4; exact this (by rw [z])
                  refine ⟨_, rfl, rfl, _, rfl, ifD (fun e5 => ?_) fun e5 => ?_⟩
                  · refine ⟨_, rfl, .inl ⟨rfl, _, SqL.of aN1⟩, _, rfl, (n : Int), rfl, by omega, by omega, fun D2 hD2 => lc_range (Rg b D2 H10 (n : Int)) (Rg.nil hbN hD2) ?_ ?_⟩
                    · rintro k H11 hk g
                      exact ⟨rfl, _, rfl, _, rfl, rfl, _, rfl, ifD (fun _ => ⟨_, rfl, g.put hbN hD2 (Bx.refl g.box) ⟨y20, y21⟩ (by omega)⟩) fun _ => ⟨_, rfl, _, rfl, rfl, _, rfl, ifD (fun _ => ⟨_, rfl, g.put hbN hD2 (Bx.refl g.box) ⟨y10, y11⟩ (by omega)⟩) fun _ => ⟨_, rfl, g.put hbN hD2 (Bx.refl g.box) ⟨by omega, by omega⟩ (by omega)⟩⟩⟩
                    · rintro H11 ⟨ns, k1, k2, bx11, hD11⟩
                      refine ⟨D2, _, rfl, .inl ⟨SqL.of hD11, fun l hl => ?_⟩⟩
                      obtain ⟨acc, a1, a2, a3⟩ := fin D2 H11 ns bx11 hD11 (k1.trans e8) k2 (fun h => absurd h n4) l hl
                      exact ⟨p, _, _, rfl, rfl, a1, a2, a3⟩
                  · refine ⟨_, rfl, .inl ⟨rfl, _, SqL.of aN1⟩, _, rfl, (n : Int), rfl, by omega, by omega, fun D2 hD2 => lc_range (Rg b D2 H10 (n : Int)) (Rg.nil hbN hD2) ?_ ?_⟩
                    · rintro k H11 hk g
                      exact ⟨rfl, _, rfl, _, rfl, b, _, rfl, g.box, by omega, by omega, fun r H12 r0 r1' bx12 => g.put hbN hD2 bx12 ⟨r0, r1'⟩ (by omega)⟩
                    · rintro H11 ⟨ns, k1, k2, bx11, hD11⟩
                      refine ⟨D2, _, rfl, .inl ⟨SqL.of hD11, fun l hl => ?_⟩⟩
                      obtain ⟨acc, a1, a2, a3⟩ := fin D2 H11 ns bx11 hD11 (k1.trans e8) k2 (fun h => absurd h n4) l hl
                      exact ⟨p, _, _, rfl, rfl, a1, a2, a3⟩
              · rintro σ H7 ⟨rs, v4, v6, v7, rfl, bx7, tl7, hl7, hr7, h47⟩
                have l1 : 1 ≤ rs.length := by omega
                have l8 : rs.length ≤ 8 := by omega
                have e0 : nS rs = n := by
                  cases rs with
                  | nil => exact absurd l1 (by simp)
                  | cons t r => exact (hr7 t List.mem_cons_self).1
                have w7 : Wf rs := ⟨l1, l8, by omega, by omega, fun t ht => ⟨by rw [e0]; exact (hr7 t ht).1, fun x hx => by rw [e0]; exact (hr7 t ht).2 x hx⟩⟩
                refine ⟨_, rfl, q p rs H7 bx7 npH npb tl7 w7 ?_⟩
                rcases hst4 with h4 | h4
                · exact few_small w7 (by omega)
                · obtain ⟨bys, rfl⟩ := h47 h4
                  rw [List.length_map] at l1 l8
                  exact few_const (mk bys (fun b _ => b) l1 l8 fun b hb s s0 s1 => (hr7 _ (List.mem_map.mpr ⟨b, hb, rfl⟩)).2 b (List.mem_of_getElem? (gL_at (i := 0) (by omega))))
    · refine ⟨_, rfl, (by show 4 ≤ sizeLine; decide), fun T2 hT2 => ⟨T2, _, rfl, .inr (SqT.of upd_same), rfl, rfl, _, rfl, ifD (fun e => ?_) fun e => iteF ?_⟩⟩
      · have hst := inV_st e
        have bx5 := bx3.new (o := HO.tup [.int 0, .int 2, .int 3, .int 4]) hT2
        refine ⟨_, rfl, b, 3, rfl, bx5.1, by decide, by decide, fun z H6 z0 z1 bx6 => ⟨rfl, _, rfl, ifD (fun e2 => ?_) fun e2 => ?_⟩⟩
        · refine ⟨_, rfl, b, 7, rfl, bx6.1, by decide, by decide, fun u H7 u0 u1 bx7 => ⟨_, _, rfl, rfl, ?_⟩⟩
          have en : 1 + u = (((1 + u).toNat : Nat) : Int) := by omega
          have kk := k _ _ ⟨(1 + u).toNat, rfl, (bx5.trans bx6).trans bx7, by omega, by omega, .inr hst⟩
          rw [← en] at kk
          exact kk
        · have en : 1 + y = (((1 + y).toNat : Nat) : Int) := by omega
          rw [en]
          exact k _ _ ⟨(1 + y).toNat, rfl, bx5.trans bx6, by omega, by omega, .inr hst⟩
      · have en : 1 + y = (((1 + y).toNat : Nat) : Int) := by omega
        rw [en]
        exact k _ _ ⟨(1 + y).toNat, rfl, bx3.new (o := HO.tup [.int 0, .int 2, .int 3, .int 4]) hT2, by omega, by omega, .inl (by omega)⟩
end
end K1
namespace K1
open PySem PySem.Spec PyProof.Rows L2
theorem ixLK {X : Cx} {K : PySem.W.Frag} (h : X.K = K) : IxR X (rIxL K) := by
  subst h
  exact ix_list
def mK (F : List KR) : List (List Key × V) := F.map fun e => (kK e.1, V.bl true)
/-- how the law's search stands -/
structure MQ (H : Hp) (d q : Addr) (F : List KR) (as : List Addr) : Prop where
  hd : H d = some (.dT (mK F))
  hq : H q = some (.lst (as.map V.ref))
  ln : as.length = F.length
  it : ∀ (i : Nat) a x r, as[i]? = some a → F[i]? = some (x, r) → ∃ b c, H a = some (.tup [.ref b, .ref c]) ∧ H b = some (.tup (vrow x)) ∧ H c = some (.tup (vrow r))
theorem MQ.same {H H' : Hp} {d q : Addr} {F : List KR} {as : List Addr} (b : MQ H d q F as) (s : Same H H') : MQ H' d q F as :=
  ⟨s _ _ b.hd, s _ _ b.hq, b.ln, fun i a x r e1 e2 => let ⟨u, v, h1, h2, h3⟩ := b.it i a x r e1 e2; ⟨u, v, s _ _ h1, s _ _ h2, s _ _ h3⟩⟩
theorem mK_none {F : List KR} {x : List Int} : valV (mK F) (kK x) = none ↔ x ∉ F.map (·.1) := by
  have e := valV_any (kK x) (mK F)
  have h : ((mK F).any fun kv => decide (kv.1 = kK x)) = true ↔ x ∈ F.map (·.1) := by
    rw [mK, List.any_map, List.any_eq_true]
    constructor
    · rintro ⟨y, hy, e⟩
      have e' : kK y.1 = kK x := of_decide_eq_true e
      exact List.mem_map.mpr ⟨y, hy, kK_inj e'⟩
    · intro hx
      obtain ⟨y, hy, e⟩ := List.mem_map.mp hx
      exact ⟨y, hy, decide_eq_true (congrArg kK e)⟩
  constructor
  · intro hn hx
    rw [hn, h.mpr hx] at e
    cases e
  · intro hx
    cases q : valV (mK F) (kK x) with
    | none => rfl
    | some v =>
      rw [q] at e
      exact absurd (h.mp e) hx
theorem MQ.put {H H6 : Hp} {d q : Addr} {F : List KR} {as : List Addr} (b : MQ H d q F as) {x r : List Int} {a e c : Addr} (hx : x ∉ F.map (·.1)) (s : Same (upd H d (.dT (putK (mK F) (kK x) (.bl true)))) H6) (ha : H6 a = some (.tup [.ref e, .ref c])) (he : H6 e = some (.tup (vrow x))) (hc : H6 c = some (.tup (vrow r))) :
    H6 q = some (.lst (as.map V.ref)) ∧ MQ (upd H6 q (.lst (as.map V.ref ++ [.ref a]))) d q (F ++ [(x, r)]) (as ++ [a]) := by
  have ndq : d ≠ q := ne_of b.hd b.hq (by intro z; cases z)
  have hq6 : H6 q = some (.lst (as.map V.ref)) := s _ _ (by rw [upd_ne ndq.symm]; exact b.hq)
  have keep : ∀ c ys, H6 c = some (.tup ys) → (upd H6 q (.lst (as.map V.ref ++ [.ref a]))) c = some (.tup ys) := fun c ys h => by
    rw [upd_ne (ne_of h hq6 (by intro z; cases z))]; exact h
  have old : ∀ c ys, H c = some (.tup ys) → H6 c = some (.tup ys) := fun c ys h => s _ _ (by rw [upd_ne (ne_of h b.hd (by intro z; cases z))]; exact h)
  have ll := b.ln
  refine ⟨hq6, ?_, by rw [upd_same, List.map_append]; rfl, by rw [List.length_append, List.length_append, ll]; rfl, fun i g y t h h' => ?_⟩
  · rw [upd_ne ndq, s _ _ upd_same, putK_new _ (mK_none.mpr hx), mK, mK, List.map_append]; rfl
  · by_cases hi : i < F.length
    · rw [List.getElem?_append_left (by omega)] at h
      rw [List.getElem?_append_left hi] at h'
      obtain ⟨u, v, h1, h2, h3⟩ := b.it i g y t h h'
      exact ⟨u, v, keep _ _ (old _ _ h1), keep _ _ (old _ _ h2), keep _ _ (old _ _ h3)⟩
    · have hi2 : i = F.length := by
        have := (List.getElem?_eq_some_iff.mp h').1
        simp only [List.length_append, List.length_cons, List.length_nil] at this
        omega
      subst hi2
      rw [← ll, List.getElem?_append_right (Nat.le_refl _), Nat.sub_self] at h
      rw [List.getElem?_append_right (Nat.le_refl _), Nat.sub_self] at h'
      have e2 : (x, r) = (y, t) := Option.some.inj h'
      injection e2 with e2 e3
      subst e2
      subst e3
      rw [← Option.some.inj h]
      exact ⟨e, c, keep _ _ ha, keep _ _ he, keep _ _ hc⟩
/-- the law's maps with their rows -/
def MapsAt (H : Hp) (q : Addr) (F : List KR) : Prop := ∃ as : List Addr, H q = some (.lst (as.map V.ref)) ∧ as.length = F.length ∧
  ∀ (i : Nat) a x r, as[i]? = some a → F[i]? = some (x, r) → ∃ b c, H a = some (.tup [.ref b, .ref c]) ∧ H b = some (.tup (vrow x)) ∧ H c = some (.tup (vrow r))
theorem rgV_id (n : Nat) : rgV 0 (n : Int) = vrow (idL n) := by
  unfold rgV vrow idL gL
  rw [List.map_map]
  have e : ((n : Int) - 0).toNat = n := by omega
  rw [e]
  refine List.map_congr_left fun i _ => ?_
  show V.int (0 + (i : Int)) = V.int (i : Int)
  rw [Int.zero_add]
def spMaps : Sp := fun vs H Q _ => ∃ p ts, vs = [.ref p] ∧ TabL H p (vts ts) ∧ Wf ts ∧ FewM ts ∧
  ∀ q F H', Same H H' → H q = none → MapsAt H' q F → Fst (actL ts) ts.length (idL (nS ts)) F → F.length ≤ 1000 → Q (.ref q) H'
section
variable {P : Program} {w : World} {K : PySem.W.Frag} {mg : Str → Option Value} {base : Heap}
abbrev nMp : List Str := ["_law_tables_here", "_law_start", "_law_found", "_law_met", "_law_at", "_law_one", "_law_row", "_law_deed", "_law_after", "_law_state"]
theorem scMp : FnScope nMp ["_law_tables_here"] (defScope sMaps) := ⟨rfl, rfl, rfl, by decide +kernel, rfl, by decide +kernel, by decide +kernel⟩
theorem ok_maps {f : Addr} {fd : FuncData} (D : Df K mg "_law_maps" sMaps ["_law_tables_here"] f fd) (B : Bt mg) : FnOk P w K mg base CX0 1 f fd ["_law_tables_here"] spMaps := by
  refine D.F.ok scMp (fun vs H Q E h => ?_) (fun cdv A outer s H vs Q E hr h => ?_)
  · obtain ⟨p, ts, rfl, _⟩ := h
    rfl
  · obtain ⟨p, ts, rfl, hT, hW, few, q⟩ := h
    have hu := hu_of hr
    refine ⟨_, pss_cons (ps_set (i := 1) scMp.nd rfl (.inl rfl) (pe_tupRg rfl (by rfl) B.tuple (prg_1 (by rfl) B.range (pe_callB call_len_seq (by rfl) B.len PySem.boot_len (pa_cons (pe_ix ix_list (pv 0) pe_int (fun _ _ => rfl)) pa_nil)))))
      (pss_cons (ps_par (i := 2) (j := 3) rfl scMp.nd rfl rfl (by decide) rfl rfl (pa_cons (pe_lst (pa_cons (pe_tup (pa_cons (pv 1) (pa_cons (pe_tup pa_nil) pa_nil))) pa_nil)) (pa_cons (pe_dispT (Nat.lt_of_succ_lt hu) (pv 1) pe_bl) pa_nil)) (by rfl))
      (pss_cons (ps_for PassesOwn.never rfl (pi_range1 (by rfl) B.range (pa_cons pe_int pa_nil)) (pg_name (i := 4) scMp.nd rfl (.inl rfl))
        (pss_cons (ps_if (pt_cmpR op_eq (pv 4) (pe_callB call_len_seq (by rfl) B.len PySem.boot_len (pa_cons (pv 2) pa_nil)) (nomark _)) (pss_one ps_break) pss_nil)
        (pss_cons (ps_asg (pe_ix ix_list (pv 2) (pv 4) (fun _ _ => rfl)) (pg_tup rfl (pgs_cons (pg_name (i := 5) scMp.nd rfl (.inl rfl)) (pgs_cons (pg_name (i := 6) scMp.nd rfl (.inl rfl)) pgs_nil))))
        (pss_one (ps_for PassesOwn.never rfl (pi_range1 (by rfl) B.range (pa_cons (pe_callB call_len_seq (by rfl) B.len PySem.boot_len (pa_cons (pv 0) pa_nil)) pa_nil)) (pg_name (i := 7) scMp.nd rfl (.inr rfl))
          (pss_cons (ps_set (i := 8) scMp.nd rfl (.inl rfl) (pe_callTy call_tuple_of (by rfl) B.tuple PyProof.Rows.boot_tuple (pa_cons
              (pe_lc (own := [("_law_state", 9)]) (g := gName 9) (tt := tYes) rfl scMp.nd (pi_tup (pv 5)) (blkOk_by (N := nMp) (sc := defScope sMaps) (by decide +kernel)) (fun _ _ _ _ _ => pg_name (i := 9) scMp.nd rfl (Or.inl rfl)) (fun _ _ _ _ _ => pts_nil)
                (fun _ _ _ _ _ => pe_ix (ixTK (K := K) rfl) (pe_ix (ixLK (K := K) rfl) (pv 0) (pv 7) (fun _ _ => rfl)) (pv 9) (fun _ _ => rfl))) pa_nil)))
          (pss_one (ps_if (pt_cmp (pc_dnotin hu (pv 8) (pv 3))) (pss_cons (ps_dput hu (pv 3) (pv 8) pe_bl rfl)
            (pss_one (ps_expr (pe_bm PySem.F.plainAttrs_list PySem.F.slot_list_append PySem.F.type_list_append mt_append (pv 2) (pa_cons (pe_tup (pa_cons (pv 8) (pa_cons (pe_op op_catA (pv 6) (pe_tup (pa_cons (pv 7) pa_nil))) pa_nil))) pa_nil))))) pss_nil))))))))
      (pss_one (ps_ret (pv 2))))), ?_⟩
    obtain ⟨tas, ht1, ht2, ht3⟩ := hT
    have ltas : tas.length = ts.length := by rw [ht2, vts, List.length_map]
    have hl1 := hW.t1
    obtain ⟨t0, e0⟩ : ∃ t, ts[0]? = some t := ⟨ts[0]'(by omega), List.getElem?_eq_getElem (by omega)⟩
    obtain ⟨a0, g0⟩ : ∃ a, tas[0]? = some a := ⟨tas[0]'(by omega), List.getElem?_eq_getElem (by omega)⟩
    have hT0 := ht3 0 a0 (vrow t0) g0 (by rw [vts, List.getElem?_map, e0]; rfl)
    have lt0 : t0.length = nS ts := by unfold nS; rw [e0]; rfl
    have n12 := hW.s12
    refine ⟨_, rfl, p, _, 0, _, rfl, rfl, SqL.of ht1, atI_nat (j := 0) (by rw [List.getElem?_map, g0]; rfl), a0, _, rfl, .inr (SqT.of hT0), ?_⟩
    have lt0' : ((vrow t0).length : Int) = (nS ts : Int) := by rw [vrow, List.length_map, lt0]
    refine ⟨_, rfl, ?_⟩
    rw [lt0']
    refine ⟨.of_le (Int.le_refl _) (by omega) (by decide) (by omega), fun p0 hp0 => ?_⟩
    rw [rgV_id]
    generalize hss : idL (nS ts) = ss at *
    have s1 := same_new (o := HO.tup (vrow ss)) hp0
    have hp1 : (upd H p0 (.tup (vrow ss))) p0 = some (.tup (vrow ss)) := upd_same
    generalize upd H p0 (.tup (vrow ss)) = H1 at s1 hp1 ⊢
    refine ⟨_, rfl, (by show 0 ≤ sizeLine; decide), fun e0 he0 => ⟨(by show 2 ≤ sizeLine; decide), fun r0 hr0 => ⟨(by show 1 ≤ sizeLine; decide), fun q0 hq0 => fun d hd => ⟨_, rfl, p0, kK ss, rfl, ?_, upd_same, _, _, rfl, ?_⟩⟩⟩⟩
    · rw [kK_v]
      exact ((((same_new he0).trans (same_new hr0)).trans (same_new hq0)).trans (same_new hd)) _ _ hp1
    have b0 : MQ (upd (upd (upd (upd (upd H1 e0 (.tup [])) r0 (.tup [.ref p0, .ref e0])) q0 (.lst [.ref r0])) d (.dT [])) d (.dT [(kK ss, .bl true)])) d q0 [(ss, [])] [r0] := by
      have k1 := same_new (o := HO.tup []) he0
      have k2 := same_new (o := HO.tup [.ref p0, .ref e0]) hr0
      have k3 := same_new (o := HO.lst [.ref r0]) hq0
      have k4 := same_new (o := HO.dT []) hd
      have k34 : ∀ c o, upd (upd (upd H1 e0 (.tup [])) r0 (.tup [.ref p0, .ref e0])) q0 (.lst [.ref r0]) c = some o → (upd (upd (upd (upd (upd H1 e0 (.tup [])) r0 (.tup [.ref p0, .ref e0])) q0 (.lst [.ref r0])) d (.dT [])) d (.dT [(kK ss, .bl true)])) c = some o := fun c o e => by
        rw [upd_ne (ne_of_none e hd)]; exact k4 _ _ e
      refine ⟨upd_same, k34 _ _ upd_same, rfl, fun i a x r h1 h2 => ?_⟩
      cases i with
      | zero =>
        obtain rfl : r0 = a := Option.some.inj h1
        have z' : (ss, []) = (x, r) := Option.some.inj h2
        injection z' with z1 z2
        subst z1
        subst z2
        exact ⟨p0, e0, k34 _ _ (k3 _ _ upd_same), k34 _ _ (k3 _ _ (k2 _ _ (k1 _ _ hp1))), k34 _ _ (k3 _ _ (k2 _ _ upd_same))⟩
      | succ i => cases h1
    have s2 : Same H (upd (upd (upd (upd (upd H1 e0 (.tup [])) r0 (.tup [.ref p0, .ref e0])) q0 (.lst [.ref r0])) d (.dT [])) d (.dT [(kK ss, .bl true)])) := fun c o e => by
      have e1 := ((((s1.trans (same_new (o := HO.tup []) he0)).trans (same_new (o := HO.tup [.ref p0, .ref e0]) hr0)).trans (same_new (o := HO.lst [.ref r0]) hq0))) c o e
      rw [upd_ne (ne_of_none e1 hd)]
      exact same_new hd _ _ e1
    have nd0 : H d = none := (((s1.trans (same_new (o := HO.tup []) he0)).trans (same_new (o := HO.tup [.ref p0, .ref e0]) hr0)).trans (same_new (o := HO.lst [.ref r0]) hq0)).free hd
    have nq0 : H q0 = none := (((s1.trans (same_new (o := HO.tup []) he0)).trans (same_new (o := HO.tup [.ref p0, .ref e0]) hr0))).free hq0
    generalize upd (upd (upd (upd (upd H1 e0 (.tup [])) r0 (.tup [.ref p0, .ref e0])) q0 (.lst [.ref r0])) d (.dT [])) d (.dT [(kK ss, .bl true)]) = H2 at b0 s2 ⊢
    have hs : ∀ s ∈ ss, 0 ≤ s ∧ s < (nS ts : Int) := by rw [← hss]; exact idL_rng
    have few' : FewK ts ss := by have z := few; unfold FewM at z; rw [hss] at z; exact z
    have lss : ss.length ≤ 12 := by rw [← hss, idL, gL_len]; exact n12
    have fin : ∀ (H' : Hp) (F : List KR) (as : List Addr) (i : Nat), Same H H' → MQ H' d q0 F as → Bf (actL ts) ts.length ss F i 0 → F.length ≤ i → Q (.ref q0) H' := fun H' F as i sm b bf hi =>
      q q0 F H' sm nq0 ⟨as, b.hq, b.ln, b.it⟩ (bf.done hi) (bf.few few')
    refine ⟨3200, rfl, by decide, by decide, for_range (fun i σ H' => ∃ (F : List KR) (as : List Addr) (v4 v5 v6 v7 v8 : Option V), σ = [some (.ref p), some (.ref p0), some (.ref q0), some (.ref d), v4, v5, v6, v7, v8, none] ∧ Same H H' ∧ MQ H' d q0 F as ∧ Bf (actL ts) ts.length ss F i 0 ∧ i ≤ F.length)
      ⟨_, _, none, none, none, none, none, rfl, s2, b0, Bf.init, Nat.zero_le _⟩ ?_ ?_⟩
    · rintro i σ H' hi ⟨F, as, v4, v5, v6, v7, v8, rfl, sm, b, bf, hiF⟩
      have hsmall : F.length ≤ 1000 := bf.few few'
      refine ⟨_, rfl, _, rfl, q0, _, rfl, .inl (SqL.of b.hq), rfl, _, rfl, ifD (fun ec => ?_) fun ec => ?_⟩
      · have ei : F.length ≤ i := by
          have z := of_decide_eq_true ec
          injection z with z
          rw [List.length_map, b.ln] at z
          omega
        exact ⟨_, rfl, fin H' F as i sm b bf ei⟩
      · have hlt : i < F.length := by
          have z : ¬ ((V.int (0 + (i : Int))) = V.int ((as.map V.ref).length : Int)) := of_decide_eq_false ec
          rw [List.length_map, b.ln] at z
          have : i ≠ F.length := fun y => z (by rw [y, Int.zero_add])
          omega
        obtain ⟨x, rx, hx⟩ : ∃ x rx, F[i]? = some (x, rx) := ⟨F[i].1, F[i].2, List.getElem?_eq_getElem hlt⟩
        obtain ⟨a, ha⟩ : ∃ a, as[i]? = some a := by
          have : i < as.length := by rw [b.ln]; exact hlt
          exact ⟨as[i], List.getElem?_eq_getElem this⟩
        obtain ⟨xa, ra, hta, hxa, hra⟩ := b.it i a x rx ha hx
        obtain ⟨px, pv, pl⟩ := bf.pth i x rx hx
        have hxr : ∀ s ∈ x, 0 ≤ s ∧ s < (nS ts : Int) := by rw [px]; exact path_rng hW pv hs
        have hxl : x.length ≤ 12 := by rw [px, path_run, List.length_map]; exact lss
        have lrx : rx.length ≤ 1000 := by omega
        refine ⟨_, rfl, _, rfl, q0, _, 0 + (i : Int), .ref a, rfl, rfl, SqL.of b.hq, at_of (j := i) (by omega) (by rw [List.getElem?_map, ha]; rfl), a, _, rfl, SqT.of hta, rfl, _, _, rfl, _, _, rfl, rfl, ?_⟩
        have hp' := sm _ _ ht1
        have el : (((tas.map V.ref).length : Nat) : Int) = (ts.length : Int) := by rw [List.length_map, ltas]
        have hl8 := hW.t8
        refine ⟨_, rfl, p, _, rfl, .inl (SqL.of hp'), ((tas.map V.ref).length : Int), rfl, by omega, by omega, for_range
          (fun j σ H' => ∃ (F : List KR) (as : List Addr) (v7 v8 : Option V), σ = [some (.ref p), some (.ref p0), some (.ref q0), some (.ref d), some (.int (0 + (i : Int))), some (.ref xa), some (.ref ra), v7, v8, none] ∧ Same H H' ∧ MQ H' d q0 F as ∧ Bf (actL ts) ts.length ss F i j ∧ F[i]? = some (x, rx) ∧ H' xa = some (.tup (vrow x)) ∧ H' ra = some (.tup (vrow rx)))
          ⟨F, as, _, _, rfl, sm, b, bf, hx, hxa, hra⟩ ?_ ?_⟩
        · rintro j σ H' hj ⟨F, as, v7, v8, rfl, sm, b, bf, hx, hxa, hra⟩
          have hjt : j < ts.length := by omega
          obtain ⟨tj, htj⟩ : ∃ t, tas[j]? = some t := ⟨tas[j]'(by omega), List.getElem?_eq_getElem (by omega)⟩
          have hdj : 0 ≤ (j : Int) ∧ (j : Int) < (ts.length : Int) := by omega
          obtain ⟨t, h1'⟩ : ∃ t, ts[j]? = some t := ⟨ts[j], List.getElem?_eq_getElem hjt⟩
          have hT := ht3 j tj (vrow t) htj (by rw [vts, List.getElem?_map, h1']; rfl)
          generalize hyy : actL ts x (j : Int) = yy
          have lyy : yy.length = x.length := by rw [← hyy, actL, List.length_map]
          refine ⟨_, rfl, xa, rfl, ⟨_, SqT.of hxa⟩, fun D0 hD0 => lc_tup (K := K) (a := xa) (xs := vrow x) (fun k H3 => Same H' H3 ∧ H3 D0 = some (.lst ((vrow yy).take k))) ⟨same_new hD0, by rw [upd_same]; rfl⟩ (fun k H3 _ ⟨s3, _⟩ => SqT.of (s3 _ _ hxa)) ?_ ?_⟩
          · rintro k z H3 hz ⟨s3, hD3⟩
            obtain ⟨xk, hxk, rfl⟩ := vrow_at hz
            have hk : k < x.length := (List.getElem?_eq_some_iff.mp hxk).1
            have hxkr := hxr xk (List.mem_of_getElem? hxk)
            obtain ⟨t', g1, g2, _⟩ := hW.at_ hdj hxkr
            have g1' : ts[j]? = some t' := by simpa using g1
            obtain rfl : t = t' := Option.some.inj (h1'.symm.trans g1')
            refine ⟨rfl, _, rfl, _, rfl, p, _, 0 + (j : Int), .ref tj, rfl, rfl, SqL.of (s3 _ _ (sm _ _ ht1)), at_of (j := j) (by omega) (by rw [List.getElem?_map, htj]; rfl), _, rfl, tj, _, xk, .int (stp ts xk j), rfl, rfl, SqT.of (s3 _ _ (sm _ _ hT)), at_of (j := xk.toNat) (by omega) (by rw [vrow, List.getElem?_map, g2]; rfl), ?_⟩
            refine ⟨_, hD3, by rw [List.length_take, vrow, List.length_map, sizeLine_eq]; omega, ?_, ?_⟩
            · intro c o e
              rw [upd_ne (ne_of_none e hD0)]
              exact s3 _ _ e
            · have ez : (vrow yy)[k]? = some (V.int (stp ts xk j)) := by rw [← hyy, vrow, actL, List.map_map, List.getElem?_map, hxk]; rfl
              rw [upd_same, take_succ ez]
          · rintro H3 ⟨s3, hD3⟩
            have etk : (vrow yy).take (vrow x).length = vrow yy := by rw [List.take_of_length_le]; rw [vrow, vrow, List.length_map, List.length_map, lyy]; exact Nat.le_refl _
            rw [etk] at hD3
            refine ⟨D0, _, rfl, .inl ⟨SqL.of hD3, fun en hen => ?_⟩⟩
            have s4 := s3.trans (same_new (o := HO.tup (vrow yy)) hen)
            have hen4 : (upd H3 en (.tup (vrow yy))) en = some (.tup (vrow yy)) := upd_same
            generalize upd H3 en (.tup (vrow yy)) = H4 at s4 hen4 ⊢
            have b4 := b.same s4
            have sm4 := sm.trans s4
            have hxa4 := s4 _ _ hxa
            have hra4 := s4 _ _ hra
            have hsmall : F.length ≤ 1000 := bf.few few'
            have hil : i < F.length := (List.getElem?_eq_some_iff.mp hx).1
            refine ⟨_, rfl, _, rfl, d, _, rfl, DGet.t (k := kK yy) b4.hd (by rw [kK_v]; exact hen4), _, rfl, ?_⟩
            cases ev : valV (mK F) (kK yy) with
            | some v =>
              refine iteF ?_
              have hin : yy ∈ F.map (·.1) := by
                by_cases z : yy ∈ F.map (·.1)
                · exact z
                · rw [mK_none.mpr z] at ev; cases ev
              obtain ⟨e, he, e1⟩ := List.mem_map.mp hin
              obtain ⟨j2, hj2⟩ := List.getElem?_of_mem he
              exact ⟨F, as, _, _, rfl, sm4, b4, bf.more (j := j2) (k := e.1) (r := e.2) hx hj2 (by rw [hyy]; exact e1), hx, hxa4, hra4⟩
            | none =>
              refine iteT ?_
              have hnin := mK_none.mp ev
              have bfn : Bf (actL ts) ts.length ss (F ++ [(yy, rx ++ [(j : Int)])]) i (j + 1) := by
                rw [← hyy]
                exact bf.put hx (by rw [hyy]; exact hnin) hjt
              have hx' : (F ++ [(yy, rx ++ [(j : Int)])])[i]? = some (x, rx) := by rw [List.getElem?_append_left hil]; exact hx
              refine ⟨_, rfl, _, rfl, d, _, rfl, DPut.t b4.hd (by rw [kK_v]; exact hen4) (by rw [mK, List.length_map, sizeLine_eq]; omega), ?_⟩
              have hq4 := b4.hq
              have ndq : q0 ≠ d := ne_of hq4 b4.hd (by intro z; cases z)
              have kp : ∀ c ys, H4 c = some (.tup ys) → (upd H4 d (.dT (putK (mK F) (kK yy) (.bl true)))) c = some (.tup ys) := fun c ys e => by
                rw [upd_ne (ne_of e b4.hd (by intro z; cases z))]; exact e
              have k5 : Same H (upd H4 d (.dT (putK (mK F) (kK yy) (.bl true)))) := fun c o e => by
                rw [upd_ne (ne_of_none e nd0)]; exact sm4 _ _ e
              have hen5 := kp _ _ hen4
              have hxa5 := kp _ _ hxa4
              have hra5 := kp _ _ hra4
              have hq5 : (upd H4 d (.dT (putK (mK F) (kK yy) (.bl true)))) q0 = some (.lst (as.map V.ref)) := by rw [upd_ne ndq]; exact hq4
              have put := fun (H6 : Hp) (a e c : Addr) (s6 : Same (upd H4 d (.dT (putK (mK F) (kK yy) (.bl true)))) H6) (g1 : H6 a = some (.tup [.ref e, .ref c])) (g2 : H6 e = some (.tup (vrow yy))) (g3 : H6 c = some (.tup (vrow (rx ++ [(j : Int)])))) => b4.put (H6 := H6) hnin s6 g1 g2 g3
              generalize upd H4 d (.dT (putK (mK F) (kK yy) (.bl true))) = H5 at kp k5 hen5 hxa5 hra5 hq5 put ⊢
              refine ⟨_, rfl, .inl ⟨rfl, _, SqL.of hq5⟩, _, rfl, _, rfl, _, rfl, (by show 1 ≤ sizeLine; decide), fun dt hdt => ?_⟩
              have s5 := same_new (o := HO.tup [V.int (0 + (j : Int))]) hdt
              have hdt5 : (upd H5 dt (.tup [V.int (0 + (j : Int))])) dt = some (.tup [V.int (0 + (j : Int))]) := upd_same
              generalize upd H5 dt (.tup [V.int (0 + (j : Int))]) = H6 at s5 hdt5 ⊢
              -- whichever tuple stands for the row, the rest is the same
              have rest : ∀ (rb : Addr) (H7 : Hp), Same H6 H7 → H7 rb = some (.tup (vrow (rx ++ [(j : Int)]))) → ∀ (t5 : Addr), H7 t5 = none →
                  (upd H7 t5 (.tup [.ref en, .ref rb])) q0 = some (.lst (as.map V.ref)) ∧ (as.map V.ref).length < sizeLine ∧
                  ∃ (F' : List KR) (as' : List Addr) (w7 w8 : Option V), [some (V.ref p), some (.ref p0), some (.ref q0), some (.ref d), some (.int (0 + (i : Int))), some (.ref xa), some (.ref ra), some (.int (0 + (j : Int))), some (.ref en), none] = [some (.ref p), some (.ref p0), some (.ref q0), some (.ref d), some (.int (0 + (i : Int))), some (.ref xa), some (.ref ra), w7, w8, none] ∧
                    Same H (upd (upd H7 t5 (.tup [.ref en, .ref rb])) q0 (.lst (as.map V.ref ++ [.ref t5]))) ∧ MQ (upd (upd H7 t5 (.tup [.ref en, .ref rb])) q0 (.lst (as.map V.ref ++ [.ref t5]))) d q0 F' as' ∧ Bf (actL ts) ts.length ss F' i (j + 1) ∧ F'[i]? = some (x, rx) ∧
                    (upd (upd H7 t5 (.tup [.ref en, .ref rb])) q0 (.lst (as.map V.ref ++ [.ref t5]))) xa = some (.tup (vrow x)) ∧ (upd (upd H7 t5 (.tup [.ref en, .ref rb])) q0 (.lst (as.map V.ref ++ [.ref t5]))) ra = some (.tup (vrow rx)) := fun rb H7 s7 hrb t5 ht5 => by
                have s8 := (s5.trans s7).trans (same_new (o := HO.tup [.ref en, .ref rb]) ht5)
                obtain ⟨g1, g2⟩ := put _ t5 en rb s8 upd_same (s8 _ _ hen5) (same_new ht5 _ _ hrb)
                have kq : ∀ c ys, H5 c = some (.tup ys) → (upd (upd H7 t5 (.tup [.ref en, .ref rb])) q0 (.lst (as.map V.ref ++ [.ref t5]))) c = some (.tup ys) := fun c ys e => by
                  rw [upd_ne (ne_of (s8 _ _ e) g1 (by intro z; cases z))]; exact s8 _ _ e
                refine ⟨g1, by rw [List.length_map, b4.ln, sizeLine_eq]; omega, _, _, _, _, rfl, fun c o e => ?_, g2, bfn, hx', kq _ _ hxa5, kq _ _ hra5⟩
                rw [upd_ne (ne_of_none e nq0)]
                exact s8 _ _ (k5 _ _ e)
              have ej : V.int (0 + (j : Int)) = V.int (j : Int) := by rw [Int.zero_add]
              refine ⟨ra, dt, vrow rx, [.int (0 + (j : Int))], rfl, rfl, SqT.of (s5 _ _ hra5), SqT.of hdt5, ?_, fun e => ?_, fun _ e => absurd e (by simp), fun _ _ pn hpn => ?_⟩
              · show (vrow rx).length + 1 ≤ sizeLine
                rw [sizeLine_eq, vrow, List.length_map]; omega
              · have e0 : rx = [] := by
                  cases rx with
                  | nil => rfl
                  | cons z r => cases e
                subst e0
                refine ⟨(by show 2 ≤ sizeLine; decide), fun t5 ht5 => ?_⟩
                obtain ⟨g1, g2, g3⟩ := rest dt H6 (Same.refl _) (by rw [hdt5, ej]; rfl) t5 ht5
                exact ⟨q0, _, _, rfl, rfl, g1, g2, g3⟩
              · refine ⟨(by show 2 ≤ sizeLine; decide), fun t5 ht5 => ?_⟩
                obtain ⟨g1, g2, g3⟩ := rest pn _ (same_new hpn) (by rw [upd_same, vrow, vrow, List.map_append, ej]; rfl) t5 ht5
                exact ⟨q0, _, _, rfl, rfl, g1, g2, g3⟩
        · rintro σ H' ⟨F, as, v7, v8, rfl, sm, b, bf, hx, hxa, hra⟩
          have hil : i < F.length := (List.getElem?_eq_some_iff.mp hx).1
          have ejj : ((tas.map V.ref).length : Int).toNat = ts.length := by omega
          rw [ejj] at bf
          exact ⟨F, as, _, _, _, _, _, rfl, sm, b, bf.next, by omega⟩
    · rintro σ H' ⟨F, as, v4, v5, v6, v7, v8, rfl, sm, b, bf, hiF⟩
      have := bf.few few'
      have z : ((3200 : Int)).toNat = 3200 := rfl
      omega
end
end K1
namespace K1
open PySem PySem.Spec PyProof.Rows L2
theorem sub_len {α : Type} [DecidableEq α] : ∀ {a b : List α}, a.Nodup → (∀ x ∈ a, x ∈ b) → a.length ≤ b.length
  | [], _, _, _ => Nat.zero_le _
  | x :: a, b, nd, h => by
    obtain ⟨nx, na⟩ := List.nodup_cons.mp nd
    have hx : x ∈ b := h x List.mem_cons_self
    have ih := sub_len (b := b.erase x) na fun y hy => by
      have : y ≠ x := fun e => nx (e ▸ hy)
      exact (List.mem_erase_of_ne this).mpr (h y (List.mem_cons_of_mem _ hy))
    rw [List.length_erase_of_mem hx] at ih
    have : 0 < b.length := List.length_pos_of_mem hx
    simp only [List.length_cons]
    omega
theorem asc_nodup {l : List Int} (h : l.Pairwise (· < ·)) : l.Nodup := h.imp fun {a b} h => by intro e; omega
section
variable {act : List Int → Int → List Int} {n : Nat} {s s2 : List Int} {F G : List KR}
theorem Fst.pw (h : Fst act n s F) : F.Pairwise fun x y => rlt x.2 y.2 := List.pairwise_iff_getElem.mpr fun i j hi hj hij => h.asc i j F[i].1 F[j].1 F[i].2 F[j].2 hij (List.getElem?_eq_getElem hi) (List.getElem?_eq_getElem hj)
theorem Fst.mem (h : Fst act n s F) {e : KR} (he : e ∈ F) : e.1 = path act s e.2 ∧ (∀ x ∈ e.2, 0 ≤ x ∧ x < (n : Int)) ∧ e.2.length < F.length := by
  obtain ⟨j, hj⟩ := List.getElem?_of_mem he
  obtain ⟨h1, h2, h3⟩ := h.pth j e.1 e.2 hj
  have := (List.getElem?_eq_some_iff.mp hj).1
  exact ⟨h1, h2, by omega⟩
theorem Fst.first (h : Fst act n s F) {p : List Int → Bool} {e : KR} {L : List KR} (hf : F.filter (fun e => p e.1) = e :: L) : e ∈ F ∧ p e.1 = true ∧ ∀ r : List Int, (∀ x ∈ r, 0 ≤ x ∧ x < (n : Int)) → p (path act s r) = true → rle e.2 r := by
  have hm : e ∈ F.filter (fun e => p e.1) := by rw [hf]; exact List.mem_cons_self
  obtain ⟨m1, m2⟩ := List.mem_filter.mp hm
  refine ⟨m1, m2, fun r hr hp => ?_⟩
  obtain ⟨j, r', hj, hl⟩ := h.all r hr
  have hm' : (path act s r, r') ∈ F.filter (fun e => p e.1) := List.mem_filter.mpr ⟨List.mem_of_getElem? hj, hp⟩
  rw [hf] at hm'
  rcases List.mem_cons.mp hm' with z | z
  · rw [← z]; exact hl
  · have pw := h.pw.filter (fun e => p e.1)
    rw [hf] at pw
    exact rle.trans (.inr ((List.pairwise_cons.mp pw).1 _ z)) hl
theorem Fst.none (h : Fst act n s F) {p : List Int → Bool} (hf : F.filter (fun e => p e.1) = []) (r : List Int) (hr : ∀ x ∈ r, 0 ≤ x ∧ x < (n : Int)) : p (path act s r) = false := by
  cases e : p (path act s r) with
  | false => rfl
  | true =>
    obtain ⟨j, r', hj, hl⟩ := h.all r hr
    have hm' : (path act s r, r') ∈ F.filter (fun e => p e.1) := List.mem_filter.mpr ⟨List.mem_of_getElem? hj, e⟩
    rw [hf] at hm'
    cases hm'
/-- two searches of one machine: the first rows that lead to what is looked for are the same -/
theorem fst_two (h1 : Fst act n s F) (h2 : Fst act n s2 G) {p q : List Int → Bool} (hpq : ∀ r : List Int, (∀ x ∈ r, 0 ≤ x ∧ x < (n : Int)) → p (path act s r) = q (path act s2 r)) {g : KR} {M : List KR} (hg : G.filter (fun e => q e.1) = g :: M) :
    ∃ e L, F.filter (fun e => p e.1) = e :: L ∧ e.2 = g.2 := by
  obtain ⟨g1, g2, g3⟩ := h2.first hg
  obtain ⟨k1, k2, _⟩ := h2.mem g1
  have pg : p (path act s g.2) = true := by rw [hpq _ k2, ← k1]; exact g2
  match hf : F.filter (fun e => p e.1) with
  | [] =>
    rw [h1.none hf _ k2] at pg
    cases pg
  | e :: L =>
    obtain ⟨e1, e2, e3⟩ := h1.first hf
    obtain ⟨l1, l2, _⟩ := h1.mem e1
    exact ⟨e, L, hf, rle.anti (e3 _ k2 pg) (g3 _ l2 (by rw [← hpq _ l2, ← l1]; exact e2))⟩
end
/-! ### where rows lead all states, and two of them -/
section
variable {ts : Ts} {F G : List KR} {a h t : Int}
theorem idL_to {n : Nat} {r : List Int} {i : Int} (h0 : 0 ≤ i) (h1 : i < (n : Int)) : (path (actL ts) (idL n) r).getD i.toNat 0 = run ts i r := by
  rw [path_run, List.getD_eq_getElem?_getD, List.getElem?_map, idL, gL_at (by omega)]
  show run ts ((i.toNat : Nat) : Int) r = _
  rw [show ((i.toNat : Nat) : Int) = i by omega]
theorem pair_0 {r : List Int} : (path (actL ts) [a, h] r).getD 0 0 = run ts a r := by rw [path_run]; rfl
theorem pair_1 {r : List Int} : (path (actL ts) [a, h] r).getD 1 0 = run ts h r := by rw [path_run]; rfl
/-- the maps that lead the archive to t -/
def EM (F : List KR) (a : Nat) (t : Int) : List KR := F.filter fun e => decide (e.1.getD a 0 = t)
def thr (L : List KR) (h : Nat) : List Int := L.map fun e => e.1.getD h 0
theorem ends_mem (hM : Fst (actL ts) ts.length (idL (nS ts)) F) (hG : Fst (actL ts) ts.length [a, h] G) (ha : 0 ≤ a ∧ a < (nS ts : Int)) (hh : 0 ≤ h ∧ h < (nS ts : Int)) (x : Int) : x ∈ thr (EM F a.toNat t) h.toNat ↔ x ∈ endsOf G t := by
  unfold thr EM endsOf onT
  constructor
  · intro hx
    obtain ⟨e, he, rfl⟩ := List.mem_map.mp hx
    obtain ⟨h1, h2⟩ := List.mem_filter.mp he
    obtain ⟨k1, k2, _⟩ := hM.mem h1
    have h2 := of_decide_eq_true h2
    obtain ⟨j, r', hj, _⟩ := hG.all e.2 k2
    refine List.mem_map.mpr ⟨_, List.mem_filter.mpr ⟨List.mem_of_getElem? hj, decide_eq_true ?_⟩, ?_⟩
    · show (path (actL ts) [a, h] e.2).getD 0 0 = t
      rw [pair_0, ← h2, k1, idL_to ha.1 ha.2]
    · show (path (actL ts) [a, h] e.2).getD 1 0 = _
      rw [pair_1, k1, idL_to hh.1 hh.2]
  · intro hx
    obtain ⟨e, he, rfl⟩ := List.mem_map.mp hx
    obtain ⟨h1, h2⟩ := List.mem_filter.mp he
    obtain ⟨k1, k2, _⟩ := hG.mem h1
    have h2 := of_decide_eq_true h2
    obtain ⟨j, r', hj, _⟩ := hM.all e.2 k2
    refine List.mem_map.mpr ⟨_, List.mem_filter.mpr ⟨List.mem_of_getElem? hj, decide_eq_true ?_⟩, ?_⟩
    · show (path (actL ts) (idL (nS ts)) e.2).getD a.toNat 0 = t
      rw [idL_to ha.1 ha.2, ← h2, k1, pair_0]
    · show (path (actL ts) (idL (nS ts)) e.2).getD h.toNat 0 = _
      rw [idL_to hh.1 hh.2, k1, pair_1]
theorem onT_form (hG : Fst (actL ts) ts.length [a, h] G) {e : KR} (he : e ∈ onT G t) : e.1 = [t, e.1.getD 1 0] := by
  obtain ⟨h1, h2⟩ := List.mem_filter.mp he
  obtain ⟨k1, k2, _⟩ := hG.mem h1
  have h2 := of_decide_eq_true h2
  rw [path_run] at k1
  rw [k1] at h2 ⊢
  have h2 : run ts a e.2 = t := h2
  show [run ts a e.2, run ts h e.2] = [t, run ts h e.2]
  rw [h2]
theorem ends_nodup (hG : Fst (actL ts) ts.length [a, h] G) : (endsOf G t).Nodup := by
  refine List.pairwise_map.mpr (List.Pairwise.imp_of_mem (fun {e e'} he he' ne z => ?_) ((nodup_of hG.nd).filter _))
  exact ne ((onT_form hG he).trans ((congrArg (fun x => [t, x]) z).trans (onT_form hG he').symm))
theorem lots_len (hM : Fst (actL ts) ts.length (idL (nS ts)) F) (hG : Fst (actL ts) ts.length [a, h] G) (ha : 0 ≤ a ∧ a < (nS ts : Int)) (hh : 0 ≤ h ∧ h < (nS ts : Int)) {lots : List Int} (hp : lots.Pairwise (· < ·)) (hm : ∀ x, x ∈ lots ↔ x ∈ thr (EM F a.toNat t) h.toNat) :
    lots.length = (endsOf G t).length ∧ ∀ x, x ∈ lots ↔ x ∈ endsOf G t := by
  have k : ∀ x, x ∈ lots ↔ x ∈ endsOf G t := fun x => (hm x).trans (ends_mem hM hG ha hh x)
  exact ⟨Nat.le_antisymm (sub_len (asc_nodup hp) fun x hx => (k x).mp hx) (sub_len (ends_nodup hG) fun x hx => (k x).mpr hx), k⟩
theorem two_link (hM : Fst (actL ts) ts.length (idL (nS ts)) F) (hG : Fst (actL ts) ts.length [a, h] G) (ha : 0 ≤ a ∧ a < (nS ts : Int)) (hh : 0 ≤ h ∧ h < (nS ts : Int)) (h2 : 2 ≤ (endsOf G t).length) :
    ∃ e1 L1 e2 L2 rs, EM F a.toNat t = e1 :: L1 ∧ (EM F a.toNat t).filter (fun e => decide (e.1.getD h.toNat 0 ≠ e1.1.getD h.toNat 0)) = e2 :: L2 ∧ rowsOf G t = e1.2 :: e2.2 :: rs := by
  unfold endsOf at h2
  rw [List.length_map] at h2
  match hg : onT G t, h2 with
  | g1 :: g2 :: M, _ =>
    have q1 : ∀ r : List Int, (∀ x ∈ r, 0 ≤ x ∧ x < (ts.length : Int)) → decide ((path (actL ts) (idL (nS ts)) r).getD a.toNat 0 = t) = decide ((path (actL ts) [a, h] r).getD 0 0 = t) := fun r _ => by
      rw [idL_to ha.1 ha.2, pair_0]
    obtain ⟨e1, L1, hL, he⟩ := fst_two (p := fun x => decide (x.getD a.toNat 0 = t)) (q := fun x => decide (x.getD 0 0 = t)) hM hG q1 hg
    have m1 : e1 ∈ F := (List.mem_filter.mp (show e1 ∈ F.filter _ by rw [hL]; exact List.mem_cons_self)).1
    have mg1 : g1 ∈ onT G t := by rw [hg]; exact List.mem_cons_self
    have mg2 : g2 ∈ onT G t := by rw [hg]; exact List.mem_cons_of_mem _ List.mem_cons_self
    have w1 : e1.1.getD h.toNat 0 = g1.1.getD 1 0 := by
      rw [(hM.mem m1).1, idL_to hh.1 hh.2, (hG.mem (List.mem_filter.mp mg1).1).1, pair_1, he]
    have nd := ends_nodup (t := t) hG
    unfold endsOf at nd
    rw [hg] at nd
    have n12 : g2.1.getD 1 0 ≠ g1.1.getD 1 0 := fun z => (List.nodup_cons.mp nd).1 (by show g1.1.getD 1 0 ∈ _; rw [← z]; exact List.mem_cons_self)
    have q2 : ∀ r : List Int, (∀ x ∈ r, 0 ≤ x ∧ x < (ts.length : Int)) → (decide ((path (actL ts) (idL (nS ts)) r).getD h.toNat 0 ≠ e1.1.getD h.toNat 0) && decide ((path (actL ts) (idL (nS ts)) r).getD a.toNat 0 = t)) = (decide ((path (actL ts) [a, h] r).getD 1 0 ≠ e1.1.getD h.toNat 0) && decide ((path (actL ts) [a, h] r).getD 0 0 = t)) := fun r _ => by
      rw [idL_to ha.1 ha.2, pair_0, idL_to hh.1 hh.2, pair_1]
    have hg2 : ∃ M', G.filter (fun e => decide (e.1.getD 1 0 ≠ e1.1.getD h.toNat 0) && decide (e.1.getD 0 0 = t)) = g2 :: M' := by
      have ff : G.filter (fun e => decide (e.1.getD 1 0 ≠ e1.1.getD h.toNat 0) && decide (e.1.getD 0 0 = t)) = (onT G t).filter fun e => decide (e.1.getD 1 0 ≠ e1.1.getD h.toNat 0) := by
        unfold onT
        rw [List.filter_filter]
      rw [ff, hg, List.filter_cons, if_neg (by rw [w1]; simp), List.filter_cons, if_pos (decide_eq_true (by rw [w1]; exact n12))]
      exact ⟨_, rfl⟩
    obtain ⟨M', hg2⟩ := hg2
    obtain ⟨e2, L2, hL2, he2⟩ := fst_two (p := fun x => decide (x.getD h.toNat 0 ≠ e1.1.getD h.toNat 0) && decide (x.getD a.toNat 0 = t)) (q := fun x => decide (x.getD 1 0 ≠ e1.1.getD h.toNat 0) && decide (x.getD 0 0 = t)) hM hG q2 hg2
    refine ⟨e1, L1, e2, L2, M.map (·.2), hL, ?_, ?_⟩
    · unfold EM
      rw [List.filter_filter]
      exact hL2
    · unfold rowsOf
      rw [hg, he, he2]; rfl
/-- rows of the pairs are short -/
theorem pair_short (w : Wf ts) (ha : 0 ≤ a ∧ a < (nS ts : Int)) (hh : 0 ≤ h ∧ h < (nS ts : Int)) (hG : Fst (actL ts) ts.length [a, h] G) : G.length ≤ 144 := by
  have form : ∀ e ∈ G, ∃ x y : Int, e.1 = [x, y] ∧ 0 ≤ x ∧ x < 12 ∧ 0 ≤ y ∧ y < 12 := fun e he => by
    obtain ⟨e1, hr, _⟩ := hG.mem he
    have h1 := w.run e.2 a hr ha
    have h2 := w.run e.2 h hr hh
    have := w.s12
    rw [path_run] at e1
    exact ⟨run ts a e.2, run ts h e.2, e1, by omega, by omega, by omega, by omega⟩
  have nd2 : (G.map fun e => e.1.getD 0 0 * 12 + e.1.getD 1 0).Nodup := by
    refine List.pairwise_map.mpr (List.Pairwise.imp_of_mem (fun {e e'} he he' ne z => ?_) (nodup_of hG.nd))
    obtain ⟨x, y, e1, _⟩ := form e he
    obtain ⟨x', y', e2, _⟩ := form e' he'
    rw [e1, e2] at z
    have z' : x * 12 + y = x' * 12 + y' := z
    obtain ⟨rfl, rfl⟩ : x = x' ∧ y = y' := by omega
    exact ne (e1.trans e2.symm)
  have := nodup_le 144 _ nd2 fun z hz => by
    obtain ⟨e, he, rfl⟩ := List.mem_map.mp hz
    obtain ⟨x, y, e1, _⟩ := form e he
    rw [e1]
    show 0 ≤ x * 12 + y ∧ x * 12 + y < ((144 : Nat) : Int)
    omega
  rw [List.length_map] at this
  omega
end
end K1
namespace K1
open PySem PySem.Spec PyProof.Rows L2
/-! ### the orbit, by the search of one state -/
def Rch (ts : Ts) (s x : Int) : Prop := ∃ r : List Int, (∀ d ∈ r, 0 ≤ d ∧ d < (ts.length : Int)) ∧ run ts s r = x
theorem Rch.rng {ts : Ts} (w : Wf ts) {s x : Int} (h : Rch ts s x) (hs : 0 ≤ s ∧ s < (nS ts : Int)) : 0 ≤ x ∧ x < (nS ts : Int) := by
  obtain ⟨r, hr, rfl⟩ := h
  exact w.run r s hr hs
theorem Rch.trans {ts : Ts} {s x y : Int} (a : Rch ts s x) (b : Rch ts x y) : Rch ts s y := by
  obtain ⟨r, hr, rfl⟩ := a
  obtain ⟨q, hq, rfl⟩ := b
  exact ⟨r ++ q, fun d hd => (List.mem_append.mp hd).elim (hr d) (hq d), by unfold run; rw [List.foldl_append]⟩
theorem one_0 {ts : Ts} {s : Int} {r : List Int} : (path (actL ts) [s] r) = [run ts s r] := by rw [path_run]; rfl
theorem one_few {ts : Ts} (w : Wf ts) {s : Int} (hs : 0 ≤ s ∧ s < (nS ts : Int)) : FewK ts [s] := fun F nd hF => by
  have form : ∀ e ∈ F, ∃ x : Int, e.1 = [x] ∧ 0 ≤ x ∧ x < 12 := fun e he => by
    obtain ⟨r, hr, e1⟩ := hF e he
    have h1 := w.run r s hr hs
    have := w.s12
    rw [one_0] at e1
    exact ⟨run ts s r, e1, by omega, by omega⟩
  have nd2 : (F.map fun e => e.1.getD 0 0).Nodup := by
    refine List.pairwise_map.mpr (List.Pairwise.imp_of_mem (fun {e e'} he he' ne z => ?_) (nodup_of nd))
    obtain ⟨x, e1, _⟩ := form e he
    obtain ⟨x', e2, _⟩ := form e' he'
    rw [e1, e2] at z
    have z' : x = x' := z
    subst z'
    exact ne (e1.trans e2.symm)
  have := nodup_le 12 _ nd2 fun z hz => by
    obtain ⟨e, he, rfl⟩ := List.mem_map.mp hz
    obtain ⟨x, e1, _⟩ := form e he
    rw [e1]
    show 0 ≤ x ∧ x < ((12 : Nat) : Int)
    omega
  rw [List.length_map] at this
  omega
def heads (F : List KR) : List Int := F.map fun e => e.1.getD 0 0
theorem heads_rch {ts : Ts} {s : Int} {F : List KR} (hF : Fst (actL ts) ts.length [s] F) (x : Int) : x ∈ heads F ↔ Rch ts s x := by
  constructor
  · intro hx
    obtain ⟨e, he, rfl⟩ := List.mem_map.mp hx
    obtain ⟨h1, h2, _⟩ := hF.mem he
    exact ⟨e.2, h2, by rw [h1, one_0]; rfl⟩
  · rintro ⟨r, hr, rfl⟩
    obtain ⟨j, r', hj, _⟩ := hF.all r hr
    exact List.mem_map.mpr ⟨_, List.mem_of_getElem? hj, by show (path (actL ts) [s] r).getD 0 0 = _; rw [one_0]; rfl⟩
theorem heads_nodup {ts : Ts} {s : Int} {F : List KR} (hF : Fst (actL ts) ts.length [s] F) : (heads F).Nodup := by
  refine List.pairwise_map.mpr (List.Pairwise.imp_of_mem (fun {e e'} he he' ne z => ?_) (nodup_of hF.nd))
  obtain ⟨h1, _, _⟩ := hF.mem he
  obtain ⟨h2, _, _⟩ := hF.mem he'
  rw [one_0] at h1 h2
  rw [h1, h2] at z
  have z' : run ts s e.2 = run ts s e'.2 := z
  exact ne (by rw [h1, h2, z'])
theorem lt_of_le_nodup {l : List Int} (h : l.Pairwise (· ≤ ·)) (n : l.Nodup) : l.Pairwise (· < ·) := by
  have h2 : l.Pairwise (· ≠ ·) := n
  exact (h.and h2).imp fun {a b} ⟨h1, h2⟩ => by omega
def spOrbit (M CS : Addr) : Sp := fun vs H Q E => ∃ m ta ts v, vs = [.ref m, v] ∧ MachAt M H m ta (vts ts) ∧ Wf ts ∧ (∃ (K : PySem.W.Frag) (o : Option (List V)), KV K H v o) ∧ (belowB v (nS ts : Int) = false → Rz CS "state" v H E) ∧
  (∀ s, v = .int s → (0 ≤ s ∧ s < (nS ts : Int)) → ∀ (ns : List Int) p H', Same H H' → ns.Pairwise (· < ·) → (∀ x, x ∈ ns ↔ Rch ts s x) → H' p = some (.tup (vrow ns)) → Q (.ref p) H')
section
variable {P : Program} {w : World} {K : PySem.W.Frag} {mg : Str → Option Value} {base : Heap}
abbrev nOr : List Str := ["machine", "state", "ends"]
theorem scOr : FnScope nOr ["machine", "state"] (defScope sOrbit) := ⟨rfl, rfl, rfl, by decide +kernel, rfl, by decide +kernel, by decide +kernel⟩
theorem ok_orbit {f fN fF CS M : Addr} {fd fdN fdF : FuncData} (D : Df K mg "orbit" sOrbit ["machine", "state"] f fd) (DN : Df K mg "need_state" sNeedS ["machine", "state"] fN fdN) (DF : DfF K mg fF fdF) (B : Bt mg)
    (GN : FnOk P w K mg base (L2.CX P w) 3 fN fdN ["machine", "state"] (spNeed M CS "state" nS)) (GF : FnOk P w K mg base CX0 1 fF fdF ["machine", "states", "out", "most"] (spFirst M)) : FnOk P w K mg base (L2.CX P w) 4 f fd ["machine", "state"] (spOrbit M CS) := by
  refine D.F.okX scOr (fun vs H Q E h => ?_) (fun cdv A outer s H vs Q E hr h => ?_)
  · obtain ⟨m, ta, ts, v, rfl, _⟩ := h
    rfl
  · obtain ⟨m, ta, ts, v, rfl, hM, hW, kv, q1, q2⟩ := h
    obtain ⟨ds, vd, bd⟩ := DF.b
    refine ⟨_, pss_cons (ps_expr (pc DN GN hr (pass1 (takes_of rfl rfl rfl rfl)) (pa_cons (pv 0) (pa_cons (pv 1) pa_nil))))
      (pss_one (ps_ret (pe_callTy call_tuple_of (by rfl) B.tuple PyProof.Rows.boot_tuple (pa_cons (pe_callB cr_sortedI (by rfl) B.sorted PyProof.Rows.boot_sorted (pa_cons
        (pe_lc (own := [("ends", 2)]) (g := gName 2) (tt := tYes) rfl scOr.nd (pi_keysF (pcF DF GF (hr.mono (by decide)) pass0 (pa_cons (pv 0) (pa_cons (pe_tup (pa_cons (pv 1) pa_nil)) pa_nil)) vd bd)) (blkOk_by (N := nOr) (sc := defScope sOrbit) (by decide +kernel)) (fun _ _ _ _ _ => pg_name (i := 2) scOr.nd rfl (Or.inl rfl)) (fun _ _ _ _ _ => pts_nil)
          (fun _ _ _ _ _ => pe_ix (ixTK (K := K) rfl) (pv 2) pe_int (fun _ _ => rfl))) pa_nil)) pa_nil)))), ?_⟩
    refine ⟨_, rfl, _, rfl, m, ta, ts, v, rfl, hM, kv, fun e => ?_, fun e => q1 e⟩
    obtain ⟨s0, rfl, hs⟩ := belowB_int e
    have q := q2 s0 rfl hs
    refine ⟨_, rfl, _, rfl, (by show 1 ≤ sizeLine; decide), fun p hp => ?_⟩
    have s1 := same_new (o := HO.tup [V.int s0]) hp
    refine ⟨m, ta, ts, [s0], p, rfl, hM.same s1, hW, fun x hx => by rw [List.mem_singleton.mp hx]; exact hs, (by decide : 1 ≤ 12), upd_same, one_few hW hs, fun d F H2 s2 hd ⟨kvs, hd2, ky, vl⟩ hF hf => ?_⟩
    have s12 := s1.trans s2
    have hd0 : H d = none := s1.free hd
    have lk : kvs.length = F.length := by simpa using congrArg List.length ky
    refine ⟨d, kvs, rfl, hd2, fun od D0 hD0 => ?_⟩
    have ndD : d ≠ D0 := fun z => by rw [← z, upd_same] at hD0; cases hD0
    have hD2 : H2 D0 = none := by rw [upd_ne ndD.symm] at hD0; exact hD0
    generalize hH3 : upd H2 d (.frz od (.dT kvs)) = H3
    have hd3 : H3 d = some (.frz od (.dT kvs)) := by rw [← hH3, upd_same]
    have s3 : Same H H3 := fun c o e => by
      rw [← hH3, upd_ne (ne_of_none e hd0)]
      exact s12 _ _ e
    have hD3 : H3 D0 = none := by rw [← hH3, upd_ne ndD.symm]; exact hD2
    refine lc_keysF (fun i H' => Same H3 H' ∧ H' D0 = some (.lst (((heads F).take i).map V.int))) ⟨same_new hD3, upd_same⟩ (fun i H' _ ⟨s4, _⟩ => s4 _ _ hd3) ?_ ?_
    · rintro i k v qk H' hk hqk ⟨s4, hD4⟩
      obtain ⟨e, he, rfl⟩ : ∃ e, F[i]? = some e ∧ k = kK e.1 := by
        have z : (kvs.map (·.1))[i]? = some k := by rw [List.getElem?_map, hk]; rfl
        rw [ky, List.getElem?_map] at z
        cases e : F[i]? with
        | none => rw [e] at z; cases z
        | some x => rw [e] at z; exact ⟨x, rfl, (Option.some.inj z).symm⟩
      obtain ⟨pe, _, _⟩ := hF.mem (List.mem_of_getElem? he)
      rw [one_0] at pe
      have hx : (heads F)[i]? = some (run ts s0 e.2) := by rw [heads, List.getElem?_map, he, Option.map_some, pe]; rfl
      rw [kK_v, pe] at hqk
      refine ⟨rfl, _, rfl, qk, _, 0, .int (run ts s0 e.2), rfl, rfl, SqT.of hqk, atI_nat (j := 0) rfl, _, hD4, ?_, ?_, ?_⟩
      · rw [List.length_map, List.length_take, heads, List.length_map, sizeLine_eq]; omega
      · intro c o e
        rw [upd_ne (ne_of_none e hD3)]
        exact s4 _ _ e
      · rw [upd_same, take_succ hx, List.map_append]; rfl
    · rintro H4 ⟨s4, hD4⟩
      have eL : (heads F).take kvs.length = heads F := by rw [lk, heads, List.take_of_length_le]; rw [List.length_map]; exact Nat.le_refl _
      rw [eL] at hD4
      refine ⟨D0, heads F, rfl, SqL.of hD4, fun ns' p2 hperm hpw hp2 => ?_⟩
      refine ⟨p2, _, rfl, .inl ⟨SqL.of upd_same, fun p3 hp3 => ?_⟩⟩
      refine q ns' p3 _ ((s3.trans s4).trans ((same_new hp2).trans (same_new hp3))) (lt_of_le_nodup hpw (hperm.nodup_iff.mpr (heads_nodup hF))) (fun x => ?_) upd_same
      rw [hperm.mem_iff]
      exact heads_rch hF x
end
end K1
namespace K1
open PySem PySem.Spec PyProof.Rows L2
theorem for_itemsF {d : Addr} {o : Obj} {kvs : List (List Key × V)} {g : TG} {tb : TS} {D : Ends} {σ : L2.St} {H : Hp} (Pv : Nat → L2.St → Hp → Prop) (h0 : Pv 0 σ H) (hl : ∀ i σ H, i ≤ kvs.length → Pv i σ H → H d = some (.frz o (.dT kvs)))
    (hs : ∀ (i : Nat) k v q T σ H, kvs[i]? = some (k, v) → H q = some (.tup (k.map kV)) → H T = none → Pv i σ H → g (.ref T) σ (upd H T (.tup [.ref q, v])) fun σ2 H2 => tb { D with nx := Pv (i + 1), ct := Pv (i + 1), bk := D.nx } σ2 H2) (hd : ∀ σ H, Pv kvs.length σ H → D.nx σ H) :
    ∃ W : Nat → Nat → L2.St → Hp → Prop, (∃ m, W 0 m σ H) ∧ ∀ i m σ H, W i m σ H →
      ((Itit d o kvs).stop i H ∧ D.nx σ H) ∨ ((Itit d o kvs).go i H ∧ ∃ N : L2.St → Hp → Prop, (∀ σ' H', N σ' H' → ∃ m', m' < m ∧ W (i + 1) m' σ' H') ∧ ∀ x H', (Itit d o kvs).yld i H x H' → g x σ H' fun σ2 H2 => tb { D with nx := N, ct := N, bk := D.nx } σ2 H2) := by
  refine ⟨fun i m σ H => m = kvs.length - i ∧ i ≤ kvs.length ∧ Pv i σ H, ⟨kvs.length, by simp, Nat.zero_le _, h0⟩, ?_⟩
  rintro i m σ H ⟨rfl, hi, p⟩
  have q := hl i σ H hi p
  by_cases hlt : i < kvs.length
  · refine .inr ⟨⟨q, hlt⟩, Pv (i + 1), fun σ' H' p' => ⟨kvs.length - (i + 1), by omega, rfl, hlt, p'⟩, fun x H' y => ?_⟩
    obtain ⟨T, r, k, v, e1, e2, e3, e4, e5⟩ := y
    subst e2
    rw [e5]
    exact hs i k v r T σ _ e1 e4 e3 p
  · have e : i = kvs.length := by omega
    subst e
    exact .inl ⟨⟨q, Nat.le_refl _⟩, hd σ H p⟩
/-! ### rows that part -/
def hd0 (e : KR) : Int := e.1.getD 0 0
def partG : List KR → List KR → Option (List Int × List Int)
  | _, [] => none
  | S, e :: r => match S.find? (fun s => decide (hd0 s = hd0 e)) with
    | some s => some (s.2, e.2)
    | none => partG (S ++ [e]) r
def Part (F : List KR) : Option (List Int × List Int) := partG [] F
def seenK (S : List KR) (as : List Addr) : List (Key × V) := (S.zip as).map fun p => (Sum.inl (hd0 p.1), V.ref p.2)
def SeenAt (H : Hp) (d : Addr) (S : List KR) : Prop := ∃ as : List Addr, as.length = S.length ∧ H d = some (.dK (seenK S as)) ∧ ∀ (i : Nat) e a, S[i]? = some e → as[i]? = some a → H a = some (.tup (vrow e.2))
theorem SeenAt.same {H H' : Hp} {d : Addr} {S : List KR} (h : SeenAt H d S) (s : Same H H') : SeenAt H' d S := let ⟨as, h1, h2, h3⟩ := h; ⟨as, h1, s _ _ h2, fun i e a e1 e2 => s _ _ (h3 i e a e1 e2)⟩
theorem seen_val (x : Int) : ∀ (S : List KR) (as : List Addr), as.length = S.length →
    (S.find? (fun s => decide (hd0 s = x)) = none ∧ valV (seenK S as) (Sum.inl x) = none) ∨
    ∃ (i : Nat) (e : KR) (a : Addr), S.find? (fun s => decide (hd0 s = x)) = some e ∧ S[i]? = some e ∧ as[i]? = some a ∧ valV (seenK S as) (Sum.inl x) = some (.ref a)
  | [], [], _ => .inl ⟨rfl, rfl⟩
  | [], _ :: _, h => by cases h
  | _ :: _, [], h => by cases h
  | e :: S, a :: as, h => by
    by_cases z : hd0 e = x
    · refine .inr ⟨0, e, a, List.find?_cons_of_pos (by simpa using z), rfl, rfl, ?_⟩
      unfold valV seenK
      rw [List.zip_cons_cons, List.map_cons, List.find?_cons_of_pos (by simpa using z)]; rfl
    · have n1 : valV (seenK (e :: S) (a :: as)) (Sum.inl x) = valV (seenK S as) (Sum.inl x) := by
        unfold valV seenK
        rw [List.zip_cons_cons, List.map_cons, List.find?_cons_of_neg (by simpa using z)]
      have n2 : (e :: S).find? (fun s => decide (hd0 s = x)) = S.find? (fun s => decide (hd0 s = x)) := List.find?_cons_of_neg (by simpa using z)
      rw [n1, n2]
      rcases seen_val x S as (by simpa using h) with k | ⟨i, f, b, k1, k2, k3, k4⟩
      · exact .inl k
      · exact .inr ⟨i + 1, f, b, k1, k2, k3, k4⟩
theorem seenK_snoc {S : List KR} {as : List Addr} {e : KR} {a : Addr} (h : as.length = S.length) : seenK (S ++ [e]) (as ++ [a]) = seenK S as ++ [(Sum.inl (hd0 e), V.ref a)] := by
  unfold seenK
  rw [List.zip_append h.symm, List.map_append]; rfl
theorem partG_cons {S r : List KR} {e : KR} : partG S (e :: r) = match S.find? (fun s => decide (hd0 s = hd0 e)) with | some s => some (s.2, e.2) | none => partG (S ++ [e]) r := rfl
def spParting (M : Addr) : Sp := fun vs H Q _ => ∃ m ta ts a h, vs = [.ref m, .int a, .int h] ∧ MachAt M H m ta (vts ts) ∧ Wf ts ∧ (0 ≤ a ∧ a < (nS ts : Int)) ∧ (0 ≤ h ∧ h < (nS ts : Int)) ∧
  ∀ F H', Same H H' → Fst (actL ts) ts.length [a, h] F → (Part F = none → Q .non H') ∧ ∀ r1 r2 p x y, Part F = some (r1, r2) → H' p = some (.tup [.ref x, .ref y]) → H' x = some (.tup (vrow r1)) → H' y = some (.tup (vrow r2)) → Q (.ref p) H'
section
variable {P : Program} {w : World} {K : PySem.W.Frag} {mg : Str → Option Value} {base : Heap}
abbrev nPt : List Str := ["machine", "archive", "here", "seen", "ends", "row"]
theorem scPt : FnScope nPt ["machine", "archive", "here"] (defScope sParting) := ⟨rfl, rfl, rfl, by decide +kernel, rfl, by decide +kernel, by decide +kernel⟩
theorem ok_parting {f fF M : Addr} {fd fdF : FuncData} (D : Df K mg "parting_rows" sParting ["machine", "archive", "here"] f fd) (DF : DfF K mg fF fdF) (B : Bt mg) (GF : FnOk P w K mg base CX0 1 fF fdF ["machine", "states", "out", "most"] (spFirst M)) :
    FnOk P w K mg base CX0 2 f fd ["machine", "archive", "here"] (spParting M) := by
  refine D.F.ok scPt (fun vs H Q E h => ?_) (fun cdv A outer s H vs Q E hr h => ?_)
  · obtain ⟨m, ta, ts, a, h, rfl, _⟩ := h
    rfl
  · obtain ⟨m, ta, ts, a, h, rfl, hM, hW, ha, hh, q⟩ := h
    have hu := hu_of hr
    obtain ⟨ds, vd, bd⟩ := DF.b
    refine ⟨_, pss_cons (ps_set (i := 3) scPt.nd rfl (.inl rfl) pe_dnewK)
      (pss_cons (ps_for PassesOwn.never rfl (pi_itemsF (pcF DF GF hr pass0 (pa_cons (pv 0) (pa_cons (pe_tup (pa_cons (pv 1) (pa_cons (pv 2) pa_nil))) pa_nil)) vd bd)) (pg_tup rfl (pgs_cons (pg_name (i := 4) scPt.nd rfl (.inl rfl)) (pgs_cons (pg_name (i := 5) scPt.nd rfl (.inl rfl)) pgs_nil)))
        (pss_cons (ps_if (pt_cmp (pc_din hu (pe_ix (ixTK (K := K) rfl) (pv 4) pe_int (fun _ _ => rfl)) (pv 3))) (pss_one (ps_ret (pe_tup (pa_cons (pe_dget hu (pv 3) (pe_ix (ixTK (K := K) rfl) (pv 4) pe_int (fun _ _ => rfl)) (fun _ _ => rfl)) (pa_cons (pv 5) pa_nil))))) pss_nil)
        (pss_one (ps_dput hu (pv 3) (pe_ix (ixTK (K := K) rfl) (pv 4) pe_int (fun _ _ => rfl)) (pv 5) rfl))))
      (pss_one (ps_ret pe_non))), ?_⟩
    intro dn hdn
    have s0 := same_new (o := HO.dK []) hdn
    have hdn0 : (upd H dn (.dK [])) dn = some (.dK []) := upd_same
    generalize upd H dn (.dK []) = H0 at s0 hdn0 ⊢
    refine ⟨_, rfl, _, rfl, _, rfl, (by show 2 ≤ sizeLine; decide), fun p hp => ?_⟩
    have s1 := s0.trans (same_new (o := HO.tup [V.int a, .int h]) hp)
    have hdn1 := (same_new (o := HO.tup [V.int a, .int h]) hp) _ _ hdn0
    have hss : ∀ s ∈ [a, h], 0 ≤ s ∧ s < (nS ts : Int) := fun s hs => by
      simp only [List.mem_cons, List.mem_nil_iff, or_false] at hs
      rcases hs with rfl | rfl <;> assumption
    refine ⟨m, ta, ts, [a, h], p, rfl, hM.same s1, hW, hss, (by show 2 ≤ 12; decide), upd_same, pair_few hW ha hh, fun d F H2 s2 hd ⟨kvs, hd2, ky, vl⟩ hF hf => ?_⟩
    have s12 := s1.trans s2
    have hd0' : H d = none := s1.free hd
    have hdn2 := s2 _ _ hdn1
    have lk : kvs.length = F.length := by simpa using congrArg List.length ky
    refine ⟨d, kvs, rfl, hd2, fun od => ?_⟩
    have ndd : dn ≠ d := fun z => by rw [z, hd2] at hdn2; cases hdn2
    generalize hH3 : upd H2 d (.frz od (.dT kvs)) = H3
    have hd3 : H3 d = some (.frz od (.dT kvs)) := by rw [← hH3, upd_same]
    have hdn3 : H3 dn = some (.dK []) := by rw [← hH3, upd_ne ndd]; exact hdn2
    have vl3 : ∀ (i : Nat) k v x r, kvs[i]? = some (k, v) → F[i]? = some (x, r) → ∃ a, v = .ref a ∧ H3 a = some (.tup (vrow r)) := fun i k v x r e1 e2 => by
      obtain ⟨c, e, hc⟩ := vl i k v x r e1 e2
      refine ⟨c, e, ?_⟩
      rw [← hH3, upd_ne (ne_of hc hd2 (by intro z; cases z))]
      exact hc
    have s3' : Same H H3 := fun c o e => by
      rw [← hH3, upd_ne (ne_of_none e hd0')]
      exact s12 _ _ e
    have nH : H dn = none := hdn
    refine for_itemsF (fun i σ H' => ∃ v4 v5, σ = [some (.ref m), some (.int a), some (.int h), some (.ref dn), v4, v5] ∧ (∀ c o, H3 c = some o → c ≠ dn → H' c = some o) ∧ SeenAt H' dn (F.take i) ∧ partG (F.take i) (F.drop i) = Part F) ⟨none, none, rfl, fun c o e _ => e, ⟨[], rfl, hdn3, fun i e a e1 => by cases e1⟩, rfl⟩ (fun i σ H' _ ⟨_, _, _, k, _⟩ => k _ _ hd3 (fun z => ndd z.symm)) ?_ ?_
    · rintro i k v qk T σ H' hk hqk hT ⟨v4, v5, rfl, kp, ⟨as, la, hs1, hs2⟩, hpt⟩
      obtain ⟨e, he, rfl⟩ : ∃ e, F[i]? = some e ∧ k = kK e.1 := by
        have z : (kvs.map (·.1))[i]? = some k := by rw [List.getElem?_map, hk]; rfl
        rw [ky, List.getElem?_map] at z
        cases e : F[i]? with
        | none => rw [e] at z; cases z
        | some x => rw [e] at z; exact ⟨x, rfl, (Option.some.inj z).symm⟩
      have hiF : i < F.length := (List.getElem?_eq_some_iff.mp he).1
      obtain ⟨c, rfl, hc⟩ := vl3 i _ _ e.1 e.2 hk he
      obtain ⟨pe, _, _⟩ := hF.mem (List.mem_of_getElem? he)
      rw [path_run] at pe
      have pe' : e.1 = [run ts a e.2, run ts h e.2] := pe
      have eh : hd0 e = run ts a e.2 := by unfold hd0; rw [pe']; rfl
      rw [kK_v, pe'] at hqk
      have sT := same_new (o := HO.tup [.ref qk, .ref c]) hT
      have hcT := sT _ _ (kp _ _ hc (ne_of (kp _ _ hc (fun z => by rw [z, hdn3] at hc; cases hc)) hs1 (by intro z; cases z)))
      have hsT := sT _ _ hs1
      have hqT := sT _ _ hqk
      have hs2T : ∀ (j : Nat) f b, (F.take i)[j]? = some f → as[j]? = some b → (upd H' T (.tup [.ref qk, .ref c])) b = some (.tup (vrow f.2)) := fun j f b e1 e2 => sT _ _ (hs2 j f b e1 e2)
      have hTT : (upd H' T (.tup [.ref qk, .ref c])) T = some (.tup [.ref qk, .ref c]) := upd_same
      have kpA : ∀ c' o, H3 c' = some o → c' ≠ dn → (upd H' T (.tup [.ref qk, .ref c])) c' = some o := fun x o e n => sT _ _ (kp _ _ e n)
      generalize upd H' T (.tup [.ref qk, .ref c]) = H4 at sT hcT hsT hqT hs2T hTT kpA ⊢
      have ed : F.drop i = e :: F.drop (i + 1) := by
        rw [List.drop_eq_getElem_cons hiF]
        congr 1
        exact (List.getElem?_eq_some_iff.mp he).2
      have et := take_succ he
      rw [ed, partG_cons, eh] at hpt
      have lS : (seenK (F.take i) as).length ≤ 1000 := by
        unfold seenK
        rw [List.length_map, List.length_zip, List.length_take]
        omega
      refine ⟨T, _, rfl, SqT.of hTT, rfl, _, _, rfl, _, _, rfl, rfl, ?_⟩
      refine ⟨_, rfl, qk, _, 0, _, rfl, rfl, SqT.of hqT, atI_nat (j := 0) rfl, _, rfl, dn, _, rfl, DGet.k (k := Sum.inl (run ts a e.2)) hsT, _, rfl, ?_⟩
      rcases seen_val (run ts a e.2) (F.take i) as la with ⟨k1, k2⟩ | ⟨j, f, b, k1, k2, k3, k4⟩
      · rw [k2]
        rw [k1] at hpt
        refine iteF ?_
        refine ⟨_, rfl, _, rfl, _, rfl, qk, _, 0, _, rfl, rfl, SqT.of hqT, atI_nat (j := 0) rfl, dn, _, rfl, DPut.k (k := Sum.inl (run ts a e.2)) hsT (by rw [sizeLine_eq]; omega), ?_⟩
        refine ⟨_, _, rfl, fun c' o e' n => by rw [upd_ne n]; exact kpA _ _ e' n, ⟨as ++ [c], by rw [et, List.length_append, List.length_append, la]; rfl, ?_, fun j f b e1 e2 => ?_⟩, by rw [et]; exact hpt⟩
        · rw [upd_same, putK_new _ k2, et, seenK_snoc la, eh]
        · have hb : H4 b = some (.tup (vrow f.2)) := by
            rw [et] at e1
            by_cases hj : j < as.length
            · rw [List.getElem?_append_left hj] at e2
              rw [List.getElem?_append_left (by rw [← la]; exact hj)] at e1
              exact hs2T j f b e1 e2
            · have hl : j = as.length := by
                have := (List.getElem?_eq_some_iff.mp e2).1
                simp only [List.length_append, List.length_cons, List.length_nil] at this
                omega
              subst hl
              rw [List.getElem?_append_right (Nat.le_refl _), Nat.sub_self] at e2
              rw [la, List.getElem?_append_right (Nat.le_refl _), Nat.sub_self] at e1
              rw [← Option.some.inj e1, ← Option.some.inj e2]
              exact hcT
          rw [upd_ne (ne_of hb hsT (by intro z; cases z))]
          exact hb
      · rw [k4]
        rw [k1] at hpt
        refine iteT ?_
        have sH : Same H H4 := fun c o e => kpA c o (s3' _ _ e) (ne_of_none e nH)
        refine ⟨_, rfl, _, rfl, qk, _, 0, _, rfl, rfl, SqT.of hqT, atI_nat (j := 0) rfl, dn, _, rfl, by rw [← k4]; exact DGet.k (k := Sum.inl (run ts a e.2)) hsT, _, rfl, (by show 2 ≤ sizeLine; decide), fun p9 hp9 => ?_⟩
        have s9 := same_new (o := HO.tup [V.ref b, .ref c]) hp9
        exact (q F _ (sH.trans s9) hF).2 f.2 e.2 p9 b c hpt.symm upd_same (s9 _ _ (hs2T j f b k2 k3)) (s9 _ _ hcT)
    · rintro σ H' ⟨v4, v5, rfl, kp, sa, hpt⟩
      rw [lk, List.take_length, List.drop_length] at hpt
      have sH : Same H H' := fun c o e => kp c o (s3' _ _ e) (ne_of_none e nH)
      exact (q F H' sH hF).1 hpt.symm
end
end K1
namespace K1
open PySem PySem.Spec PyProof.Rows L2
/-! ### a search finds one list -/
theorem asc_one : ∀ {F G : List KR}, (F.Pairwise fun x y => rlt x.2 y.2) → (G.Pairwise fun x y => rlt x.2 y.2) → (∀ e, e ∈ F ↔ e ∈ G) → F = G
  | [], [], _, _, _ => rfl
  | [], y :: G, _, _, h => absurd ((h y).mpr List.mem_cons_self) (by simp)
  | x :: F, [], _, _, h => absurd ((h x).mp List.mem_cons_self) (by simp)
  | x :: F, y :: G, p, q, h => by
    obtain ⟨p1, p2⟩ := List.pairwise_cons.mp p
    obtain ⟨q1, q2⟩ := List.pairwise_cons.mp q
    have e : x = y := by
      rcases List.mem_cons.mp ((h x).mp List.mem_cons_self) with z | z
      · exact z
      · rcases List.mem_cons.mp ((h y).mpr List.mem_cons_self) with w | w
        · exact w.symm
        · exact absurd ((q1 x z).trans (p1 y w)) (rlt.irrefl _)
    subst e
    refine congrArg (x :: ·) (asc_one p2 q2 fun e => ?_)
    constructor
    · intro he
      rcases List.mem_cons.mp ((h e).mp (List.mem_cons_of_mem _ he)) with z | z
      · subst z; exact absurd (p1 _ he) (rlt.irrefl _)
      · exact z
    · intro he
      rcases List.mem_cons.mp ((h e).mpr (List.mem_cons_of_mem _ he)) with z | z
      · subst z; exact absurd (q1 _ he) (rlt.irrefl _)
      · exact z
theorem fst_sub {act : List Int → Int → List Int} {n : Nat} {s : List Int} {F G : List KR} (h1 : Fst act n s F) (h2 : Fst act n s G) : ∀ e, e ∈ F → e ∈ G := fun e he => by
  obtain ⟨k1, k2, _⟩ := h1.mem he
  obtain ⟨j, r', hj, l1⟩ := h2.all e.2 k2
  have hjm := List.mem_of_getElem? hj
  obtain ⟨k3, k4, _⟩ := h2.mem hjm
  have k3 : path act s e.2 = path act s r' := k3
  have k4 : ∀ x ∈ r', 0 ≤ x ∧ x < (n : Int) := k4
  obtain ⟨i, r'', hi, l2⟩ := h1.all r' k4
  have him := List.mem_of_getElem? hi
  have same : (path act s r', r'') = e := by
    have nd := nodup_of h1.nd
    obtain ⟨a, ha⟩ := List.getElem?_of_mem he
    have ea : (F.map (·.1))[a]? = some e.1 := by rw [List.getElem?_map, ha]; rfl
    have ei : (F.map (·.1))[i]? = some e.1 := by rw [List.getElem?_map, hi]; show some (path act s r') = _; rw [← k3, ← k1]
    obtain ⟨g1, e5⟩ := List.getElem?_eq_some_iff.mp ea
    obtain ⟨g2, e6⟩ := List.getElem?_eq_some_iff.mp ei
    have z : a = i := (List.getElem_inj h1.nd).mp (e5.trans e6.symm)
    subst z
    rw [ha] at hi
    exact (Option.some.inj hi).symm
  have l3 : rle e.2 r' := by
    have z : r'' = e.2 := by rw [← same]
    rw [← z]; exact l2
  have er : r' = e.2 := rle.anti l1 l3
  have : e = (path act s e.2, r') := by rw [er, ← k1]
  rw [this]
  exact hjm
theorem fst_one {act : List Int → Int → List Int} {n : Nat} {s : List Int} {F G : List KR} (h1 : Fst act n s F) (h2 : Fst act n s G) : F = G := asc_one h1.pw h2.pw fun e => ⟨fst_sub h1 h2 e, fst_sub h2 h1 e⟩
/-! ### papers of what does not tell -/
def PP (ts : Ts) (a h : Int) (r : Option (List Int × List Int)) : Prop := ∃ F, Fst (actL ts) ts.length [a, h] F ∧ Part F = r
theorem PP.one {ts : Ts} {a h : Int} {r q : Option (List Int × List Int)} (x : PP ts a h r) (y : PP ts a h q) : r = q := by
  obtain ⟨F, h1, e1⟩ := x
  obtain ⟨G, h2, e2⟩ := y
  rw [← e1, ← e2, fst_one h1 h2]
def In8 (ts : Ts) (d : Int) : Prop := 0 ≤ d ∧ d < (ts.length : Int)
/-- archive, deed, two rows: the first ones -/
def TPaper (ts : Ts) (s : Int) : Option (Int × Int × List Int × List Int) → Prop
  | none => ∀ x, Rch ts s x → ∀ d, In8 ts d → PP ts x (stp ts x d) none
  | some (x, d, r1, r2) => Rch ts s x ∧ In8 ts d ∧ PP ts x (stp ts x d) (some (r1, r2)) ∧ ∀ y e, Rch ts s y → In8 ts e → (y < x ∨ (y = x ∧ e < d)) → PP ts y (stp ts y e) none
theorem TPaper.one {ts : Ts} {s : Int} : ∀ {r q : Option (Int × Int × List Int × List Int)}, TPaper ts s r → TPaper ts s q → r = q
  | none, none, _, _ => rfl
  | none, some (x, d, r1, r2), a, b => by
    have := PP.one (a x b.1 d b.2.1) b.2.2.1
    cases this
  | some (x, d, r1, r2), none, a, b => by
    have := PP.one (b x a.1 d a.2.1) a.2.2.1
    cases this
  | some (x, d, r1, r2), some (y, e, q1, q2), a, b => by
    rcases (show (x < y ∨ (x = y ∧ d < e)) ∨ (y < x ∨ (y = x ∧ e < d)) ∨ (x = y ∧ d = e) by omega) with z | z | ⟨z1, z2⟩
    · have := PP.one (b.2.2.2 x d a.1 a.2.1 z) a.2.2.1
      cases this
    · have := PP.one (a.2.2.2 y e b.1 b.2.1 z) b.2.2.1
      cases this
    · subst z1
      subst z2
      have := PP.one a.2.2.1 b.2.2.1
      cases this
      rfl
def TPV (H : Hp) (u : V) : Option (Int × Int × List Int × List Int) → Prop
  | none => u = .non
  | some (x, d, r1, r2) => ∃ p a b, u = .ref p ∧ H p = some (.tup [.str "untold", .int x, .int d, .ref a, .ref b]) ∧ H a = some (.tup (vrow r1)) ∧ H b = some (.tup (vrow r2))
def spTPaper (M CS : Addr) : Sp := fun vs H Q E => ∃ m ta ts v, vs = [.ref m, v] ∧ MachAt M H m ta (vts ts) ∧ Wf ts ∧ (∃ (K : PySem.W.Frag) (o : Option (List V)), KV K H v o) ∧ (belowB v (nS ts : Int) = false → Rz CS "state" v H E) ∧
  (∀ s, v = .int s → (0 ≤ s ∧ s < (nS ts : Int)) → ∀ r u H', Same H H' → TPaper ts s r → TPV H' u r → Q u H')
def spIsTell (M CS : Addr) : Sp := fun vs H Q E => ∃ m ta ts v, vs = [.ref m, v] ∧ MachAt M H m ta (vts ts) ∧ Wf ts ∧ (∃ (K : PySem.W.Frag) (o : Option (List V)), KV K H v o) ∧ (belowB v (nS ts : Int) = false → Rz CS "state" v H E) ∧
  (∀ s, v = .int s → (0 ≤ s ∧ s < (nS ts : Int)) → ∀ r H', Same H H' → TPaper ts s r → Q (.bl r.isNone) H')
section
variable {P : Program} {w : World} {K : PySem.W.Frag} {mg : Str → Option Value} {base : Heap}
abbrev nTP : List Str := ["machine", "state", "archive", "deed", "rows"]
theorem scTP : FnScope nTP ["machine", "state"] (defScope sTPaper) := ⟨rfl, rfl, rfl, by decide +kernel, rfl, by decide +kernel, by decide +kernel⟩
theorem ok_tpaper {f fO fP CS M : Addr} {fd fdO fdP : FuncData} (D : Df K mg "telling_paper" sTPaper ["machine", "state"] f fd) (DO : Df K mg "orbit" sOrbit ["machine", "state"] fO fdO) (DP : Df K mg "parting_rows" sParting ["machine", "archive", "here"] fP fdP) (B : Bt mg) (T : McT K mg M)
    (GO : FnOk P w K mg base (L2.CX P w) 4 fO fdO ["machine", "state"] (spOrbit M CS)) (GP : FnOk P w K mg base CX0 2 fP fdP ["machine", "archive", "here"] (spParting M)) : FnOk P w K mg base (L2.CX P w) 5 f fd ["machine", "state"] (spTPaper M CS) := by
  refine D.F.okX scTP (fun vs H Q E h => ?_) (fun cdv A outer s H vs Q E hr h => ?_)
  · obtain ⟨m, ta, ts, v, rfl, _⟩ := h
    rfl
  · obtain ⟨m, ta, ts, v, rfl, hM, hW, kv, q1, q2⟩ := h
    have r2 := hr.mono (show 2 ≤ 4 by decide)
    refine ⟨_, pss_cons (ps_for (passes_of rfl) rfl (pi_tup (pc DO GO hr (pass1 (takes_of rfl rfl rfl rfl)) (pa_cons (pv 0) (pa_cons (pv 1) pa_nil)))) (pg_name (i := 2) scTP.nd rfl (.inl rfl))
        (pss_one (ps_for (passes_of rfl) rfl (pi_range1 (by rfl) B.range (pa_cons (pe_fld (pv 0) rfl) pa_nil)) (pg_name (i := 3) scTP.nd rfl (.inl rfl))
          (pss_cons (ps_set (i := 4) scTP.nd rfl (.inl rfl) (pc DP GP r2 pass0 (pa_cons (pv 0) (pa_cons (pv 2) (pa_cons (pe_ix (ixTK (K := K) rfl) (pe_ix (ixTK (K := K) rfl) (pe_fld (pv 0) rfl) (pv 3) (fun _ _ => rfl)) (pv 2) (fun _ _ => rfl)) pa_nil)))))
          (pss_one (ps_if (pt_cmp (pc_notN (pv 4))) (pss_one (ps_ret (pe_tup (pa_cons pe_str (pa_cons (pv 2) (pa_cons (pv 3) (pa_cons (pe_ix (ixTK (K := K) rfl) (pv 4) pe_int (fun _ _ => rfl)) (pa_cons (pe_ix (ixTK (K := K) rfl) (pv 4) pe_int (fun _ _ => rfl)) pa_nil)))))))) pss_nil))))))
      (pss_one (ps_ret pe_non)), ?_⟩
    refine ⟨_, rfl, _, rfl, m, ta, ts, v, rfl, hM, hW, kv, q1, fun st e hst ns p H1 s1 asc mem hp => ?_⟩
    subst e
    have q := q2 st rfl hst
    have asc_lt : ∀ (i j : Nat) (z y : Int), ns[i]? = some z → ns[j]? = some y → y < z → j < i := fun i j z y hi hj hlt => by
      rcases Nat.lt_trichotomy j i with k | k | k
      · exact k
      · subst k
        rw [hi] at hj
        have := Option.some.inj hj
        omega
      · obtain ⟨g1, e1⟩ := List.getElem?_eq_some_iff.mp hi
        obtain ⟨g2, e2⟩ := List.getElem?_eq_some_iff.mp hj
        have := List.pairwise_iff_getElem.mp asc i j g1 g2 k
        omega
    refine ⟨p, rfl, ⟨_, SqT.of hp⟩, for_tup (K := K) (a := p) (xs := vrow ns) (fun i σ H' => ∃ v2 v3 v4, σ = [some (.ref m), some (.int st), v2, v3, v4] ∧ Same H1 H' ∧ ∀ (j : Nat) y, j < i → ns[j]? = some y → ∀ d, In8 ts d → PP ts y (stp ts y d) none) ⟨none, none, none, rfl, fun _ _ e => e, fun j y hj => absurd hj (Nat.not_lt_zero _)⟩ (fun i σ H' _ ⟨_, _, _, _, s, _⟩ => SqT.of (s _ _ hp)) ?_ ?_⟩
    · rintro i x σ H2 hx ⟨v2, v3, v4, rfl, s2, no⟩
      obtain ⟨z, hz, rfl⟩ := vrow_at hx
      have hzR := (mem z).mp (List.mem_of_getElem? hz)
      have hzr := hzR.rng hW hst
      obtain ⟨dx, hf⟩ := (hM.same (s1.trans s2)).fs
      have t8 := hW.t8
      refine ⟨_, rfl, m, M, dx, _, _, rfl, hf, T.cl, T.nD, mf_d _ _ _, (ts.length : Int), rfl, by omega, by omega, for_range (fun k σ H' => ∃ v3 v4, σ = [some (.ref m), some (.int st), some (.int z), v3, v4] ∧ Same H1 H' ∧ ∀ d, In8 ts d → d < (k : Int) → PP ts z (stp ts z d) none) ⟨_, _, rfl, s2, fun d hd hk => by have := hd.1; omega⟩ ?_ ?_⟩
      · rintro k σ H3 hk ⟨v3, v4, rfl, s3, no2⟩
        have hk8 : In8 ts (0 + (k : Int)) := ⟨by omega, by omega⟩
        have hM3 := hM.same (s1.trans s3)
        obtain ⟨dx, hf⟩ := hM3.fs
        obtain ⟨tas, ht1, ht2, ht3⟩ := hM3.2
        obtain ⟨t, g1, g2, g3⟩ := hW.at_ hk8 hzr
        have hj : (0 + (k : Int)).toNat < tas.length := by
          have : tas.length = ts.length := by rw [ht2, vts, List.length_map]
          omega
        obtain ⟨tj, htj⟩ : ∃ t, tas[(0 + (k : Int)).toNat]? = some t := ⟨_, List.getElem?_eq_getElem hj⟩
        have hT := ht3 _ tj (vrow t) htj (by rw [vts, List.getElem?_map, g1]; rfl)
        refine ⟨_, rfl, _, rfl, _, rfl, m, M, dx, _, _, rfl, hf, T.cl, T.nT, mf_t _ _ _, _, rfl, ta, _, 0 + (k : Int), .ref tj, rfl, rfl, SqT.of ht1, at_of (j := (0 + (k : Int)).toNat) (by omega) (by rw [List.getElem?_map, htj]; rfl), _, rfl, tj, _, z, .int (stp ts z (0 + (k : Int))), rfl, rfl, SqT.of hT, at_of (j := z.toNat) (by omega) (by rw [vrow, List.getElem?_map, g2]; rfl), m, ta, ts, z, _, rfl, hM3, hW, hzr, g3, fun F H4 s4 hF => ⟨fun hpart => ?_, fun r1 r2 p4 x4 y4 hpart hp4 hx4 hy4 => ?_⟩⟩
        · refine ⟨_, rfl, _, rfl, iteN rfl (nxP ⟨_, _, rfl, s3.trans s4, fun d hd hlt => ?_⟩)⟩
          by_cases w : d = 0 + (k : Int)
          · rw [w]; exact ⟨F, hF, hpart⟩
          · exact no2 d hd (by omega)
        · refine ⟨_, rfl, _, rfl, iteT ⟨_, rfl, _, rfl, _, rfl, p4, _, 0, _, rfl, rfl, SqT.of hp4, atI_nat (j := 0) rfl, _, rfl, p4, _, 1, _, rfl, rfl, SqT.of hp4, atI_nat (j := 1) rfl, (by show 5 ≤ sizeLine; decide), fun p5 hp5 => ?_⟩⟩
          have s5 := same_new (o := HO.tup [.str "untold", .int z, .int (0 + (k : Int)), .ref x4, .ref y4]) hp5
          refine q (some (z, 0 + (k : Int), r1, r2)) _ _ (((s1.trans s3).trans s4).trans s5) ⟨hzR, hk8, ⟨F, hF, hpart⟩, fun y e hy he hlt => ?_⟩ ⟨p5, x4, y4, rfl, upd_same, s5 _ _ hx4, s5 _ _ hy4⟩
          rcases hlt with hlt | ⟨rfl, hlt⟩
          · obtain ⟨j, hj⟩ := List.getElem?_of_mem ((mem y).mpr hy)
            exact no j y (asc_lt i j z y hz hj hlt) hj e he
          · exact no2 e he (by omega)
      · rintro σ H3 ⟨v3, v4, rfl, s3, no2⟩
        refine ⟨_, _, _, rfl, s3, fun j y hj hy d hd => ?_⟩
        rcases Nat.lt_succ_iff_lt_or_eq.mp hj with w | w
        · exact no j y w hy d hd
        · subst w
          rw [hz] at hy
          obtain rfl := Option.some.inj hy
          have := hd.2
          exact no2 d hd (by omega)
    · rintro σ H2 ⟨v2, v3, v4, rfl, s2, no⟩
      refine q none _ _ (s1.trans s2) (fun x hx d hd => ?_) rfl
      obtain ⟨j, hj⟩ := List.getElem?_of_mem ((mem x).mpr hx)
      exact no j x (by rw [vrow, List.length_map]; exact (List.getElem?_eq_some_iff.mp hj).1) hj d hd
abbrev nIT : List Str := ["machine", "state"]
theorem scItl : FnScope nIT ["machine", "state"] (defScope sIsTell) := ⟨rfl, rfl, rfl, by decide +kernel, rfl, by decide +kernel, by decide +kernel⟩
theorem ok_istell {f fT CS M : Addr} {fd fdT : FuncData} (D : Df K mg "is_telling" sIsTell ["machine", "state"] f fd) (DT : Df K mg "telling_paper" sTPaper ["machine", "state"] fT fdT)
    (GT : FnOk P w K mg base (L2.CX P w) 5 fT fdT ["machine", "state"] (spTPaper M CS)) : FnOk P w K mg base (L2.CX P w) 6 f fd ["machine", "state"] (spIsTell M CS) := by
  refine D.F.okX scItl (fun vs H Q E h => ?_) (fun cdv A outer s H vs Q E hr h => ?_)
  · obtain ⟨m, ta, ts, v, rfl, _⟩ := h
    rfl
  · obtain ⟨m, ta, ts, v, rfl, hM, hW, kv, q1, q2⟩ := h
    refine ⟨_, pss_one (ps_ret (pe_cmp (pc_isN (pc DT GT hr (pass1 (takes_of rfl rfl rfl rfl)) (pa_cons (pv 0) (pa_cons (pv 1) pa_nil)))))), ?_⟩
    refine ⟨_, rfl, _, rfl, m, ta, ts, v, rfl, hM, hW, kv, q1, fun st e hst r u H' sm hT hV => ?_⟩
    have q := q2 st e hst r H' sm hT
    match r, hV with
    | none, hV =>
      obtain rfl : u = .non := hV
      exact q
    | some (x, d, r1, r2), ⟨p, a, b, eu, _⟩ =>
      subst eu
      exact q
end
end K1
namespace K1
open PySem PySem.Spec PyProof.Rows L2
/-! ### what tells -/
def VRow (ts : Ts) (r : List Int) : Prop := ∀ d ∈ r, 0 ≤ d ∧ d < (ts.length : Int)
theorem VRow.app {ts : Ts} {r q : List Int} (a : VRow ts r) (b : VRow ts q) : VRow ts (r ++ q) := fun d hd => (List.mem_append.mp hd).elim (a d) (b d)
theorem run_app (ts : Ts) (s : Int) (r q : List Int) : run ts s (r ++ q) = run ts (run ts s r) q := by
  unfold run
  rw [List.foldl_append]
/-- the joins with this archive and this state here are told, as far as rows lead -/
def Told (ts : Ts) (a h : Int) : Prop := ∀ r q : List Int, VRow ts r → VRow ts q → run ts a r = run ts a q → run ts h r = run ts h q
def hds (F : List KR) : List Int := F.map hd0
theorem part_none : ∀ (r S : List KR), (hds S).Nodup → (partG S r = none ↔ (hds (S ++ r)).Nodup)
  | [], S, h => by rw [List.append_nil]; exact ⟨fun _ => h, fun _ => rfl⟩
  | e :: r, S, h => by
    rw [partG_cons]
    have key : hd0 e ∈ hds S ↔ ∃ s, S.find? (fun s => decide (hd0 s = hd0 e)) = some s := by
      constructor
      · intro hm
        obtain ⟨s, hs, es⟩ := List.mem_map.mp hm
        cases q : S.find? (fun s => decide (hd0 s = hd0 e)) with
        | none =>
          have := List.find?_eq_none.mp q s hs
          exact absurd (decide_eq_true es) this
        | some s => exact ⟨s, rfl⟩
      · rintro ⟨s, hs⟩
        exact List.mem_map.mpr ⟨s, List.mem_of_find?_eq_some hs, by have z := List.find?_some hs; exact of_decide_eq_true z⟩
    have e1 : S ++ e :: r = (S ++ [e]) ++ r := by rw [List.append_assoc]; rfl
    cases q : S.find? (fun s => decide (hd0 s = hd0 e)) with
    | some s =>
      have hm := key.mpr ⟨s, q⟩
      constructor
      · intro z; cases z
      · intro nd
        exfalso
        rw [hds, List.map_append, List.nodup_append] at nd
        exact nd.2.2 _ hm _ List.mem_cons_self rfl
    | none =>
      have hn : hd0 e ∉ hds S := fun z => by
        obtain ⟨s, hs⟩ := key.mp z
        rw [q] at hs
        cases hs
      show partG (S ++ [e]) r = none ↔ _
      rw [e1]
      refine part_none r (S ++ [e]) ?_
      rw [hds, List.map_append, List.nodup_append]
      exact ⟨h, by simp, fun y hy z hz w => by
        rw [List.map_cons, List.map_nil, List.mem_singleton] at hz
        rw [w, hz] at hy
        exact hn hy⟩
theorem part_some : ∀ (r S : List KR) {p q : List Int}, partG S r = some (p, q) → ∃ e ∈ S ++ r, ∃ f ∈ r, hd0 e = hd0 f ∧ p = e.2 ∧ q = f.2 ∧ ∃ i j : Nat, i < j ∧ (S ++ r)[i]? = some e ∧ (S ++ r)[j]? = some f
  | [], S, p, q, h => by cases h
  | e :: r, S, p, q, h => by
    rw [partG_cons] at h
    cases w : S.find? (fun s => decide (hd0 s = hd0 e)) with
    | some s =>
      rw [w] at h
      have h : some (s.2, e.2) = some (p, q) := h
      have h := Option.some.inj h
      injection h with h1 h2
      have ms := List.mem_of_find?_eq_some w
      obtain ⟨i, hi⟩ := List.getElem?_of_mem ms
      have hiS : i < S.length := (List.getElem?_eq_some_iff.mp hi).1
      exact ⟨s, List.mem_append_left _ ms, e, List.mem_cons_self, (by have z := List.find?_some w; exact of_decide_eq_true z), h1.symm, h2.symm, i, S.length, hiS, by rw [List.getElem?_append_left hiS]; exact hi, by rw [List.getElem?_append_right (Nat.le_refl _), Nat.sub_self]; rfl⟩
    | none =>
      rw [w] at h
      obtain ⟨a, ha, f, hf, k1, k2, k3, i, j, k4, k5, k6⟩ := part_some r (S ++ [e]) h
      have e1 : S ++ e :: r = (S ++ [e]) ++ r := by rw [List.append_assoc]; rfl
      rw [e1]
      exact ⟨a, ha, f, List.mem_cons_of_mem _ hf, k1, k2, k3, i, j, k4, k5, k6⟩
section
variable {ts : Ts} {F : List KR} {a h : Int}
theorem told_iff (hF : Fst (actL ts) ts.length [a, h] F) : (hds F).Nodup ↔ Told ts a h := by
  have form : ∀ e ∈ F, e.1 = [run ts a e.2, run ts h e.2] ∧ VRow ts e.2 := fun e he => by
    obtain ⟨h1, h2, _⟩ := hF.mem he
    rw [path_run] at h1
    exact ⟨h1, h2⟩
  constructor
  · intro nd r q hr hq e
    obtain ⟨i, r', hi, _⟩ := hF.all r hr
    obtain ⟨j, q', hj, _⟩ := hF.all q hq
    have e1 : (hds F)[i]? = some (run ts a r) := by rw [hds, List.getElem?_map, hi]; show some ((path (actL ts) [a, h] r).getD 0 0) = _; rw [pair_0]
    have e2 : (hds F)[j]? = some (run ts a r) := by rw [hds, List.getElem?_map, hj]; show some ((path (actL ts) [a, h] q).getD 0 0) = _; rw [pair_0, e]
    obtain ⟨g1, k1⟩ := List.getElem?_eq_some_iff.mp e1
    obtain ⟨g2, k2⟩ := List.getElem?_eq_some_iff.mp e2
    have z : i = j := (List.getElem_inj nd).mp (k1.trans k2.symm)
    subst z
    rw [hi] at hj
    have k := Option.some.inj hj
    injection k with k _
    have := congrArg (fun x => x.getD 1 0) k
    simp only [pair_1] at this
    exact this
  · intro t
    refine List.pairwise_map.mpr (List.Pairwise.imp_of_mem (fun {e e'} he he' ne z => ?_) (nodup_of hF.nd))
    obtain ⟨f1, v1⟩ := form e he
    obtain ⟨f2, v2⟩ := form e' he'
    have z' : run ts a e.2 = run ts a e'.2 := by
      have z : hd0 e = hd0 e' := z
      unfold hd0 at z
      rw [f1, f2] at z
      exact z
    exact ne (by rw [f1, f2, z', t _ _ v1 v2 z'])
theorem pp_none (ex : ∃ F, Fst (actL ts) ts.length [a, h] F) : PP ts a h none ↔ Told ts a h := by
  constructor
  · rintro ⟨F, hF, e⟩
    exact (told_iff hF).mp ((part_none F [] List.nodup_nil).mp e)
  · intro t
    obtain ⟨F, hF⟩ := ex
    exact ⟨F, hF, (part_none F [] List.nodup_nil).mpr ((told_iff hF).mpr t)⟩
theorem pp_some {r1 r2 : List Int} (p : PP ts a h (some (r1, r2))) : VRow ts r1 ∧ VRow ts r2 ∧ run ts a r1 = run ts a r2 ∧ run ts h r1 ≠ run ts h r2 := by
  obtain ⟨F, hF, e⟩ := p
  obtain ⟨x, hx, y, hy, k1, rfl, rfl, i, j, k4, k5, k6⟩ := part_some F [] e
  rw [List.nil_append] at hx k5 k6
  obtain ⟨f1, v1, _⟩ := hF.mem hx
  obtain ⟨f2, v2, _⟩ := hF.mem hy
  rw [path_run] at f1 f2
  have f1 : x.1 = [run ts a x.2, run ts h x.2] := f1
  have f2 : y.1 = [run ts a y.2, run ts h y.2] := f2
  have z : run ts a x.2 = run ts a y.2 := by
    unfold hd0 at k1
    rw [f1, f2] at k1
    exact k1
  refine ⟨v1, v2, z, fun w => ?_⟩
  have e1 : (F.map (·.1))[i]? = some x.1 := by rw [List.getElem?_map, k5]; rfl
  have e2 : (F.map (·.1))[j]? = some x.1 := by rw [List.getElem?_map, k6, f1, z, w, ← f2]; rfl
  obtain ⟨g1, e5⟩ := List.getElem?_eq_some_iff.mp e1
  obtain ⟨g2, e6⟩ := List.getElem?_eq_some_iff.mp e2
  have := (List.getElem_inj hF.nd).mp (e5.trans e6.symm)
  omega
end
/-- told behind one deed, so behind any row -/
def Tells (ts : Ts) (s : Int) : Prop := ∀ x, Rch ts s x → ∀ d, In8 ts d → Told ts x (stp ts x d)
theorem Tells.row {ts : Ts} {s : Int} (t : Tells ts s) : ∀ (u : List Int) {x : Int}, Rch ts s x → VRow ts u → Told ts x (run ts x u)
  | [], x, _, _ => fun r q _ _ e => e
  | d :: u, x, hx, hu => fun r q hr hq e => by
    have hd := hu d List.mem_cons_self
    have h1 := t x hx d hd r q hr hq e
    have hy : Rch ts s (stp ts x d) := hx.trans ⟨[d], fun e he => by rw [List.mem_singleton.mp he]; exact hd, rfl⟩
    exact Tells.row t u hy (fun e he => hu e (List.mem_cons_of_mem _ he)) r q hr hq h1
/-- all joins of the orbit -/
theorem tells_all {ts : Ts} {s : Int} : Tells ts s ↔ ∀ x, Rch ts s x → ∀ h, Rch ts x h → Told ts x h := by
  constructor
  · rintro t x hx h ⟨u, hu, rfl⟩
    exact t.row u hx hu
  · intro t x hx d hd
    exact t x hx _ ⟨[d], fun e he => by rw [List.mem_singleton.mp he]; exact hd, rfl⟩
/-- rows behind others' rows -/
theorem Tells.kept {ts : Ts} {s : Int} (t : Tells ts s) {u z : List Int} (hu : VRow ts u) (hz : VRow ts z) : Told ts (run ts s z) (run ts (run ts s u) z) := fun r q hr hq e => by
  have hs : Rch ts s s := ⟨[], fun d hd => absurd hd (by simp), rfl⟩
  have k := t.row u hs hu (z ++ r) (z ++ q) (hz.app hr) (hz.app hq) (by rw [run_app, run_app]; exact e)
  rw [run_app, run_app] at k
  exact k
/-- deeds that commute on the orbit -/
def Comm (ts : Ts) (s : Int) : Prop := ∀ x, Rch ts s x → ∀ d e, In8 ts d → In8 ts e → stp ts (stp ts x d) e = stp ts (stp ts x e) d
theorem Comm.one {ts : Ts} {s : Int} (c : Comm ts s) {d : Int} (hd : In8 ts d) : ∀ (r : List Int) {x : Int}, Rch ts s x → VRow ts r → run ts (stp ts x d) r = stp ts (run ts x r) d
  | [], x, _, _ => rfl
  | e :: r, x, hx, hr => by
    have he := hr e List.mem_cons_self
    have hy : Rch ts s (stp ts x e) := hx.trans ⟨[e], fun f hf => by rw [List.mem_singleton.mp hf]; exact he, rfl⟩
    show run ts (stp ts (stp ts x d) e) r = stp ts (run ts (stp ts x e) r) d
    rw [c x hx d e hd he]
    exact c.one hd r hy (fun f hf => hr f (List.mem_cons_of_mem _ hf))
theorem Comm.tells {ts : Ts} {s : Int} (c : Comm ts s) : Tells ts s := fun x hx d hd r q hr hq e => by
  rw [c.one hd r hx hr, c.one hd q hx hq, e]
end K1
namespace K1
open PySem PySem.Spec PyProof.Rows L2
/-- at x the deeds a, b don't commute -/
def Bad (ts : Ts) (x a b : Int) : Prop := stp ts (stp ts x a) b ≠ stp ts (stp ts x b) a
instance {ts : Ts} {x a b : Int} : Decidable (Bad ts x a b) := inferInstanceAs (Decidable (_ ≠ _))
/-- the first three of ns, a deed, a deed, at which deeds don't commute -/
def PaperIs (ts : Ts) (ns : List Int) : Option (Int × Int × Int) → Prop
  | none => ∀ x ∈ ns, ∀ a b, In8 ts a → In8 ts b → ¬ Bad ts x a b
  | some (x, a, b) => ∃ i : Nat, ns[i]? = some x ∧ In8 ts a ∧ In8 ts b ∧ Bad ts x a b ∧ (∀ (j : Nat) y, j < i → ns[j]? = some y → ∀ c d, In8 ts c → In8 ts d → ¬ Bad ts y c d) ∧ (∀ c d, In8 ts c → In8 ts d → c < a → ¬ Bad ts x c d) ∧ ∀ d, In8 ts d → d < b → ¬ Bad ts x a d
theorem paper_one {ts : Ts} {ns : List Int} : ∀ {r s : Option (Int × Int × Int)}, PaperIs ts ns r → PaperIs ts ns s → r = s
  | none, none, _, _ => rfl
  | none, some (x, a, b), h, ⟨i, h1, h2, h3, h4, _⟩ => absurd h4 (h x (List.mem_of_getElem? h1) a b h2 h3)
  | some (x, a, b), none, ⟨i, h1, h2, h3, h4, _⟩, h => absurd h4 (h x (List.mem_of_getElem? h1) a b h2 h3)
  | some (x, a, b), some (x', a', b'), ⟨i, h1, h2, h3, h4, h5, h6, h7⟩, ⟨i', k1, k2, k3, k4, k5, k6, k7⟩ => by
    have ei : i = i' := by
      rcases Nat.lt_trichotomy i i' with z | z | z
      · exact absurd h4 (k5 i x z h1 a b h2 h3)
      · exact z
      · exact absurd k4 (h5 i' x' z k1 a' b' k2 k3)
    subst ei
    have ex : x = x' := Option.some.inj (h1.symm.trans k1)
    subst ex
    have ea : a = a' := by
      rcases Int.lt_trichotomy a a' with z | z | z
      · exact absurd h4 (k6 a b h2 h3 z)
      · exact z
      · exact absurd k4 (h6 a' b' k2 k3 z)
    subst ea
    have eb : b = b' := by
      rcases Int.lt_trichotomy b b' with z | z | z
      · exact absurd h4 (k7 b h3 z)
      · exact z
      · exact absurd k4 (h7 b' k3 z)
    rw [eb]
/-- a paper as a value -/
def PapV (H : Hp) (v : V) : Option (Int × Int × Int) → Prop
  | none => v = .non
  | some (x, a, b) => ∃ p, v = .ref p ∧ H p = some (.tup [.int x, .int a, .int b])
def spCPaper (K : PySem.W.Frag) (M CS : Addr) : Sp := fun vs H Q E => ∃ m ta ts v, vs = [.ref m, v] ∧ MachAt M H m ta (vts ts) ∧ Wf ts ∧ (∃ o, KV K H v o) ∧ (belowB v (nS ts : Int) = false → Rz CS "state" v H E) ∧
  (belowB v (nS ts : Int) = true → ∃ s, v = .int s ∧ ∀ (ns : List Int) r u H', Same H H' → ns.Pairwise (· < ·) → (∀ x, x ∈ ns ↔ Rch ts s x) → PaperIs ts ns r → PapV H' u r → Q u H')
section
variable {P : Program} {w : World} {K : PySem.W.Frag} {mg : Str → Option Value} {base : Heap}
abbrev nCP : List Str := ["machine", "state", "at", "one", "other"]
theorem scCP : FnScope nCP ["machine", "state"] (defScope sCPaper) := ⟨rfl, rfl, rfl, by decide +kernel, rfl, by decide +kernel, by decide +kernel⟩
theorem ok_cpaper {f fO fM CS M : Addr} {fd fdO fdM : FuncData} (D : Df K mg "commuting_paper" sCPaper ["machine", "state"] f fd) (DO : Df K mg "orbit" sOrbit ["machine", "state"] fO fdO) (DM : Df K mg "moved" sMoved ["machine", "state", "row"] fM fdM) (B : Bt mg) (T : McT K mg M)
    (GO : FnOk P w K mg base (L2.CX P w) 4 fO fdO ["machine", "state"] (spOrbit M CS)) (GM : FnOk P w K mg base CX0 1 fM fdM ["machine", "state", "row"] (spMoved M)) : FnOk P w K mg base (L2.CX P w) 5 f fd ["machine", "state"] (spCPaper K M CS) := by
  refine D.F.okX scCP (fun vs H Q E h => ?_) (fun cdv A outer s H vs Q E hr h => ?_)
  · obtain ⟨m, ta, ts, v, rfl, _⟩ := h
    rfl
  · obtain ⟨m, ta, ts, v, rfl, hM, hW, ⟨o, kv⟩, q1, q2⟩ := h
    have r1 := hr.mono (show 1 ≤ 4 by decide)
    refine ⟨_, pss_cons (ps_for (passes_of rfl) rfl (pi_tup (pc DO GO hr (pass1 (takes_of rfl rfl rfl rfl)) (pa_cons (pv 0) (pa_cons (pv 1) pa_nil)))) (pg_name (i := 2) scCP.nd rfl (.inl rfl))
        (pss_one (ps_for (passes_of rfl) rfl (pi_range1 (by rfl) B.range (pa_cons (pe_fld (pv 0) rfl) pa_nil)) (pg_name (i := 3) scCP.nd rfl (.inl rfl))
          (pss_one (ps_for (passes_of rfl) rfl (pi_range1 (by rfl) B.range (pa_cons (pe_fld (pv 0) rfl) pa_nil)) (pg_name (i := 4) scCP.nd rfl (.inl rfl))
            (pss_one (ps_if (pt_cmpR op_ne (pc DM GM r1 pass0 (pa_cons (pv 0) (pa_cons (pv 2) (pa_cons (pe_tup (pa_cons (pv 3) (pa_cons (pv 4) pa_nil))) pa_nil)))) (pc DM GM r1 pass0 (pa_cons (pv 0) (pa_cons (pv 2) (pa_cons (pe_tup (pa_cons (pv 4) (pa_cons (pv 3) pa_nil))) pa_nil)))) (nomark _))
              (pss_one (ps_ret (pe_tup (pa_cons (pv 2) (pa_cons (pv 3) (pa_cons (pv 4) pa_nil)))))) pss_nil)))))))
      (pss_one (ps_ret pe_non)), ?_⟩
    refine ⟨_, rfl, _, rfl, m, ta, ts, v, rfl, hM, hW, ⟨K, o, kv⟩, q1, fun st e2 hst ns p H1 s1 asc mem hp => ?_⟩
    subst e2
    obtain ⟨st', ee, q⟩ := q2 (belowI hst)
    injection ee with ee
    subst ee
    have Q' := fun r u H' s h1 h2 => q ns r u H' s asc mem h1 h2
    refine ⟨p, rfl, ⟨_, SqT.of hp⟩, for_tup (K := K) (a := p) (xs := vrow ns) (fun i σ H' => ∃ v2 v3 v4, σ = [some (.ref m), some (.int st), v2, v3, v4] ∧ Same H1 H' ∧ ∀ (j : Nat) y, j < i → ns[j]? = some y → ∀ a b, In8 ts a → In8 ts b → ¬ Bad ts y a b) ⟨none, none, none, rfl, fun _ _ e => e, fun j y hj => absurd hj (Nat.not_lt_zero _)⟩ (fun i σ H' _ ⟨_, _, _, _, s, _⟩ => SqT.of (s _ _ hp)) ?_ ?_⟩
    · rintro i x σ H2 hx ⟨v2, v3, v4, rfl, s2, no⟩
      obtain ⟨z, hz, rfl⟩ : ∃ z, ns[i]? = some z ∧ x = V.int z := by
        rw [vrow, List.getElem?_map] at hx
        cases e : ns[i]? with
        | none => rw [e] at hx; cases hx
        | some z => rw [e] at hx; exact ⟨z, rfl, (Option.some.inj hx).symm⟩
      have hzr := ((mem z).mp (List.mem_of_getElem? hz)).rng hW hst
      obtain ⟨dx, hf⟩ := (hM.same (s1.trans s2)).fs
      refine ⟨_, rfl, m, M, dx, _, _, rfl, hf, T.cl, T.nD, mf_d _ _ _, (ts.length : Int), rfl, by have := hW.t8; omega, by have := hW.t8; omega, for_range (fun k σ H' => ∃ v3 v4, σ = [some (.ref m), some (.int st), some (.int z), v3, v4] ∧ Same H1 H' ∧ ∀ a b, In8 ts a → In8 ts b → a < (k : Int) → ¬ Bad ts z a b) ⟨_, _, rfl, s2, fun a b ha _ hk => by have := ha.1; omega⟩ ?_ ?_⟩
      · rintro k σ H3 hk ⟨v3, v4, rfl, s3, no2⟩
        have hk8 : In8 ts (0 + (k : Int)) := ⟨by omega, by omega⟩
        obtain ⟨dx, hf⟩ := (hM.same (s1.trans s3)).fs
        refine ⟨_, rfl, m, M, dx, _, _, rfl, hf, T.cl, T.nD, mf_d _ _ _, (ts.length : Int), rfl, by have := hW.t8; omega, by have := hW.t8; omega, for_range (fun l σ H' => ∃ v4, σ = [some (.ref m), some (.int st), some (.int z), some (.int (0 + (k : Int))), v4] ∧ Same H1 H' ∧ ∀ b, In8 ts b → b < (l : Int) → ¬ Bad ts z (0 + (k : Int)) b) ⟨_, rfl, s3, fun b hb hl => by have := hb.1; omega⟩ ?_ ?_⟩
        · rintro l σ H4 hl ⟨v4, rfl, s4, no3⟩
          have hl8 : In8 ts (0 + (l : Int)) := ⟨by omega, by omega⟩
          have hM4 := hM.same (s1.trans s4)
          have rows : ∀ a b : Int, In8 ts a → In8 ts b → ∀ d ∈ [a, b], 0 ≤ d ∧ d < (ts.length : Int) := fun a b ha hb d hd => by
            simp only [List.mem_cons, List.mem_nil_iff, or_false] at hd
            rcases hd with rfl | rfl
            · exact ha
            · exact hb
          refine ⟨_, rfl, _, rfl, _, rfl, _, rfl, (by show 2 ≤ sizeLine; decide), fun p1 hp1 => ⟨m, ta, ts, z, p1, [0 + (k : Int), 0 + (l : Int)], rfl, hM4.same (same_new hp1), hW, hzr, upd_same, rows _ _ hk8 hl8, ?_⟩⟩
          have s5 := s4.trans (same_new (o := HO.tup [.int (0 + (k : Int)), .int (0 + (l : Int))]) hp1)
          refine ⟨_, rfl, _, rfl, _, rfl, _, rfl, (by show 2 ≤ sizeLine; decide), fun p2 hp2 => ⟨m, ta, ts, z, p2, [0 + (l : Int), 0 + (k : Int)], rfl, (hM.same (s1.trans s5)).same (same_new hp2), hW, hzr, upd_same, rows _ _ hl8 hk8, rfl, _, rfl, ifD (fun e => ?_) fun e => ?_⟩⟩
          · have hb : Bad ts z (0 + (k : Int)) (0 + (l : Int)) := fun w => by
              rw [Bool.not_eq_true', decide_eq_false_iff_not] at e
              exact e (congrArg V.int w)
            refine ⟨_, rfl, _, rfl, _, rfl, (by show 3 ≤ sizeLine; decide), fun p3 hp3 => ?_⟩
            have s6 := s1.trans ((s5.trans (same_new (o := HO.tup [.int (0 + (l : Int)), .int (0 + (k : Int))]) hp2)).trans (same_new (o := HO.tup [.int z, .int (0 + (k : Int)), .int (0 + (l : Int))]) hp3))
            exact Q' (some (z, 0 + (k : Int), 0 + (l : Int))) _ _ s6 ⟨i, hz, hk8, hl8, hb, no, fun c d hc hd hlt => no2 c d hc hd (by omega), fun d hd hlt => no3 d hd (by omega)⟩ ⟨p3, rfl, upd_same⟩
          · have hb : ¬ Bad ts z (0 + (k : Int)) (0 + (l : Int)) := fun w => by
              rw [Bool.not_eq_false', decide_eq_true_iff] at e
              injection e with e
              exact w e
            refine ⟨_, rfl, s5.trans (same_new hp2), fun b hb8 hlt => ?_⟩
            by_cases z2 : b = 0 + (l : Int)
            · rw [z2]; exact hb
            · exact no3 b hb8 (by omega)
        · rintro σ H4 ⟨v4, rfl, s4, no3⟩
          refine ⟨_, _, rfl, s4, fun a b ha hb hlt => ?_⟩
          by_cases z2 : a = 0 + (k : Int)
          · rw [z2]; exact no3 b hb (by have := hb.2; simp only [Int.toNat_natCast]; exact this)
          · exact no2 a b ha hb (by omega)
      · rintro σ H3 ⟨v3, v4, rfl, s3, no2⟩
        refine ⟨_, _, _, rfl, s3, fun j y hj hy a b ha hb => ?_⟩
        by_cases z2 : j = i
        · subst z2
          obtain rfl : z = y := Option.some.inj (hz.symm.trans hy)
          exact no2 a b ha hb (by have := ha.2; simp only [Int.toNat_natCast]; exact this)
        · exact no j y (by omega) hy a b ha hb
    · rintro σ H2 ⟨v2, v3, v4, rfl, s2, no⟩
      refine Q' none _ _ (s1.trans s2) (fun x hx a b ha hb => ?_) rfl
      obtain ⟨j, hj, ej⟩ := List.mem_iff_getElem.mp hx
      exact no j x (by rw [vrow, List.length_map]; exact hj) (by rw [← ej]; exact List.getElem?_eq_getElem hj) a b ha hb
end
end K1
/-! set(xs) of a list of whole numbers, sorted(set(xs)); a dict display with one tuple key; the keys of a dict walked and kept -/
namespace K1
open PySem PySem.Spec PyProof.Rows L2
section
variable {P : Program} {w : World} {A : Around} {E : Value → Shared → Prop} {s : Shared}
theorem call_set_lstI {l : Addr} {items : Array Value} (ns : List Int) {Q : Value → Shared → Prop} (hh : A.handled = none) (hl : s.heap.IsList l items) (hit : IntsAre items.toList ns) (hb : ns.length + 1 < scanBound)
    (h : ∀ (h' : Heap) (tk c : Nat), SetR w h' s.heap.objs.size (fun j => decide (j ∈ ns)) c → c ≤ ns.length → (∀ b o, s.heap.get? b = some o → h'.get? b = some o) → Q (.ref s.heap.objs.size) { s with heap := h', toks := tk }) :
    wpAny (model P w) A (call (.type "set") [.ref l]) Q E s := by
  have hisz : items.size = ns.length := by
    have q := IntsAre.length hit
    rw [Array.length_toList] at q
    exact q
  obtain ⟨c, tl, hmro⟩ := F.called_set.mro
  have hmade := F.called_set.made
  have hsub := F.called_set.sub
  refine wpAny_call (codeAny_of_tree ?_)
  show wpAny _ _ (callAny (.type "set") _) _ _ _
  refine wpAny_pure ⟨Code.quiet_builtin _ (by decide +kernel), codeAny_builtin F.entry_type_call ?_⟩
  rw [Around.under_plain (weight_type_call_type "set" [.ref l] []) rfl]
  have h1 := F.called_set.notType
  have h2 := F.called_set.canCreate
  have hct := F.typeCall_set_1 (.ref l)
  repeat (any_goals (first | assumption | wp_step))

  refine codeAny_mono (code_set_led1 (.ref l) (E := E) (Q₁ := fun obj s₁ => obj = .ref s.heap.objs.size ∧ s₁ = { s with heap := s.heap.push { cls := .type "set", dict := none, data := .set #[] 0 (.fresh 0 0 (!w.params.followText "set-order")) } }) ⟨rfl, rfl⟩) fun r s₁ hr => ?_
  cases r with
  | error e => exact hr
  | ok fl =>
    cases fl with
    | ret obj =>
      obtain ⟨rfl, rfl⟩ := hr
      have hS : (s.heap.push { cls := .type "set", dict := none, data := .set #[] 0 (.fresh 0 0 (!w.params.followText "set-order")) }).get? s.heap.objs.size = some { cls := .type "set", dict := none, data := .set #[] 0 (.fresh 0 0 (!w.params.followText "set-order")) } := Heap.get?_push_size _ rfl
      have hT : Shared.TypeIs { s with heap := s.heap.push { cls := .type "set", dict := none, data := .set #[] 0 (.fresh 0 0 (!w.params.followText "set-order")) } } (.ref s.heap.objs.size) "set" := ⟨_, hS, rfl⟩
      have hli := F.called_set.init.lookup
      have hbi := F.called_set.init.bind (.ref s.heap.objs.size)
      repeat (any_goals (first | assumption | wp_step))

      refine codeAny_mono (codeAny_call_builtin (R := wants (fun r s₂ => r = .none ∧ ∃ h' tk c, s₂ = { s with heap := h', toks := tk } ∧ SetR w h' s.heap.objs.size (fun j => decide (j ∈ ns)) c ∧ c ≤ ns.length ∧
          (∀ b o, s.heap.get? b = some o → h'.get? b = some o)) E) F.called_set.init.plain F.entry_set_init (check_set_init_1 hT ?_)) fun r₂ s₂ hr₂ => ?_
      · obtain ⟨ol, hol, hcl, nl, hdl⟩ := hl
        obtain ⟨ocls, odict, odata, oslots⟩ := ol
        simp only at hcl hdl
        subst hcl; subst hdl
        have hol' : (s.heap.push { cls := .type "set", dict := none, data := .set #[] 0 (.fresh 0 0 (!w.params.followText "set-order")) }).get? l = some { cls := .type "list", dict := odict, data := .seq items nl, slots := oslots } := Heap.get?_push_of_some _ hol
        have hsls := F.sub_list_set
        have hslf := F.sub_list_frozenset
        have hne : (Value.type "list" == Value.type "dict") = false := by decide
        have hl1 : (s.heap.push { cls := .type "set", dict := none, data := .set #[] 0 (.fresh 0 0 (!w.params.followText "set-order")) }).IsList l items := ⟨_, hol', rfl, nl, rfl⟩
        unfold Builtin.«set.__init__» noKeywords Builtin.Frozenset.updateFrom
        generalize hPI : pyIter = PI
        wp_walk
        subst hPI

        refine wpAny_pyIter_list hl1 ?_
        refine wpAny_bind (wpAny_runValue ?_)
        have hlS : l < s.heap.objs.size := Heap.lt_size hol
        have hh3 : A.in1.in1.in1.handled = none := by simp [hh]
        have hz1 : (s.heap.push { cls := .type "set", dict := none, data := .set #[] 0 (.fresh 0 0 (!w.params.followText "set-order")) }).objs.size = s.heap.objs.size + 1 := Heap.size_push ..
        have hneI : l ≠ (s.heap.push { cls := .type "set", dict := none, data := .set #[] 0 (.fresh 0 0 (!w.params.followText "set-order")) }).objs.size := by
          rw [Heap.size_push]; exact Nat.ne_of_lt (Nat.lt_succ_of_lt hlS)
        have hSf : s.heap.objs.size ∉ [(s.heap.push { cls := .type "set", dict := none, data := .set #[] 0 (.fresh 0 0 (!w.params.followText "set-order")) }).objs.size, l] := by
          rw [Heap.size_push]; simp only [List.mem_cons, List.mem_singleton, List.not_mem_nil, or_false, not_or]
          exact ⟨Nat.ne_of_lt (Nat.lt_succ_self _), Nat.ne_of_gt hlS⟩
        have hval : ∀ (i : Nat) (v : Value), items[i]? = some v → ∃ k t, ns[i]? = some k ∧ v = .int k t := fun i v hv => by
          have hi : i < ns.length := by rw [← hisz]; exact (Array.getElem?_eq_some_iff.mp hv).1
          obtain ⟨t, e⟩ := PyProof.Rows.IntsAre.int_at hit i v (by rw [Array.getElem?_toList]; exact hv)
          refine ⟨ns[i], t, List.getElem?_eq_getElem hi, ?_⟩
          rw [e, List.getD_eq_getElem?_getD, List.getElem?_eq_getElem hi] <;> rfl
        refine set_update_ints ((Walks.list hh3 _ l hneI items).toS) s.heap.objs.size
          hSf ns hisz hb hval (items.size - 0) 0 _ (by omega) (Nat.zero_le _)
          ⟨⟨_, Heap.get?_push_size _ rfl, rfl, rfl⟩, (hl1.push _)⟩ ?hS0 ?hR
        case hS0 =>
          have hget : ((s.heap.push { cls := .type "set", dict := none, data := .set #[] 0 (.fresh 0 0 (!w.params.followText "set-order")) }).push { cls := .type "list_iterator", data := .fields #[.ref l, .int 0 0] }).get? s.heap.objs.size
              = some { cls := .type "set", dict := none, data := .set #[] 0 (.fresh 0 0 (!w.params.followText "set-order")) } := Heap.get?_push_of_some _ hS
          exact ⟨0, Nat.le_refl 0, setR_new_at hget⟩
        case hR =>
          intro s' c' hm hc' hS'
          obtain ⟨h', g2, d', tk', os'⟩ := s'
          have eg : g2 = s.gens := hm.gens
          have ed : d' = s.drawn := hm.drawn
          have eo : os' = s.os := hm.os
          subst eg; subst ed; subst eo
          show wpAny _ _ _ _ _ _
          refine wpAny_pure ?_
          show wpAny _ _ (ret Value.none) _ _ _
          rw [hisz] at hc'
          refine wpAny_pure ⟨rfl, h', tk', c', rfl, hS', hc', fun b o e => ?_⟩
          have hb0 : b < s.heap.objs.size := Heap.lt_size e
          have hb1 : b ≠ s.heap.objs.size := Nat.ne_of_lt hb0
          have hb2 : b ≠ (s.heap.push { cls := .type "set", dict := none, data := .set #[] 0 (.fresh 0 0 (!w.params.followText "set-order")) }).objs.size := by
            rw [Heap.size_push]; exact Nat.ne_of_lt (Nat.lt_succ_of_lt hb0)
          exact hm.heap b o (by simp only [List.mem_cons, List.mem_singleton, List.not_mem_nil, or_false, not_or]; exact ⟨hb1, hb2⟩) (Heap.get?_push_of_some _ (Heap.get?_push_of_some _ e))

      · cases r₂ with
        | error e => exact hr₂
        | ok fl₂ =>
          cases fl₂ with
          | ret r =>
            obtain ⟨rfl, h', tk, c', rfl, hS', hc', hk'⟩ := hr₂
            repeat (any_goals (first | assumption | wp_step))
            exact h _ _ _ hS' hc' hk'
          | _ => exact hr₂.elim
    | _ => exact hr.elim

end
/-- set(xs), xs a list of whole numbers -/
def rSetI (K : PySem.W.Frag) (w : World) : List V → Hp → VK → Prop := fun xs H Q => ∃ (a : Addr) (ns : List Int), xs = [.ref a] ∧ SqL K H a (ns.map V.int) ∧ ns.length < 60 ∧
  ∀ p c, H p = none → c ≤ ns.length → Q (.ref p) (upd H p (SetO w p (fun j => decide (j ∈ ns)) c))
theorem cr_setI {X : Cx} (hc : X.calm = true) : CallR X (.type "set") (rSetI X.K X.w) := by
  intro pins s σ H xs us Q I r h
  obtain ⟨a, ns, rfl, hs, h60, q⟩ := h
  rw [Vals.ref1 r]
  obtain ⟨its, rv, pl, hz⟩ := I.list hs
  refine call_set_lstI ns (I.ok.hd hc) pl.isList (by simpa using rv.ints) (by unfold scanBound; omega) fun h' tk c R hcn k => ?_
  refine ⟨.ref _, upd H s.heap.objs.size (SetO X.w s.heap.objs.size (fun j => decide (j ∈ ns)) c), I.laid (t' := tk) k (Nat.le_refl _) (setO_new R), rfl, q _ c (I.hok.fresh (Nat.le_refl _)) hcn⟩
end K1
namespace K1
open PySem PySem.Spec PyProof.Rows L2
/-- set(xs), xs many whole numbers below a small one -/
def rSetB (K : PySem.W.Frag) (w : World) (B : Nat) : List V → Hp → VK → Prop := fun xs H Q => ∃ (a : Addr) (ns : List Int), xs = [.ref a] ∧ SqL K H a (ns.map V.int) ∧ ns.length < 4000 ∧ (∀ x ∈ ns, 0 ≤ x ∧ x < (B : Int)) ∧
  ∀ p c, H p = none → c ≤ B → Q (.ref p) (upd H p (SetO w p (fun j => decide (j ∈ ns)) c))
theorem setR_few {w : World} {h : Heap} {a : Addr} {ns : List Int} {c B : Nat} (R : SetR w h a (fun j => decide (j ∈ ns)) c) (hb : ∀ x ∈ ns, 0 ≤ x ∧ x < (B : Int)) : c ≤ B := by
  obtain ⟨o, es, ep, t, ho, hx, hd, hg, nd, mem, _, _, hn, _⟩ := R
  have := nodup_le B _ nd fun x hx => hb x (of_decide_eq_true ((mem x).mpr hx))
  rw [List.length_map, Array.length_toList] at this
  omega
theorem cr_setB {X : Cx} {K : PySem.W.Frag} {w : World} {B : Nat} (hK : X.K = K) (hw : X.w = w) (hc : X.calm = true) : CallR X (.type "set") (rSetB K w B) := by
  subst hK
  subst hw
  intro pins s σ H xs us Q I r h
  obtain ⟨a, ns, rfl, hs, h4, hb, q⟩ := h
  rw [Vals.ref1 r]
  obtain ⟨its, rv, pl, hz⟩ := I.list hs
  refine call_set_lstI ns (I.ok.hd hc) pl.isList (by simpa using rv.ints) (by unfold scanBound; omega) fun h' tk c R hcn k => ?_
  refine ⟨.ref _, upd H s.heap.objs.size (SetO X.w s.heap.objs.size (fun j => decide (j ∈ ns)) c), I.laid (t' := tk) k (Nat.le_refl _) (setO_new R), rfl, q _ c (I.hok.fresh (Nat.le_refl _)) (setR_few R hb)⟩
theorem piL {X : Cx} {K : PySem.W.Frag} {tg l : Expr} {tl : TE} (h : X.K = K) (hl : PE X l tl) : PI X tg l (iList K tl) := by
  subst h
  exact pi_list hl
theorem vrow_getD {xs : List Int} {i : Nat} (h : i < xs.length) : (vrow xs)[i]? = some (V.int (xs.getD i 0)) := by
  rw [vrow, List.getElem?_map, List.getD_eq_getElem?_getD, List.getElem?_eq_getElem h]; rfl
section
variable {ts : Ts} {F : List KR} {y h : Int}
theorem map_at (hF : Fst (actL ts) ts.length (idL (nS ts)) F) {e : KR} (he : e ∈ F) (hy : 0 ≤ y ∧ y < (nS ts : Int)) : e.1.getD y.toNat 0 = run ts y e.2 := by rw [(hF.mem he).1, idL_to hy.1 hy.2]
theorem thr_rch (hF : Fst (actL ts) ts.length (idL (nS ts)) F) (hy : 0 ≤ y ∧ y < (nS ts : Int)) (x : Int) : x ∈ thr F y.toNat ↔ Rch ts y x := by
  constructor
  · intro hx
    obtain ⟨e, he, rfl⟩ := List.mem_map.mp hx
    exact ⟨e.2, (hF.mem he).2.1, (map_at hF he hy).symm⟩
  · rintro ⟨r, hr, rfl⟩
    obtain ⟨j, r', hj, _⟩ := hF.all r hr
    exact List.mem_map.mpr ⟨_, List.mem_of_getElem? hj, by show (path (actL ts) (idL (nS ts)) r).getD y.toNat 0 = _; rw [idL_to hy.1 hy.2]⟩
theorem told_of (hF : Fst (actL ts) ts.length (idL (nS ts)) F) (hy : 0 ≤ y ∧ y < (nS ts : Int)) (hh : 0 ≤ h ∧ h < (nS ts : Int)) (c : ∀ e ∈ F, ∀ f ∈ F, e.1.getD y.toNat 0 = f.1.getD y.toNat 0 → e.1.getD h.toNat 0 = f.1.getD h.toNat 0) : Told ts y h := fun r q hr hq e => by
  obtain ⟨i, r', hi, _⟩ := hF.all r hr
  obtain ⟨j, q', hj, _⟩ := hF.all q hq
  have z := c _ (List.mem_of_getElem? hi) _ (List.mem_of_getElem? hj)
  have z : (path (actL ts) (idL (nS ts)) r).getD y.toNat 0 = (path (actL ts) (idL (nS ts)) q).getD y.toNat 0 → (path (actL ts) (idL (nS ts)) r).getD h.toNat 0 = (path (actL ts) (idL (nS ts)) q).getD h.toNat 0 := z
  rw [idL_to hy.1 hy.2, idL_to hy.1 hy.2, idL_to hh.1 hh.2, idL_to hh.1 hh.2] at z
  exact z e
theorem told_no (hF : Fst (actL ts) ts.length (idL (nS ts)) F) (hy : 0 ≤ y ∧ y < (nS ts : Int)) (hh : 0 ≤ h ∧ h < (nS ts : Int)) {e f : KR} (he : e ∈ F) (hf : f ∈ F) (k1 : e.1.getD y.toNat 0 = f.1.getD y.toNat 0) (k2 : e.1.getD h.toNat 0 ≠ f.1.getD h.toNat 0) : ¬ Told ts y h := fun t => by
  rw [map_at hF he hy, map_at hF hf hy] at k1
  rw [map_at hF he hh, map_at hF hf hh] at k2
  exact k2 (t _ _ (hF.mem he).2.1 (hF.mem hf).2.1 k1)
end
def spLTells : Sp := fun vs H Q _ => ∃ p q s F ts, vs = [.ref p, .ref q, .int s] ∧ MapsAt H q F ∧ Fst (actL ts) ts.length (idL (nS ts)) F ∧ F.length ≤ 1000 ∧ Wf ts ∧ (0 ≤ s ∧ s < (nS ts : Int)) ∧ ∀ (b : Bool) H', Same H H' → (b = true ↔ Tells ts s) → Q (.bl b) H'
section
variable {P : Program} {w : World} {K : PySem.W.Frag} {mg : Str → Option Value} {base : Heap}
abbrev nLt : List Str := ["_law_tables_here", "_law_maps_here", "_law_state", "_law_orbit", "_law_archive", "_law_here", "_law_ends", "_law_one", "_law_row"]
theorem scLt : FnScope nLt ["_law_tables_here", "_law_maps_here", "_law_state"] (defScope sLTells) := ⟨rfl, rfl, rfl, by decide +kernel, rfl, by decide +kernel, by decide +kernel⟩
theorem ok_ltells {f : Addr} {fd : FuncData} (D : Df K mg "_law_tells" sLTells ["_law_tables_here", "_law_maps_here", "_law_state"] f fd) (B : Bt mg) : FnOk P w K mg base CX0 1 f fd ["_law_tables_here", "_law_maps_here", "_law_state"] spLTells := by
  refine D.F.ok scLt (fun vs H Q E h => ?_) (fun cdv A outer s H vs Q E hr h => ?_)
  · obtain ⟨p, q, s, F, ts, rfl, _⟩ := h
    rfl
  · obtain ⟨p, q, st, F, ts, rfl, hq, hF, hf, hW, hst, qq⟩ := h
    have hu := hu_of hr
    refine ⟨_, pss_cons (ps_set (i := 3) scLt.nd rfl (.inl rfl) (pe_callB (cr_sortedSet rfl) (by rfl) B.sorted PyProof.Rows.boot_sorted (pa_cons (pe_callTy (cr_setB (K := K) (w := w) (B := 12) rfl rfl rfl) (by rfl) B.set (by decide +kernel) (pa_cons
          (pe_lc (own := [("_law_one", 7)]) (g := gName 7) (tt := tYes) rfl scLt.nd (piL (K := K) rfl (pv 1)) (blkOk_by (N := nLt) (sc := defScope sLTells) (by decide +kernel)) (fun _ _ _ _ _ => pg_name (i := 7) scLt.nd rfl (Or.inl rfl)) (fun _ _ _ _ _ => pts_nil)
            (fun _ _ _ _ _ => pe_ix (ixTK (K := K) rfl) (pe_ix (ixTK (K := K) rfl) (pv 7) pe_int (fun _ _ => rfl)) (pv 2) (fun _ _ => rfl))) pa_nil)) pa_nil)))
      (pss_cons (ps_for PassesOwn.never rfl (piL (K := K) rfl (pv 3)) (pg_name (i := 4) scLt.nd rfl (.inr rfl))
        (pss_one (ps_for PassesOwn.never rfl (piL (K := K) rfl (pe_callB (cr_sortedSet rfl) (by rfl) B.sorted PyProof.Rows.boot_sorted (pa_cons (pe_callTy (cr_setB (K := K) (w := w) (B := 12) rfl rfl rfl) (by rfl) B.set (by decide +kernel) (pa_cons
          (pe_lc (own := [("_law_one", 7)]) (g := gName 7) (tt := tYes) rfl scLt.nd (piL (K := K) rfl (pv 1)) (blkOk_by (N := nLt) (sc := defScope sLTells) (by decide +kernel)) (fun _ _ _ _ _ => pg_name (i := 7) scLt.nd rfl (Or.inl rfl)) (fun _ _ _ _ _ => pts_nil)
            (fun _ _ _ _ _ => pe_ix (ixTK (K := K) rfl) (pe_ix (ixTK (K := K) rfl) (pv 7) pe_int (fun _ _ => rfl)) (pv 4) (fun _ _ => rfl))) pa_nil)) pa_nil))) (pg_name (i := 5) scLt.nd rfl (.inl rfl))
          (pss_cons (ps_set (i := 6) scLt.nd rfl (.inl rfl) pe_dnewK)
          (pss_one (ps_for PassesOwn.never rfl (piL (K := K) rfl (pv 1)) (pg_tup rfl (pgs_cons (pg_name (i := 7) scLt.nd rfl (.inl rfl)) (pgs_cons (pg_name (i := 8) scLt.nd rfl (.inl rfl)) pgs_nil)))
            (pss_one (ps_if (pt_cmpR op_ne (pe_dsetd (pv 6) (pe_ix (ixTK (K := K) rfl) (pv 7) (pv 4) (fun _ _ => rfl)) (pe_ix (ixTK (K := K) rfl) (pv 7) (pv 5) (fun _ _ => rfl)) ⟨by rfl, by rfl, by rfl, by rfl⟩) (pe_ix (ixTK (K := K) rfl) (pv 7) (pv 5) (fun _ _ => rfl)) (nomark _)) (pss_one (ps_ret pe_bl)) pss_nil))))))))
      (pss_one (ps_ret pe_bl))), ?_⟩
    obtain ⟨mas, hq1, hq2, hq3⟩ := hq
    have n12 := hW.s12
    have hxl : ∀ e ∈ F, e.1.length = nS ts := fun e he => by
      rw [(hF.mem he).1, path_run, List.length_map, idL, gL_len]
    have rng : ∀ y : Int, (0 ≤ y ∧ y < (nS ts : Int)) → ∀ x ∈ thr F y.toNat, 0 ≤ x ∧ x < ((12 : Nat) : Int) := fun y hy x hx => by
      have := ((thr_rch hF hy x).mp hx).rng hW hy
      omega
    have sr : Same H H := Same.refl _
    refine ⟨_, rfl, q, rfl, ⟨_, SqL.of (sr _ _ hq1)⟩, fun D1 hD1 => lc_list (K := K) (a := q) (xs := mas.map V.ref) (fun i H' => Same H H' ∧ H' D1 = some (.lst (((thr F st.toNat).take i).map V.int))) ⟨same_new hD1, by rw [upd_same]; rfl⟩ (fun i H' _ ⟨s, _⟩ => SqL.of (s _ _ (sr _ _ hq1))) ?_ ?_⟩
    · rintro i x H' hx ⟨s2, hD2⟩
      obtain ⟨ma, hma, rfl⟩ : ∃ ma, mas[i]? = some ma ∧ x = V.ref ma := by
        rw [List.getElem?_map] at hx
        cases e : mas[i]? with
        | none => rw [e] at hx; cases hx
        | some t => rw [e] at hx; exact ⟨t, rfl, (Option.some.inj hx).symm⟩
      have hiF : i < F.length := by rw [← hq2]; exact (List.getElem?_eq_some_iff.mp hma).1
      obtain ⟨e, he⟩ : ∃ e, F[i]? = some e := ⟨F[i], List.getElem?_eq_getElem hiF⟩
      obtain ⟨xb, xc, g1, g2, _⟩ := hq3 i ma e.1 e.2 hma he
      have lx := hxl e (List.mem_of_getElem? he)
      have ez : (thr F st.toNat)[i]? = some (e.1.getD st.toNat 0) := by rw [thr, List.getElem?_map, he]; rfl
      refine ⟨rfl, _, rfl, ma, _, 0, _, rfl, rfl, SqT.of (s2 _ _ (sr _ _ g1)), atI_nat (j := 0) rfl, _, rfl, xb, _, st, .int (e.1.getD st.toNat 0), rfl, rfl, SqT.of (s2 _ _ (sr _ _ g2)), at_of (j := st.toNat) (by omega) (vrow_getD (by omega)), _, hD2, by rw [List.length_map, List.length_take, sizeLine_eq]; omega, fun d o eo => ?_, ?_⟩
      · rw [upd_ne (ne_of_none eo hD1)]
        exact s2 _ _ eo
      · rw [upd_same, take_succ ez, List.map_append]; rfl
    · rintro H2a ⟨s2a, hD2⟩
      have e1 : (thr F st.toNat).take (mas.map V.ref).length = thr F st.toNat := by rw [List.take_of_length_le]; rw [thr, List.length_map, List.length_map, hq2]; exact Nat.le_refl _
      rw [e1] at hD2
      refine ⟨D1, thr F st.toNat, rfl, SqL.of hD2, by rw [thr, List.length_map]; omega, rng st hst, fun ps c hps hc => ⟨ps, _, c, rfl, upd_same, by omega, fun lots l pw mem hl hl0 => ?_⟩⟩
      have mem' : ∀ x, x ∈ lots ↔ Rch ts st x := fun x => by
        rw [mem x, ← thr_rch hF hst x]
        exact ⟨fun z => of_decide_eq_true z, fun z => decide_eq_true z⟩
      have s3 := (s2a.trans (same_new hps)).trans (same_new (o := HO.lst (lots.map V.int)) hl0)
      have hl3 : (upd (upd H2a ps (SetO w ps (fun j => decide (j ∈ thr F st.toNat)) c)) l (.lst (lots.map V.int))) l = some (.lst (lots.map V.int)) := upd_same
      refine gn ?_
      generalize upd (upd H2a ps (SetO w ps (fun j => decide (j ∈ thr F st.toNat)) c)) l (.lst (lots.map V.int)) = H3 at s3 hl3 ⊢
      dsimp only
      refine ⟨_, rfl, l, rfl, ⟨_, SqL.of hl3⟩, for_list (K := K) (a := l) (xs := lots.map V.int) (fun i σ H' => ∃ v4 v5 v6 v7 v8, σ = [some (.ref p), some (.ref q), some (.int st), some (.ref l), v4, v5, v6, v7, v8] ∧ Same H3 H' ∧ ∀ (j : Nat) y, j < i → lots[j]? = some y → ∀ h, Rch ts y h → Told ts y h) ⟨none, none, none, none, none, rfl, fun _ _ e => e, fun j y hj => absurd hj (Nat.not_lt_zero _)⟩ (fun i σ H' _ ⟨_, _, _, _, _, _, s, _⟩ => SqL.of (s _ _ hl3)) ?_ ?_⟩
      · rintro i x σ H4 hx ⟨v4, v5, v6, v7, v8, rfl, s4, ok⟩
        obtain ⟨y, hy, rfl⟩ : ∃ z, lots[i]? = some z ∧ x = V.int z := by
          rw [List.getElem?_map] at hx
          cases e : lots[i]? with
          | none => rw [e] at hx; cases hx
          | some z => rw [e] at hx; exact ⟨z, rfl, (Option.some.inj hx).symm⟩
        have hyR := (mem' y).mp (List.mem_of_getElem? hy)
        have hyr := hyR.rng hW hst
        have s34 := s3.trans s4
        refine gn ?_
        dsimp only
        refine ⟨_, rfl, q, rfl, ⟨_, SqL.of (s34 _ _ hq1)⟩, fun D3 hD3 => lc_list (K := K) (a := q) (xs := mas.map V.ref) (fun i H' => Same H4 H' ∧ H' D3 = some (.lst (((thr F y.toNat).take i).map V.int))) ⟨same_new hD3, by rw [upd_same]; rfl⟩ (fun i H' _ ⟨s, _⟩ => SqL.of (s _ _ (s34 _ _ hq1))) ?_ ?_⟩
        · rintro i x H' hx ⟨s2, hD2⟩
          obtain ⟨ma, hma, rfl⟩ : ∃ ma, mas[i]? = some ma ∧ x = V.ref ma := by
            rw [List.getElem?_map] at hx
            cases e : mas[i]? with
            | none => rw [e] at hx; cases hx
            | some t => rw [e] at hx; exact ⟨t, rfl, (Option.some.inj hx).symm⟩
          have hiF : i < F.length := by rw [← hq2]; exact (List.getElem?_eq_some_iff.mp hma).1
          obtain ⟨e, he⟩ : ∃ e, F[i]? = some e := ⟨F[i], List.getElem?_eq_getElem hiF⟩
          obtain ⟨xb, xc, g1, g2, _⟩ := hq3 i ma e.1 e.2 hma he
          have lx := hxl e (List.mem_of_getElem? he)
          have ez : (thr F y.toNat)[i]? = some (e.1.getD y.toNat 0) := by rw [thr, List.getElem?_map, he]; rfl
          refine ⟨rfl, _, rfl, ma, _, 0, _, rfl, rfl, SqT.of (s2 _ _ (s34 _ _ g1)), atI_nat (j := 0) rfl, _, rfl, xb, _, y, .int (e.1.getD y.toNat 0), rfl, rfl, SqT.of (s2 _ _ (s34 _ _ g2)), at_of (j := y.toNat) (by omega) (vrow_getD (by omega)), _, hD2, by rw [List.length_map, List.length_take, sizeLine_eq]; omega, fun d o eo => ?_, ?_⟩
          · rw [upd_ne (ne_of_none eo hD3)]
            exact s2 _ _ eo
          · rw [upd_same, take_succ ez, List.map_append]; rfl
        · rintro H2b ⟨s2b, hD2⟩
          have e1 : (thr F y.toNat).take (mas.map V.ref).length = thr F y.toNat := by rw [List.take_of_length_le]; rw [thr, List.length_map, List.length_map, hq2]; exact Nat.le_refl _
          rw [e1] at hD2
          refine ⟨D3, thr F y.toNat, rfl, SqL.of hD2, by rw [thr, List.length_map]; omega, rng y hyr, fun ps c hps hc => ⟨ps, _, c, rfl, upd_same, by omega, fun lots2 l2 pw2 mem2 hl2 hl20 => ?_⟩⟩
          have mem2' : ∀ x, x ∈ lots2 ↔ Rch ts y x := fun x => by
            rw [mem2 x, ← thr_rch hF hyr x]
            exact ⟨fun z => of_decide_eq_true z, fun z => decide_eq_true z⟩
          have s5 := (s2b.trans (same_new hps)).trans (same_new (o := HO.lst (lots2.map V.int)) hl20)
          have hl5 : (upd (upd H2b ps (SetO w ps (fun j => decide (j ∈ thr F y.toNat)) c)) l2 (.lst (lots2.map V.int))) l2 = some (.lst (lots2.map V.int)) := upd_same
          generalize upd (upd H2b ps (SetO w ps (fun j => decide (j ∈ thr F y.toNat)) c)) l2 (.lst (lots2.map V.int)) = H5 at s5 hl5 ⊢
          have s35 := s34.trans s5
          refine ⟨l2, rfl, ⟨_, SqL.of hl5⟩, for_list (K := K) (a := l2) (xs := lots2.map V.int) (fun i σ H' => ∃ v5 v6 v7 v8, σ = [some (.ref p), some (.ref q), some (.int st), some (.ref l), some (.int y), v5, v6, v7, v8] ∧ Same H5 H' ∧ ∀ (j : Nat) h, j < i → lots2[j]? = some h → Told ts y h) ⟨_, _, _, _, rfl, fun _ _ e => e, fun j h hj => absurd hj (Nat.not_lt_zero _)⟩ (fun i σ H' _ ⟨_, _, _, _, _, s, _⟩ => SqL.of (s _ _ hl5)) ?_ ?_⟩
          · rintro k x2 σ H6 hx2 ⟨w5, w6, w7, w8, rfl, s6, ok2⟩
            obtain ⟨h, hh, rfl⟩ : ∃ z, lots2[k]? = some z ∧ x2 = V.int z := by
              rw [List.getElem?_map] at hx2
              cases e : lots2[k]? with
              | none => rw [e] at hx2; cases hx2
              | some z => rw [e] at hx2; exact ⟨z, rfl, (Option.some.inj hx2).symm⟩
            have hhR := (mem2' h).mp (List.mem_of_getElem? hh)
            have hhr := hhR.rng hW hyr
            have s36 := s35.trans s6
            refine gn ?_
            dsimp only
            intro d hd
            have s7 := same_new (o := HO.dK []) hd
            have hd7 : (upd H6 d (.dK [])) d = some (.dK []) := upd_same
            have nd : H6 d = none := hd
            refine gn ?_
            generalize upd H6 d (.dK []) = H7 at s7 hd7 ⊢
            dsimp only
            have s37 := s36.trans s7
            have nq : q ≠ d := fun z => by have := s36 _ _ hq1; rw [z, nd] at this; cases this
            refine ⟨_, rfl, q, rfl, ⟨_, SqL.of (s37 _ _ hq1)⟩, for_list (K := K) (a := q) (xs := mas.map V.ref) (fun j σ H' => ∃ u7 u8, σ = [some (.ref p), some (.ref q), some (.int st), some (.ref l), some (.int y), some (.int h), some (.ref d), u7, u8] ∧ (∀ c o, H7 c = some o → c ≠ d → H' c = some o) ∧
                (∃ kvs : List (Key × V), H' d = some (.dK kvs) ∧ kvs.length ≤ j ∧ ∀ x v, valV kvs (Sum.inl x) = some v ↔ ∃ (i' : Nat) (e : KR), i' < j ∧ F[i']? = some e ∧ e.1.getD y.toNat 0 = x ∧ v = .int (e.1.getD h.toNat 0)) ∧
                ∀ (i1 i2 : Nat) (e f : KR), i1 < j → i2 < j → F[i1]? = some e → F[i2]? = some f → e.1.getD y.toNat 0 = f.1.getD y.toNat 0 → e.1.getD h.toNat 0 = f.1.getD h.toNat 0)
              ⟨_, _, rfl, fun c o e _ => e, ⟨[], hd7, Nat.le_refl _, fun x v => ⟨fun z => (by cases z), fun ⟨i', e, z, _⟩ => absurd z (Nat.not_lt_zero _)⟩⟩, fun i1 i2 e f z => absurd z (Nat.not_lt_zero _)⟩ (fun i σ H' _ ⟨_, _, _, kp, _⟩ => SqL.of (kp _ _ (s37 _ _ hq1) nq)) ?_ ?_⟩
            · rintro j x3 σ H8 hx3 ⟨u7, u8, rfl, kp, ⟨kvs, hk1, hk2, hk3⟩, cons⟩
              obtain ⟨ma, hma, rfl⟩ : ∃ ma, mas[j]? = some ma ∧ x3 = V.ref ma := by
                rw [List.getElem?_map] at hx3
                cases e : mas[j]? with
                | none => rw [e] at hx3; cases hx3
                | some t => rw [e] at hx3; exact ⟨t, rfl, (Option.some.inj hx3).symm⟩
              have hjF : j < F.length := by rw [← hq2]; exact (List.getElem?_eq_some_iff.mp hma).1
              obtain ⟨e, he⟩ : ∃ e, F[j]? = some e := ⟨F[j], List.getElem?_eq_getElem hjF⟩
              obtain ⟨xb, xc, g1, g2, _⟩ := hq3 j ma e.1 e.2 hma he
              have lx := hxl e (List.mem_of_getElem? he)
              have tupD : ∀ c xs, H c = some (.tup xs) → H8 c = some (.tup xs) := fun c xs g => kp _ _ (s37 _ _ g) fun z => by
                have := s36 _ _ g
                rw [z, nd] at this
                cases this
              have t1 := tupD _ _ g1
              have t2 := tupD _ _ g2
              have ay : atI (vrow e.1) y = some (V.int (e.1.getD y.toNat 0)) := at_of (j := y.toNat) (by omega) (vrow_getD (by omega))
              have ah : atI (vrow e.1) h = some (V.int (e.1.getD h.toNat 0)) := at_of (j := h.toNat) (by omega) (vrow_getD (by omega))
              have more : (∀ (i1 : Nat) (f : KR), i1 < j → F[i1]? = some f → f.1.getD y.toNat 0 = e.1.getD y.toNat 0 → f.1.getD h.toNat 0 = e.1.getD h.toNat 0) → ∀ (i1 i2 : Nat) (f g : KR), i1 < j + 1 → i2 < j + 1 → F[i1]? = some f → F[i2]? = some g → f.1.getD y.toNat 0 = g.1.getD y.toNat 0 → f.1.getD h.toNat 0 = g.1.getD h.toNat 0 := fun c i1 i2 f g l1 l2 h1 h2 k => by
                rcases Nat.lt_succ_iff_lt_or_eq.mp l1 with a1 | a1 <;> rcases Nat.lt_succ_iff_lt_or_eq.mp l2 with a2 | a2
                · exact cons i1 i2 f g a1 a2 h1 h2 k
                · subst a2
                  rw [he] at h2
                  obtain rfl := Option.some.inj h2
                  exact c i1 f a1 h1 k
                · subst a1
                  rw [he] at h1
                  obtain rfl := Option.some.inj h1
                  exact (c i2 g a2 h2 k.symm).symm
                · subst a1
                  subst a2
                  rw [h1] at h2
                  rw [Option.some.inj h2]
              refine ⟨ma, _, rfl, SqT.of t1, rfl, _, _, rfl, _, _, rfl, rfl, ?_⟩
              refine ⟨_, rfl, d, rfl, .inl ⟨kvs, .inl hk1⟩, _, rfl, _, rfl, xb, _, y, _, rfl, rfl, SqT.of t2, ay, _, rfl, _, rfl, xb, _, h, _, rfl, rfl, SqT.of t2, ah, kvs, Sum.inl (e.1.getD y.toNat 0), hk1, rfl, by rw [sizeLine_eq]; omega, fun v hv => ?_, fun hn => ?_⟩
              · obtain ⟨i', f, hi', hf', ey, rfl⟩ := (hk3 _ _).mp hv
                refine ⟨_, rfl, _, rfl, xb, _, h, _, rfl, rfl, SqT.of t2, ah, rfl, _, rfl, ifD (fun c => ?_) fun c => ?_⟩
                · have ne : f.1.getD h.toNat 0 ≠ e.1.getD h.toNat 0 := fun z => by
                    rw [z] at c
                    simp at c
                  refine qq false _ (fun c o g => kp _ _ (s37 _ _ g) fun z => by
                    have := s36 _ _ g
                    rw [z, nd] at this
                    cases this) ⟨fun z => (by cases z), fun t => ?_⟩
                  exact absurd (tells_all.mp t y hyR h hhR) (told_no hF hyr hhr (List.mem_of_getElem? hf') (List.mem_of_getElem? he) ey ne)
                · have eq : f.1.getD h.toNat 0 = e.1.getD h.toNat 0 := by
                    have q3 : decide (V.int (f.1.getD h.toNat 0) = V.int (e.1.getD h.toNat 0)) = true := by simpa using c
                    have q4 := of_decide_eq_true q3
                    injection q4
                  refine ⟨_, _, rfl, kp, ⟨kvs, hk1, by omega, fun x v => ?_⟩, more fun i1 g l1 h1 k => ?_⟩
                  · rw [hk3 x v]
                    constructor
                    · rintro ⟨i1, g, l1, r⟩
                      exact ⟨i1, g, by omega, r⟩
                    · rintro ⟨i1, g, l1, h1, k1, k2⟩
                      rcases Nat.lt_succ_iff_lt_or_eq.mp l1 with a1 | a1
                      · exact ⟨i1, g, a1, h1, k1, k2⟩
                      · subst a1
                        rw [he] at h1
                        obtain rfl := Option.some.inj h1
                        exact ⟨i', f, hi', hf', ey.trans k1, by rw [k2, eq]⟩
                  · rw [cons i1 i' g f l1 hi' h1 hf' (k.trans ey.symm)]
                    exact eq
              · have kpD : ∀ c o, H7 c = some o → c ≠ d → (upd H8 d (.dK (putK kvs (Sum.inl (e.1.getD y.toNat 0)) (.int (e.1.getD h.toNat 0))))) c = some o := fun c o g n => by
                  rw [upd_ne n]; exact kp _ _ g n
                have nxb : xb ≠ d := fun z => by rw [z, hk1] at t2; cases t2
                refine ⟨_, rfl, _, rfl, xb, _, h, _, rfl, rfl, SqT.of (by rw [upd_ne nxb]; exact t2), ah, rfl, _, rfl, iteN (by simp) (nxP ?_)⟩
                have new : ∀ (i1 : Nat) (g : KR), i1 < j → F[i1]? = some g → g.1.getD y.toNat 0 ≠ e.1.getD y.toNat 0 := fun i1 g l1 h1 k => by
                  have := (hk3 (e.1.getD y.toNat 0) (.int (g.1.getD h.toNat 0))).mpr ⟨i1, g, l1, h1, k, rfl⟩
                  rw [hn] at this
                  cases this
                refine ⟨_, _, rfl, kpD, ⟨_, upd_same, by rw [putK_new _ hn, List.length_append]; show kvs.length + 1 ≤ j + 1; omega, fun x v => ?_⟩, more fun i1 g l1 h1 k => absurd k (new i1 g l1 h1)⟩
                rw [valV_put]
                by_cases z : x = e.1.getD y.toNat 0
                · subst z
                  rw [if_pos rfl]
                  constructor
                  · intro w
                    exact ⟨j, e, Nat.lt_succ_self _, he, rfl, (Option.some.inj w).symm⟩
                  · rintro ⟨i1, g, l1, h1, k1, k2⟩
                    rcases Nat.lt_succ_iff_lt_or_eq.mp l1 with a1 | a1
                    · exact absurd k1 (new i1 g a1 h1)
                    · subst a1
                      rw [he] at h1
                      obtain rfl := Option.some.inj h1
                      rw [k2]
                · rw [if_neg (fun w => z (by injection w))]
                  rw [hk3 x v]
                  constructor
                  · rintro ⟨i1, g, l1, r⟩
                    exact ⟨i1, g, by omega, r⟩
                  · rintro ⟨i1, g, l1, h1, k1, k2⟩
                    rcases Nat.lt_succ_iff_lt_or_eq.mp l1 with a1 | a1
                    · exact ⟨i1, g, a1, h1, k1, k2⟩
                    · subst a1
                      rw [he] at h1
                      obtain rfl := Option.some.inj h1
                      exact absurd k1.symm z
            · rintro σ H8 ⟨u7, u8, rfl, kp, _, cons⟩
              have lm : (mas.map V.ref).length = F.length := by rw [List.length_map, hq2]
              rw [lm] at cons
              refine ⟨_, _, _, _, rfl, fun c o e => kp _ _ (s7 _ _ (s6 _ _ e)) (ne_of_none (s6 _ _ e) nd), fun j z hj hz => ?_⟩
              rcases Nat.lt_succ_iff_lt_or_eq.mp hj with g | g
              · exact ok2 j z g hz
              · subst g
                rw [hh] at hz
                obtain rfl := Option.some.inj hz
                refine told_of hF hyr hhr fun e he f hf => ?_
                obtain ⟨i1, h1⟩ := List.getElem?_of_mem he
                obtain ⟨i2, h2⟩ := List.getElem?_of_mem hf
                exact cons i1 i2 e f (List.getElem?_eq_some_iff.mp h1).1 (List.getElem?_eq_some_iff.mp h2).1 h1 h2
          · rintro σ H6 ⟨w5, w6, w7, w8, rfl, s6, ok2⟩
            refine ⟨_, _, _, _, _, rfl, s4.trans (s5.trans s6), fun j z hj hz h hh => ?_⟩
            rcases Nat.lt_succ_iff_lt_or_eq.mp hj with g | g
            · exact ok j z g hz h hh
            · subst g
              rw [hy] at hz
              obtain rfl := Option.some.inj hz
              obtain ⟨j, hj⟩ := List.getElem?_of_mem ((mem2' h).mpr hh)
              exact ok2 j h (by rw [List.length_map]; exact (List.getElem?_eq_some_iff.mp hj).1) hj
      · rintro σ H4 ⟨v4, v5, v6, v7, v8, rfl, s4, ok⟩
        refine qq true _ (s3.trans s4) ⟨fun _ => tells_all.mpr fun x hx h hh => ?_, fun _ => rfl⟩
        obtain ⟨j, hj⟩ := List.getElem?_of_mem ((mem' x).mpr hx)
        exact ok j x (by rw [List.length_map]; exact (List.getElem?_eq_some_iff.mp hj).1) hj h hh
end
end K1
namespace K1
open PySem PySem.Spec PyProof.Rows L2
/-- moved, the row a list or a tuple -/
def spMovedA (M : Addr) : Sp := fun vs H Q _ => ∃ m ta ts s p row, vs = [.ref m, .int s, .ref p] ∧ MachAt M H m ta (vts ts) ∧ Wf ts ∧ (0 ≤ s ∧ s < (nS ts : Int)) ∧ SeqA H p (vrow row) ∧ VRow ts row ∧ Q (.int (run ts s row)) H
section
variable {P : Program} {w : World} {K : PySem.W.Frag} {mg : Str → Option Value} {base : Heap}
theorem ok_movedA {f M : Addr} {fd : FuncData} (D : Df K mg "moved" sMoved ["machine", "state", "row"] f fd) (T : McT K mg M) : FnOk P w K mg base CX0 1 f fd ["machine", "state", "row"] (spMovedA M) := by
  refine D.F.ok scMv (fun vs H Q E h => ?_) (fun cdv A outer s H vs Q E hr h => ?_)
  · obtain ⟨m, ta, ts, v, p, row, rfl, _⟩ := h
    rfl
  · obtain ⟨m, ta, ts, s0, p, row, rfl, hM, hW, hs, hp, hd, q⟩ := h
    refine ⟨_, pss_cons (ps_for PassesOwn.never rfl (pi_seqA (pv 2)) (pg_name (i := 3) scMv.nd rfl (.inl rfl)) (pss_one (ps_set (i := 1) scMv.nd rfl (.inl rfl) (pe_ix ix_tup (pe_ix ix_tup (pe_fld (pv 0) rfl) (pv 3) (fun _ _ => rfl)) (pv 1) (fun _ _ => rfl)))))
      (pss_one (ps_ret (pv 1))), ?_⟩
    rcases hp with hp | hp
    · refine ⟨_, rfl, p, rfl, .inl ⟨_, SqL.of hp, for_list (K := K) (a := p) (xs := vrow row) (fun i σ H' => ∃ v3 : Option V, σ = [some (.ref m), some (.int (run ts s0 (row.take i))), some (.ref p), v3] ∧ H' = H)
        ⟨none, rfl, rfl⟩ (fun i σ H' _ ⟨_, _, e⟩ => by rw [e]; exact SqL.of hp) ?_ ?_⟩⟩
      · rintro i y σ H' hi ⟨v3, rfl, rfl⟩
        obtain ⟨d, ed, rfl⟩ := vrow_at hi
        have hb := hd d (List.mem_of_getElem? ed)
        have hr' := hW.run (row.take i) s0 (fun e he => hd e (List.mem_of_mem_take he)) hs
        obtain ⟨t, h1, h2, h3⟩ := hW.at_ hb hr'
        obtain ⟨dx, hm⟩ := hM.fs
        obtain ⟨as, ha1, ha2, ha3⟩ := hM.2
        have hla : d.toNat < as.length := by rw [ha2, vts, List.length_map]; omega
        have hA : as[d.toNat]? = some as[d.toNat] := by simp [hla]
        have hT := ha3 d.toNat _ (vrow t) hA (by rw [vts, List.getElem?_map, h1]; rfl)
        refine ⟨_, rfl, m, M, dx, _, _, rfl, hm, T.cl, T.nT, mf_t _ _ _, _, rfl, ta, _, d, _, rfl, rfl, SqT.of ha1, at_of (j := d.toNat) (by omega) (by rw [List.getElem?_map, hA]; rfl), ?_⟩
        refine ⟨_, rfl, _, _, _, .int (stp ts (run ts s0 (row.take i)) d), rfl, rfl, SqT.of hT, at_of (j := (run ts s0 (row.take i)).toNat) (by omega) (by rw [vrow, List.getElem?_map, h2]; rfl), ?_⟩
        refine ⟨some (.int d), ?_, rfl⟩
        rw [take_succ ed, run_snoc]
        rfl
      · rintro σ H' ⟨v3, rfl, rfl⟩
        have e : row.take (vrow row).length = row := by rw [vrow, List.length_map, List.take_length]
        rw [e]
        exact ⟨_, rfl, q⟩
    · refine ⟨_, rfl, p, rfl, .inr ⟨_, SqT.of hp, for_tup (K := K) (a := p) (xs := vrow row) (fun i σ H' => ∃ v3 : Option V, σ = [some (.ref m), some (.int (run ts s0 (row.take i))), some (.ref p), v3] ∧ H' = H)
        ⟨none, rfl, rfl⟩ (fun i σ H' _ ⟨_, _, e⟩ => by rw [e]; exact SqT.of hp) ?_ ?_⟩⟩
      · rintro i y σ H' hi ⟨v3, rfl, rfl⟩
        obtain ⟨d, ed, rfl⟩ := vrow_at hi
        have hb := hd d (List.mem_of_getElem? ed)
        have hr' := hW.run (row.take i) s0 (fun e he => hd e (List.mem_of_mem_take he)) hs
        obtain ⟨t, h1, h2, h3⟩ := hW.at_ hb hr'
        obtain ⟨dx, hm⟩ := hM.fs
        obtain ⟨as, ha1, ha2, ha3⟩ := hM.2
        have hla : d.toNat < as.length := by rw [ha2, vts, List.length_map]; omega
        have hA : as[d.toNat]? = some as[d.toNat] := by simp [hla]
        have hT := ha3 d.toNat _ (vrow t) hA (by rw [vts, List.getElem?_map, h1]; rfl)
        refine ⟨_, rfl, m, M, dx, _, _, rfl, hm, T.cl, T.nT, mf_t _ _ _, _, rfl, ta, _, d, _, rfl, rfl, SqT.of ha1, at_of (j := d.toNat) (by omega) (by rw [List.getElem?_map, hA]; rfl), ?_⟩
        refine ⟨_, rfl, _, _, _, .int (stp ts (run ts s0 (row.take i)) d), rfl, rfl, SqT.of hT, at_of (j := (run ts s0 (row.take i)).toNat) (by omega) (by rw [vrow, List.getElem?_map, h2]; rfl), ?_⟩
        refine ⟨some (.int d), ?_, rfl⟩
        rw [take_succ ed, run_snoc]
        rfl
      · rintro σ H' ⟨v3, rfl, rfl⟩
        have e : row.take (vrow row).length = row := by rw [vrow, List.length_map, List.take_length]
        rw [e]
        exact ⟨_, rfl, q⟩
/-- a value that may stand as a row in a paper -/
def prB (r : Option (List V)) (n : Int) : Bool := seqB r 0 200 && decide (rowF r n = V.non)
def spPRow (K : PySem.W.Frag) (M : Addr) : Sp := fun vs H Q _ => ∃ m ta ts v r, vs = [.ref m, v] ∧ MachAt M H m ta (vts ts) ∧ Rw K H v r ∧ ∀ H', Same H H' → Q (.bl (prB r (ts.length : Int))) H'
theorem scPR : FnScope ["machine", "value"] ["machine", "value"] (defScope sPRow) := ⟨rfl, rfl, rfl, by decide +kernel, rfl, by decide +kernel, by decide +kernel⟩
theorem ok_prow {f fS fF M : Addr} {fd fdS fdF : FuncData} (D : Df K mg "is_paper_row" sPRow ["machine", "value"] f fd) (DS : Df K mg "is_sequence" sSeq ["value", "least", "most"] fS fdS) (DF : Df K mg "row_fault" sFault ["machine", "value"] fF fdF) (hc : ∃ t, mg "MOST_PAPER_ROW" = some (.int 200 t))
    (GS : FnOk P w K mg base CX0 1 fS fdS ["value", "least", "most"] (spSeq K)) (GF : FnOk P w K mg base CX0 4 fF fdF ["machine", "value"] (spFault K M)) : FnOk P w K mg base CX0 5 f fd ["machine", "value"] (spPRow K M) := by
  obtain ⟨t1, hc1⟩ := hc
  refine D.F.ok scPR (fun vs H Q E h => ?_) (fun cdv A outer s H vs Q E hr h => ?_)
  · obtain ⟨m, ta, ts, v, r, rfl, _⟩ := h
    rfl
  · obtain ⟨m, ta, ts, v, r, rfl, hM, W, q⟩ := h
    refine ⟨_, pss_one (ps_ret (pe_and (pc DS GS (hr.mono (by decide)) pass0 (pa_cons (pv 1) (pa_cons pe_int (pa_cons (pe_glob (v := .int 200) (by rfl) hc1 ⟨_, rfl⟩) pa_nil)))) (pe_one (pe_cmp (pc_isN (pc DF GF hr pass0 (pa_cons (pv 0) (pa_cons (pv 1) pa_nil)))))))), ?_⟩
    refine ⟨_, rfl, v, r, 0, 200, rfl, W.kv, fun H1 s1 => ⟨_, rfl, ifD (fun e => ?_) fun e => ?_⟩⟩
    · refine ⟨_, rfl, _, rfl, m, ta, ts, v, r, rfl, hM.same s1, W.same s1, fun H2 s2 => ?_⟩
      have := q _ (s1.trans s2)
      unfold prB at this
      rw [e, Bool.true_and] at this
      exact this
    · have := q _ s1
      unfold prB at this
      rw [e, Bool.false_and] at this
      exact this
end
end K1
namespace K1
open PySem PySem.Spec PyProof.Rows L2
theorem pg_or2 {X : Cx} {tg : Expr} {g1 g2 : TG} (a : PG X tg g1) (b : PG X tg g2) : PG X tg (fun v σ H Q => g1 v σ H Q ∨ g2 v σ H Q) := ⟨fun pins s σ H v u Q I r h => h.elim (a.run pins s σ H v u Q I r) (b.run pins s σ H v u Q I r)⟩
/-- what a paper must be -/
def Holds (ts : Ts) (s : Int) (wd a d : V) (x1 x2 : Option (List V)) : Prop := wd = .str "untold" ∧ ∃ x e r q, a = .int x ∧ Rch ts s x ∧ d = .int e ∧ In8 ts e ∧ x1 = some (vrow r) ∧ x2 = some (vrow q) ∧ VRow ts r ∧ VRow ts q ∧ r.length ≤ 200 ∧ q.length ≤ 200 ∧ run ts x r = run ts x q ∧ run ts (stp ts x e) r ≠ run ts (stp ts x e) q
/-- a value of five items, as far as it is looked at -/
structure Five (K : PySem.W.Frag) (H : Hp) (u : V) (wd a d : V) (x1 x2 : Option (List V)) : Prop where
  ex : ∃ p y1 y2, u = .ref p ∧ SeqA H p [wd, a, d, y1, y2] ∧ Rw K H y1 x1 ∧ Rw K H y2 x2
  sc : scal wd (.str "untold") = true
  ka : KV K H a none
  kd : KV K H d none
theorem rowF_vr {r : Option (List V)} {n : Int} (h : rowF r n = V.non) : ∃ row : List Int, r = some (vrow row) ∧ ∀ d ∈ row, 0 ≤ d ∧ d < n := by
  obtain ⟨xs, e, hx⟩ := rowF_non h
  have : ∀ ys : List V, (∀ x ∈ ys, belowB x n = true) → ∃ row : List Int, ys = vrow row ∧ ∀ d ∈ row, 0 ≤ d ∧ d < n := fun ys => by
    induction ys with
    | nil => exact fun _ => ⟨[], rfl, fun d hd => absurd hd (by simp)⟩
    | cons y ys ih =>
      intro h
      obtain ⟨row, e1, e2⟩ := ih fun x hx => h x (List.mem_cons_of_mem _ hx)
      have hy := h y List.mem_cons_self
      cases y with
      | int i =>
        have z : (decide (0 ≤ i) && decide (i < n)) = true := hy
        rw [Bool.and_eq_true, decide_eq_true_eq, decide_eq_true_eq] at z
        refine ⟨i :: row, by rw [e1]; rfl, fun d hd => ?_⟩
        rcases List.mem_cons.mp hd with rfl | hd
        · exact z
        · exact e2 d hd
      | _ => cases hy
  obtain ⟨row, e1, e2⟩ := this xs hx
  exact ⟨row, by rw [e, e1], e2⟩
theorem prB_iff {r : Option (List V)} {n : Int} : prB r n = true ↔ ∃ row : List Int, r = some (vrow row) ∧ (∀ d ∈ row, 0 ≤ d ∧ d < n) ∧ row.length ≤ 200 := by
  unfold prB
  rw [Bool.and_eq_true, decide_eq_true_eq]
  constructor
  · rintro ⟨h1, h2⟩
    obtain ⟨row, rfl, hr⟩ := rowF_vr h2
    refine ⟨row, rfl, hr, ?_⟩
    have z : (decide ((0 : Int) ≤ ((vrow row).length : Int)) && decide (((vrow row).length : Int) ≤ 200)) = true := h1
    rw [Bool.and_eq_true, decide_eq_true_eq, decide_eq_true_eq, vrow, List.length_map] at z
    omega
  · rintro ⟨row, rfl, hr, hl⟩
    have s1 : ∀ k : Int, 200 ≤ k → seqB (some (vrow row)) 0 k = true := fun k hk => by
      show (decide ((0 : Int) ≤ ((vrow row).length : Int)) && decide (((vrow row).length : Int) ≤ k)) = true
      rw [vrow, List.length_map, decide_eq_true (by omega), decide_eq_true (by omega)]; rfl
    refine ⟨s1 200 (Int.le_refl _), ?_⟩
    unfold rowF
    rw [if_pos (s1 10000 (by decide))]
    refine fnb_all fun x hx => ?_
    obtain ⟨i, hi, rfl⟩ := List.mem_map.mp hx
    obtain ⟨a, b⟩ := hr i hi
    show (decide (0 ≤ i) && decide (i < n)) = true
    rw [decide_eq_true a, decide_eq_true b]; rfl
theorem vrow_inj : ∀ {a b : List Int}, vrow a = vrow b → a = b
  | [], [], _ => rfl
  | [], _ :: _, h => by cases h
  | _ :: _, [], h => by cases h
  | x :: a, y :: b, h => by
    have h : (V.int x :: vrow a : List V) = V.int y :: vrow b := h
    injection h with h1 h2
    injection h1 with h1
    rw [h1, vrow_inj h2]
theorem inV_row (x : Int) (ns : List Int) : inV (.int x) (vrow ns) = decide (x ∈ ns) := by
  unfold inV vrow
  rw [List.any_map, Bool.eq_iff_iff, List.any_eq_true, decide_eq_true_iff]
  constructor
  · rintro ⟨y, hy, e⟩
    have e : (y == x) = true := e
    rw [beq_iff_eq] at e
    rw [← e]; exact hy
  · intro h
    exact ⟨x, h, by show (x == x) = true; simp⟩
def spTHolds (K : PySem.W.Frag) (M CS : Addr) : Sp := fun vs H Q E => ∃ m ta ts v u, vs = [.ref m, v, u] ∧ MachAt M H m ta (vts ts) ∧ Wf ts ∧ (∃ (K : PySem.W.Frag) (o : Option (List V)), KV K H v o) ∧ (belowB v (nS ts : Int) = false → Rz CS "state" v H E) ∧
  (∀ s, v = .int s → (0 ≤ s ∧ s < (nS ts : Int)) → ((∃ o, KV K H u o ∧ seqB o 5 5 = false ∧ ∀ H', Same H H' → Q (.bl false) H') ∨ (∃ wd a d x1 x2, Five K H u wd a d x1 x2 ∧ ∀ (b : Bool) H', Same H H' → (b = true ↔ Holds ts s wd a d x1 x2) → Q (.bl b) H')))
section
variable {P : Program} {w : World} {K : PySem.W.Frag} {mg : Str → Option Value} {base : Heap}
abbrev nTH : List Str := ["machine", "state", "value", "archives", "word", "archive", "deed", "one", "other", "here"]
theorem scTHo : FnScope nTH ["machine", "state", "value"] (defScope sTHolds) := ⟨rfl, rfl, rfl, by decide +kernel, rfl, by decide +kernel, by decide +kernel⟩
theorem ok_tholds {f fO fS fW fB fP fM CS M : Addr} {fd fdO fdS fdW fdB fdP fdM : FuncData} (D : Df K mg "telling_holds" sTHolds ["machine", "state", "value"] f fd) (DO : Df K mg "orbit" sOrbit ["machine", "state"] fO fdO) (DS : Df K mg "is_sequence" sSeq ["value", "least", "most"] fS fdS) (DW : Df K mg "is_whole" sWhole ["value"] fW fdW)
    (DB : Df K mg "is_below" sBelow ["value", "limit"] fB fdB) (DP : Df K mg "is_paper_row" sPRow ["machine", "value"] fP fdP) (DM : Df K mg "moved" sMoved ["machine", "state", "row"] fM fdM) (B : Bt mg) (T : McT K mg M)
    (GO : FnOk P w K mg base (L2.CX P w) 4 fO fdO ["machine", "state"] (spOrbit M CS)) (GS : FnOk P w K mg base CX0 1 fS fdS ["value", "least", "most"] (spSeq K)) (GW : FnOk P w K mg base CX0 1 fW fdW ["value"] (spWhole K)) (GB : FnOk P w K mg base CX0 2 fB fdB ["value", "limit"] (spBelow K))
    (GP : FnOk P w K mg base CX0 5 fP fdP ["machine", "value"] (spPRow K M)) (GM : FnOk P w K mg base CX0 1 fM fdM ["machine", "state", "row"] (spMovedA M)) : FnOk P w K mg base (L2.CX P w) 6 f fd ["machine", "state", "value"] (spTHolds K M CS) := by
  refine D.F.okX scTHo (fun vs H Q E h => ?_) (fun cdv A outer s H vs Q E hr h => ?_)
  · obtain ⟨m, ta, ts, v, u, rfl, _⟩ := h
    rfl
  · obtain ⟨m, ta, ts, v, u, rfl, hM, hW, kv, q1, q2⟩ := h
    have r1 := hr.mono (show 1 ≤ 5 by decide)
    have r2 := hr.mono (show 2 ≤ 5 by decide)
    refine ⟨_, pss_cons (ps_set (i := 3) scTHo.nd rfl (.inl rfl) (pc DO GO (hr.mono (by decide)) (pass1 (takes_of rfl rfl rfl rfl)) (pa_cons (pv 0) (pa_cons (pv 1) pa_nil))))
      (pss_cons (ps_if (pt_not (pt_val (pc DS GS r1 pass0 (pa_cons (pv 2) (pa_cons pe_int (pa_cons pe_int pa_nil)))))) (pss_one (ps_ret pe_bl)) pss_nil)
      (pss_cons (ps_asg (pv 2) (pg_or2 (pg_tup rfl (pgs_cons (pg_name (i := 4) scTHo.nd rfl (.inl rfl)) (pgs_cons (pg_name (i := 5) scTHo.nd rfl (.inl rfl)) (pgs_cons (pg_name (i := 6) scTHo.nd rfl (.inl rfl)) (pgs_cons (pg_name (i := 7) scTHo.nd rfl (.inl rfl)) (pgs_cons (pg_name (i := 8) scTHo.nd rfl (.inl rfl)) pgs_nil))))))
          (pg_lst rfl (pgs_cons (pg_name (i := 4) scTHo.nd rfl (.inl rfl)) (pgs_cons (pg_name (i := 5) scTHo.nd rfl (.inl rfl)) (pgs_cons (pg_name (i := 6) scTHo.nd rfl (.inl rfl)) (pgs_cons (pg_name (i := 7) scTHo.nd rfl (.inl rfl)) (pgs_cons (pg_name (i := 8) scTHo.nd rfl (.inl rfl)) pgs_nil))))))))
      (pss_cons (ps_if (PW.pt (pw_or (pt_cmpR op_ne (pv 4) pe_str (nomark _)) (pw_or (pt_not (pt_val (pc DW GW r1 pass0 (pa_cons (pv 5) pa_nil)))) (pw_or1 (pt_cmpR op_notIn_seq (pv 5) (pv 3) rfl))))) (pss_one (ps_ret pe_bl)) pss_nil)
      (pss_cons (ps_if (PW.pt (pw_or (pt_not (pt_val (pc DB GB r2 pass0 (pa_cons (pv 6) (pa_cons (pe_fld (pv 0) rfl) pa_nil))))) (pw_or (pt_not (pt_val (pc DP GP hr pass0 (pa_cons (pv 0) (pa_cons (pv 7) pa_nil))))) (pw_or1 (pt_not (pt_val (pc DP GP hr pass0 (pa_cons (pv 0) (pa_cons (pv 8) pa_nil))))))))) (pss_one (ps_ret pe_bl)) pss_nil)
      (pss_cons (ps_set (i := 9) scTHo.nd rfl (.inl rfl) (pe_ix (ixTK (K := K) rfl) (pe_ix (ixTK (K := K) rfl) (pe_fld (pv 0) rfl) (pv 6) (fun _ _ => rfl)) (pv 5) (fun _ _ => rfl)))
      (pss_one (ps_ret (pe_and (pe_cmpR op_eq (pc DM GM r1 pass0 (pa_cons (pv 0) (pa_cons (pv 5) (pa_cons (pv 7) pa_nil)))) (pc DM GM r1 pass0 (pa_cons (pv 0) (pa_cons (pv 5) (pa_cons (pv 8) pa_nil)))) (nomark _))
          (pe_one (pe_cmpR op_ne (pc DM GM r1 pass0 (pa_cons (pv 0) (pa_cons (pv 9) (pa_cons (pv 7) pa_nil)))) (pc DM GM r1 pass0 (pa_cons (pv 0) (pa_cons (pv 9) (pa_cons (pv 8) pa_nil)))) (nomark _))))))))))), ?_⟩
    have r5 := hr
    refine ⟨_, rfl, _, rfl, m, ta, ts, v, rfl, hM, hW, kv, q1, fun st e hst ns p1 H1 s1 asc mem hp1 => ?_⟩
    subst e
    refine gn ?_
    dsimp only
    rcases q2 st rfl hst with ⟨o, ku, h5, q⟩ | ⟨wd, a, d, x1, x2, ⟨⟨pu, y1, y2, rfl, hu5, w1, w2⟩, sc, ka, kd⟩, q⟩
    · refine ⟨_, rfl, _, o, 5, 5, rfl, ku.same s1, fun H2 s2 => ⟨_, rfl, iteE (by rw [h5]; rfl) (q _ (s1.trans s2))⟩⟩
    · refine ⟨_, rfl, .ref pu, some [wd, a, d, y1, y2], 5, 5, rfl, (hu5.same s1).kv, fun H2 s2 => ⟨_, rfl, iteN (by rfl) (nxP ?_)⟩⟩
      have s12 := s1.trans s2
      have five : ∀ (Z : L2.St → Hp → Prop), Z [some (.ref m), some (.int st), some (.ref pu), some (.ref p1), some wd, some a, some d, some y1, some y2, none] H2 → (gTup K 5 (gCons (gName 4) (gCons (gName 5) (gCons (gName 6) (gCons (gName 7) (gCons (gName 8) gNil))))) (.ref pu) [some (.ref m), some (.int st), some (.ref pu), some (.ref p1), none, none, none, none, none, none] H2 Z ∨ gLst K 5 (gCons (gName 4) (gCons (gName 5) (gCons (gName 6) (gCons (gName 7) (gCons (gName 8) gNil))))) (.ref pu) [some (.ref m), some (.int st), some (.ref pu), some (.ref p1), none, none, none, none, none, none] H2 Z) := fun Z z => by
        rcases hu5.same s12 with g | g
        · exact .inr ⟨pu, _, rfl, SqL.of g, rfl, _, _, rfl, _, _, rfl, _, _, rfl, _, _, rfl, _, _, rfl, rfl, z⟩
        · exact .inl ⟨pu, _, rfl, SqT.of g, rfl, _, _, rfl, _, _, rfl, _, _, rfl, _, _, rfl, _, _, rfl, rfl, z⟩
      refine ⟨_, rfl, five _ ?_⟩
      have memR : ∀ x, x ∈ ns ↔ Rch ts st x := mem
      -- the word, the archive
      refine ⟨_, rfl, sc, _, rfl, ifD (fun c => iteT (q false _ s12 ⟨fun z => (by cases z), fun z => ?_⟩)) fun c => ?_⟩
      · rw [z.1] at c
        simp at c
      have ewd : wd = .str "untold" := by simpa using c
      refine ⟨_, rfl, a, none, rfl, ka.same s12, _, rfl, ifD (fun c2 => iteT (q false _ s12 ⟨fun z => (by cases z), fun z => ?_⟩)) fun c2 => ?_⟩
      · obtain ⟨_, x, _, _, _, rfl, _⟩ := z
        cases c2
      obtain ⟨x, rfl⟩ : ∃ x, a = .int x := by
        cases a with
        | int x => exact ⟨x, rfl⟩
        | _ => cases c2
      refine ⟨_, rfl, _, rfl, p1, _, rfl, .inr (SqT.of (s2 _ _ hp1)), rfl, by rw [List.all_eq_true]; intro z hz; obtain ⟨i, _, rfl⟩ := List.mem_map.mp hz; rfl, _, rfl, ifD (fun c3 => q false _ s12 ⟨fun z => (by cases z), fun z => ?_⟩) fun c3 => ?_⟩
      · obtain ⟨_, x', _, _, _, ex, hx, _⟩ := z
        injection ex with ex
        subst ex
        have c3 : (!inV (.int x) (vrow ns)) = true := c3
        rw [inV_row, decide_eq_true ((memR x).mpr hx)] at c3
        cases c3
      have hx : Rch ts st x := by
        have c3 : (!inV (.int x) (vrow ns)) = false := c3
        rw [inV_row] at c3
        exact (memR x).mp (by simpa using c3)
      have hxr := hx.rng hW hst
      have t8 := hW.t8
      refine nxP ?_
      -- the deed, the rows
      have hM2 := hM.same s12
      obtain ⟨dx, hf⟩ := hM2.fs
      refine ⟨_, rfl, _, rfl, m, M, dx, _, _, rfl, hf, T.cl, T.nD, mf_d _ _ _, d, none, _, rfl, kd.same s12, _, rfl, ifD (fun c4 => iteT (q false _ s12 ⟨fun z => (by cases z), fun z => ?_⟩)) fun c4 => ?_⟩
      · obtain ⟨_, _, e, _, _, _, _, rfl, he, _⟩ := z
        have c4 : (!belowB (.int e) (ts.length : Int)) = true := c4
        rw [belowI (n := ts.length) he] at c4
        cases c4
      have hb : belowB d (ts.length : Int) = true := by simpa using c4
      obtain ⟨e, rfl, he⟩ := belowB_int hb
      refine ⟨_, rfl, _, rfl, m, ta, ts, y1, x1, rfl, hM2, w1.same s12, fun H3 s3 => ⟨_, rfl, ifD (fun c5 => iteT (q false _ (s12.trans s3) ⟨fun z => (by cases z), fun z => ?_⟩)) fun c5 => ?_⟩⟩
      · obtain ⟨_, _, _, r, _, _, _, _, _, er, _, vr, _, lr, _⟩ := z
        rw [prB_iff.mpr ⟨r, er, vr, lr⟩] at c5
        cases c5
      obtain ⟨r, er, vr, lr⟩ := prB_iff.mp (show prB x1 (ts.length : Int) = true by simpa using c5)
      subst er
      have s13 := s12.trans s3
      refine ⟨_, rfl, _, rfl, m, ta, ts, y2, x2, rfl, hM.same s13, w2.same s13, fun H4 s4 => ⟨_, rfl, ifD (fun c6 => q false _ (s13.trans s4) ⟨fun z => (by cases z), fun z => ?_⟩) fun c6 => ?_⟩⟩
      · obtain ⟨_, _, _, _, r', _, _, _, _, _, er, _, vr', _, lr', _⟩ := z
        rw [prB_iff.mpr ⟨r', er, vr', lr'⟩] at c6
        cases c6
      obtain ⟨r', er, vr', lr'⟩ := prB_iff.mp (show prB x2 (ts.length : Int) = true by simpa using c6)
      subst er
      have s14 := s13.trans s4
      refine nxP ?_
      -- both rows
      have hM4 := hM.same s14
      obtain ⟨dx, hf⟩ := hM4.fs
      obtain ⟨tas, ht1, ht2, ht3⟩ := hM4.2
      obtain ⟨t, g1, g2, g3⟩ := hW.at_ he hxr
      have hj : e.toNat < tas.length := by
        have : tas.length = ts.length := by rw [ht2, vts, List.length_map]
        omega
      obtain ⟨tj, htj⟩ : ∃ t, tas[e.toNat]? = some t := ⟨_, List.getElem?_eq_getElem hj⟩
      have hT := ht3 _ tj (vrow t) htj (by rw [vts, List.getElem?_map, g1]; rfl)
      obtain ⟨b1, rfl, hs1⟩ := (w1.same s14).kv.seqA
      obtain ⟨b2, rfl, hs2⟩ := (w2.same s14).kv.seqA
      refine ⟨_, rfl, m, M, dx, _, _, rfl, hf, T.cl, T.nT, mf_t _ _ _, _, rfl, ta, _, e, .ref tj, rfl, rfl, SqT.of ht1, at_of (j := e.toNat) (by omega) (by rw [List.getElem?_map, htj]; rfl), _, rfl, tj, _, x, .int (stp ts x e), rfl, rfl, SqT.of hT, at_of (j := x.toNat) (by omega) (by rw [vrow, List.getElem?_map, g2]; rfl), gn ?_⟩
      dsimp only
      refine ⟨_, rfl, _, rfl, _, rfl, m, ta, ts, x, b1, r, rfl, hM4, hW, hxr, hs1, vr, ?_⟩
      refine ⟨_, rfl, _, rfl, _, rfl, m, ta, ts, x, b2, r', rfl, hM4, hW, hxr, hs2, vr', rfl, _, rfl, ifD (fun c7 => ?_) fun c7 => ?_⟩
      · have e7 : run ts x r = run ts x r' := by
          have := of_decide_eq_true c7
          injection this
        refine ⟨_, rfl, _, rfl, _, rfl, m, ta, ts, stp ts x e, b1, r, rfl, hM4, hW, g3, hs1, vr, ?_⟩
        refine ⟨_, rfl, _, rfl, _, rfl, m, ta, ts, stp ts x e, b2, r', rfl, hM4, hW, g3, hs2, vr', rfl, ?_⟩
        refine q _ _ s14 ⟨fun z => ⟨ewd, x, e, r, r', rfl, hx, rfl, he, rfl, rfl, vr, vr', lr, lr', e7, fun w => ?_⟩, fun z => ?_⟩
        · rw [w] at z
          simp at z
        · obtain ⟨_, x', e', q1', q2', ex, _, ee, _, e1', e2', _, _, _, _, _, ne⟩ := z
          injection ex with ex
          injection ee with ee
          subst ex
          subst ee
          have i1 : r = q1' := vrow_inj (Option.some.inj e1')
          have i2 : r' = q2' := vrow_inj (Option.some.inj e2')
          subst i1
          subst i2
          have nd : ¬ (V.int (run ts (stp ts x e) r) = V.int (run ts (stp ts x e) r')) := fun w => by
            injection w with w
            exact ne w
          rw [decide_eq_false nd]; rfl
      · refine q false _ s14 ⟨fun z => (by cases z), fun z => ?_⟩
        obtain ⟨_, x', e', q1', q2', ex, _, ee, _, e1', e2', _, _, _, _, k7, _⟩ := z
        injection ex with ex
        subst ex
        have i1 : r = q1' := vrow_inj (Option.some.inj e1')
        have i2 : r' = q2' := vrow_inj (Option.some.inj e2')
        subst i1
        subst i2
        have := of_decide_eq_false c7
        exact absurd (congrArg V.int k7) this
end
end K1
namespace K1
open PySem PySem.Spec PyProof.Rows L2
/-! ### the law's own looks at values -/
def spLLed : Sp := fun vs H Q _ => ∃ p ts s a row, vs = [.ref p, .int s, .ref a] ∧ TabL H p (vts ts) ∧ Wf ts ∧ (0 ≤ s ∧ s < (nS ts : Int)) ∧ SeqA H a (vrow row) ∧ VRow ts row ∧ Q (.int (run ts s row)) H
def lwB (v : V) (n : Int) : Bool := belowB v n
def spLWhole (K : PySem.W.Frag) : Sp := fun vs H Q _ => ∃ v o n, vs = [v, .int n] ∧ KV K H v o ∧ Q (.bl (belowB v n)) H
section
variable {P : Program} {w : World} {K : PySem.W.Frag} {mg : Str → Option Value} {base : Heap}
theorem scLL : FnScope ["_law_tables_here", "_law_state", "_law_row", "_law_deed"] ["_law_tables_here", "_law_state", "_law_row"] (defScope sLLed) := ⟨rfl, rfl, rfl, by decide +kernel, rfl, by decide +kernel, by decide +kernel⟩
theorem ok_lled {f : Addr} {fd : FuncData} (D : Df K mg "_law_led" sLLed ["_law_tables_here", "_law_state", "_law_row"] f fd) : FnOk P w K mg base CX0 1 f fd ["_law_tables_here", "_law_state", "_law_row"] spLLed := by
  refine D.F.ok scLL (fun vs H Q E h => ?_) (fun cdv A outer s H vs Q E hr h => ?_)
  · obtain ⟨p, ts, v, a, row, rfl, _⟩ := h
    rfl
  · obtain ⟨q, ts, s0, p, row, rfl, tl, hW, hs, hp, hd, qq⟩ := h
    refine ⟨_, pss_cons (ps_for PassesOwn.never rfl (pi_seqA (pv 2)) (pg_name (i := 3) scLL.nd rfl (.inl rfl)) (pss_one (ps_set (i := 1) scLL.nd rfl (.inl rfl) (pe_ix ix_tup (pe_ix ix_list (pv 0) (pv 3) (fun _ _ => rfl)) (pv 1) (fun _ _ => rfl)))))
      (pss_one (ps_ret (pv 1))), ?_⟩
    rcases hp with hp | hp
    · refine ⟨_, rfl, p, rfl, .inl ⟨_, SqL.of hp, for_list (K := K) (a := p) (xs := vrow row) (fun i σ H' => ∃ v3 : Option V, σ = [some (.ref q), some (.int (run ts s0 (row.take i))), some (.ref p), v3] ∧ H' = H)
        ⟨none, rfl, rfl⟩ (fun i σ H' _ ⟨_, _, e⟩ => by rw [e]; exact SqL.of hp) ?_ ?_⟩⟩
      · rintro i y σ H' hi ⟨v3, rfl, rfl⟩
        obtain ⟨d, ed, rfl⟩ := vrow_at hi
        have hb := hd d (List.mem_of_getElem? ed)
        have hr' := hW.run (row.take i) s0 (fun e he => hd e (List.mem_of_mem_take he)) hs
        obtain ⟨t, h1, h2, h3⟩ := hW.at_ hb hr'
        obtain ⟨as, ha1, ha2, ha3⟩ := id tl
        have hla : d.toNat < as.length := by rw [ha2, vts, List.length_map]; omega
        have hA : as[d.toNat]? = some as[d.toNat] := by simp [hla]
        have hT := ha3 d.toNat _ (vrow t) hA (by rw [vts, List.getElem?_map, h1]; rfl)
        refine ⟨_, rfl, _, rfl, q, _, d, _, rfl, rfl, SqL.of ha1, at_of (j := d.toNat) (by omega) (by rw [List.getElem?_map, hA]; rfl), ?_⟩
        refine ⟨_, rfl, _, _, _, .int (stp ts (run ts s0 (row.take i)) d), rfl, rfl, SqT.of hT, at_of (j := (run ts s0 (row.take i)).toNat) (by omega) (by rw [vrow, List.getElem?_map, h2]; rfl), ?_⟩
        refine ⟨some (.int d), ?_, rfl⟩
        rw [take_succ ed, run_snoc]
        rfl
      · rintro σ H' ⟨v3, rfl, rfl⟩
        have e : row.take (vrow row).length = row := by rw [vrow, List.length_map, List.take_length]
        rw [e]
        exact ⟨_, rfl, qq⟩
    · refine ⟨_, rfl, p, rfl, .inr ⟨_, SqT.of hp, for_tup (K := K) (a := p) (xs := vrow row) (fun i σ H' => ∃ v3 : Option V, σ = [some (.ref q), some (.int (run ts s0 (row.take i))), some (.ref p), v3] ∧ H' = H)
        ⟨none, rfl, rfl⟩ (fun i σ H' _ ⟨_, _, e⟩ => by rw [e]; exact SqT.of hp) ?_ ?_⟩⟩
      · rintro i y σ H' hi ⟨v3, rfl, rfl⟩
        obtain ⟨d, ed, rfl⟩ := vrow_at hi
        have hb := hd d (List.mem_of_getElem? ed)
        have hr' := hW.run (row.take i) s0 (fun e he => hd e (List.mem_of_mem_take he)) hs
        obtain ⟨t, h1, h2, h3⟩ := hW.at_ hb hr'
        obtain ⟨as, ha1, ha2, ha3⟩ := id tl
        have hla : d.toNat < as.length := by rw [ha2, vts, List.length_map]; omega
        have hA : as[d.toNat]? = some as[d.toNat] := by simp [hla]
        have hT := ha3 d.toNat _ (vrow t) hA (by rw [vts, List.getElem?_map, h1]; rfl)
        refine ⟨_, rfl, _, rfl, q, _, d, _, rfl, rfl, SqL.of ha1, at_of (j := d.toNat) (by omega) (by rw [List.getElem?_map, hA]; rfl), ?_⟩
        refine ⟨_, rfl, _, _, _, .int (stp ts (run ts s0 (row.take i)) d), rfl, rfl, SqT.of hT, at_of (j := (run ts s0 (row.take i)).toNat) (by omega) (by rw [vrow, List.getElem?_map, h2]; rfl), ?_⟩
        refine ⟨some (.int d), ?_, rfl⟩
        rw [take_succ ed, run_snoc]
        rfl
      · rintro σ H' ⟨v3, rfl, rfl⟩
        have e : row.take (vrow row).length = row := by rw [vrow, List.length_map, List.take_length]
        rw [e]
        exact ⟨_, rfl, qq⟩
theorem scLW : FnScope ["_law_value", "_law_most"] ["_law_value", "_law_most"] (defScope sLWhole) := ⟨rfl, rfl, rfl, by decide +kernel, rfl, by decide +kernel, by decide +kernel⟩
theorem ok_lwhole {f : Addr} {fd : FuncData} (D : Df K mg "_law_whole" sLWhole ["_law_value", "_law_most"] f fd) (B : Bt mg) : FnOk P w K mg base CX0 1 f fd ["_law_value", "_law_most"] (spLWhole K) := by
  refine D.F.ok scLW (fun vs H Q E h => ?_) (fun cdv A outer s H vs Q E hr h => ?_)
  · obtain ⟨v, o, n, rfl, _⟩ := h
    rfl
  · obtain ⟨v, o, n, rfl, kv, q⟩ := h
    obtain ⟨g, ty, eI, eB, eQ⟩ := kv.ty
    refine ⟨_, pss_one (ps_ret (pe_and (pe_callB call_isi (by rfl) B.isinstance (by decide +kernel) (pa_cons (pv 0) (pa_cons (pe_bltn (v := .ty "int") (by rfl) B.int PyProof.Rows.boot_int rfl) pa_nil)))
      (pe_and (pe_not (pe_callB call_isi (by rfl) B.isinstance (by decide +kernel) (pa_cons (pv 0) (pa_cons (pe_bltn (v := .ty "bool") (by rfl) B.bool PyProof.Rows.boot_bool rfl) pa_nil))))
        (pe_one (pe_chain op_le op_lt pe_int (pv 0) (pv 1)))))), ?_⟩
    refine ⟨_, rfl, _, _, _, _, _, rfl, .ty _, ty, kit_I K g, _, rfl, ifD (fun e => ?_) fun e => ?_⟩
    · refine ⟨_, rfl, _, _, _, _, _, rfl, .ty _, ty, kit_B K g, _, rfl, _, rfl, ifD (fun e2 => ?_) fun e2 => ?_⟩
      · have z : wholeB v = true := by
          rw [← eI]
          cases g <;> first | rfl | (exact absurd e (by decide)) | (exact absurd e2 (by decide))
        obtain ⟨i, rfl⟩ : ∃ i, v = .int i := by
          cases v <;> first | exact ⟨_, rfl⟩ | cases z
        refine ⟨_, rfl, _, _, rfl, rfl, _, rfl, ifD (fun e3 => ?_) fun e3 => ?_⟩
        · refine ⟨_, rfl, _, _, rfl, rfl, ?_⟩
          have z : decide (i < n) = belowB (.int i) n := by
            show _ = (decide (0 ≤ i) && decide (i < n))
            rw [e3]; rfl
          exact qbl z q
        · have z : false = belowB (.int i) n := by
            show _ = (decide (0 ≤ i) && decide (i < n))
            rw [e3]; rfl
          exact qbl z q
      · have z : wholeB v = false := by
          rw [← eI]
          cases g <;> first | rfl | (exact absurd e (by decide)) | (exact absurd e2 (by decide))
        have : belowB v n = false := by cases v <;> first | rfl | cases z
        rw [this] at q
        exact q
    · have z : wholeB v = false := by
        rw [← eI]
        cases g <;> first | rfl | cases e
      have : belowB v n = false := by cases v <;> first | rfl | cases z
      rw [this] at q
      exact q
/-- whether a value is a row, by the law -/
def lrB (r : Option (List V)) (n : Int) : Bool := match r with | some xs => xs.all fun x => belowB x n | none => false
/-- flat items as data -/
def flD : V → PyData | .int i => .int i | .bl b => .bool b | .str x => .str x | _ => .none
def Flat (x : V) : Prop := (∃ i : Int, x = .int i ∧ i.natAbs < 10 ^ 19) ∨ (∃ b, x = .bl b) ∨ x = .non
theorem flat_dp {K : PySem.W.Frag} {H : Hp} {x : V} (h : Flat x) : Dp K H x (flD x) := by
  rcases h with ⟨i, rfl, _⟩ | ⟨b, rfl⟩ | rfl
  · exact .int i
  · exact .bl b
  · exact .non
theorem flat_dpA {K : PySem.W.Frag} {H : Hp} : ∀ {xs : List V}, (∀ x ∈ xs, Flat x) → DpAll K H xs (xs.map flD)
  | [], _ => .nil
  | x :: xs, h => .cons (flat_dp (h x List.mem_cons_self)) (flat_dpA fun y hy => h y (List.mem_cons_of_mem _ hy))
theorem flat_kv {K : PySem.W.Frag} {H : Hp} {x : V} (h : Flat x) : KV K H x none := by
  rcases h with ⟨i, rfl, _⟩ | ⟨b, rfl⟩ | rfl
  · exact .int i
  · exact .bl b
  · exact .non
theorem flat_lay : ∀ xs : List V, (∀ x ∈ xs, Flat x) → PyData.canLayAll0 (xs.map flD) = true ∧ PyData.depthAll (xs.map flD) ≤ 0
  | [], _ => by
    refine ⟨by show PyData.canLayAll0 [] = true; simp only [PyData.canLayAll0], by show PyData.depthAll [] ≤ 0; simp only [PyData.depthAll]; omega⟩
  | x :: xs, h => by
    obtain ⟨a, b⟩ := flat_lay xs fun y hy => h y (List.mem_cons_of_mem _ hy)
    rcases h x List.mem_cons_self with ⟨i, rfl, _⟩ | ⟨c, rfl⟩ | rfl
    · refine ⟨?_, ?_⟩
      · show PyData.canLayAll0 (PyData.int i :: xs.map flD) = true
        simp only [PyData.canLayAll0, PyData.canLay0, a, Bool.and_self]
      · show PyData.depthAll (PyData.int i :: xs.map flD) ≤ 0
        simp only [PyData.depthAll, PyData.depth]; omega
    · refine ⟨?_, ?_⟩
      · show PyData.canLayAll0 (PyData.bool c :: xs.map flD) = true
        simp only [PyData.canLayAll0, PyData.canLay0, a, Bool.and_self]
      · show PyData.depthAll (PyData.bool c :: xs.map flD) ≤ 0
        simp only [PyData.depthAll, PyData.depth]; omega
    · refine ⟨?_, ?_⟩
      · show PyData.canLayAll0 (PyData.none :: xs.map flD) = true
        simp only [PyData.canLayAll0, PyData.canLay0, a, Bool.and_self]
      · show PyData.depthAll (PyData.none :: xs.map flD) ≤ 0
        simp only [PyData.depthAll, PyData.depth]; omega
theorem flat_shaped {xs : List V} (h : ∀ x ∈ xs, Flat x) : SeqAt.shaped (.list (xs.map flD)) = true := by
  obtain ⟨a, b⟩ := flat_lay xs h
  unfold SeqAt.shaped
  have e : PyData.canLay0 (.list (xs.map flD)) = true := by simp only [PyData.canLay0]; exact a
  rw [e, decide_eq_true (by simp only [PyData.depth]; omega)]; rfl
theorem eqv_nilD (ds : List PyData) : PyData.eqv (.list ds) (.list []) = decide (ds = []) := by
  cases ds with
  | nil =>
    show PyData.eqv (.list []) (.list []) = true
    simp only [PyData.eqv, PyData.eqvAll]
  | cons x r =>
    show PyData.eqv (.list (x :: r)) (.list []) = false
    simp only [PyData.eqv, PyData.eqvAll]
def spLIsRow (K : PySem.W.Frag) : Sp := fun vs H Q _ => ∃ v r n, vs = [v, .int n] ∧ KV K H v r ∧ (∀ xs, r = some xs → xs.length ≤ 1000 ∧ ∀ x ∈ xs, Flat x) ∧ ∀ H', Same H H' → Q (.bl (lrB r n)) H'
theorem eqD {X : Cx} {K : PySem.W.Frag} (h : X.K = K) (hu : X.A.units + 64 < cLine) : OpR X (compareOp .Eq) (rEqD K) := by
  subst h
  exact op_eqD hu
theorem scLR : FnScope ["_law_value", "_law_many", "_law_deed"] ["_law_value", "_law_many"] (defScope sLIsRow) := ⟨rfl, rfl, rfl, by decide +kernel, rfl, by decide +kernel, by decide +kernel⟩
theorem pi_seqK {X : Cx} {K : PySem.W.Frag} {tg l : Expr} {tl : TE} (h : X.K = K) (hl : PE X l tl) : PI X tg l (iSeqA K tl) := by
  subst h
  exact pi_seqA hl
theorem ok_lisrow {f fW : Addr} {fd fdW : FuncData} (D : Df K mg "_law_is_row" sLIsRow ["_law_value", "_law_many"] f fd) (DW : Df K mg "_law_whole" sLWhole ["_law_value", "_law_most"] fW fdW) (B : Bt mg) (GW : FnOk P w K mg base CX0 1 fW fdW ["_law_value", "_law_most"] (spLWhole K)) : FnOk P w K mg base CX0 2 f fd ["_law_value", "_law_many"] (spLIsRow K) := by
  refine D.F.ok scLR (fun vs H Q E h => ?_) (fun cdv A outer s H vs Q E hr h => ?_)
  · obtain ⟨v, r, n, rfl, _⟩ := h
    rfl
  · obtain ⟨v, r, n, rfl, kv, hl, q⟩ := h
    have hu : (A.deeper (envOfC "_law_is_row" (defScope sLIsRow) s.heap.objs.size f cdv)).units + 64 < cLine := hr.units
    refine ⟨_, pss_one (ps_ret (pe_and (pe_callB call_isiT (by rfl) B.isinstance (by decide +kernel) (pa_cons (pv 0) (pa_cons (pe_tup (pa_cons (pe_bltn (v := .ty "list") (by rfl) B.list PyProof.Rows.boot_list rfl) (pa_cons (pe_bltn (v := .ty "tuple") (by rfl) B.tuple PyProof.Rows.boot_tuple rfl) pa_nil))) pa_nil)))
      (pe_one (pe_cmpR (eqD (K := K) rfl hu) (pe_lc (own := [("_law_deed", 2)]) (g := gName 2) rfl scLR.nd (pi_seqK (K := K) rfl (pv 0)) (blkOk_by (N := ["_law_value", "_law_many", "_law_deed"]) (sc := defScope sLIsRow) (by decide +kernel)) (fun _ _ _ _ _ => pg_name (i := 2) scLR.nd rfl (Or.inl rfl))
          (fun _ _ _ _ _ => pts_one (pt_not (pt_val (pc DW GW hr pass0 (pa_cons (pv 2) (pa_cons (pv 1) pa_nil)))))) (fun _ _ _ _ _ => pv 2)) (pe_lst pa_nil) (nomark _))))), ?_⟩
    refine ⟨_, rfl, (by show 2 ≤ sizeLine; decide), fun p hp => ?_⟩
    have sm : Same H (upd H p (.tup [.ty "list", .ty "tuple"])) := same_new hp
    obtain ⟨g, ty, eI, eB, eQ⟩ := (kv.same sm).ty
    refine ⟨_, _, _, _, _, _, rfl, upd_same, .cons (.ty _) (.cons (.ty _) .nil), ty, kit_Q K g, _, rfl, ifD (fun e => ?_) fun e => ?_⟩
    · obtain ⟨xs, rfl⟩ : ∃ xs, r = some xs := by
        rw [eQ] at e
        cases r with
        | none => cases e
        | some xs => exact ⟨xs, rfl⟩
      obtain ⟨hlen, hfl⟩ := hl xs rfl
      generalize hH1 : upd H p (.tup [.ty "list", .ty "tuple"]) = H1 at sm
      have s1 := sm
      have fin : ∀ H2 D0, Same H H2 → H2 D0 = some (.lst (xs.filter fun x => !belowB x n)) → ∀ {σ : L2.St}, tLst tNil σ H2 fun y H3 => rEqD K (.ref D0) y H3 Q := fun H2 D0 s2 hD σ => ⟨(by show 0 ≤ sizeLine; decide), fun e0 he0 => ⟨_, _, .lst (SqL.of ((same_new he0) _ _ hD)) (flat_dpA fun x hx => hfl x (List.mem_filter.mp hx).1), .lst (SqL.of upd_same) .nil, flat_shaped fun x hx => hfl x (List.mem_filter.mp hx).1, by
          have := flat_shaped (xs := []) (fun x hx => absurd hx (by simp))
          exact this, qbl (by
          rw [eqv_nilD, Bool.eq_iff_iff, decide_eq_true_iff]
          show _ ↔ (xs.all fun x => belowB x n) = true
          rw [List.all_eq_true]
          constructor
          · intro z x hx
            cases w : belowB x n with
            | true => rfl
            | false =>
              have : x ∈ xs.filter fun x => !belowB x n := List.mem_filter.mpr ⟨hx, by rw [w]; rfl⟩
              have z' : xs.filter (fun x => !belowB x n) = [] := List.map_eq_nil_iff.mp z
              rw [z'] at this
              cases this
          · intro z
            have : xs.filter (fun x => !belowB x n) = [] := List.filter_eq_nil_iff.mpr fun x hx => by rw [z x hx]; simp
            rw [this]; rfl) (q _ (s2.trans (same_new he0)))⟩⟩
      cases kv with
      | lst h =>
        rename_i p9
        have h9 : H1 p9 = some (.lst xs) := sm _ _ h
        refine ⟨_, rfl, p9, rfl, .inl ⟨_, SqL.of h9, fun D0 hD0 => lc_list (K := K) (a := p9) (xs := xs) (fun i H' => Same H1 H' ∧ H' D0 = some (.lst ((xs.take i).filter fun x => !belowB x n))) ⟨same_new hD0, by rw [upd_same]; rfl⟩ (fun i H' _ ⟨s, _⟩ => SqL.of (s _ _ h9)) ?_ ?_⟩⟩
        · rintro i x H' hx ⟨s2, hD⟩
          have hf := hfl x (List.mem_of_getElem? hx)
          have sn : (xs.take (i + 1)).filter (fun x => !belowB x n) = (xs.take i).filter (fun x => !belowB x n) ++ (if (!belowB x n) = true then [x] else []) := by
            rw [take_succ hx, List.filter_append]
            congr 1
            by_cases z : (!belowB x n) = true
            · rw [if_pos z, List.filter_cons, if_pos z, List.filter_nil]
            · rw [if_neg z, List.filter_cons, if_neg z, List.filter_nil]
          refine ⟨rfl, _, rfl, _, rfl, x, none, n, rfl, flat_kv hf, _, rfl, ifD (fun c => ?_) fun c => ?_⟩
          · rw [if_pos c] at sn
            refine ⟨_, rfl, _, hD, ?_, fun d o eo => ?_, by rw [upd_same, sn]⟩
            · have := List.length_filter_le (fun x => !belowB x n) (xs.take i)
              rw [List.length_take] at this
              rw [sizeLine_eq]
              omega
            · rw [upd_ne (ne_of_none eo hD0)]
              exact s2 _ _ eo
          · rw [if_neg (by rw [c]; simp), List.append_nil] at sn
            exact ⟨s2, by rw [sn]; exact hD⟩
        · rintro H2 ⟨s2, hD⟩
          rw [List.take_length] at hD
          exact fin H2 D0 (s1.trans s2) hD
      | tup h =>
        rename_i p9
        have h9 : H1 p9 = some (.tup xs) := sm _ _ h
        refine ⟨_, rfl, p9, rfl, .inr ⟨_, SqT.of h9, fun D0 hD0 => lc_tup (K := K) (a := p9) (xs := xs) (fun i H' => Same H1 H' ∧ H' D0 = some (.lst ((xs.take i).filter fun x => !belowB x n))) ⟨same_new hD0, by rw [upd_same]; rfl⟩ (fun i H' _ ⟨s, _⟩ => SqT.of (s _ _ h9)) ?_ ?_⟩⟩
        · rintro i x H' hx ⟨s2, hD⟩
          have hf := hfl x (List.mem_of_getElem? hx)
          have sn : (xs.take (i + 1)).filter (fun x => !belowB x n) = (xs.take i).filter (fun x => !belowB x n) ++ (if (!belowB x n) = true then [x] else []) := by
            rw [take_succ hx, List.filter_append]
            congr 1
            by_cases z : (!belowB x n) = true
            · rw [if_pos z, List.filter_cons, if_pos z, List.filter_nil]
            · rw [if_neg z, List.filter_cons, if_neg z, List.filter_nil]
          refine ⟨rfl, _, rfl, _, rfl, x, none, n, rfl, flat_kv hf, _, rfl, ifD (fun c => ?_) fun c => ?_⟩
          · rw [if_pos c] at sn
            refine ⟨_, rfl, _, hD, ?_, fun d o eo => ?_, by rw [upd_same, sn]⟩
            · have := List.length_filter_le (fun x => !belowB x n) (xs.take i)
              rw [List.length_take] at this
              rw [sizeLine_eq]
              omega
            · rw [upd_ne (ne_of_none eo hD0)]
              exact s2 _ _ eo
          · rw [if_neg (by rw [c]; simp), List.append_nil] at sn
            exact ⟨s2, by rw [sn]; exact hD⟩
        · rintro H2 ⟨s2, hD⟩
          rw [List.take_length] at hD
          exact fin H2 D0 (s1.trans s2) hD
    · have z : r = none := by
        rw [eQ] at e
        cases r with
        | none => rfl
        | some xs => cases e
      subst z
      exact q _ sm
end
end K1
namespace K1
open PySem PySem.Spec PyProof.Rows L2
theorem neD {X : Cx} {K : PySem.W.Frag} (h : X.K = K) (hu : X.A.units + 64 < cLine) : OpR X (compareOp .NotEq) (rNeD K) := by
  subst h
  exact op_neD hu
/-- rows at addresses -/
def RowsAt (H : Hp) (as : List Addr) (rs : List (List Int)) : Prop := as.length = rs.length ∧ ∀ (i : Nat) a r, as[i]? = some a → rs[i]? = some r → H a = some (.tup (vrow r))
theorem RowsAt.same {H H' : Hp} {as : List Addr} {rs : List (List Int)} (h : RowsAt H as rs) (s : Same H H') : RowsAt H' as rs := ⟨h.1, fun i a r e1 e2 => s _ _ (h.2 i a r e1 e2)⟩
theorem RowsAt.snoc {H : Hp} {as : List Addr} {rs : List (List Int)} {a : Addr} {r : List Int} (h : RowsAt H as rs) (ha : H a = some (.tup (vrow r))) : RowsAt H (as ++ [a]) (rs ++ [r]) := by
  refine ⟨by rw [List.length_append, List.length_append, h.1]; rfl, fun i c q e1 e2 => ?_⟩
  by_cases hi : i < as.length
  · rw [List.getElem?_append_left hi] at e1
    rw [List.getElem?_append_left (by rw [← h.1]; exact hi)] at e2
    exact h.2 i c q e1 e2
  · have hl : i = as.length := by
      have := (List.getElem?_eq_some_iff.mp e1).1
      simp only [List.length_append, List.length_cons, List.length_nil] at this
      omega
    subst hl
    rw [List.getElem?_append_right (Nat.le_refl _), Nat.sub_self] at e1
    rw [h.1, List.getElem?_append_right (Nat.le_refl _), Nat.sub_self] at e2
    rw [← Option.some.inj e1, ← Option.some.inj e2]
    exact ha
def tg (t : List Int) (x : Int) : Int := t.getD x.toNat 0
theorem stp_tg {ts : Ts} {x d : Int} {t : List Int} (h : ts[d.toNat]? = some t) : stp ts x d = tg t x := by
  unfold stp tg
  rw [h, List.getD_eq_getElem?_getD]; rfl
def badT (tb : List Int) (x : Int) (t : List Int) : Bool := !decide (V.int (tg t (tg tb x)) = V.int (tg tb (tg t x)))
theorem badT_iff {tb t : List Int} {x : Int} : badT tb x t = false ↔ tg t (tg tb x) = tg tb (tg t x) := by
  unfold badT
  rw [Bool.not_eq_false', decide_eq_true_iff]
  exact ⟨fun h => by injection h, fun h => by rw [h]⟩
theorem comm_iff {ts : Ts} {s : Int} : Comm ts s ↔ ∀ x, Rch ts s x → ∀ tb ∈ ts, ∀ t ∈ ts, badT tb x t = false := by
  constructor
  · intro c x hx tb htb t ht
    obtain ⟨i, hi⟩ := List.getElem?_of_mem htb
    obtain ⟨j, hj⟩ := List.getElem?_of_mem ht
    have li := (List.getElem?_eq_some_iff.mp hi).1
    have lj := (List.getElem?_eq_some_iff.mp hj).1
    have z := c x hx (i : Int) (j : Int) ⟨by omega, by omega⟩ ⟨by omega, by omega⟩
    rw [badT_iff]
    rw [stp_tg (d := (i : Int)) (x := x) (t := tb) (by simpa using hi), stp_tg (d := (j : Int)) (x := x) (t := t) (by simpa using hj), stp_tg (d := (j : Int)) (t := t) (by simpa using hj), stp_tg (d := (i : Int)) (t := tb) (by simpa using hi)] at z
    exact z
  · intro h x hx d e hd he
    have ld : d.toNat < ts.length := by have := hd.1; have := hd.2; omega
    have le : e.toNat < ts.length := by have := he.1; have := he.2; omega
    have gd : ts[d.toNat]? = some ts[d.toNat] := List.getElem?_eq_getElem ld
    have ge : ts[e.toNat]? = some ts[e.toNat] := List.getElem?_eq_getElem le
    rw [stp_tg gd, stp_tg ge, stp_tg ge, stp_tg gd]
    exact badT_iff.mp (h x hx _ (List.getElem_mem ld) _ (List.getElem_mem le))
def spLComm : Sp := fun vs H Q _ => ∃ p q s F ts, vs = [.ref p, .ref q, .int s] ∧ TabL H p (vts ts) ∧ MapsAt H q F ∧ Fst (actL ts) ts.length (idL (nS ts)) F ∧ F.length ≤ 1000 ∧ Wf ts ∧ (0 ≤ s ∧ s < (nS ts : Int)) ∧ ∀ (b : Bool) H', Same H H' → (b = true ↔ Comm ts s) → Q (.bl b) H'
section
variable {P : Program} {w : World} {K : PySem.W.Frag} {mg : Str → Option Value} {base : Heap}
abbrev nLc : List Str := ["_law_tables_here", "_law_maps_here", "_law_state", "_law_here", "_law_table", "_law_one", "_law_other"]
theorem scLc : FnScope nLc ["_law_tables_here", "_law_maps_here", "_law_state"] (defScope sLComm) := ⟨rfl, rfl, rfl, by decide +kernel, rfl, by decide +kernel, by decide +kernel⟩
theorem ok_lcomm {f : Addr} {fd : FuncData} (D : Df K mg "_law_commute" sLComm ["_law_tables_here", "_law_maps_here", "_law_state"] f fd) (B : Bt mg) : FnOk P w K mg base CX0 1 f fd ["_law_tables_here", "_law_maps_here", "_law_state"] spLComm := by
  refine D.F.ok scLc (fun vs H Q E h => ?_) (fun cdv A outer s H vs Q E hr h => ?_)
  · obtain ⟨p, q, s, F, ts, rfl, _⟩ := h
    rfl
  · obtain ⟨p, q, st, F, ts, rfl, tl, hq, hF, hf, hW, hst, qq⟩ := h
    have hu : (A.deeper (envOfC "_law_commute" (defScope sLComm) s.heap.objs.size f cdv)).units + 64 < cLine := hr.units
    refine ⟨_, pss_cons (ps_for PassesOwn.never rfl (piL (K := K) rfl (pe_callB (cr_sortedSet rfl) (by rfl) B.sorted PyProof.Rows.boot_sorted (pa_cons (pe_callTy (cr_setB (K := K) (w := w) (B := 12) rfl rfl rfl) (by rfl) B.set (by decide +kernel) (pa_cons
          (pe_lc (own := [("_law_one", 5)]) (g := gName 5) (tt := tYes) rfl scLc.nd (piL (K := K) rfl (pv 1)) (blkOk_by (N := nLc) (sc := defScope sLComm) (by decide +kernel)) (fun _ _ _ _ _ => pg_name (i := 5) scLc.nd rfl (Or.inl rfl)) (fun _ _ _ _ _ => pts_nil)
            (fun _ _ _ _ _ => pe_ix (ixTK (K := K) rfl) (pe_ix (ixTK (K := K) rfl) (pv 5) pe_int (fun _ _ => rfl)) (pv 2) (fun _ _ => rfl))) pa_nil)) pa_nil))) (pg_name (i := 3) scLc.nd rfl (.inr rfl))
        (pss_one (ps_for PassesOwn.never rfl (piL (K := K) rfl (pv 0)) (pg_name (i := 4) scLc.nd rfl (.inr rfl))
          (pss_one (ps_if (pt_cmpR (neD (K := K) rfl hu) (pe_lc (own := [("_law_other", 6)]) (g := gName 6) rfl scLc.nd (piL (K := K) rfl (pv 0)) (blkOk_by (N := nLc) (sc := defScope sLComm) (by decide +kernel)) (fun _ _ _ _ _ => pg_name (i := 6) scLc.nd rfl (Or.inl rfl))
              (fun _ _ _ _ _ => pts_one (pt_cmpR op_ne (pe_ix (ixTK (K := K) rfl) (pv 6) (pe_ix (ixTK (K := K) rfl) (pv 4) (pv 3) (fun _ _ => rfl)) (fun _ _ => rfl)) (pe_ix (ixTK (K := K) rfl) (pv 4) (pe_ix (ixTK (K := K) rfl) (pv 6) (pv 3) (fun _ _ => rfl)) (fun _ _ => rfl)) (nomark _))) (fun _ _ _ _ _ => pv 6)) (pe_lst pa_nil) (nomark _)) (pss_one (ps_ret pe_bl)) pss_nil)))))
      (pss_one (ps_ret pe_bl)), ?_⟩
    obtain ⟨mas, hq1, hq2, hq3⟩ := hq
    obtain ⟨tas, tq1, tq2, tq3⟩ := tl
    have lta : tas.length = ts.length := by rw [tq2, vts, List.length_map]
    have n12 := hW.s12
    have t8 := hW.t8
    have hxl : ∀ e ∈ F, e.1.length = nS ts := fun e he => by
      rw [(hF.mem he).1, path_run, List.length_map, idL, gL_len]
    have rng : ∀ y : Int, (0 ≤ y ∧ y < (nS ts : Int)) → ∀ x ∈ thr F y.toNat, 0 ≤ x ∧ x < ((12 : Nat) : Int) := fun y hy x hx => by
      have := ((thr_rch hF hy x).mp hx).rng hW hy
      omega
    have sr : Same H H := Same.refl _
    refine ⟨_, rfl, q, rfl, ⟨_, SqL.of (sr _ _ hq1)⟩, fun D1 hD1 => lc_list (K := K) (a := q) (xs := mas.map V.ref) (fun i H' => Same H H' ∧ H' D1 = some (.lst (((thr F st.toNat).take i).map V.int))) ⟨same_new hD1, by rw [upd_same]; rfl⟩ (fun i H' _ ⟨s, _⟩ => SqL.of (s _ _ (sr _ _ hq1))) ?_ ?_⟩
    · rintro i x H' hx ⟨s2, hD2⟩
      obtain ⟨ma, hma, rfl⟩ : ∃ ma, mas[i]? = some ma ∧ x = V.ref ma := by
        rw [List.getElem?_map] at hx
        cases e : mas[i]? with
        | none => rw [e] at hx; cases hx
        | some t => rw [e] at hx; exact ⟨t, rfl, (Option.some.inj hx).symm⟩
      have hiF : i < F.length := by rw [← hq2]; exact (List.getElem?_eq_some_iff.mp hma).1
      obtain ⟨e, he⟩ : ∃ e, F[i]? = some e := ⟨F[i], List.getElem?_eq_getElem hiF⟩
      obtain ⟨xb, xc, g1, g2, _⟩ := hq3 i ma e.1 e.2 hma he
      have lx := hxl e (List.mem_of_getElem? he)
      have ez : (thr F st.toNat)[i]? = some (e.1.getD st.toNat 0) := by rw [thr, List.getElem?_map, he]; rfl
      refine ⟨rfl, _, rfl, ma, _, 0, _, rfl, rfl, SqT.of (s2 _ _ (sr _ _ g1)), atI_nat (j := 0) rfl, _, rfl, xb, _, st, .int (e.1.getD st.toNat 0), rfl, rfl, SqT.of (s2 _ _ (sr _ _ g2)), at_of (j := st.toNat) (by omega) (vrow_getD (by omega)), _, hD2, by rw [List.length_map, List.length_take, sizeLine_eq]; omega, fun d o eo => ?_, ?_⟩
      · rw [upd_ne (ne_of_none eo hD1)]
        exact s2 _ _ eo
      · rw [upd_same, take_succ ez, List.map_append]; rfl
    · rintro H2a ⟨s2a, hD2⟩
      have e1 : (thr F st.toNat).take (mas.map V.ref).length = thr F st.toNat := by rw [List.take_of_length_le]; rw [thr, List.length_map, List.length_map, hq2]; exact Nat.le_refl _
      rw [e1] at hD2
      refine ⟨D1, thr F st.toNat, rfl, SqL.of hD2, by rw [thr, List.length_map]; omega, rng st hst, fun ps c hps hc => ⟨ps, _, c, rfl, upd_same, by omega, fun lots l pw mem hl hl0 => ?_⟩⟩
      have mem' : ∀ x, x ∈ lots ↔ Rch ts st x := fun x => by
        rw [mem x, ← thr_rch hF hst x]
        exact ⟨fun z => of_decide_eq_true z, fun z => decide_eq_true z⟩
      have s3 := (s2a.trans (same_new hps)).trans (same_new (o := HO.lst (lots.map V.int)) hl0)
      have hl3 : (upd (upd H2a ps (SetO w ps (fun j => decide (j ∈ thr F st.toNat)) c)) l (.lst (lots.map V.int))) l = some (.lst (lots.map V.int)) := upd_same
      generalize upd (upd H2a ps (SetO w ps (fun j => decide (j ∈ thr F st.toNat)) c)) l (.lst (lots.map V.int)) = H3 at s3 hl3 ⊢
      refine ⟨l, rfl, ⟨_, SqL.of hl3⟩, for_list (K := K) (a := l) (xs := lots.map V.int) (fun i σ H' => ∃ v3 v4 v5 v6, σ = [some (.ref p), some (.ref q), some (.int st), v3, v4, v5, v6] ∧ Same H3 H' ∧ ∀ (j : Nat) y, j < i → lots[j]? = some y → ∀ tb ∈ ts, ∀ t ∈ ts, badT tb y t = false) ⟨none, none, none, none, rfl, fun _ _ e => e, fun j y hj => absurd hj (Nat.not_lt_zero _)⟩ (fun i σ H' _ ⟨_, _, _, _, _, s, _⟩ => SqL.of (s _ _ hl3)) ?_ ?_⟩
      · rintro i x σ H4 hx ⟨v3, v4, v5, v6, rfl, s4, ok⟩
        obtain ⟨y, hy, rfl⟩ : ∃ z, lots[i]? = some z ∧ x = V.int z := by
          rw [List.getElem?_map] at hx
          cases e : lots[i]? with
          | none => rw [e] at hx; cases hx
          | some z => rw [e] at hx; exact ⟨z, rfl, (Option.some.inj hx).symm⟩
        have hyR := (mem' y).mp (List.mem_of_getElem? hy)
        have hyr := hyR.rng hW hst
        have s34 := s3.trans s4
        refine gn ?_
        dsimp only
        refine ⟨_, rfl, p, rfl, ⟨_, SqL.of (s34 _ _ tq1)⟩, for_list (K := K) (a := p) (xs := tas.map V.ref) (fun k σ H' => ∃ v4 v5 v6, σ = [some (.ref p), some (.ref q), some (.int st), some (.int y), v4, v5, v6] ∧ Same H4 H' ∧ ∀ (j : Nat) tb, j < k → ts[j]? = some tb → ∀ t ∈ ts, badT tb y t = false) ⟨_, _, _, rfl, fun _ _ e => e, fun j y hj => absurd hj (Nat.not_lt_zero _)⟩ (fun i σ H' _ ⟨_, _, _, _, s, _⟩ => SqL.of (s _ _ (s34 _ _ tq1))) ?_ ?_⟩
        · rintro k x2 σ H5 hx2 ⟨w4, w5, w6, rfl, s5, ok2⟩
          obtain ⟨ta, hta, rfl⟩ : ∃ ma, tas[k]? = some ma ∧ x2 = V.ref ma := by
            rw [List.getElem?_map] at hx2
            cases e : tas[k]? with
            | none => rw [e] at hx2; cases hx2
            | some t => rw [e] at hx2; exact ⟨t, rfl, (Option.some.inj hx2).symm⟩
          have hkT : k < ts.length := by rw [← lta]; exact (List.getElem?_eq_some_iff.mp hta).1
          obtain ⟨tb, htb⟩ : ∃ t, ts[k]? = some t := ⟨ts[k], List.getElem?_eq_getElem hkT⟩
          have hT := tq3 k ta (vrow tb) hta (by rw [vts, List.getElem?_map, htb]; rfl)
          obtain ⟨lb, rb⟩ := hW.row tb (List.mem_of_getElem? htb)
          have s35 := s34.trans s5
          refine gn ?_
          dsimp only
          have at_ : ∀ (t : List Int) (x : Int), t ∈ ts → (0 ≤ x ∧ x < (nS ts : Int)) → atI (vrow t) x = some (V.int (tg t x)) ∧ (0 ≤ tg t x ∧ tg t x < (nS ts : Int)) := fun t x ht hx => by
            obtain ⟨lt, rt⟩ := hW.row t ht
            have hlt : x.toNat < t.length := by omega
            refine ⟨at_of (j := x.toNat) (by omega) (vrow_getD hlt), ?_⟩
            unfold tg
            rw [List.getD_eq_getElem?_getD, List.getElem?_eq_getElem hlt]
            exact rt _ (List.getElem_mem hlt)
          obtain ⟨a1, a2⟩ := at_ tb y (List.mem_of_getElem? htb) hyr
          refine ⟨_, rfl, p, rfl, ⟨_, SqL.of (s35 _ _ tq1)⟩, fun D0 hD0 => lc_list (K := K) (a := p) (xs := tas.map V.ref) (fun i H' => Same H5 H' ∧ ∃ as : List Addr, H' D0 = some (.lst (as.map V.ref)) ∧ RowsAt H' as ((ts.take i).filter (badT tb y))) ⟨same_new hD0, [], upd_same, rfl, fun i a r e => by cases e⟩ (fun i H' _ ⟨s, _⟩ => SqL.of (s _ _ (s35 _ _ tq1))) ?_ ?_⟩
          · rintro j x3 H' hx3 ⟨s6, as, hD, ra⟩
            obtain ⟨to, hto, rfl⟩ : ∃ ma, tas[j]? = some ma ∧ x3 = V.ref ma := by
              rw [List.getElem?_map] at hx3
              cases e : tas[j]? with
              | none => rw [e] at hx3; cases hx3
              | some t => rw [e] at hx3; exact ⟨t, rfl, (Option.some.inj hx3).symm⟩
            have hjT : j < ts.length := by rw [← lta]; exact (List.getElem?_eq_some_iff.mp hto).1
            obtain ⟨t, ht⟩ : ∃ t, ts[j]? = some t := ⟨ts[j], List.getElem?_eq_getElem hjT⟩
            have hT2 := tq3 j to (vrow t) hto (by rw [vts, List.getElem?_map, ht]; rfl)
            have mt := List.mem_of_getElem? ht
            obtain ⟨b1, b2⟩ := at_ t (tg tb y) mt a2
            obtain ⟨c1, c2⟩ := at_ t y mt hyr
            obtain ⟨d1, d2⟩ := at_ tb (tg t y) (List.mem_of_getElem? htb) c2
            have g1 := s6 _ _ (s35 _ _ hT)
            have g2 := s6 _ _ (s35 _ _ hT2)
            have sn : (ts.take (j + 1)).filter (badT tb y) = (ts.take j).filter (badT tb y) ++ (if badT tb y t = true then [t] else []) := by
              rw [take_succ ht, List.filter_append]
              congr 1
              by_cases z : badT tb y t = true
              · rw [if_pos z, List.filter_cons, if_pos z, List.filter_nil]
              · rw [if_neg z, List.filter_cons, if_neg z, List.filter_nil]
            refine ⟨rfl, _, rfl, _, rfl, _, rfl, ta, _, y, _, rfl, rfl, SqT.of g1, a1, to, _, tg tb y, _, rfl, rfl, SqT.of g2, b1, _, rfl, _, rfl, _, rfl, to, _, y, _, rfl, rfl, SqT.of g2, c1, ta, _, tg t y, _, rfl, rfl, SqT.of g1, d1, rfl, _, rfl, ifD (fun c => ?_) fun c => ?_⟩
            · have c : badT tb y t = true := c
              rw [if_pos c] at sn
              have lf : ((ts.take j).filter (badT tb y)).length ≤ 8 := by
                have := List.length_filter_le (badT tb y) (ts.take j)
                rw [List.length_take] at this
                omega
              refine ⟨_, rfl, _, hD, by rw [List.length_map, ra.1, sizeLine_eq]; omega, fun d o eo => ?_, as ++ [to], by rw [upd_same, List.map_append]; rfl, ?_⟩
              · rw [upd_ne (ne_of_none eo hD0)]
                exact s6 _ _ eo
              · rw [sn]
                have rs := ra.snoc g2
                refine ⟨rs.1, fun i a r e1 e2 => ?_⟩
                have z := rs.2 i a r e1 e2
                rw [upd_ne (ne_of z hD (by intro z; cases z))]
                exact z
            · have c : badT tb y t = false := c
              rw [if_neg (by rw [c]; simp), List.append_nil] at sn
              exact ⟨s6, as, hD, by rw [sn]; exact ra⟩
          · rintro H6 ⟨s6, as, hD, ra⟩
            have e1 : ts.take (tas.map V.ref).length = ts := by rw [List.length_map, lta, List.take_length]
            rw [e1] at ra
            generalize hbad : ts.filter (badT tb y) = bs at ra
            have mb : ∀ t ∈ bs, t ∈ ts := fun t ht => by rw [← hbad] at ht; exact (List.mem_filter.mp ht).1
            refine ⟨(by show 0 ≤ sizeLine; decide), fun e0 he0 => ?_⟩
            have s7 := same_new (o := HO.lst []) he0
            have ra7 := ra.same s7
            have hb8 : bs.length ≤ 8 := by
              rw [← hbad]
              exact Nat.le_trans (List.length_filter_le _ _) t8
            have pl : PlA (bs.map fun t => PyData.tuple (dI t)) 1 100000 := (pla_rows (n := 12) bs fun t ht => ⟨by rw [(hW.row t (mb t ht)).1]; exact n12, fun i hi => by have := (hW.row t (mb t ht)).2 i hi; omega⟩).mono (Nat.le_refl _) (by omega)
            have dp : DpAll K (upd H6 e0 (.lst [])) (as.map V.ref) (bs.map fun t => PyData.tuple (dI t)) := dp_refs as bs ra7.1 fun i a t e1 e2 => by
              rw [vts, List.getElem?_map] at e2
              cases e : bs[i]? with
              | none => rw [e] at e2; cases e2
              | some r => rw [e] at e2; rw [← Option.some.inj e2]; exact ra7.2 i a r e1 e
            refine ⟨_, _, .lst (SqL.of (s7 _ _ hD)) dp, .lst (SqL.of upd_same) .nil, (Pl.list pl).shaped (by decide), (Pl.list PlA.nil).shaped (by decide), ?_⟩
            rw [eqv_nilD]
            refine ⟨_, rfl, ifD (fun c => ?_) fun c => ?_⟩
            · refine qq false _ (((s35.trans s6).trans s7)) ⟨fun z => (by cases z), fun cm => ?_⟩
              have hne : bs ≠ [] := fun z => by
                rw [z] at c
                simp at c
              obtain ⟨t, r, et⟩ : ∃ t r, bs = t :: r := by
                cases bs with
                | nil => exact absurd rfl hne
                | cons t r => exact ⟨t, r, rfl⟩
              have ht : t ∈ ts.filter (badT tb y) := by rw [hbad, et]; exact List.mem_cons_self
              obtain ⟨m1, m2⟩ := List.mem_filter.mp ht
              rw [comm_iff.mp cm y hyR tb (List.mem_of_getElem? htb) t m1] at m2
              cases m2
            · have he : bs = [] := by
                have c' : decide ((bs.map fun t => PyData.tuple (dI t)) = []) = true := by simpa using c
                exact List.map_eq_nil_iff.mp (of_decide_eq_true c')
              refine ⟨_, _, _, rfl, (s5.trans s6).trans s7, fun j tb' hj hb' t ht => ?_⟩
              rcases Nat.lt_succ_iff_lt_or_eq.mp hj with g | g
              · exact ok2 j tb' g hb' t ht
              · subst g
                rw [htb] at hb'
                obtain rfl := Option.some.inj hb'
                cases w : badT tb y t with
                | false => rfl
                | true =>
                  have : t ∈ ts.filter (badT tb y) := List.mem_filter.mpr ⟨ht, w⟩
                  rw [hbad, he] at this
                  cases this
        · rintro σ H5 ⟨w4, w5, w6, rfl, s5, ok2⟩
          refine ⟨_, _, _, _, rfl, s4.trans s5, fun j z hj hz tb htb t ht => ?_⟩
          rcases Nat.lt_succ_iff_lt_or_eq.mp hj with g | g
          · exact ok j z g hz tb htb t ht
          · subst g
            rw [hy] at hz
            obtain rfl := Option.some.inj hz
            obtain ⟨k, hk⟩ := List.getElem?_of_mem htb
            exact ok2 k tb (by rw [List.length_map, lta]; exact (List.getElem?_eq_some_iff.mp hk).1) hk t ht
      · rintro σ H4 ⟨v3, v4, v5, v6, rfl, s4, ok⟩
        refine qq true _ (s3.trans s4) ⟨fun _ => comm_iff.mpr fun x hx tb htb t ht => ?_, fun _ => rfl⟩
        obtain ⟨j, hj⟩ := List.getElem?_of_mem ((mem' x).mpr hx)
        exact ok j x (by rw [List.length_map]; exact (List.getElem?_eq_some_iff.mp hj).1) hj tb htb t ht
end
end K1
namespace K1
open PySem PySem.Spec PyProof.Rows L2
def rLen (K : PySem.W.Frag) : List V → Hp → VK → Prop := fun xs H Q => ∃ p ys, xs = [.ref p] ∧ (SqL K H p ys ∨ SqT K H p ys) ∧ Q (.int ys.length) H
theorem clen {X : Cx} {K : PySem.W.Frag} (h : X.K = K) : CallR X (.builtin "len") (rLen K) := by
  subst h
  exact call_len_seq
theorem slT {X : Cx} {K : PySem.W.Frag} (h : X.K = K) : SlR X (rSlT K) := by
  subst h
  exact sl_tup
theorem nilP {σ : L2.St} {H : Hp} {Q : List V → Hp → Prop} (h : Q [] H) : tNil σ H Q := h
theorem neV {x : V} {Q : VK} {H : Hp} (hs : scal x x = true) (q : Q (.bl false) H) : rNe x x H Q := ⟨hs, qbl (by rw [decide_eq_true rfl]; rfl) q⟩
theorem eqVV {x : V} {Q : VK} {H : Hp} (hs : scal x x = true) (q : Q (.bl true) H) : rEq x x H Q := ⟨hs, qbl (by rw [decide_eq_true rfl]) q⟩
theorem reprP {K : PySem.W.Frag} {p : Addr} {d : PyData} {n w : Nat} {H : Hp} {Q : VK} (hd : Dp K H (.ref p) d) (pl : Pl d n w) (hn : n ≤ 40) (hw : w ≤ 100000) (q : Q (.str d.shown) H) : rRepr K [.ref p] H Q := ⟨p, d, rfl, hd, pl.sh, pl.nd, Nat.le_trans pl.dp hn, pl.short hw, q⟩
theorem pl_str {x : Str} (h1 : PyData.strOk x = true) (h2 : x.cps.size ≤ 100) (h3 : (x.cps.toList.all fun c => decide (c < 16 ^ 8)) = true) : Pl (.str x) 0 100 :=
  ⟨by simp only [PyData.canLay0]; exact h1, by simp only [PyData.showable], by simp only [PyData.hasDict], by simp only [PyData.depth]; omega, by simp only [PyData.weight]; exact h2, by simp only [PyData.leavesShort]; exact h3⟩
theorem repr2 {K : PySem.W.Frag} {p : Addr} {d : PyData} {n w : Nat} {H : Hp} {Q : VK} (hd : Dp K H (.ref p) d) (pl : Pl d n w) (hn : n ≤ 40) (hw : w ≤ 100000) (q : Q (.str d.shown) H) : rReprS [.ref p] H Q ∨ rRepr K [.ref p] H Q := .inr (reprP hd pl hn hw q)
theorem reprN {K : PySem.W.Frag} {H : Hp} {Q : VK} (q : Q (.str "None") H) : rReprS [.non] H Q ∨ rRepr K [.non] H Q := .inl ⟨_, rfl, .inl ⟨rfl, q⟩⟩
theorem cP {v : V} {σ : L2.St} {H : Hp} {Q : VK} (h : Q v H) : tC v σ H Q := h
theorem pl_r {r : List Int} (hl : r.length ≤ 144) (h : ∀ x ∈ r, 0 ≤ x ∧ x < 8) : Pl (.tuple (dI r)) 1 10000 :=
  (Pl.tuple (pla_ints r fun i hi => by have := h i hi; omega)).mono (Nat.le_refl _) (by have : r.length * 65 ≤ 144 * 65 := Nat.mul_le_mul_right _ hl; omega)
theorem pl_two {r q : List Int} (h1 : Pl (.tuple (dI r)) 1 10000) (h2 : Pl (.tuple (dI q)) 1 10000) : Pl (.tuple [.tuple (dI r), .tuple (dI q)]) 2 30000 :=
  (Pl.tuple (PlA.cons h1 (PlA.cons h2 PlA.nil))).mono (by decide) (by decide)
/-! ### what is no state -/
def OddV (n : Int) (H : Hp) (v : V) : Prop := v ∈ [V.int n, .int (-1), .non, .bl true, .str "0"] ∨ ∃ p, v = .ref p ∧ H p = some (.tup [.int 0])
theorem OddV.keep {n : Int} {H H' : Hp} {v : V} (o : OddV n H v) (k : ∀ p xs, H p = some (.tup xs) → H' p = some (.tup xs)) : OddV n H' v := o.elim .inl fun ⟨p, e, h⟩ => .inr ⟨p, e, k _ _ h⟩
theorem OddV.bad {n : Int} {H : Hp} {v : V} (o : OddV n H v) : belowB v n = false := by
  rcases o with o | ⟨p, rfl, _⟩
  · simp only [List.mem_cons, List.mem_nil_iff, or_false] at o
    rcases o with rfl | rfl | rfl | rfl | rfl
    · show (decide (0 ≤ n) && decide (n < n)) = false
      rw [decide_eq_false (show ¬ n < n by omega), Bool.and_false]
    all_goals rfl
  · rfl
theorem OddV.kv {n : Int} {H : Hp} {v : V} (o : OddV n H v) (K : PySem.W.Frag) : ∃ (K' : PySem.W.Frag) (o : Option (List V)), KV K' H v o := by
  rcases o with o | ⟨p, rfl, h⟩
  · simp only [List.mem_cons, List.mem_nil_iff, or_false] at o
    rcases o with rfl | rfl | rfl | rfl | rfl
    · exact ⟨K, _, .int _⟩
    · exact ⟨K, _, .int _⟩
    · exact ⟨K, _, .non⟩
    · exact ⟨K, _, .bl _⟩
    · exact ⟨K, _, .str _⟩
  · exact ⟨K, _, .tup h⟩
theorem tx_ok : ∀ i : Fin 13, PyData.strOk (Str.ofString (toString ((i : Nat) : Int))) = true := by decide +kernel
theorem tx_lim {lim : Int} (h0 : 0 ≤ lim) (h1 : lim ≤ 12) : PyData.strOk (Str.ofString (toString lim)) = true := by
  have z := tx_ok ⟨lim.toNat, by omega⟩
  have e : ((lim.toNat : Nat) : Int) = lim := by omega
  simp only [e] at z
  exact z
theorem log_sm {i : Int} (h1 : i.natAbs ≤ 1000) : i.natAbs.log2 < 1920 := by
  by_cases z : i.natAbs = 0
  · rw [z]; decide
  · have : i.natAbs.log2 < 10 := (Nat.log2_lt z).mpr (by omega)
    omega
theorem OddV.txt {n : Int} {H : Hp} {v : V} (K : PySem.W.Frag) (h0 : 0 ≤ n) (h1 : n ≤ 12) (o : OddV n H v) : ∃ x, PyData.strOk x = true ∧ ∀ (H' : Hp) (Q : VK), OddV n H' v → Q (.str x) H' → rReprS [v] H' Q ∨ rRepr K [v] H' Q := by
  rcases o with o | ⟨p, rfl, h⟩
  · simp only [List.mem_cons, List.mem_nil_iff, or_false] at o
    rcases o with rfl | rfl | rfl | rfl | rfl
    · exact ⟨toString n, tx_lim h0 h1, fun H' Q _ q => .inl ⟨_, rfl, .inr (.inr (.inl ⟨n, rfl, log_sm (by omega), q⟩))⟩⟩
    · exact ⟨toString (-1 : Int), by decide +kernel, fun H' Q _ q => .inl ⟨_, rfl, .inr (.inr (.inl ⟨-1, rfl, log_sm (by decide), q⟩))⟩⟩
    · exact ⟨"None", by decide +kernel, fun H' Q _ q => .inl ⟨_, rfl, .inl ⟨rfl, q⟩⟩⟩
    · exact ⟨"True", by decide +kernel, fun H' Q _ q => .inl ⟨_, rfl, .inr (.inl ⟨true, rfl, q⟩)⟩⟩
    · exact ⟨reprText "0", by decide +kernel, fun H' Q _ q => .inl ⟨_, rfl, .inr (.inr (.inr ⟨"0", rfl, by decide +kernel, q⟩))⟩⟩
  · refine ⟨(PyData.tuple (dI [0])).shown, by decide +kernel, fun H' Q o q => ?_⟩
    rcases o with o | ⟨p', e, h'⟩
    · simp at o
    · injection e with e
      subst e
      exact .inr (reprP (dp_tup (t := [0]) h') (pl_r (r := [0]) (by decide) (fun x hx => by rw [List.mem_singleton.mp hx]; decide)) (by decide) (by decide) q)
theorem ear {K : PySem.W.Frag} {Q : VK} {p p2 : Addr} {H : Hp} {vs : List V} {ds : List PyData} (h1 : H p = some (.tup vs)) (h2 : H p2 = some (.tup vs)) (hd : DpAll K H vs ds) (lay : PyData.canLay0 (.tuple ds) = true) (sh : SeqAt.shaped (.tuple ds) = true) (q : Q (.bl false) H) : rNeD K (.ref p) (.ref p2) H Q :=
  ⟨_, _, .tup (SqT.of h1) hd, .tup (SqT.of h2) hd, sh, sh, qbl (by rw [SeqAt.eqv_refl _ lay]; rfl) q⟩
theorem sqL_same {K : PySem.W.Frag} {H H1 : Hp} {a : Addr} {xs : List V} (h : SqL K H a xs) (s : Same H H1) : SqL K H1 a xs := by
  rcases h with (h | ⟨ob, h⟩) | h
  · exact .inl (.inl (s _ _ h))
  · exact .inl (.inr ⟨ob, s _ _ h⟩)
  · exact .inr h
theorem same_bx {H1 H2 H3 : Hp} {b : Addr} (s : Same H1 H2) (hb : H1 b = none) (x : Bx b H2 H3) : Same H1 H3 := fun c o e => x.2 _ _ (s c o e) (ne_of_none e hb)
/-! ### two readings of one expression, of one rule -/
theorem pe_or2 {X : Cx} {e : Expr} {t u : TE} (a : PE X e t) (b : PE X e u) : PE X e (fun σ H Q => t σ H Q ∨ u σ H Q) := ⟨fun pins s σ H Q I h => h.elim (a.run pins s σ H Q I) (b.run pins s σ H Q I)⟩
theorem op_or2 {X : Cx} {f : Value → Value → Sem Value} {r q : R2} (a : OpR X f r) (b : OpR X f q) : OpR X f (fun x y H Q => r x y H Q ∨ q x y H Q) := fun pins s σ H x y v u Q I rx ry h => h.elim (a pins s σ H x y v u Q I rx ry) (b pins s σ H x y v u Q I rx ry)
theorem call_or2 {X : Cx} {c : Value} {r q : List V → Hp → VK → Prop} (a : CallR X c r) (b : CallR X c q) : CallR X c (fun xs H Q => r xs H Q ∨ q xs H Q) := fun pins s σ H xs us Q I rv h => h.elim (a pins s σ H xs us Q I rv) (b pins s σ H xs us Q I rv)
/-! ### a lambda that captures nothing, as a value -/
def LamO (f c' : Addr) (q : Str) (params : Arguments) (body : Expr) (scope : Scope) : HO := .ext fun h => ∃ (od : Option Addr) (sl : Array (Option Value)) (pm ctv : Value), h.get? f = some (⟨.type "function", od, .func (PySem.W.kla_fn "<lambda>" q params body scope [] pm (.ref c') ctv), sl⟩ : Obj)
theorem lamO_ne {f c' : Addr} {q : Str} {params : Arguments} {body : Expr} {scope : Scope} (ps : Array Value) : LamO f c' q params body scope ≠ .tbl ps := fun z => by
  unfold LamO at z
  cases z
section
variable {X : Cx} {pins : List (Addr × Obj)} {σ : L2.St} {H : Hp} {s : Shared} {params : Arguments} {body : Expr} {scope : Scope}
theorem lamO_at {f c' : Addr} {q : Str} (hok : HOk X.prog X.w H s.heap) (e : H f = some (LamO f c' q params body scope)) : ∃ (od : Option Addr) (sl : Array (Option Value)) (pm ctv : Value), s.heap.get? f = some (⟨.type "function", od, .func (PySem.W.kla_fn "<lambda>" q params body scope [] pm (.ref c') ctv), sl⟩ : Obj) := by
  obtain ⟨z, _, _⟩ := (show ObjOk X.prog X.w H s.heap f (LamO f c' q params body scope) from hok f _ e)
  exact z
theorem inv_lam {q : Str} {c' : Addr} {pm ctv : Value} {t' : Nat} (I : Inv X pins σ H s) :
    Inv X pins σ (upd H s.heap.objs.size (LamO s.heap.objs.size c' q params body scope)) { s with heap := s.heap.push (PySem.W.kla_obj "<lambda>" q params body scope [] pm c' ctv), toks := t' } := by
  refine I.laid (a := s.heap.objs.size) (fun b u e => Heap.get?_push_of_some _ e) (Nat.le_refl _) ?_
  have e : (s.heap.push (PySem.W.kla_obj "<lambda>" q params body scope [] pm c' ctv)).get? s.heap.objs.size = some (PySem.W.kla_obj "<lambda>" q params body scope [] pm c' ctv) := Heap.get?_push_size _ rfl
  exact ⟨⟨_, _, pm, ctv, e⟩, ⟨_, e⟩, fun h1 h2 ⟨od, sl, p, t, z⟩ st => ⟨od, sl, p, t, st _ z⟩⟩
/-- it is made: its code object is new, or found in the table -/
theorem lam_make3 {T : List (Addr × Str)} {c P : Addr} {pos : Pos} {E : Value → Shared → Prop} {Q : Value → Shared → Prop} (I : Inv X pins σ H s) (TB : LamX.TabB X.base X.mg c P) (hcode : X.env.code = .ref c)
    (hm : (P, X.env.qual ++ "<lambda>") ∈ T) (hu : ∀ p ∈ T, p.1 = P → p.2 = X.env.qual ++ "<lambda>") (hT : LamX.Tabs T H) (hdef : defaultsOf params X.env = ([], [])) (hfree : ∀ y ∈ scope.names, y.2 = .free → ∃ c, X.env.cells.lookup y.1 = some c)
    (hcl : cloFrom X.env.cells scope.names [] = [])
    (h : ∀ (f c' : Addr) (H1 : Hp) (s' : Shared), Inv X pins σ H1 s' → LamX.ExtN H H1 → LamX.Tabs T H1 → H f = none → H1 f = some (LamO f c' (X.env.qual ++ "<lambda>") params body scope) → H1 c' = some (LamX.CodeO c' (X.env.qual ++ "<lambda>")) → Q (.ref f) s') :
    wpAny (model X.prog X.w) X.A (eval (.Lambda params body scope pos) X.env) Q E s := by
  obtain ⟨ps, hP, ht, ha⟩ := hT _ hm
  refine PySem.W.kla_eval hdef ?_
  have bP : s.heap.BuiltinsAt X.mg P := TB.bm.keeps I.bk
  have hP' : s.heap.get? P = some { cls := .none, data := .fields ps } := I.hok P _ hP
  cases hc : codeAmong pos ps.toList with
  | none =>
    refine PySem.W.kla_makeFunction (mg := X.mg) (c := c) (P := P) (ps := ps) (closure_ok hfree) I.ok.glob (I.mod.glob.keeps I.bk) hcode (TB.code.keeps I.bk) hP' ht hc TB.gP bP fun c' ctv h' tk hx hge hlt hrec htb => ?_
    obtain ⟨c2, oc, vs, t, e2, hoc, hd, hv⟩ := hrec
    cases e2
    have nC : H c' = none := I.hok.fresh hge
    have I1 := LamX.inv_table (t' := tk) (more := #[rawInt pos.line, rawInt pos.col, .ref c']) (h' := h') I hP (fun b o hb e => hx b o hb e) htb hge ⟨oc, vs, t, hoc, hd, hv⟩
    have hE : LamX.ExtN H (upd (upd H P (.tbl (ps ++ #[rawInt pos.line, rawInt pos.col, .ref c']))) c' (LamX.CodeO c' (X.env.qual ++ "<lambda>"))) := fun b o e n => by
      rw [upd_ne (ne_of_none e nC), upd_ne (fun z => n ps (Option.some.inj (e.symm.trans (by rw [z]; exact hP))))]
      exact e
    have eL : (ps ++ #[rawInt pos.line, rawInt pos.col, .ref c']).toList = ps.toList ++ [rawInt pos.line, rawInt pos.col, .ref c'] := by simp
    have T1 : LamX.Tabs T (upd (upd H P (.tbl (ps ++ #[rawInt pos.line, rawInt pos.col, .ref c']))) c' (LamX.CodeO c' (X.env.qual ++ "<lambda>"))) := fun p hp => by
      by_cases hb : p.1 = P
      · rw [hu p hp hb, hb]
        refine ⟨_, by rw [upd_ne (ne_of_none hP nC), upd_same], by rw [eL]; exact PySem.TriplesOk_snoc _ _ _ _ ht, fun p' cv hcv => ?_⟩
        rw [eL] at hcv
        rcases LamX.among_app _ ht hcv with z | z
        · obtain ⟨c0, e1, e2⟩ := ha p' cv z
          exact ⟨c0, e1, hE _ _ e2 LamX.codeO_ne⟩
        · exact ⟨c', z, upd_same⟩
      · obtain ⟨ps', a1, a2, a3⟩ := hT p hp
        refine ⟨ps', by rw [upd_ne (ne_of_none a1 nC), upd_ne hb]; exact a1, a2, fun p' cv hcv => ?_⟩
        obtain ⟨c0, e1, e2⟩ := a3 p' cv hcv
        exact ⟨c0, e1, hE _ _ e2 LamX.codeO_ne⟩
    have nF := I1.hok.fresh (Nat.le_refl _)
    have I2 := inv_lam (q := X.env.qual ++ "<lambda>") (c' := c') (params := params) (body := body) (scope := scope) (pm := (X.mg "__name__").getD .none) (ctv := ctv) (t' := tk) I1
    rw [hcl]
    refine h h'.objs.size c' _ _ I2 (fun b o e n => ?_) (T1.ext fun b o e => ?_) (I.hok.fresh (Nat.le_trans hge (Nat.le_of_lt hlt))) upd_same ?_
    · have e1 := hE b o e n
      exact (upd_ne (ne_of_none e1 nF)).trans e1
    · exact (upd_ne (ne_of_none e nF)).trans e
    · have e1 : (upd (upd H P (.tbl (ps ++ #[rawInt pos.line, rawInt pos.col, .ref c']))) c' (LamX.CodeO c' (X.env.qual ++ "<lambda>"))) c' = some (LamX.CodeO c' (X.env.qual ++ "<lambda>")) := upd_same
      exact (upd_ne (ne_of_none e1 nF)).trans e1
  | some cv =>
    obtain ⟨c', e, hco⟩ := ha pos cv hc
    subst e
    refine PySem.W.kla_makeFunctionHit (mg := X.mg) (c := c) (P := P) (ps := ps) (closure_ok hfree) I.ok.glob (I.mod.glob.keeps I.bk) hcode (TB.code.keeps I.bk) hP' ht hc bP fun ctv h' tk hx hsz => ?_
    have I1 : Inv X pins σ H { s with heap := h', toks := tk } := I.kept fun b o e => hx b o e
    have nF : H h'.objs.size = none := I.hok.fresh hsz
    have I2 := inv_lam (q := X.env.qual ++ "<lambda>") (c' := c') (params := params) (body := body) (scope := scope) (pm := (X.mg "__name__").getD .none) (ctv := ctv) (t' := tk) I1
    rw [hcl]
    refine h h'.objs.size c' _ _ I2 (fun b o e n => (upd_ne (ne_of_none e nF)).trans e) (hT.ext fun b o e => (upd_ne (ne_of_none e nF)).trans e) nF upd_same ((upd_ne (ne_of_none hco nF)).trans hco)
end
section
variable {X : Cx} {params : Arguments} {body : Expr} {scope : Scope}
def tLamV (T : List (Addr × Str)) (qn : Str) (params : Arguments) (body : Expr) (scope : Scope) : TE := fun _ H Q => LamX.Tabs T H ∧ ∀ (f c' : Addr) (H1 : Hp), LamX.ExtN H H1 → LamX.Tabs T H1 → H f = none → H1 f = some (LamO f c' qn params body scope) → H1 c' = some (LamX.CodeO c' qn) → Q (.ref f) H1
theorem pe_lamV {c P : Addr} {qn : Str} {pos : Pos} (TB : LamX.TabB X.base X.mg c P) (hcode : X.env.code = .ref c) (hq : X.env.qual ++ "<lambda>" = qn) (hdef : defaultsOf params X.env = ([], [])) (hfree : ∀ y ∈ scope.names, y.2 ≠ .free)
    (hcl : cloFrom X.env.cells scope.names [] = []) : PE X (.Lambda params body scope pos) (tLamV [(P, qn)] qn params body scope) := by
  subst hq
  refine ⟨fun pins s σ H Q I h => ?_⟩
  obtain ⟨hT, h⟩ := h
  exact lam_make3 I TB hcode List.mem_cons_self (fun p hp _ => by rw [List.mem_singleton.mp hp]) hT hdef (fun y hy e => absurd e (hfree y hy)) hcl fun f c' H1 s' I1 eN T1 hn hf hc => ⟨.ref f, H1, I1, rfl, h f c' H1 eN T1 hn hf hc⟩
/-- the context of its body -/
theorem run_lam {CX : CXT} {k : Nat} {f c' : Addr} {q : Str} {N ps : List Str} {tb : XK → TE} {pins : List (Addr × Obj)} {σ : L2.St} {H : Hp} {s : Shared} {Q : VK} {E : XK} {us : List Value} {vs : List V} (I : Inv X pins σ H s) (hf : H f = some (LamO f c' q params body scope)) (hc : H c' = some (LamX.CodeO c' q))
    (S : FnScope N ps scope) (hbind : ∀ (pm ctv : Value) (us : List Value), us.length = ps.length → bindArgs (PySem.W.kla_fn "<lambda>" q params body scope [] pm (.ref c') ctv) ⟨us, []⟩ = pure (ps.zip us)) (hr : Room (k + 1) X.A) (hx : Passes CX X E) (r : Vals vs us) (hl : vs.length = ps.length)
    (hbody : ∀ (A : Around) (outer : List Env) (s : Shared) (H : Hp) (E : XK), Room k (A.deeper (envOfC q scope s.heap.objs.size f (.ref c'))) → PE (cxOf CX X.prog X.w X.K X.mg X.base N q scope f (.ref c') A outer s H E) body (tb E))
    (ht : tb E (L2.start N vs) H Q) : wpAny (model X.prog X.w) X.A (call (.ref f) us) (EP X pins σ Q) X.xe s := by
  obtain ⟨od, sl, pm, ctv, ho⟩ := lamO_at I.hok hf
  obtain ⟨⟨oc, cvs, tk, hoc, hdc, hvc⟩, _, _⟩ := I.hok c' _ hc
  have hlu : us.length = ps.length := by rw [← r.length]; exact hl
  have hkind : ∀ y ∈ ps.zip us, scope.names.lookup y.1 = some .local ∨ (scope.names.lookup y.1 = some .cell ∧ ((cellsFrom (s.heap.objs.size + 1) scope.names []).lookup y.1).isSome = true) := fun ⟨n, v⟩ hy => by
    rcases S.par n (List.of_mem_zip hy).1 with q | q
    · exact .inl q
    · exact .inr ⟨q, PySem.W.cellsFrom_some _ _ _ (.inl q)⟩
  have rc : codeAny (model X.prog X.w) X.A (.call (.ref f) ⟨us, []⟩) (CR CX X.stack X.prog X.w H s Q E) s := by
    refine PySem.W.kla_callFunE hr.depth ho rfl S.co S.gen rfl ⟨c', oc, cvs, tk, rfl, hoc, hdc, hvc⟩ ?_
    rw [hbind pm ctv us hlu]
    refine wpAny_pure (wpAny_newFunctionEnv_cells S.kind hkind fun env he s1 x => ?_)
    subst he
    refine ⟨I.nolimit.keeps x.toInCall.keep, ?_⟩
    have J : Inv (cxOf CX X.prog X.w X.K X.mg X.base N q scope f (.ref c') X.A X.stack s H E) [] (L2.start N vs) H s1 := inv_start S hr.hd I.env0 hl r x
    refine PySem.W.kla_codeExpr (wpAny_mono ((hbody _ _ s H E (hr.deeper _)).run [] s1 (L2.start N vs) H Q J ht) (fun v s' hq => ?_) fun e s' hq => hq)
    obtain ⟨w', H', J', rv, q⟩ := hq
    exact ⟨w', H', J'.os, J'.bare, J'.base, J'.hok, rv, q⟩
  refine wpAny_call (codeAny_mono rc fun r s' hq => ?_)
  cases r with
  | error e => exact hx pins σ H s e s' I hq
  | ok fl =>
    cases fl with
    | ret u => exact I.after hq
    | next => exact False.elim hq
    | brk => exact False.elim hq
    | cont => exact False.elim hq
/-- x(e, ..), x a slot that holds it -/
theorem pe_callLam {CX : CXT} {k i : Nat} {q x : Str} {N ps : List Str} {tb : XK → TE} {E : XK} {p pos : Pos} {e : Expr} {es : List Expr} {t : TA} (S : FnScope N ps scope) (hbind : ∀ (pm cv ctv : Value) (us : List Value), us.length = ps.length → bindArgs (PySem.W.kla_fn "<lambda>" q params body scope [] pm cv ctv) ⟨us, []⟩ = pure (ps.zip us))
    (hr : Room (k + 1) X.A) (hx : Passes CX X E) (hN : X.N[i]? = some x) (hv : Vis X.env.scope x) (ha : PA X (e :: es) t)
    (hbody : ∀ (f c' : Addr) (A : Around) (outer : List Env) (s : Shared) (H : Hp) (E : XK), Room k (A.deeper (envOfC q scope s.heap.objs.size f (.ref c'))) → PE (cxOf CX X.prog X.w X.K X.mg X.base N q scope f (.ref c') A outer s H E) body (tb E))
    (hd : (x == ("__debug__" : Str)) = false := by decide) (hcd : (x == ("__classdict__" : Str)) = false := by decide)
    (he : starEach (e :: es) X.env = (false, eval e X.env) :: starEach es X.env := by rfl) (hpl : (backTo pos (starEach es X.env)).any (·.1) = false := by rfl) :
    PE X (.Call (.Name x p) (e :: es) [] pos) (fun σ H Q => ∃ f c', σ[i]? = some (some (.ref f)) ∧ H f = some (LamO f c' q params body scope) ∧ t σ H fun vs H1 => vs.length = ps.length ∧ H1 f = some (LamO f c' q params body scope) ∧ H1 c' = some (LamX.CodeO c' q) ∧ tb E (L2.start N vs) H1 Q) := by
  refine ⟨fun pins s σ H Q I h => ?_⟩
  obtain ⟨f, c', hs, hf, ht⟩ := h
  refine wpAny_Call_Name_kw (thn ((pe_var (pos := p) hN hv hd hcd).run pins s σ H (fun v H1 => v = .ref f ∧ H1 = H) I ⟨.ref f, hs, rfl, rfl⟩) fun u s1 ⟨v, H1, I1, r1, q1⟩ => ?_)
  obtain ⟨ev, eH⟩ := q1
  subst ev
  rw [eH] at I1
  obtain rfl : u = Value.ref f := r1
  have fnA : ∀ {σ' H' s'}, Inv X pins σ' H' s' → H' f = some (LamO f c' q params body scope) → PySem.W.FnAt f s'.heap := fun {σ' H' s'} I' e => by
    obtain ⟨od, sl, pm, ctv, ho⟩ := lamO_at I'.hok e
    exact ⟨_, od, _, sl, ho⟩
  refine PySem.W.callWith_F (first := []) (fnA I1 hf) (thn (ha.run pos pins s1 σ H _ I1 ht) fun us s2 ⟨vs, H2, I2, r, hl, h1, h2, hb⟩ => ⟨fnA I2 h1, ?_⟩) he hpl
  show wpAny _ _ (call (.ref f) us) _ _ _
  exact run_lam I2 h1 h2 S (fun pm ctv us hl => hbind pm _ ctv us hl) hr hx r hl (hbody f c') hb
end
end K1
namespace K1
open PySem PySem.Spec PyProof.Rows L2
/-! ### rows behind others' rows, by the law -/
theorem Bx.lst {b c : Addr} {H H' : Hp} {xs : List V} (x : Bx b H H') (n : c ≠ b) (h : H c = some (.lst xs)) : H' c = some (.lst xs) := x.2 _ _ h n
theorem map_rch {ts : Ts} {F : List KR} (hF : Fst (actL ts) ts.length (idL (nS ts)) F) {e : KR} (he : e ∈ F) : VRow ts e.2 := (hF.mem he).2.1
def spLKept : Sp := fun vs H Q _ => ∃ b p q st F ts, vs = [.ref b, .ref p, .ref q, .int st] ∧ BoxO H b ∧ MapsAt H q F ∧ q ≠ b ∧ Fst (actL ts) ts.length (idL (nS ts)) F ∧ F.length ≤ 1000 ∧ Wf ts ∧ (0 ≤ st ∧ st < (nS ts : Int)) ∧ Tells ts st ∧ ∀ H', Bx b H H' → Q (.bl true) H'
section
variable {P : Program} {w : World} {K : PySem.W.Frag} {mg : Str → Option Value} {base : Heap}
abbrev nKe : List Str := ["_law_box_here", "_law_tables_here", "_law_maps_here", "_law_state", "_law_turn", "_law_ahead", "_law_own", "_law_archive", "_law_here", "_law_ends", "_law_one", "_law_row"]
theorem scKe : FnScope nKe ["_law_box_here", "_law_tables_here", "_law_maps_here", "_law_state"] (defScope sLKept) := ⟨rfl, rfl, rfl, by decide +kernel, rfl, by decide +kernel, by decide +kernel⟩
theorem ok_lkept {f fK : Addr} {fd fdK : FuncData} (D : Df K mg "_law_kept_right" sLKept ["_law_box_here", "_law_tables_here", "_law_maps_here", "_law_state"] f fd) (DK : Df K mg "_law_pick" sPick ["_law_box_here", "_law_some"] fK fdK) (B : Bt mg)
    (GK : FnOk P w K mg base CX0 2 fK fdK ["_law_box_here", "_law_some"] spPick) : FnOk P w K mg base CX0 3 f fd ["_law_box_here", "_law_tables_here", "_law_maps_here", "_law_state"] spLKept := by
  refine D.F.ok scKe (fun vs H Q E h => ?_) (fun cdv A outer s H vs Q E hr h => ?_)
  · obtain ⟨b, p, q, s, F, ts, rfl, _⟩ := h
    rfl
  · obtain ⟨b, p, q, st, F, ts, rfl, hb, hq, nqb, hF, hf, hW, hst, tells, qq⟩ := h
    have hu := hu_of hr
    refine ⟨_, pss_cons (ps_for PassesOwn.never rfl (pi_range1 (by rfl) B.range (pa_cons pe_int pa_nil)) (pg_name (i := 4) scKe.nd rfl (.inl rfl))
        (pss_cons (ps_par (i := 5) (j := 6) rfl scKe.nd rfl rfl (by decide) rfl rfl (pa_cons (pe_ix (ixTK (K := K) rfl) (pc DK GK hr pass0 (pa_cons (pv 0) (pa_cons (pv 2) pa_nil))) pe_int (fun _ _ => rfl)) (pa_cons (pe_ix (ixTK (K := K) rfl) (pc DK GK hr pass0 (pa_cons (pv 0) (pa_cons (pv 2) pa_nil))) pe_int (fun _ _ => rfl)) pa_nil)) rfl)
        (pss_cons (ps_par (i := 7) (j := 8) rfl scKe.nd rfl rfl (by decide) rfl rfl (pa_cons (pe_ix (ixTK (K := K) rfl) (pv 6) (pv 3) (fun _ _ => rfl)) (pa_cons (pe_ix (ixTK (K := K) rfl) (pv 6) (pe_ix (ixTK (K := K) rfl) (pv 5) (pv 3) (fun _ _ => rfl)) (fun _ _ => rfl)) pa_nil)) rfl)
        (pss_cons (ps_set (i := 9) scKe.nd rfl (.inl rfl) pe_dnewK)
        (pss_one (ps_for PassesOwn.never rfl (piL (K := K) rfl (pv 2)) (pg_tup rfl (pgs_cons (pg_name (i := 10) scKe.nd rfl (.inl rfl)) (pgs_cons (pg_name (i := 11) scKe.nd rfl (.inl rfl)) pgs_nil)))
            (pss_one (ps_if (pt_cmpR op_ne (pe_dsetd (pv 9) (pe_ix (ixTK (K := K) rfl) (pv 10) (pv 7) (fun _ _ => rfl)) (pe_ix (ixTK (K := K) rfl) (pv 10) (pv 8) (fun _ _ => rfl)) ⟨by rfl, by rfl, by rfl, by rfl⟩) (pe_ix (ixTK (K := K) rfl) (pv 10) (pv 8) (fun _ _ => rfl)) (nomark _)) (pss_one (ps_ret pe_bl)) pss_nil))))))))
      (pss_one (ps_ret pe_bl)), ?_⟩
    obtain ⟨mas, hq1, hq2, hq3⟩ := id hq
    have n12 := hW.s12
    have hxl : ∀ e ∈ F, e.1.length = nS ts := fun e he => by
      rw [(hF.mem he).1, path_run, List.length_map, idL, gL_len]
    have hF0 : 1 ≤ F.length := by have := (List.getElem?_eq_some_iff.mp hF.h0).1; omega
    refine ⟨6, rfl, by decide, by decide, for_range (n := 6) (fun i σ H' => ∃ v4 v5 v6 v7 v8 v9 v10 v11, σ = [some (.ref b), some (.ref p), some (.ref q), some (.int st), v4, v5, v6, v7, v8, v9, v10, v11] ∧ Bx b H H') ⟨none, none, none, none, none, none, none, none, rfl, Bx.refl hb⟩ ?_ ?_⟩
    · rintro i σ H1 hi ⟨v4, v5, v6, v7, v8, v9, v10, v11, rfl, bx1⟩
      refine ⟨_, rfl, _, rfl, b, q, _, rfl, bx1.1, bx1.lst nqb hq1, nqb, by rw [List.length_map]; omega, by rw [List.length_map]; omega, fun i1 vo H2 hvo bx2 => ?_⟩
      have bx12 := bx1.trans bx2
      obtain ⟨m1, hm1, rfl⟩ : ∃ ma, mas[i1]? = some ma ∧ vo = V.ref ma := by
        rw [List.getElem?_map] at hvo
        cases e : mas[i1]? with
        | none => rw [e] at hvo; cases hvo
        | some t => rw [e] at hvo; exact ⟨t, rfl, (Option.some.inj hvo).symm⟩
      obtain ⟨e1, he1⟩ : ∃ e, F[i1]? = some e := ⟨F[i1]'(by rw [← hq2]; exact (List.getElem?_eq_some_iff.mp hm1).1), List.getElem?_eq_getElem _⟩
      obtain ⟨x1, c1, a1, a2, _⟩ := hq3 i1 m1 e1.1 e1.2 hm1 he1
      refine ⟨m1, _, 0, _, rfl, rfl, SqT.of (bx12.tup hb a1), atI_nat (j := 0) rfl, ?_⟩
      refine ⟨_, rfl, _, rfl, b, q, _, rfl, bx12.1, bx12.lst nqb hq1, nqb, by rw [List.length_map]; omega, by rw [List.length_map]; omega, fun i2 vo H3 hvo bx3 => ?_⟩
      have bx13 := bx12.trans bx3
      obtain ⟨m2, hm2, rfl⟩ : ∃ ma, mas[i2]? = some ma ∧ vo = V.ref ma := by
        rw [List.getElem?_map] at hvo
        cases e : mas[i2]? with
        | none => rw [e] at hvo; cases hvo
        | some t => rw [e] at hvo; exact ⟨t, rfl, (Option.some.inj hvo).symm⟩
      obtain ⟨e2, he2⟩ : ∃ e, F[i2]? = some e := ⟨F[i2]'(by rw [← hq2]; exact (List.getElem?_eq_some_iff.mp hm2).1), List.getElem?_eq_getElem _⟩
      obtain ⟨x2, c2, b1, b2, _⟩ := hq3 i2 m2 e2.1 e2.2 hm2 he2
      refine ⟨m2, _, 0, _, rfl, rfl, SqT.of (bx13.tup hb b1), atI_nat (j := 0) rfl, _, _, rfl, ?_⟩
      dsimp only [List.set]
      have lx1 := hxl e1 (List.mem_of_getElem? he1)
      have lx2 := hxl e2 (List.mem_of_getElem? he2)
      have t1 := bx13.tup hb a2
      have t2 := bx13.tup hb b2
      have u1 := map_rch hF (List.mem_of_getElem? he1)
      have u2 := map_rch hF (List.mem_of_getElem? he2)
      have g1 : e1.1.getD st.toNat 0 = run ts st e1.2 := map_at hF (List.mem_of_getElem? he1) hst
      have g2 : e2.1.getD st.toNat 0 = run ts st e2.2 := map_at hF (List.mem_of_getElem? he2) hst
      have r1 := hW.run e1.2 st u1 hst
      have g3 : e2.1.getD (run ts st e1.2).toNat 0 = run ts (run ts st e1.2) e2.2 := map_at hF (List.mem_of_getElem? he2) r1
      generalize hy : run ts st e2.2 = y at g2
      generalize hh : run ts (run ts st e1.2) e2.2 = h at g3
      have hyr : 0 ≤ y ∧ y < (nS ts : Int) := by rw [← hy]; exact hW.run e2.2 st u2 hst
      have hhr : 0 ≤ h ∧ h < (nS ts : Int) := by rw [← hh]; exact hW.run e2.2 _ u2 r1
      have td : Told ts y h := by rw [← hy, ← hh]; exact tells.kept u1 u2
      refine ⟨_, rfl, _, rfl, x2, _, st, _, rfl, rfl, SqT.of t2, at_of (j := st.toNat) (by omega) (vrow_getD (by omega)), ?_⟩
      rw [g2]
      refine ⟨_, rfl, _, rfl, _, rfl, x1, _, st, _, rfl, rfl, SqT.of t1, at_of (j := st.toNat) (by omega) (vrow_getD (by omega)), ?_⟩
      rw [g1]
      refine ⟨x2, _, run ts st e1.2, _, rfl, rfl, SqT.of t2, at_of (j := (run ts st e1.2).toNat) (by omega) (vrow_getD (by omega)), ?_⟩
      rw [g3]
      refine ⟨_, _, rfl, ?_⟩
      dsimp only [List.set]
      intro d hd
      have s7 := same_new (o := HO.dK []) hd
      have hd7 : (upd H3 d (.dK [])) d = some (.dK []) := upd_same
      have nd : H3 d = none := hd
      refine gn ?_
      generalize upd H3 d (.dK []) = H7 at s7 hd7 ⊢
      dsimp only
      have bx7 := bx13.same s7
      have hqq : H7 q = some (.lst (mas.map V.ref)) := bx7.lst nqb hq1
      have nq : q ≠ d := fun z => by have := bx13.lst nqb hq1; rw [z, nd] at this; cases this
      have nbd : b ≠ d := fun z => by
        obtain ⟨k1, k2, k3⟩ := bx13.1
        rw [z, nd] at k3
        cases k3
      refine ⟨_, rfl, q, rfl, ⟨_, SqL.of hqq⟩, for_list (K := K) (a := q) (xs := mas.map V.ref) (fun j σ H' => ∃ w10 w11, σ = [some (.ref b), some (.ref p), some (.ref q), some (.int st), some (.int (0 + (i : Int))), some (.ref x1), some (.ref x2), some (.int y), some (.int h), some (.ref d), w10, w11] ∧ (∀ c o, H7 c = some o → c ≠ d → H' c = some o) ∧
          ∃ kvs, H' d = some (.dK kvs) ∧ kvs.length ≤ j ∧ ∀ (x : Int) v, valV kvs (Sum.inl x) = some v ↔ ∃ (i' : Nat) (f : KR), i' < j ∧ F[i']? = some f ∧ f.1.getD y.toNat 0 = x ∧ v = .int (f.1.getD h.toNat 0)) ⟨_, _, rfl, fun _ _ e _ => e, [], hd7, Nat.le_refl _, fun x v => ⟨fun z => (by cases z), fun ⟨i', e, z, _⟩ => absurd z (Nat.not_lt_zero _)⟩⟩ (fun i σ H' _ ⟨_, _, _, kp, _⟩ => SqL.of (kp _ _ hqq nq)) ?_ ?_⟩
      · rintro j x3 σ H8 hx3 ⟨u10, u11, rfl, kp, kvs, hk1, hk2, hk3⟩
        obtain ⟨ma, hma, rfl⟩ : ∃ ma, mas[j]? = some ma ∧ x3 = V.ref ma := by
          rw [List.getElem?_map] at hx3
          cases e : mas[j]? with
          | none => rw [e] at hx3; cases hx3
          | some t => rw [e] at hx3; exact ⟨t, rfl, (Option.some.inj hx3).symm⟩
        have hjF : j < F.length := by rw [← hq2]; exact (List.getElem?_eq_some_iff.mp hma).1
        obtain ⟨e, he⟩ : ∃ e, F[j]? = some e := ⟨F[j], List.getElem?_eq_getElem hjF⟩
        obtain ⟨xb, xc, k1, k2, _⟩ := hq3 j ma e.1 e.2 hma he
        have lx := hxl e (List.mem_of_getElem? he)
        have tupD : ∀ c xs, H c = some (.tup xs) → H8 c = some (.tup xs) := fun c xs g => kp _ _ (bx7.tup hb g) fun z => by
          have := bx13.tup hb g
          rw [z, nd] at this
          cases this
        have q1 := tupD _ _ k1
        have q2 := tupD _ _ k2
        have ay : atI (vrow e.1) y = some (V.int (e.1.getD y.toNat 0)) := at_of (j := y.toNat) (by omega) (vrow_getD (by omega))
        have ah : atI (vrow e.1) h = some (V.int (e.1.getD h.toNat 0)) := at_of (j := h.toNat) (by omega) (vrow_getD (by omega))
        refine ⟨ma, _, rfl, SqT.of q1, rfl, _, _, rfl, _, _, rfl, rfl, ?_⟩
        refine ⟨_, rfl, d, rfl, .inl ⟨kvs, .inl hk1⟩, _, rfl, _, rfl, xb, _, y, _, rfl, rfl, SqT.of q2, ay, _, rfl, _, rfl, xb, _, h, _, rfl, rfl, SqT.of q2, ah, kvs, Sum.inl (e.1.getD y.toNat 0), hk1, rfl, by rw [sizeLine_eq]; omega, fun v hv => ?_, fun hn => ?_⟩
        · obtain ⟨i', f, hi', hf', ey, rfl⟩ := (hk3 _ _).mp hv
          have eq : f.1.getD h.toNat 0 = e.1.getD h.toNat 0 := Classical.byContradiction fun ne => told_no hF hyr hhr (List.mem_of_getElem? hf') (List.mem_of_getElem? he) ey ne td
          refine ⟨_, rfl, _, rfl, xb, _, h, _, rfl, rfl, SqT.of q2, ah, rfl, _, rfl, iteN (by rw [eq]; simp) (nxP ⟨_, _, rfl, kp, kvs, hk1, by omega, fun x v => ?_⟩)⟩
          rw [hk3 x v]
          constructor
          · rintro ⟨i1, g, l1, r⟩
            exact ⟨i1, g, by omega, r⟩
          · rintro ⟨i1, g, l1, h1, k1, k2⟩
            rcases Nat.lt_succ_iff_lt_or_eq.mp l1 with a1 | a1
            · exact ⟨i1, g, a1, h1, k1, k2⟩
            · subst a1
              rw [he] at h1
              obtain rfl := Option.some.inj h1
              exact ⟨i', f, hi', hf', ey.trans k1, by rw [k2, eq]⟩
        · have kpD : ∀ c o, H7 c = some o → c ≠ d → (upd H8 d (.dK (putK kvs (Sum.inl (e.1.getD y.toNat 0)) (.int (e.1.getD h.toNat 0))))) c = some o := fun c o g n => by
            rw [upd_ne n]; exact kp _ _ g n
          have nxb : xb ≠ d := fun z => by rw [z, hk1] at q2; cases q2
          refine ⟨_, rfl, _, rfl, xb, _, h, _, rfl, rfl, SqT.of (by rw [upd_ne nxb]; exact q2), ah, rfl, _, rfl, iteN (by simp) (nxP ?_)⟩
          have new : ∀ (i1 : Nat) (g : KR), i1 < j → F[i1]? = some g → g.1.getD y.toNat 0 ≠ e.1.getD y.toNat 0 := fun i1 g l1 h1 k => by
            have := (hk3 (e.1.getD y.toNat 0) (.int (g.1.getD h.toNat 0))).mpr ⟨i1, g, l1, h1, k, rfl⟩
            rw [hn] at this
            cases this
          refine ⟨_, _, rfl, kpD, _, upd_same, by rw [putK_new _ hn, List.length_append]; show kvs.length + 1 ≤ j + 1; omega, fun x v => ?_⟩
          rw [valV_put]
          by_cases z : x = e.1.getD y.toNat 0
          · subst z
            rw [if_pos rfl]
            constructor
            · intro w
              exact ⟨j, e, Nat.lt_succ_self _, he, rfl, (Option.some.inj w).symm⟩
            · rintro ⟨i1, g, l1, h1, k1, k2⟩
              rcases Nat.lt_succ_iff_lt_or_eq.mp l1 with a1 | a1
              · exact absurd k1 (new i1 g a1 h1)
              · subst a1
                rw [he] at h1
                obtain rfl := Option.some.inj h1
                rw [k2]
          · rw [if_neg (fun w => z (by injection w))]
            rw [hk3 x v]
            constructor
            · rintro ⟨i1, g, l1, r⟩
              exact ⟨i1, g, by omega, r⟩
            · rintro ⟨i1, g, l1, h1, k1, k2⟩
              rcases Nat.lt_succ_iff_lt_or_eq.mp l1 with a1 | a1
              · exact ⟨i1, g, a1, h1, k1, k2⟩
              · subst a1
                rw [he] at h1
                obtain rfl := Option.some.inj h1
                exact absurd k1.symm z
      · rintro σ H8 ⟨u10, u11, rfl, kp, _⟩
        refine ⟨_, _, _, _, _, _, _, _, rfl, ⟨?_, fun c o e n => kp _ _ (bx7.2 _ _ e n) fun z => ?_⟩⟩
        · obtain ⟨k1, k2, k3⟩ := bx7.1
          exact ⟨k1, k2, kp _ _ k3 nbd⟩
        · have := bx13.2 _ _ e n
          rw [z, nd] at this
          cases this
    · rintro σ H1 ⟨v4, v5, v6, v7, v8, v9, v10, v11, rfl, bx1⟩
      exact qq _ bx1
end
end K1
namespace K1
open PySem PySem.Spec PyProof.Rows L2
/-! ### what the law asks of a value -/
theorem ixSK {X : Cx} {K : PySem.W.Frag} (h : X.K = K) : IxR X (fun x y H Q => rIxL K x y H Q ∨ rIxT K x y H Q) := (ixLK h).or (ixTK h)
theorem SeqA.ix {K : PySem.W.Frag} {H : Hp} {p : Addr} {xs : List V} {i : Int} {v : V} {Q : VK} (h : SeqA H p xs) (e : atI xs i = some v) (q : Q v H) : rIxL K (.ref p) (.int i) H Q ∨ rIxT K (.ref p) (.int i) H Q := by
  rcases h with h | h
  · exact .inl ⟨p, xs, i, v, rfl, rfl, SqL.of h, e, q⟩
  · exact .inr ⟨p, xs, i, v, rfl, rfl, SqT.of h, e, q⟩
theorem SeqA.sq {K : PySem.W.Frag} {H : Hp} {p : Addr} {xs : List V} (h : SeqA H p xs) : SqL K H p xs ∨ SqT K H p xs := by
  rcases h with h | h
  · exact .inl (SqL.of h)
  · exact .inr (SqT.of h)
/-- the words that may stand first -/
def WdOk (wd : V) : Prop := wd = .str "untold" ∨ wd = .str "told" ∨ wd = .int 0
/-- items that the law looks at one by one -/
def Sm (x : Option (List V)) : Prop := ∀ xs, x = some xs → xs.length ≤ 200 ∧ ∀ y ∈ xs, Flat y
theorem wd_repr {wd : V} (h : WdOk wd) : ∃ x : Str, (∀ (H : Hp) (Q : VK), Q (.str x) H → rReprS [wd] H Q) ∧ (x = reprText "untold" ↔ wd = .str "untold") := by
  rcases h with rfl | rfl | rfl
  · exact ⟨reprText "untold", fun H Q q => ⟨_, rfl, .inr (.inr (.inr ⟨"untold", rfl, by decide +kernel, q⟩))⟩, fun _ => rfl, fun _ => rfl⟩
  · exact ⟨reprText "told", fun H Q q => ⟨_, rfl, .inr (.inr (.inr ⟨"told", rfl, by decide +kernel, q⟩))⟩, fun z => absurd z (by decide +kernel), fun z => (by injection z with z; exact absurd z (by decide +kernel))⟩
  · exact ⟨toString (0 : Int), fun H Q q => ⟨_, rfl, .inr (.inr (.inl ⟨0, rfl, log_sm (by decide), q⟩))⟩, fun z => absurd z (by decide +kernel), fun z => (by cases z)⟩
/-- a row that the law lets -/
theorem lrB_iff {r : Option (List V)} {n : Int} : lrB r n = true ↔ ∃ row : List Int, r = some (vrow row) ∧ ∀ d ∈ row, 0 ≤ d ∧ d < n := by
  cases r with
  | none => exact ⟨fun z => (by cases z), fun ⟨_, z, _⟩ => (by cases z)⟩
  | some xs =>
    show (xs.all fun x => belowB x n) = true ↔ _
    rw [List.all_eq_true]
    constructor
    · intro h
      have : ∀ ys : List V, (∀ x ∈ ys, belowB x n = true) → ∃ row : List Int, ys = vrow row ∧ ∀ d ∈ row, 0 ≤ d ∧ d < n := fun ys => by
        induction ys with
        | nil => exact fun _ => ⟨[], rfl, fun d hd => absurd hd (by simp)⟩
        | cons y ys ih =>
          intro h
          obtain ⟨row, e1, e2⟩ := ih fun x hx => h x (List.mem_cons_of_mem _ hx)
          have hy := h y List.mem_cons_self
          cases y with
          | int i =>
            have z : (decide (0 ≤ i) && decide (i < n)) = true := hy
            rw [Bool.and_eq_true, decide_eq_true_eq, decide_eq_true_eq] at z
            refine ⟨i :: row, by rw [e1]; rfl, fun d hd => ?_⟩
            rcases List.mem_cons.mp hd with rfl | hd
            · exact z
            · exact e2 d hd
          | _ => cases hy
      obtain ⟨row, e1, e2⟩ := this xs h
      exact ⟨row, by rw [e1], e2⟩
    · rintro ⟨row, e, hr⟩ x hx
      obtain rfl := Option.some.inj e
      obtain ⟨i, hi, rfl⟩ := List.mem_map.mp hx
      obtain ⟨a, b⟩ := hr i hi
      show (decide (0 ≤ i) && decide (i < n)) = true
      rw [decide_eq_true a, decide_eq_true b]; rfl
def spLDue (K : PySem.W.Frag) : Sp := fun vs H Q _ => ∃ p q st F ts u, vs = [.ref p, .ref q, .int st, u] ∧ TabL H p (vts ts) ∧ MapsAt H q F ∧ Fst (actL ts) ts.length (idL (nS ts)) F ∧ F.length ≤ 1000 ∧ Wf ts ∧ (0 ≤ st ∧ st < (nS ts : Int)) ∧
  ((∃ o, KV K H u o ∧ seqB o 5 5 = false ∧ ∀ H', Same H H' → Q (.bl false) H') ∨
   (∃ wd a d x1 x2, Five K H u wd a d x1 x2 ∧ WdOk wd ∧ Sm x1 ∧ Sm x2 ∧ ∀ (b : Bool) H', Same H H' → (b = true ↔ Holds ts st wd a d x1 x2) → Q (.bl b) H'))
section
variable {P : Program} {w : World} {K : PySem.W.Frag} {mg : Str → Option Value} {base : Heap}
abbrev nDu : List Str := ["_law_tables_here", "_law_maps_here", "_law_state", "_law_value", "_law_here", "_law_one"]
theorem scDu : FnScope nDu ["_law_tables_here", "_law_maps_here", "_law_state", "_law_value"] (defScope sLDue) := ⟨rfl, rfl, rfl, by decide +kernel, rfl, by decide +kernel, by decide +kernel⟩
theorem ok_ldue {f fW fR fL : Addr} {fd fdW fdR fdL : FuncData} (D : Df K mg "_law_due" sLDue ["_law_tables_here", "_law_maps_here", "_law_state", "_law_value"] f fd) (DW : Df K mg "_law_whole" sLWhole ["_law_value", "_law_most"] fW fdW) (DR : Df K mg "_law_is_row" sLIsRow ["_law_value", "_law_many"] fR fdR) (DL : Df K mg "_law_led" sLLed ["_law_tables_here", "_law_state", "_law_row"] fL fdL) (B : Bt mg)
    (GW : FnOk P w K mg base CX0 1 fW fdW ["_law_value", "_law_most"] (spLWhole K)) (GR : FnOk P w K mg base CX0 2 fR fdR ["_law_value", "_law_many"] (spLIsRow K)) (GL : FnOk P w K mg base CX0 1 fL fdL ["_law_tables_here", "_law_state", "_law_row"] spLLed) : FnOk P w K mg base CX0 3 f fd ["_law_tables_here", "_law_maps_here", "_law_state", "_law_value"] (spLDue K) := by
  refine D.F.ok scDu (fun vs H Q E h => ?_) (fun cdv A outer s H vs Q E hr h => ?_)
  · obtain ⟨p, q, st, F, ts, u, rfl, _⟩ := h
    rfl
  · obtain ⟨p, q, st, F, ts, u, rfl, tl, hq, hF, hf, hW, hst, qq⟩ := h
    have r1 := hr.mono (show 1 ≤ 2 by decide)
    refine ⟨_, pss_cons (ps_if (PW.pt (pw_or (pt_not (pt_val (pe_callB call_isiT (by rfl) B.isinstance (by decide +kernel) (pa_cons (pv 3) (pa_cons (pe_tup (pa_cons (pe_bltn (v := .ty "list") (by rfl) B.list PyProof.Rows.boot_list rfl) (pa_cons (pe_bltn (v := .ty "tuple") (by rfl) B.tuple PyProof.Rows.boot_tuple rfl) pa_nil))) pa_nil)))))
        (pw_or (pt_cmpR op_ne (pe_callB call_len_seq (by rfl) B.len PySem.boot_len (pa_cons (pv 3) pa_nil)) pe_int (nomark _))
        (pw_or1 (pt_cmpR op_ne (pe_callB call_reprS (by rfl) B.repr (by decide +kernel) (pa_cons (pe_ix (ixSK (K := K) rfl) (pv 3) pe_int (fun _ _ => rfl)) pa_nil)) (pe_callB call_reprS (by rfl) B.repr (by decide +kernel) (pa_cons pe_str pa_nil)) (nomark _)))))) (pss_one (ps_ret pe_bl)) pss_nil)
      (pss_cons (ps_if (PW.pt (pw_or (pt_not (pt_val (pc DW GW r1 pass0 (pa_cons (pe_ix (ixSK (K := K) rfl) (pv 3) pe_int (fun _ _ => rfl)) (pa_cons (pe_callB call_len_seq (by rfl) B.len PySem.boot_len (pa_cons (pe_ix (ixLK (K := K) rfl) (pv 0) pe_int (fun _ _ => rfl)) pa_nil)) pa_nil)))))
        (pw_or1 (pt_cmpR op_notIn_seq (pe_ix (ixSK (K := K) rfl) (pv 3) pe_int (fun _ _ => rfl)) (pe_lc (own := [("_law_one", 5)]) (g := gName 5) (tt := tYes) rfl scDu.nd (piL (K := K) rfl (pv 1)) (blkOk_by (N := nDu) (sc := defScope sLDue) (by decide +kernel)) (fun _ _ _ _ _ => pg_name (i := 5) scDu.nd rfl (Or.inl rfl)) (fun _ _ _ _ _ => pts_nil)
            (fun _ _ _ _ _ => pe_ix (ixTK (K := K) rfl) (pe_ix (ixTK (K := K) rfl) (pv 5) pe_int (fun _ _ => rfl)) (pv 2) (fun _ _ => rfl))) rfl)))) (pss_one (ps_ret pe_bl)) pss_nil)
      (pss_cons (ps_if (PW.pt (pw_or (pt_not (pt_val (pc DW GW r1 pass0 (pa_cons (pe_ix (ixSK (K := K) rfl) (pv 3) pe_int (fun _ _ => rfl)) (pa_cons (pe_callB call_len_seq (by rfl) B.len PySem.boot_len (pa_cons (pv 0) pa_nil)) pa_nil)))))
        (pw_or (pt_not (pt_val (pc DR GR hr pass0 (pa_cons (pe_ix (ixSK (K := K) rfl) (pv 3) pe_int (fun _ _ => rfl)) (pa_cons (pe_callB call_len_seq (by rfl) B.len PySem.boot_len (pa_cons (pv 0) pa_nil)) pa_nil)))))
        (pw_or1 (pt_not (pt_val (pc DR GR hr pass0 (pa_cons (pe_ix (ixSK (K := K) rfl) (pv 3) pe_int (fun _ _ => rfl)) (pa_cons (pe_callB call_len_seq (by rfl) B.len PySem.boot_len (pa_cons (pv 0) pa_nil)) pa_nil))))))))) (pss_one (ps_ret pe_bl)) pss_nil)
      (pss_cons (ps_if (pt_cmpR op_ne (pc DL GL r1 pass0 (pa_cons (pv 0) (pa_cons (pe_ix (ixSK (K := K) rfl) (pv 3) pe_int (fun _ _ => rfl)) (pa_cons (pe_ix (ixSK (K := K) rfl) (pv 3) pe_int (fun _ _ => rfl)) pa_nil)))) (pc DL GL r1 pass0 (pa_cons (pv 0) (pa_cons (pe_ix (ixSK (K := K) rfl) (pv 3) pe_int (fun _ _ => rfl)) (pa_cons (pe_ix (ixSK (K := K) rfl) (pv 3) pe_int (fun _ _ => rfl)) pa_nil)))) (nomark _)) (pss_one (ps_ret pe_bl)) pss_nil)
      (pss_cons (ps_set (i := 4) scDu.nd rfl (.inl rfl) (pe_ix (ixTK (K := K) rfl) (pe_ix (ixLK (K := K) rfl) (pv 0) (pe_ix (ixSK (K := K) rfl) (pv 3) pe_int (fun _ _ => rfl)) (fun _ _ => rfl)) (pe_ix (ixSK (K := K) rfl) (pv 3) pe_int (fun _ _ => rfl)) (fun _ _ => rfl)))
      (pss_one (ps_ret (pe_cmpR op_ne (pc DL GL r1 pass0 (pa_cons (pv 0) (pa_cons (pv 4) (pa_cons (pe_ix (ixSK (K := K) rfl) (pv 3) pe_int (fun _ _ => rfl)) pa_nil)))) (pc DL GL r1 pass0 (pa_cons (pv 0) (pa_cons (pv 4) (pa_cons (pe_ix (ixSK (K := K) rfl) (pv 3) pe_int (fun _ _ => rfl)) pa_nil)))) (nomark _)))))))), ?_⟩
    obtain ⟨mas, hq1, hq2, hq3⟩ := hq
    obtain ⟨tas, tq1, tq2, tq3⟩ := id tl
    have lta : tas.length = ts.length := by rw [tq2, vts, List.length_map]
    have n12 := hW.s12
    have t8 := hW.t8
    have t1 := hW.t1
    rcases qq with ⟨o, ku, h5, q9⟩ | ⟨wd, a, d, x1, x2, ⟨⟨pu, y1, y2, rfl, hu5, w1, w2⟩, sc, ka, kd⟩, hwd, sm1, sm2, q9⟩
    · refine ⟨_, rfl, (by show 2 ≤ sizeLine; decide), fun p0 hp0 => ?_⟩
      have s0 : Same H (upd H p0 (.tup [.ty "list", .ty "tuple"])) := same_new hp0
      obtain ⟨g, ty, eI, eB, eQ⟩ := (ku.same s0).ty
      refine ⟨_, _, _, _, _, _, rfl, upd_same, .cons (.ty _) (.cons (.ty _) .nil), ty, kit_Q K g, _, rfl, ifD (fun c => iteT (q9 _ s0)) fun c => ?_⟩
      have c' : g.isQ = true := by simpa using c
      rw [eQ] at c'
      obtain ⟨xs, rfl⟩ : ∃ xs, o = some xs := by
        cases o with
        | none => cases c'
        | some xs => exact ⟨xs, rfl⟩
      obtain ⟨pu, rfl, hS⟩ := (ku.same s0).seqA
      refine ⟨_, rfl, pu, _, rfl, hS.sq, rfl, _, rfl, ifD (fun c => iteT (q9 _ s0)) fun c => ?_⟩
      exfalso
      have z : (decide ((5 : Int) ≤ (xs.length : Int)) && decide ((xs.length : Int) ≤ 5)) = false := h5
      have l5 : (xs.length : Int) = 5 := by
        have c2 : decide (V.int (xs.length : Int) = V.int 5) = true := by simpa using c
        have := of_decide_eq_true c2
        injection this
      rw [l5] at z
      cases z
    · refine ⟨_, rfl, (by show 2 ≤ sizeLine; decide), fun p0 hp0 => ?_⟩
      have s0 : Same H (upd H p0 (.tup [.ty "list", .ty "tuple"])) := same_new hp0
      obtain ⟨g, ty, eI, eB, eQ⟩ := ((hu5.same s0).kv (K := K)).ty
      refine ⟨_, _, _, _, _, _, rfl, upd_same, .cons (.ty _) (.cons (.ty _) .nil), ty, kit_Q K g, _, rfl, ifD (fun c => ?_) fun _ => ?_⟩
      · rw [eQ] at c
        cases c
      generalize upd H p0 (.tup [.ty "list", .ty "tuple"]) = H1 at s0 ⊢
      have hu1 := hu5.same s0
      refine ⟨_, rfl, pu, _, rfl, hu1.sq, rfl, _, rfl, ifD (fun c => ?_) fun _ => ?_⟩
      · simp at c
      obtain ⟨x, hx, ix⟩ := wd_repr hwd
      refine ⟨_, rfl, hu1.ix (atI_nat (j := 0) rfl) (nilP (hx _ _ ?_))⟩
      refine ⟨_, rfl, .inr (.inr (.inr ⟨"untold", rfl, by decide +kernel, rfl, _, rfl, ifD (fun c => q9 false _ s0 ⟨fun z => (by cases z), fun z => ?_⟩) fun c => ?_⟩))⟩
      · rw [ix.mpr z.1] at c
        simp at c
      have ewd : wd = .str "untold" := ix.mp (by
        have c2 : decide (V.str x = V.str (reprText "untold")) = true := by simpa using c
        have := of_decide_eq_true c2
        injection this)
      refine nxP ?_
      obtain ⟨t0, et0⟩ : ∃ t0, ts[0]? = some t0 := ⟨ts[0]'(by omega), List.getElem?_eq_getElem _⟩
      obtain ⟨ta0, eta0⟩ : ∃ t, tas[0]? = some t := ⟨tas[0]'(by omega), List.getElem?_eq_getElem _⟩
      have hT0 := tq3 0 ta0 (vrow t0) eta0 (by rw [vts, List.getElem?_map, et0]; rfl)
      have l0 : ((vrow t0).length : Int) = (nS ts : Int) := by
        unfold nS
        rw [et0, vrow, List.length_map]; rfl
      refine ⟨_, rfl, hu1.ix (atI_nat (j := 1) rfl) ⟨_, rfl, p, _, 0, .ref ta0, rfl, rfl, SqL.of (s0 _ _ tq1), atI_nat (j := 0) (by rw [List.getElem?_map, eta0]; rfl), ta0, _, rfl, .inr (SqT.of (s0 _ _ hT0)), a, none, _, rfl, ka.same s0, _, rfl, ifD (fun c => iteT (q9 false _ s0 ⟨fun z => (by cases z), fun z => ?_⟩)) fun c => ?_⟩⟩
      · obtain ⟨_, x', _, _, _, rfl, hx', _⟩ := z
        rw [l0, belowI (hx'.rng hW hst)] at c
        cases c
      have hb : belowB a (nS ts : Int) = true := by rw [l0] at c; simpa using c
      obtain ⟨x', rfl, hxr⟩ := belowB_int hb
      refine ⟨_, rfl, hu1.ix (atI_nat (j := 1) rfl) ⟨_, rfl, q, rfl, ⟨_, SqL.of (s0 _ _ hq1)⟩, fun D1 hD1 => lc_list (K := K) (a := q) (xs := mas.map V.ref) (fun i H' => Same H1 H' ∧ H' D1 = some (.lst (((thr F st.toNat).take i).map V.int))) ⟨same_new hD1, by rw [upd_same]; rfl⟩ (fun i H' _ ⟨s, _⟩ => SqL.of (s _ _ (s0 _ _ hq1))) ?_ ?_⟩⟩
      · rintro i x H' hx ⟨s2, hD2⟩
        obtain ⟨ma, hma, rfl⟩ : ∃ ma, mas[i]? = some ma ∧ x = V.ref ma := by
          rw [List.getElem?_map] at hx
          cases e : mas[i]? with
          | none => rw [e] at hx; cases hx
          | some t => rw [e] at hx; exact ⟨t, rfl, (Option.some.inj hx).symm⟩
        have hiF : i < F.length := by rw [← hq2]; exact (List.getElem?_eq_some_iff.mp hma).1
        obtain ⟨e, he⟩ : ∃ e, F[i]? = some e := ⟨F[i], List.getElem?_eq_getElem hiF⟩
        obtain ⟨xb, xc, g1, g2, _⟩ := hq3 i ma e.1 e.2 hma he
        have lx : e.1.length = nS ts := by rw [(hF.mem (List.mem_of_getElem? he)).1, path_run, List.length_map, idL, gL_len]
        have ez : (thr F st.toNat)[i]? = some (e.1.getD st.toNat 0) := by rw [thr, List.getElem?_map, he]; rfl
        refine ⟨rfl, _, rfl, ma, _, 0, _, rfl, rfl, SqT.of (s2 _ _ (s0 _ _ g1)), atI_nat (j := 0) rfl, _, rfl, xb, _, st, .int (e.1.getD st.toNat 0), rfl, rfl, SqT.of (s2 _ _ (s0 _ _ g2)), at_of (j := st.toNat) (by omega) (vrow_getD (by omega)), _, hD2, by rw [List.length_map, List.length_take, sizeLine_eq]; omega, fun d o eo => ?_, ?_⟩
        · rw [upd_ne (ne_of_none eo hD1)]
          exact s2 _ _ eo
        · rw [upd_same, take_succ ez, List.map_append]; rfl
      rintro H2 ⟨s2, hD2⟩
      have e1 : (thr F st.toNat).take (mas.map V.ref).length = thr F st.toNat := by rw [List.take_of_length_le]; rw [thr, List.length_map, List.length_map, hq2]; exact Nat.le_refl _
      rw [e1] at hD2
      have s02 := s0.trans s2
      have hu2 := hu5.same s02
      refine ⟨D1, _, rfl, .inl (SqL.of hD2), rfl, by rw [List.all_eq_true]; intro z hz; obtain ⟨i, _, rfl⟩ := List.mem_map.mp hz; rfl, _, rfl, ifD (fun c3 => q9 false _ s02 ⟨fun z => (by cases z), fun z => ?_⟩) fun c3 => ?_⟩
      · obtain ⟨_, x2', _, _, _, ex, hx', _⟩ := z
        injection ex with ex
        subst ex
        have c3 : (!inV (.int x') (vrow (thr F st.toNat))) = true := c3
        rw [inV_row, decide_eq_true ((thr_rch hF hst x').mpr hx')] at c3
        cases c3
      have hxR : Rch ts st x' := by
        have c3 : (!inV (.int x') (vrow (thr F st.toNat))) = false := c3
        rw [inV_row] at c3
        exact (thr_rch hF hst x').mp (by simpa using c3)
      refine nxP ?_
      -- the deed, the rows
      have lt : ((tas.map V.ref).length : Int) = (ts.length : Int) := by rw [List.length_map, lta]
      refine ⟨_, rfl, hu2.ix (atI_nat (j := 2) rfl) ⟨_, rfl, p, _, rfl, .inl (SqL.of (s02 _ _ tq1)), d, none, _, rfl, kd.same s02, _, rfl, ifD (fun c => iteT (q9 false _ s02 ⟨fun z => (by cases z), fun z => ?_⟩)) fun c => ?_⟩⟩
      · obtain ⟨_, _, e, _, _, _, _, rfl, he, _⟩ := z
        rw [lt, belowI (n := ts.length) he] at c
        cases c
      obtain ⟨e, rfl, he⟩ := belowB_int (show belowB d (ts.length : Int) = true by rw [lt] at c; simpa using c)
      refine ⟨_, rfl, hu2.ix (atI_nat (j := 3) rfl) ⟨_, rfl, p, _, rfl, .inl (SqL.of (s02 _ _ tq1)), y1, x1, _, rfl, (w1.same s02).kv, fun xs e => ⟨by have := (sm1 xs e).1; omega, (sm1 xs e).2⟩, fun H3 s3 => ⟨_, rfl, ifD (fun c => iteT (q9 false _ (s02.trans s3) ⟨fun z => (by cases z), fun z => ?_⟩)) fun c => ?_⟩⟩⟩
      · obtain ⟨_, _, _, r, _, _, _, _, _, er, _, vr, _⟩ := z
        rw [lt, lrB_iff.mpr ⟨r, er, vr⟩] at c
        cases c
      obtain ⟨r, er, vr⟩ := lrB_iff.mp (show lrB x1 (ts.length : Int) = true by rw [lt] at c; simpa using c)
      have s03 := s02.trans s3
      have hu3 := hu5.same s03
      refine ⟨_, rfl, hu3.ix (atI_nat (j := 4) rfl) ⟨_, rfl, p, _, rfl, .inl (SqL.of (s03 _ _ tq1)), y2, x2, _, rfl, (w2.same s03).kv, fun xs e => ⟨by have := (sm2 xs e).1; omega, (sm2 xs e).2⟩, fun H4 s4 => ⟨_, rfl, ifD (fun c => q9 false _ (s03.trans s4) ⟨fun z => (by cases z), fun z => ?_⟩) fun c => ?_⟩⟩⟩
      · obtain ⟨_, _, _, _, r', _, _, _, _, _, er, _, vr', _⟩ := z
        rw [lt, lrB_iff.mpr ⟨r', er, vr'⟩] at c
        cases c
      obtain ⟨r', er', vr'⟩ := lrB_iff.mp (show lrB x2 (ts.length : Int) = true by rw [lt] at c; simpa using c)
      subst er
      subst er'
      have s04 := s03.trans s4
      have hu4 := hu5.same s04
      have tl4 := tl.same s04
      refine nxP ?_
      have lr : r.length ≤ 200 := by have := (sm1 _ rfl).1; rw [vrow, List.length_map] at this; exact this
      have lr' : r'.length ≤ 200 := by have := (sm2 _ rfl).1; rw [vrow, List.length_map] at this; exact this
      obtain ⟨b1, rfl, hs1⟩ := (w1.same s04).kv.seqA
      obtain ⟨b2, rfl, hs2⟩ := (w2.same s04).kv.seqA
      refine ⟨_, rfl, _, rfl, hu4.ix (atI_nat (j := 1) rfl) ⟨_, rfl, hu4.ix (atI_nat (j := 3) rfl) ⟨p, ts, x', b1, r, rfl, tl4, hW, hxr, hs1, vr, ?_⟩⟩⟩
      refine ⟨_, rfl, _, rfl, hu4.ix (atI_nat (j := 1) rfl) ⟨_, rfl, hu4.ix (atI_nat (j := 4) rfl) ⟨p, ts, x', b2, r', rfl, tl4, hW, hxr, hs2, vr', rfl, _, rfl, ifD (fun c => q9 false _ s04 ⟨fun z => (by cases z), fun z => ?_⟩) fun c => ?_⟩⟩⟩
      · obtain ⟨_, xx, ee, q1', q2', ex, _, _, _, e1', e2', _, _, _, _, eq, _⟩ := z
        injection ex with ex
        subst ex
        have i1 : r = q1' := vrow_inj (Option.some.inj e1')
        have i2 : r' = q2' := vrow_inj (Option.some.inj e2')
        subst i1
        subst i2
        rw [eq] at c
        simp at c
      have e7 : run ts x' r = run ts x' r' := by
        have c2 : decide (V.int (run ts x' r) = V.int (run ts x' r')) = true := by simpa using c
        have := of_decide_eq_true c2
        injection this
      refine nxP ?_
      obtain ⟨t, g1, g2, g3⟩ := hW.at_ he hxr
      have hj : e.toNat < tas.length := by have := he.1; have := he.2; omega
      obtain ⟨tj, htj⟩ : ∃ t, tas[e.toNat]? = some t := ⟨_, List.getElem?_eq_getElem hj⟩
      have hT := s04 _ _ (tq3 _ tj (vrow t) htj (by rw [vts, List.getElem?_map, g1]; rfl))
      refine ⟨_, rfl, _, rfl, hu4.ix (atI_nat (j := 2) rfl) ⟨p, _, e, .ref tj, rfl, rfl, SqL.of (s04 _ _ tq1), at_of (j := e.toNat) (by have := he.1; omega) (by rw [List.getElem?_map, htj]; rfl), _, rfl, hu4.ix (atI_nat (j := 1) rfl) ⟨tj, _, x', .int (stp ts x' e), rfl, rfl, SqT.of hT, at_of (j := x'.toNat) (by omega) (by rw [vrow, List.getElem?_map, g2]; rfl), gn ?_⟩⟩⟩
      dsimp only
      refine ⟨_, rfl, _, rfl, _, rfl, hu4.ix (atI_nat (j := 3) rfl) ⟨p, ts, stp ts x' e, b1, r, rfl, tl4, hW, g3, hs1, vr, ?_⟩⟩
      refine ⟨_, rfl, _, rfl, _, rfl, hu4.ix (atI_nat (j := 4) rfl) ⟨p, ts, stp ts x' e, b2, r', rfl, tl4, hW, g3, hs2, vr', rfl, ?_⟩⟩
      refine q9 _ _ s04 ⟨fun z => ⟨ewd, x', e, r, r', rfl, hxR, rfl, he, rfl, rfl, vr, vr', lr, lr', e7, fun w => ?_⟩, fun z => ?_⟩
      · rw [w] at z
        simp at z
      · obtain ⟨_, x'', e', q1', q2', ex, _, ee, _, e1', e2', _, _, _, _, _, ne⟩ := z
        injection ex with ex
        injection ee with ee
        subst ex
        subst ee
        have i1 : r = q1' := vrow_inj (Option.some.inj e1')
        have i2 : r' = q2' := vrow_inj (Option.some.inj e2')
        subst i1
        subst i2
        have nd : ¬ (V.int (run ts (stp ts x' e) r) = V.int (run ts (stp ts x' e) r')) := fun w => by
          injection w with w
          exact ne w
        rw [decide_eq_false nd]; rfl
end
end K1
namespace K1
open PySem PySem.Spec PyProof.Rows L2
/-! ### a paper with one thing changed -/
theorem BoxO.nn {H : Hp} {b p : Addr} (h : BoxO H b) (hp : H p = none) : p ≠ b := (Bx.refl h).ne hp
/-- what may stand as a row in it -/
def RowV (b : Addr) (H : Hp) (y : V) : Prop := y = .non ∨ y = .str "0" ∨ ∃ (a : Addr) (xs : List V), y = .ref a ∧ a ≠ b ∧ SeqA H a xs ∧ xs.length ≤ 200 ∧ ∀ z ∈ xs, Flat z
/-- what may stand as a number in it -/
def ScV (v : V) : Prop := (∃ i, v = .int i) ∨ v = .non ∨ ∃ c, v = .bl c
theorem ScV.kv {K : PySem.W.Frag} {H : Hp} {v : V} (h : ScV v) : KV K H v none := by
  rcases h with ⟨i, rfl⟩ | rfl | ⟨c, rfl⟩
  · exact .int i
  · exact .non
  · exact .bl c
theorem SeqA.bx {b a : Addr} {H H' : Hp} {xs : List V} (h : SeqA H a xs) (n : a ≠ b) (x : Bx b H H') : SeqA H' a xs := by
  rcases h with h | h
  · exact .inl (x.2 _ _ h n)
  · exact .inr (x.2 _ _ h n)
theorem RowV.bx {b : Addr} {H H' : Hp} {y : V} (h : RowV b H y) (x : Bx b H H') : RowV b H' y := by
  rcases h with h | h | ⟨a, xs, e, n, s, l, f⟩
  · exact .inl h
  · exact .inr (.inl h)
  · exact .inr (.inr ⟨a, xs, e, n, s.bx n x, l, f⟩)
theorem RowV.rw_ {b : Addr} {K : PySem.W.Frag} {H : Hp} {y : V} (h : RowV b H y) : ∃ x, Rw K H y x ∧ Sm x := by
  rcases h with rfl | rfl | ⟨a, xs, rfl, n, s, l, f⟩
  · exact ⟨none, ⟨.non, fun ys e => (by cases e)⟩, fun xs e => (by cases e)⟩
  · exact ⟨none, ⟨.str "0", fun ys e => (by cases e)⟩, fun xs e => (by cases e)⟩
  · refine ⟨some xs, ⟨s.kv, fun ys e z hz => ?_⟩, fun ys e => ?_⟩
    · obtain rfl := Option.some.inj e
      exact ⟨none, flat_kv (f z hz)⟩
    · obtain rfl := Option.some.inj e
      exact ⟨l, f⟩
def ValOk (K : PySem.W.Frag) (H : Hp) (u : V) : Prop := (∃ o, KV K H u o ∧ seqB o 5 5 = false) ∨ ∃ wd a d x1 x2, Five K H u wd a d x1 x2 ∧ WdOk wd ∧ Sm x1 ∧ Sm x2
theorem val_five {b p : Addr} {K : PySem.W.Frag} {H : Hp} {wd a d y1 y2 : V} (h : SeqA H p [wd, a, d, y1, y2]) (hw : WdOk wd) (ha : ScV a) (hd : ScV d) (h1 : RowV b H y1) (h2 : RowV b H y2) : ValOk K H (.ref p) := by
  obtain ⟨x1, r1, s1⟩ := h1.rw_ (K := K)
  obtain ⟨x2, r2, s2⟩ := h2.rw_ (K := K)
  refine .inr ⟨wd, a, d, x1, x2, ⟨⟨p, y1, y2, rfl, h, r1, r2⟩, ?_, ha.kv, hd.kv⟩, hw, s1, s2⟩
  rcases hw with rfl | rfl | rfl <;> rfl
theorem vrow_flat {r : List Int} {n : Nat} (hn : n ≤ 1000) (h : ∀ d ∈ r, 0 ≤ d ∧ d < (n : Int)) : ∀ z ∈ vrow r, Flat z := fun z hz => by
  obtain ⟨i, hi, rfl⟩ := List.mem_map.mp hz
  have := h i hi
  exact .inl ⟨i, rfl, by omega⟩
/-- a told paper, or one like it -/
structure PapAt (H : Hp) (pv : Addr) (x d : Int) (a c : Addr) (r1 r2 : List Int) : Prop where
  hp : H pv = some (.tup [.str "untold", .int x, .int d, .ref a, .ref c])
  ha : H a = some (.tup (vrow r1))
  hc : H c = some (.tup (vrow r2))
def spLBent (K : PySem.W.Frag) : Sp := fun vs H Q _ => ∃ b p ts pv x d a c r1 r2, vs = [.ref b, .ref p, .ref pv] ∧ BoxO H b ∧ TabL H p (vts ts) ∧ p ≠ b ∧ Wf ts ∧ PapAt H pv x d a c r1 r2 ∧ VRow ts r1 ∧ VRow ts r2 ∧ r1.length ≤ 150 ∧ r2.length ≤ 150 ∧ ∀ u H', Bx b H H' → ValOk K H' u → Q u H'
section
variable {P : Program} {w : World} {K : PySem.W.Frag} {mg : Str → Option Value} {base : Heap}
abbrev nBe : List Str := ["_law_box_here", "_law_tables_here", "_law_value", "_law_found", "_law_way", "_law_many", "_law_at", "_law_row", "_law_spot", "_law_some"]
theorem scBe : FnScope nBe ["_law_box_here", "_law_tables_here", "_law_value"] (defScope sLBent) := ⟨rfl, rfl, rfl, by decide +kernel, rfl, by decide +kernel, by decide +kernel⟩
theorem bent_end {f fK : Addr} {fdK : FuncData} {cdv : Value} {A : Around} {outer : List Env} {s : Shared} {H₀ : Hp} {E : XK} (DK : Df K mg "_law_pick" sPick ["_law_box_here", "_law_some"] fK fdK) (B : Bt mg) (GK : FnOk P w K mg base CX0 2 fK fdK ["_law_box_here", "_law_some"] spPick) (hr : Room 2 (A.deeper (envOfC "_law_bent" (defScope sLBent) s.heap.objs.size f cdv))) :
    ∃ t, PSs (cxOf CX0 P w K mg base nBe "_law_bent" (defScope sLBent) f cdv A outer s H₀ E).nox ((defBody sLBent).drop 2) t ∧
      ∀ (D : Ends) (H : Hp) (b l : Addr) (wd a d y1 y2 : V) (v1 v2 v4 v5 v6 v7 v8 v9 : Option V), BoxO H b → l ≠ b → H l = some (.lst [wd, a, d, y1, y2]) → WdOk wd → ScV a → ScV d → RowV b H y1 → RowV b H y2 →
        (∀ u H', Bx b H H' → ValOk K H' u → D.rt u H') → t D [some (.ref b), v1, v2, some (.ref l), v4, v5, v6, v7, v8, v9] H := by
  refine ⟨_, pss_one (ps_ret (pc DK GK hr pass0 (pa_cons (pv 0) (pa_cons (pe_lst (pa_cons (pv 3) (pa_cons (pe_callTy call_tuple_of (by rfl) B.tuple PyProof.Rows.boot_tuple (pa_cons (pv 3) pa_nil)) pa_nil))) pa_nil)))),
    fun D H b l wd a d y1 y2 v1 v2 v4 v5 v6 v7 v8 v9 hb nl hl hw ha hd h1 h2 q => ?_⟩
  refine ⟨_, rfl, _, rfl, _, rfl, l, _, rfl, .inl ⟨SqL.of hl, fun t ht => ⟨(by show 2 ≤ sizeLine; decide), fun p hp => ?_⟩⟩⟩
  have s1 := same_new (o := HO.tup [wd, a, d, y1, y2]) ht
  have s2 := same_new (o := HO.lst [V.ref l, .ref t]) hp
  have s12 := s1.trans s2
  have ht2 : (upd (upd H t (.tup [wd, a, d, y1, y2])) p (.lst [V.ref l, .ref t])) t = some (.tup [wd, a, d, y1, y2]) := s2 _ _ upd_same
  have hl2 := s12 _ _ hl
  have np : p ≠ b := (hb.same s1).nn hp
  refine ⟨b, p, _, rfl, hb.same s12, upd_same, np, (by show 1 ≤ 2; decide), (by show 2 ≤ 1000; decide), fun i v H' hi bx => ?_⟩
  have bx' : Bx b H H' := Same.bx s12 bx
  have nt : t ≠ b := hb.nn ht
  have g1 := h1.bx bx'
  have g2 := h2.bx bx'
  have e1 : SeqA H' l [wd, a, d, y1, y2] := .inl (bx'.2 _ _ hl nl)
  have e2 : SeqA H' t [wd, a, d, y1, y2] := .inr (bx.2 _ _ ht2 nt)
  match i, hi with
  | 0, hi =>
    obtain rfl : V.ref l = v := Option.some.inj hi
    exact q _ _ bx' (val_five e1 hw ha hd g1 g2)
  | 1, hi =>
    obtain rfl : V.ref t = v := Option.some.inj hi
    exact q _ _ bx' (val_five e2 hw ha hd g1 g2)
  | (n + 2), hi => cases hi
end
end K1
namespace K1
open PySem PySem.Spec PyProof.Rows L2
theorem cut_take {xs : List V} {k : Nat} : cutV xs none (some (k : Int)) = xs.take k := by
  unfold cutV
  rw [HT.sIx_none, HT.sIx_nat, List.drop_zero, Nat.sub_zero]
  rcases Nat.le_total k xs.length with h | h
  · rw [Nat.min_eq_left h]
  · rw [Nat.min_eq_right h, List.take_length, List.take_of_length_le h]
theorem cut_drop {xs : List V} {k : Nat} : cutV xs (some (k : Int)) none = xs.drop k := by
  unfold cutV
  rw [HT.sIx_none, HT.sIx_nat]
  rcases Nat.le_total k xs.length with h | h
  · rw [Nat.min_eq_left h, List.take_of_length_le]
    rw [List.length_drop]; exact Nat.le_refl _
  · rw [Nat.min_eq_right h, List.drop_of_length_le h, List.drop_of_length_le (Nat.le_refl _), List.take_nil]
theorem RowV.lst {b q : Addr} {H : Hp} {xs : List V} (h : H q = some (.lst xs)) (n : q ≠ b) (l : xs.length ≤ 200) (f : ∀ z ∈ xs, Flat z) : RowV b H (.ref q) := .inr (.inr ⟨q, xs, rfl, n, .inl h, l, f⟩)
section
variable {P : Program} {w : World} {K : PySem.W.Frag} {mg : Str → Option Value} {base : Heap}
theorem ok_lbent {f fK fT : Addr} {fd fdK fdT : FuncData} (D : Df K mg "_law_bent" sLBent ["_law_box_here", "_law_tables_here", "_law_value"] f fd) (DK : Df K mg "_law_pick" sPick ["_law_box_here", "_law_some"] fK fdK) (DT : Df K mg "_law_take" sTake ["_law_box_here", "_law_many"] fT fdT) (B : Bt mg)
    (GK : FnOk P w K mg base CX0 2 fK fdK ["_law_box_here", "_law_some"] spPick) (GT : FnOk P w K mg base CX0 1 fT fdT ["_law_box_here", "_law_many"] spTake) : FnOk P w K mg base CX0 3 f fd ["_law_box_here", "_law_tables_here", "_law_value"] (spLBent K) := by
  refine D.F.ok scBe (fun vs H Q E h => ?_) (fun cdv A outer s H vs Q E hr h => ?_)
  · obtain ⟨b, p, ts, pp, x, d, a, c, r1, r2, rfl, _⟩ := h
    rfl
  · obtain ⟨b, p, ts, pp, x, d, a, c, r1, r2, rfl, hb, tl, npb, hW, pap, v1, v2, l1, l2, qq⟩ := h
    have k1 := hr.mono (show 1 ≤ 2 by decide)
    obtain ⟨te, hte, qe⟩ := bent_end (P := P) (w := w) (base := base) (outer := outer) (H₀ := H) (E := E) DK B GK hr
    refine ⟨_, pss_cons (ps_par3 (i := 3) (j := 4) (l := 5) rfl scBe.nd rfl rfl rfl (by decide) (by decide) (by decide) rfl rfl rfl (pa_cons (pe_callTy call_list_of (by rfl) B.list PyProof.Rows.boot_list (pa_cons (pv 2) pa_nil)) (pa_cons (pc DT GT k1 pass0 (pa_cons (pv 0) (pa_cons pe_int pa_nil))) (pa_cons (pe_callB call_len_seq (by rfl) B.len PySem.boot_len (pa_cons (pv 1) pa_nil)) pa_nil))) rfl)
      (pss_cons (ps_if (pt_cmpR op_eq (pv 4) pe_int (nomark _))
          (pss_one (ps_asg (pc DK GK hr pass0 (pa_cons (pv 0) (pa_cons (pe_op op_cat (pe_lst (pa_cons (pe_callB call_len_seq (by rfl) B.len PySem.boot_len (pa_cons (pe_ix (ixLK (K := K) rfl) (pv 1) pe_int (fun _ _ => rfl)) pa_nil)) (pa_cons pe_non (pa_cons pe_bl (pa_cons (pe_op op_sub pe_int pe_int) pa_nil)))))
              (pe_listRg rfl (by rfl) B.list (prg_1 (by rfl) B.range (pe_callB call_len_seq (by rfl) B.len PySem.boot_len (pa_cons (pe_ix (ixLK (K := K) rfl) (pv 1) pe_int (fun _ _ => rfl)) pa_nil))))) pa_nil))) (pg_sub (pv 3) pe_int set_list)))
          (pss_one (ps_if (pt_cmpR op_eq (pv 4) pe_int (nomark _))
            (pss_one (ps_asg (pc DK GK hr pass0 (pa_cons (pv 0) (pa_cons (pe_op op_cat (pe_lst (pa_cons (pv 5) (pa_cons pe_non (pa_cons pe_bl (pa_cons (pe_op op_sub pe_int pe_int) pa_nil))))) (pe_listRg rfl (by rfl) B.list (prg_1 (by rfl) B.range (pv 5)))) pa_nil))) (pg_sub (pv 3) pe_int set_list)))
            (pss_one (ps_if (pt_cmpR op_lt (pv 4) pe_int (nomark _))
              (pss_cons (ps_set (i := 6) scBe.nd rfl (.inl rfl) (pe_op op_add (pv 4) pe_int))
              (pss_cons (ps_set (i := 7) scBe.nd rfl (.inl rfl) (pe_callTy call_list_of (by rfl) B.list PyProof.Rows.boot_list (pa_cons (pe_ix (ixLK (K := K) rfl) (pv 3) (pv 6) (fun _ _ => rfl)) pa_nil)))
              (pss_cons (ps_set (i := 8) scBe.nd rfl (.inl rfl) (pc DT GT k1 pass0 (pa_cons (pv 0) (pa_cons (pe_op op_add (pe_callB call_len_seq (by rfl) B.len PySem.boot_len (pa_cons (pv 7) pa_nil)) pe_int) pa_nil))))
              (pss_cons (ps_set (i := 9) scBe.nd rfl (.inl rfl) (pe_lst
                (pa_cons (pe_op op_cat (pe_op op_cat (pe_slice sl_list (pv 7) po_none (po_some (pv 8))) (pe_lst (pa_cons (pc DT GT k1 pass0 (pa_cons (pv 0) (pa_cons (pv 5) pa_nil))) pa_nil))) (pe_slice sl_list (pv 7) (po_some (pv 8)) po_none))
                (pa_cons (pe_op op_cat (pe_slice sl_list (pv 7) po_none (po_some (pv 8))) (pe_slice sl_list (pv 7) (po_some (pe_op op_add (pv 8) pe_int)) po_none))
                (pa_cons (pe_op op_cat (pv 7) (pe_lst (pa_cons (pv 5) pa_nil)))
                (pa_cons (pe_op op_cat (pv 7) (pe_lst (pa_cons pe_bl pa_nil)))
                (pa_cons pe_non (pa_cons pe_str (pa_cons (pe_callTy call_tuple_of (by rfl) B.tuple PyProof.Rows.boot_tuple (pa_cons (pv 7) pa_nil))
                (pa_cons (pe_callTy call_list_of (by rfl) B.list PyProof.Rows.boot_list (pa_cons (pe_ix (ixTK (K := K) rfl) (pv 2) (pe_op op_sub pe_int (pv 6)) (fun _ _ => rfl)) pa_nil)) pa_nil))))))))))
              (pss_one (ps_asg (pc DK GK hr pass0 (pa_cons (pv 0) (pa_cons (pv 9) pa_nil))) (pg_sub (pv 3) (pv 6) set_list)))))))
              (pss_one (ps_if (pt_cmpR op_eq (pv 4) pe_int (nomark _))
                (pss_one (ps_asg (pe_tup (pa_cons (pe_ix (ixLK (K := K) rfl) (pv 3) pe_int (fun _ _ => rfl)) (pa_cons (pe_ix (ixLK (K := K) rfl) (pv 3) pe_int (fun _ _ => rfl)) pa_nil))) (pg_tup rfl (pgs_cons (pg_sub (pv 3) pe_int set_list) (pgs_cons (pg_sub (pv 3) pe_int set_list) pgs_nil)))))
                (pss_one (ps_ret (pc DK GK hr pass0 (pa_cons (pv 0) (pa_cons (pe_lst
                  (pa_cons pe_non (pa_cons (pe_tup pa_nil) (pa_cons pe_str (pa_cons (pe_slice sl_list (pv 3) (po_some pe_int) po_none)
                  (pa_cons (pe_op op_cat (pv 3) (pe_lst (pa_cons pe_int pa_nil)))
                  (pa_cons (pe_op op_catT (pe_tup (pa_cons pe_str pa_nil)) (pe_callTy call_tuple_of (by rfl) B.tuple PyProof.Rows.boot_tuple (pa_cons (pe_slice (slT (K := K) rfl) (pv 2) (po_some pe_int) po_none) pa_nil)))
                  (pa_cons (pe_op op_catT (pe_tup (pa_cons pe_int pa_nil)) (pe_callTy call_tuple_of (by rfl) B.tuple PyProof.Rows.boot_tuple (pa_cons (pe_slice (slT (K := K) rfl) (pv 2) (po_some pe_int) po_none) pa_nil))) pa_nil)))))))) pa_nil))))))))))))
      hte), ?_⟩
    have n1 := hW.s1
    have n12 := hW.s12
    have t8 := hW.t8
    have t1 := hW.t1
    obtain ⟨tas, tq1, tq2, tq3⟩ := id tl
    have lta : tas.length = ts.length := by rw [tq2, vts, List.length_map]
    obtain ⟨t0, et0⟩ : ∃ t0, ts[0]? = some t0 := ⟨ts[0]'(by omega), List.getElem?_eq_getElem _⟩
    obtain ⟨ta0, eta0⟩ : ∃ t, tas[0]? = some t := ⟨tas[0]'(by omega), List.getElem?_eq_getElem _⟩
    have hT0 := tq3 0 ta0 (vrow t0) eta0 (by rw [vts, List.getElem?_map, et0]; rfl)
    have l0 : ((vrow t0).length : Int) = (nS ts : Int) := by
      unfold nS
      rw [et0, vrow, List.length_map]; rfl
    have na : a ≠ b := hb.ne pap.ha fun xs => by intro z; cases z
    have nc : c ≠ b := hb.ne pap.hc fun xs => by intro z; cases z
    refine ⟨_, rfl, pp, _, rfl, .inr (SqT.of pap.hp), fun l hl => ?_⟩
    have nlb : l ≠ b := hb.nn hl
    have s1 := same_new (o := HO.lst [.str "untold", .int x, .int d, .ref a, .ref c]) hl
    have hl1 : (upd H l (.lst [.str "untold", .int x, .int d, .ref a, .ref c])) l = some (.lst [.str "untold", .int x, .int d, .ref a, .ref c]) := upd_same
    generalize upd H l (.lst [.str "untold", .int x, .int d, .ref a, .ref c]) = H1 at s1 hl1 ⊢
    refine ⟨_, rfl, b, _, rfl, hb.same s1, by decide, by decide, fun way H2 w0 w1 bx1 => ?_⟩
    have bx2 : Bx b H H2 := Same.bx s1 bx1
    have hl2 : H2 l = some (.lst [.str "untold", .int x, .int d, .ref a, .ref c]) := bx1.2 _ _ hl1 nlb
    have nlp : p ≠ l := fun z => by rw [z, hl] at tq1; cases tq1
    have tp2 := bx2.2 _ _ tq1 npb
    have tt2 := bx2.tup hb hT0
    have rv1 : RowV b H (.ref a) := .inr (.inr ⟨a, _, rfl, na, .inr pap.ha, by rw [vrow, List.length_map]; omega, vrow_flat (n := ts.length) (by omega) v1⟩)
    have rv2 : RowV b H (.ref c) := .inr (.inr ⟨c, _, rfl, nc, .inr pap.hc, by rw [vrow, List.length_map]; omega, vrow_flat (n := ts.length) (by omega) v2⟩)
    have hw : WdOk (.str "untold") := .inl rfl
    have lt : ((tas.map V.ref).length : Int) = (ts.length : Int) := by rw [List.length_map, lta]
    refine ⟨_, rfl, p, _, rfl, .inl (SqL.of tp2), _, _, _, rfl, ?_⟩
    dsimp only [List.set]
    rw [lt]
    -- what picked numbers are
    have sc : ∀ (n : Int) (cb : Bool) (i : Nat) (v : V), ([V.int n, .non, .bl cb, .int (0 - 1)] ++ rgV 0 n)[i]? = some v → ScV v := fun n cb i v hi => by
      have hm := List.mem_of_getElem? hi
      rcases List.mem_append.mp hm with hm | hm
      · simp only [List.mem_cons, List.mem_nil_iff, or_false] at hm
        rcases hm with rfl | rfl | rfl | rfl
        · exact .inl ⟨_, rfl⟩
        · exact .inr (.inl rfl)
        · exact .inr (.inr ⟨_, rfl⟩)
        · exact .inl ⟨_, rfl⟩
      · obtain ⟨j, _, rfl⟩ := List.mem_map.mp hm
        exact .inl ⟨_, rfl⟩
    have hb2 := bx2.1
    refine ⟨_, rfl, rfl, _, rfl, ifD (fun c0 => ?_) fun c0 => ?_⟩
    · -- another archive
      refine ⟨_, rfl, _, rfl, p, _, 0, .ref ta0, rfl, rfl, SqL.of tp2, atI_nat (j := 0) (by rw [List.getElem?_map, eta0]; rfl), ta0, _, rfl, .inr (SqT.of tt2), _, _, rfl, rfl, (by show 4 ≤ sizeLine; decide), fun q1 hq1 => ?_⟩
      have u1 := same_new (o := HO.lst [V.int ((vrow t0).length : Nat), .non, .bl true, .int (0 - 1)]) hq1
      refine ⟨_, rfl, p, _, 0, .ref ta0, rfl, rfl, SqL.of (u1 _ _ tp2), atI_nat (j := 0) (by rw [List.getElem?_map, eta0]; rfl), ta0, _, rfl, .inr (SqT.of (u1 _ _ tt2)), _, rfl, RgOk.of_le (by decide) (by omega) (by decide) (by omega), fun q2 hq2 => ?_⟩
      have u2 := same_new (o := HO.lst (rgV 0 ((vrow t0).length : Nat))) hq2
      refine ⟨q1, q2, _, _, rfl, rfl, u2 _ _ upd_same, upd_same, by rw [rgV_length, sizeLine_eq]; simp only [List.length_cons, List.length_nil]; omega, fun q3 hq3 => ?_⟩
      have u3 := same_new (o := HO.lst ([V.int ((vrow t0).length : Nat), .non, .bl true, .int (0 - 1)] ++ rgV 0 ((vrow t0).length : Nat))) hq3
      have u13 := (u1.trans u2).trans u3
      refine ⟨b, q3, _, rfl, hb2.same u13, upd_same, ((hb2.same u1).same u2).nn hq3, by simp, by rw [List.length_append, rgV_length]; simp only [List.length_cons, List.length_nil]; omega, fun i v H' hi bx => ?_⟩
      have bx3 := Same.bx u13 bx
      refine ⟨_, rfl, l, _, 1, 1, rfl, rfl, bx3.2 _ _ hl2 nlb, rfl, ?_⟩
      have bxF : Bx b H (upd H' l (.lst [.str "untold", v, .int d, .ref a, .ref c])) := (bx2.trans bx3).put hl nlb
      exact qe _ _ b l _ _ _ _ _ _ _ _ _ _ _ _ _ bxF.1 nlb upd_same hw (sc _ _ i v hi) (.inl ⟨_, rfl⟩) (rv1.bx bxF) (rv2.bx bxF) fun u H'' bx vo => qq u H'' (bxF.trans bx) vo
    refine ⟨_, rfl, rfl, _, rfl, ifD (fun c1 => ?_) fun c1 => ?_⟩
    · -- another deed
      refine ⟨_, rfl, _, rfl, _, _, rfl, rfl, (by show 4 ≤ sizeLine; decide), fun q1 hq1 => ?_⟩
      have u1 := same_new (o := HO.lst [V.int (ts.length : Int), .non, .bl false, .int (0 - 1)]) hq1
      refine ⟨_, rfl, _, rfl, RgOk.of_le (by decide) (by omega) (by decide) (by omega), fun q2 hq2 => ?_⟩
      have u2 := same_new (o := HO.lst (rgV 0 (ts.length : Int))) hq2
      refine ⟨q1, q2, _, _, rfl, rfl, u2 _ _ upd_same, upd_same, by rw [rgV_length, sizeLine_eq]; simp only [List.length_cons, List.length_nil]; omega, fun q3 hq3 => ?_⟩
      have u3 := same_new (o := HO.lst ([V.int (ts.length : Int), .non, .bl false, .int (0 - 1)] ++ rgV 0 (ts.length : Int))) hq3
      have u13 := (u1.trans u2).trans u3
      refine ⟨b, q3, _, rfl, hb2.same u13, upd_same, ((hb2.same u1).same u2).nn hq3, by simp, by rw [List.length_append, rgV_length]; simp only [List.length_cons, List.length_nil]; omega, fun i v H' hi bx => ?_⟩
      have bx3 := Same.bx u13 bx
      refine ⟨_, rfl, l, _, 2, 2, rfl, rfl, bx3.2 _ _ hl2 nlb, rfl, ?_⟩
      have bxF : Bx b H (upd H' l (.lst [.str "untold", .int x, v, .ref a, .ref c])) := (bx2.trans bx3).put hl nlb
      exact qe _ _ b l _ _ _ _ _ _ _ _ _ _ _ _ _ bxF.1 nlb upd_same hw (.inl ⟨_, rfl⟩) (sc _ _ i v hi) (rv1.bx bxF) (rv2.bx bxF) fun u H'' bx vo => qq u H'' (bxF.trans bx) vo
    refine ⟨_, rfl, _, _, rfl, rfl, _, rfl, ifD (fun c2 => ?_) fun c2 => ?_⟩
    · -- another row
      have hway : way = 2 ∨ way = 3 := by
        have e0 : way ≠ 0 := fun z => by rw [z] at c0; simp at c0
        have e1 : way ≠ 1 := fun z => by rw [z] at c1; simp at c1
        have e2 : way < 4 := by simpa using c2
        omega
      obtain ⟨ya, yo, r, ro, j, iA, iO, gA, gO, vA, vO, lA, lO, hj, hset⟩ : ∃ (ya yo : Addr) (r ro : List Int) (j : Nat), atI [V.str "untold", .int x, .int d, .ref a, .ref c] (way + 1) = some (.ref ya) ∧ atI [V.str "untold", .int x, .int d, .ref a, .ref c] (7 - (way + 1)) = some (.ref yo) ∧ H ya = some (.tup (vrow r)) ∧ H yo = some (.tup (vrow ro)) ∧ VRow ts r ∧ VRow ts ro ∧ r.length ≤ 150 ∧ ro.length ≤ 150 ∧
          ixN [V.str "untold", .int x, .int d, .ref a, .ref c].length (way + 1) = some j ∧ ∀ (G : Hp) (v : V), Bx b H G → RowV b G v → ∃ y1 y2, [V.str "untold", .int x, .int d, .ref a, .ref c].set j v = [.str "untold", .int x, .int d, y1, y2] ∧ RowV b G y1 ∧ RowV b G y2 := by
        rcases hway with rfl | rfl
        · exact ⟨a, c, r1, r2, 3, atI_nat (j := 3) rfl, atI_nat (j := 4) rfl, pap.ha, pap.hc, v1, v2, l1, l2, rfl, fun G v bx hv => ⟨v, .ref c, rfl, hv, rv2.bx bx⟩⟩
        · exact ⟨c, a, r2, r1, 4, atI_nat (j := 4) rfl, atI_nat (j := 3) rfl, pap.hc, pap.ha, v2, v1, l2, l1, rfl, fun G v bx hv => ⟨.ref a, v, rfl, rv1.bx bx, hv⟩⟩
      have nya : ya ≠ b := hb.ne gA fun xs => by intro z; cases z
      have nyo : yo ≠ b := hb.ne gO fun xs => by intro z; cases z
      have fA : ∀ z ∈ vrow r, Flat z := vrow_flat (n := ts.length) (by omega) vA
      have fO : ∀ z ∈ vrow ro, Flat z := vrow_flat (n := ts.length) (by omega) vO
      have lv : (vrow r).length = r.length := by rw [vrow, List.length_map]
      refine ⟨_, rfl, _, _, rfl, rfl, ?_⟩
      refine gn ?_
      dsimp only [List.set]
      refine ⟨_, rfl, _, rfl, l, _, way + 1, _, rfl, rfl, SqL.of hl2, iA, ya, _, rfl, .inr (SqT.of (bx2.tup hb gA)), fun r0 hr0 => ?_⟩
      have nr0 : r0 ≠ b := hb2.nn hr0
      have u1 := same_new (o := HO.lst (vrow r)) hr0
      have g1 : (upd H2 r0 (.lst (vrow r))) r0 = some (.lst (vrow r)) := upd_same
      have z1 : Bx b H (upd H2 r0 (.lst (vrow r))) := bx2.same u1
      have hl3 := u1 _ _ hl2
      generalize upd H2 r0 (.lst (vrow r)) = G1 at u1 g1 z1 hl3 ⊢
      refine gn ?_
      dsimp only [List.set]
      refine ⟨_, rfl, _, rfl, r0, _, rfl, .inl (SqL.of g1), _, _, rfl, rfl, b, _, rfl, z1.1, by omega, by omega, fun sp G2 sp0 sp1 y1 => ?_⟩
      have z2 := z1.trans y1
      have g2 := y1.2 _ _ g1 nr0
      have hl4 := y1.2 _ _ hl3 nlb
      obtain ⟨k, rfl⟩ : ∃ k : Nat, sp = (k : Int) := ⟨sp.toNat, by omega⟩
      have hk : k ≤ r.length := by omega
      refine gn ?_
      dsimp only [List.set]
      -- one deed more
      refine ⟨_, rfl, _, rfl, _, rfl, r0, _, rfl, SqL.of g2, fun p1 hp1 => ?_⟩
      rw [cut_take]
      have np1 : p1 ≠ b := z2.1.nn hp1
      have z3 : Bx b H (upd G2 p1 (.lst ((vrow r).take k))) := z2.new hp1
      have b3 := same_new (o := HO.lst ((vrow r).take k)) hp1
      have hp1' : (upd G2 p1 (.lst ((vrow r).take k))) p1 = some (.lst ((vrow r).take k)) := upd_same
      generalize upd G2 p1 (.lst ((vrow r).take k)) = G3 at z3 b3 hp1' ⊢
      refine ⟨_, rfl, _, rfl, b, _, rfl, z3.1, by omega, by omega, fun tk G4 tk0 tk1 y2 => ?_⟩
      have z4 := z3.trans y2
      have b4 : Bx b G2 G4 := Same.bx b3 y2
      refine ⟨(by show 1 ≤ sizeLine; decide), fun p2 hp2 => ?_⟩
      have np2 : p2 ≠ b := z4.1.nn hp2
      have b5 := same_new (o := HO.lst [V.int tk]) hp2
      refine ⟨p1, p2, _, _, rfl, rfl, b5 _ _ (y2.2 _ _ hp1' np1), upd_same, by rw [List.length_take, sizeLine_eq]; simp only [List.length_cons, List.length_nil]; omega, fun p3 hp3 => ?_⟩
      have b6 := same_new (o := HO.lst ((vrow r).take k ++ [V.int tk])) hp3
      have np3 : p3 ≠ b := (z4.same b5).1.nn hp3
      have z6 := (z4.same b5).same b6
      have y6 := (b4.same b5).same b6
      have hp3' : (upd (upd G4 p2 (.lst [V.int tk])) p3 (.lst ((vrow r).take k ++ [V.int tk]))) p3 = some (.lst ((vrow r).take k ++ [V.int tk])) := upd_same
      generalize upd (upd G4 p2 (.lst [V.int tk])) p3 (.lst ((vrow r).take k ++ [V.int tk])) = G6 at z6 y6 hp3' ⊢
      clear b6 b5
      refine ⟨_, rfl, _, rfl, _, rfl, r0, _, rfl, SqL.of (y6.2 _ _ g2 nr0), fun p4 hp4 => ?_⟩
      rw [cut_drop]
      have b7 := same_new (o := HO.lst ((vrow r).drop k)) hp4
      refine ⟨p3, p4, _, _, rfl, rfl, b7 _ _ hp3', upd_same, by rw [List.length_append, List.length_take, List.length_drop, sizeLine_eq]; simp only [List.length_cons, List.length_nil]; omega, fun p5 hp5 => ?_⟩
      have b8 := same_new (o := HO.lst ((vrow r).take k ++ [V.int tk] ++ (vrow r).drop k)) hp5
      have np5 : p5 ≠ b := (z6.same b7).1.nn hp5
      have z8 := (z6.same b7).same b8
      have y8 := (y6.same b7).same b8
      have R1 : RowV b (upd (upd G6 p4 (.lst ((vrow r).drop k))) p5 (.lst ((vrow r).take k ++ [V.int tk] ++ (vrow r).drop k))) (.ref p5) := RowV.lst upd_same np5 (by simp only [List.length_append, List.length_take, List.length_drop, List.length_cons, List.length_nil]; omega) fun z hz => by
        rcases List.mem_append.mp hz with hz | hz
        · rcases List.mem_append.mp hz with hz | hz
          · exact fA z (List.mem_of_mem_take hz)
          · rw [List.mem_singleton.mp hz]
            exact .inl ⟨tk, rfl, by omega⟩
        · exact fA z (List.mem_of_mem_drop hz)
      generalize upd (upd G6 p4 (.lst ((vrow r).drop k))) p5 (.lst ((vrow r).take k ++ [V.int tk] ++ (vrow r).drop k)) = G8 at z8 y8 R1 ⊢
      clear b8 b7 hp3' hp1'
      -- one deed less
      refine ⟨_, rfl, _, rfl, _, rfl, r0, _, rfl, SqL.of (y8.2 _ _ g2 nr0), fun p6 hp6 => ?_⟩
      rw [cut_take]
      have b9 := same_new (o := HO.lst ((vrow r).take k)) hp6
      have e9 : (V.int ((k : Int) + 1)) = V.int ((k + 1 : Nat) : Int) := rfl
      refine ⟨_, rfl, _, rfl, _, _, rfl, rfl, _, rfl, r0, _, rfl, SqL.of (b9 _ _ (y8.2 _ _ g2 nr0)), fun p7 hp7 => ?_⟩
      rw [show ((k : Int) + 1) = ((k + 1 : Nat) : Int) from rfl, cut_drop]
      have b10 := same_new (o := HO.lst ((vrow r).drop (k + 1))) hp7
      refine ⟨p6, p7, _, _, rfl, rfl, b10 _ _ upd_same, upd_same, by rw [List.length_take, List.length_drop, sizeLine_eq]; omega, fun p8 hp8 => ?_⟩
      have b11 := same_new (o := HO.lst ((vrow r).take k ++ (vrow r).drop (k + 1))) hp8
      have np8 : p8 ≠ b := ((z8.same b9).same b10).1.nn hp8
      have z11 := ((z8.same b9).same b10).same b11
      have y11 := ((y8.same b9).same b10).same b11
      have R1' := R1.bx ((((Bx.refl z8.1).same b9).same b10).same b11)
      have R2 : RowV b (upd (upd (upd G8 p6 (.lst ((vrow r).take k))) p7 (.lst ((vrow r).drop (k + 1)))) p8 (.lst ((vrow r).take k ++ (vrow r).drop (k + 1)))) (.ref p8) := RowV.lst upd_same np8 (by simp only [List.length_append, List.length_take, List.length_drop]; omega) fun z hz => by
        rcases List.mem_append.mp hz with hz | hz
        · exact fA z (List.mem_of_mem_take hz)
        · exact fA z (List.mem_of_mem_drop hz)
      generalize upd (upd (upd G8 p6 (.lst ((vrow r).take k))) p7 (.lst ((vrow r).drop (k + 1)))) p8 (.lst ((vrow r).take k ++ (vrow r).drop (k + 1))) = G11 at z11 y11 R1' R2 ⊢
      clear b9 b10 b11 R1
      -- what is no deed behind
      refine ⟨_, rfl, _, rfl, (by show 1 ≤ sizeLine; decide), fun p9 hp9 => ?_⟩
      have b12 := same_new (o := HO.lst [V.int (ts.length : Int)]) hp9
      refine ⟨r0, p9, _, _, rfl, rfl, b12 _ _ (y11.2 _ _ g2 nr0), upd_same, by rw [sizeLine_eq]; simp only [List.length_cons, List.length_nil]; omega, fun p10 hp10 => ?_⟩
      have b13 := same_new (o := HO.lst (vrow r ++ [V.int (ts.length : Int)])) hp10
      have np10 : p10 ≠ b := (z11.same b12).1.nn hp10
      have z13 := (z11.same b12).same b13
      have y13 := (y11.same b12).same b13
      have up1 := ((Bx.refl z11.1).same b12).same b13
      have S1 := R1'.bx up1
      have S2 := R2.bx up1
      have S3 : RowV b (upd (upd G11 p9 (.lst [V.int (ts.length : Int)])) p10 (.lst (vrow r ++ [V.int (ts.length : Int)]))) (.ref p10) := RowV.lst upd_same np10 (by simp only [List.length_append, List.length_cons, List.length_nil]; omega) fun z hz => by
        rcases List.mem_append.mp hz with hz | hz
        · exact fA z hz
        · rw [List.mem_singleton.mp hz]
          exact .inl ⟨_, rfl, by omega⟩
      generalize upd (upd G11 p9 (.lst [V.int (ts.length : Int)])) p10 (.lst (vrow r ++ [V.int (ts.length : Int)])) = G13 at z13 y13 S1 S2 S3 ⊢
      clear b12 b13 R1' R2 up1
      -- a bool behind
      refine ⟨_, rfl, (by show 1 ≤ sizeLine; decide), fun p11 hp11 => ?_⟩
      have b14 := same_new (o := HO.lst [V.bl true]) hp11
      refine ⟨r0, p11, _, _, rfl, rfl, b14 _ _ (y13.2 _ _ g2 nr0), upd_same, by rw [sizeLine_eq]; simp only [List.length_cons, List.length_nil]; omega, fun p12 hp12 => ?_⟩
      have b15 := same_new (o := HO.lst (vrow r ++ [V.bl true])) hp12
      have np12 : p12 ≠ b := (z13.same b14).1.nn hp12
      have z15 := (z13.same b14).same b15
      have y15 := (y13.same b14).same b15
      have up2 := ((Bx.refl z13.1).same b14).same b15
      have T1 := S1.bx up2
      have T2 := S2.bx up2
      have T3 := S3.bx up2
      have T4 : RowV b (upd (upd G13 p11 (.lst [V.bl true])) p12 (.lst (vrow r ++ [V.bl true]))) (.ref p12) := RowV.lst upd_same np12 (by simp only [List.length_append, List.length_cons, List.length_nil]; omega) fun z hz => by
        rcases List.mem_append.mp hz with hz | hz
        · exact fA z hz
        · rw [List.mem_singleton.mp hz]
          exact .inr (.inl ⟨_, rfl⟩)
      generalize upd (upd G13 p11 (.lst [V.bl true])) p12 (.lst (vrow r ++ [V.bl true])) = G15 at z15 y15 T1 T2 T3 T4 ⊢
      clear b14 b15 S1 S2 S3 up2
      -- as a tuple, and the other row as a list
      refine ⟨_, rfl, r0, _, rfl, .inl ⟨SqL.of (y15.2 _ _ g2 nr0), fun p13 hp13 => ?_⟩⟩
      have b16 := same_new (o := HO.tup (vrow r)) hp13
      have np13 : p13 ≠ b := z15.1.nn hp13
      have vO16 := (z15.same b16).tup hb pap.hp
      refine ⟨_, rfl, _, rfl, _, _, rfl, rfl, pp, _, 7 - (way + 1), _, rfl, rfl, SqT.of vO16, iO, yo, _, rfl, .inr (SqT.of ((z15.same b16).tup hb gO)), fun p14 hp14 => ?_⟩
      have b17 := same_new (o := HO.lst (vrow ro)) hp14
      have np14 : p14 ≠ b := (z15.same b16).1.nn hp14
      have z17 := (z15.same b16).same b17
      have up3 := ((Bx.refl z15.1).same b16).same b17
      have T5 : RowV b (upd (upd G15 p13 (.tup (vrow r))) p14 (.lst (vrow ro))) (.ref p13) := .inr (.inr ⟨p13, vrow r, rfl, np13, .inr (b17 _ _ upd_same), by omega, fA⟩)
      have T6 : RowV b (upd (upd G15 p13 (.tup (vrow r))) p14 (.lst (vrow ro))) (.ref p14) := RowV.lst upd_same np14 (by rw [vrow, List.length_map]; omega) fO
      have Q1 := T1.bx up3
      have Q2 := T2.bx up3
      have Q3 := T3.bx up3
      have Q4 := T4.bx up3
      have hl5 := up3.2 _ _ (y15.2 _ _ hl4 nlb) nlb
      generalize upd (upd G15 p13 (.tup (vrow r))) p14 (.lst (vrow ro)) = G17 at z17 T5 T6 Q1 Q2 Q3 Q4 hl5 ⊢
      refine ⟨(by show 8 ≤ sizeLine; decide), fun p15 hp15 => ?_⟩
      have b18 := same_new (o := HO.lst [V.ref p5, .ref p8, .ref p10, .ref p12, .non, .str "0", .ref p13, .ref p14]) hp15
      have np15 : p15 ≠ b := z17.1.nn hp15
      have g18 : (upd G17 p15 (.lst [V.ref p5, .ref p8, .ref p10, .ref p12, .non, .str "0", .ref p13, .ref p14])) p15 = some (.lst [V.ref p5, .ref p8, .ref p10, .ref p12, .non, .str "0", .ref p13, .ref p14]) := upd_same
      have z18 := z17.same b18
      have hl6 := b18 _ _ hl5
      have all8 : ∀ v ∈ [V.ref p5, .ref p8, .ref p10, .ref p12, .non, .str "0", .ref p13, .ref p14], RowV b (upd G17 p15 (.lst [V.ref p5, .ref p8, .ref p10, .ref p12, .non, .str "0", .ref p13, .ref p14])) v := fun v hv => by
        have up4 := (Bx.refl z17.1).same b18
        simp only [List.mem_cons, List.mem_nil_iff, or_false] at hv
        rcases hv with rfl | rfl | rfl | rfl | rfl | rfl | rfl | rfl
        · exact Q1.bx up4
        · exact Q2.bx up4
        · exact Q3.bx up4
        · exact Q4.bx up4
        · exact .inl rfl
        · exact .inr (.inl rfl)
        · exact T5.bx up4
        · exact T6.bx up4
      generalize upd G17 p15 (.lst [V.ref p5, .ref p8, .ref p10, .ref p12, .non, .str "0", .ref p13, .ref p14]) = G18 at z18 g18 hl6 all8 ⊢
      refine gn ?_
      dsimp only [List.set]
      refine ⟨_, rfl, _, rfl, b, p15, _, rfl, z18.1, g18, np15, (by show 1 ≤ 8; decide), (by show 8 ≤ 1000; decide), fun i v H' hi bx => ?_⟩
      refine ⟨_, rfl, _, rfl, l, _, way + 1, j, rfl, rfl, bx.2 _ _ hl6 nlb, hj, ?_⟩
      have bxV : Bx b H H' := z18.trans bx
      have hv := (all8 v (List.mem_of_getElem? hi)).bx bx
      have bxF : Bx b H (upd H' l (.lst ([V.str "untold", .int x, .int d, .ref a, .ref c].set j v))) := bxV.put hl nlb
      have hvF : RowV b (upd H' l (.lst ([V.str "untold", .int x, .int d, .ref a, .ref c].set j v))) v := by
        rcases hv with hv | hv | ⟨q, xs, e, n, sq, le, fl⟩
        · exact .inl hv
        · exact .inr (.inl hv)
        · have nql : q ≠ l := fun z => by
            have hL := bx.2 _ _ hl6 nlb
            have eX : xs = [V.str "untold", .int x, .int d, .ref a, .ref c] := by
              rw [z] at sq
              rcases sq with h | h
              · rw [hL] at h
                injection h with h
                injection h with h
                exact h.symm
              · rw [hL] at h
                cases h
            have := fl (V.str "untold") (by rw [eX]; exact List.mem_cons_self)
            rcases this with ⟨i, h, _⟩ | ⟨c, h⟩ | h <;> cases h
          exact .inr (.inr ⟨q, xs, e, n, sq.imp (fun h => by rw [upd_ne nql]; exact h) (fun h => by rw [upd_ne nql]; exact h), le, fl⟩)
      obtain ⟨y1', y2', es, ry1, ry2⟩ := hset _ v bxF hvF
      exact qe _ _ b l _ _ _ _ _ _ _ _ _ _ _ _ _ bxF.1 nlb (by rw [upd_same, es]) hw (.inl ⟨_, rfl⟩) (.inl ⟨_, rfl⟩) ry1 ry2 fun u H'' bx vo => qq u H'' (bxF.trans bx) vo
    refine ⟨_, rfl, rfl, _, rfl, ifD (fun c3 => ?_) fun c3 => ?_⟩
    · -- the rows the other way round
      have i3 : atI [V.str "untold", .int x, .int d, .ref a, .ref c] 3 = some (.ref a) := atI_nat (j := 3) rfl
      have i4 : atI [V.str "untold", .int x, .int d, .ref a, .ref c] 4 = some (.ref c) := atI_nat (j := 4) rfl
      refine ⟨_, rfl, l, _, 4, _, rfl, rfl, SqL.of hl2, i4, _, rfl, l, _, 3, _, rfl, rfl, SqL.of hl2, i3, (by show 2 ≤ sizeLine; decide), fun t ht => ?_⟩
      have u1 := same_new (o := HO.tup [V.ref c, .ref a]) ht
      refine ⟨t, _, rfl, SqT.of upd_same, rfl, _, _, rfl, _, rfl, l, _, 3, 3, rfl, rfl, u1 _ _ hl2, rfl, ?_⟩
      refine ⟨_, _, rfl, _, rfl, l, _, 4, 4, rfl, rfl, upd_same, rfl, ?_⟩
      have bxF := (((bx2.same u1).put (o := .lst [.str "untold", .int x, .int d, .ref c, .ref c]) hl nlb).put (o := .lst [.str "untold", .int x, .int d, .ref c, .ref a]) hl nlb)
      refine ⟨rfl, ?_⟩
      exact qe _ _ b l _ _ _ _ _ _ _ _ _ _ _ _ _ bxF.1 nlb upd_same hw (.inl ⟨_, rfl⟩) (.inl ⟨_, rfl⟩) (rv2.bx bxF) (rv1.bx bxF) fun u H'' bx vo => qq u H'' (bxF.trans bx) vo
    -- no paper, or another word
    refine ⟨_, rfl, (by show 0 ≤ sizeLine; decide), fun e0 he0 => ?_⟩
    have b1 := same_new (o := HO.tup []) he0
    have ne0 : e0 ≠ b := hb2.nn he0
    refine ⟨_, rfl, _, rfl, l, _, rfl, SqL.of (b1 _ _ hl2), fun q1 hq1 => ?_⟩
    have hq1' : (upd (upd H2 e0 (.tup [])) q1 (.lst (cutV [V.str "untold", .int x, .int d, .ref a, .ref c] (some 1) none))) q1 = some (.lst [V.int x, .int d, .ref a, .ref c]) := by rw [upd_same]; rfl
    have nq1 : q1 ≠ b := (hb2.same b1).nn hq1
    have b2 := same_new (o := HO.lst (cutV [V.str "untold", .int x, .int d, .ref a, .ref c] (some 1) none)) hq1
    have he0' := b2 _ _ (upd_same (H := H2) (a := e0) (o := .tup []))
    have z2 := (bx2.same b1).same b2
    have hl3 := b2 _ _ (b1 _ _ hl2)
    generalize upd (upd H2 e0 (.tup [])) q1 (.lst (cutV [V.str "untold", .int x, .int d, .ref a, .ref c] (some 1) none)) = G2 at hq1' he0' z2 hl3 ⊢
    clear b1 b2
    refine ⟨_, rfl, (by show 1 ≤ sizeLine; decide), fun q2 hq2 => ?_⟩
    have b3 := same_new (o := HO.lst [V.int 0]) hq2
    refine ⟨l, q2, _, _, rfl, rfl, b3 _ _ hl3, upd_same, by rw [sizeLine_eq]; simp only [List.length_cons, List.length_nil]; omega, fun q3 hq3 => ?_⟩
    have b4 := same_new (o := HO.lst ([V.str "untold", .int x, .int d, .ref a, .ref c] ++ [V.int 0])) hq3
    have nq3 : q3 ≠ b := (z2.same b3).1.nn hq3
    have hq3' : (upd (upd G2 q2 (.lst [V.int 0])) q3 (.lst ([V.str "untold", .int x, .int d, .ref a, .ref c] ++ [V.int 0]))) q3 = some (.lst [V.str "untold", .int x, .int d, .ref a, .ref c, .int 0]) := upd_same
    have hq1'' := b4 _ _ (b3 _ _ hq1')
    have he0'' := b4 _ _ (b3 _ _ he0')
    have z4 := (z2.same b3).same b4
    generalize upd (upd G2 q2 (.lst [V.int 0])) q3 (.lst ([V.str "untold", .int x, .int d, .ref a, .ref c] ++ [V.int 0])) = G4 at hq1'' he0'' hq3' z4 ⊢
    clear b3 b4 hl3 hq1' he0'
    have nwh : ¬ (HT.sIx [V.str "untold", .int x, .int d, .ref a, .ref c].length 0 (some 1) = 0 ∧ HT.sIx [V.str "untold", .int x, .int d, .ref a, .ref c].length [V.str "untold", .int x, .int d, .ref a, .ref c].length none = [V.str "untold", .int x, .int d, .ref a, .ref c].length) := fun z => absurd z.1 (by show ¬ HT.sIx 5 0 (some 1) = 0; decide)
    refine ⟨(by show 1 ≤ sizeLine; decide), fun t1 ht1 => ?_⟩
    have b5 := same_new (o := HO.tup [V.str "told"]) ht1
    refine ⟨_, rfl, _, rfl, pp, _, rfl, SqT.of ((z4.same b5).tup hb pap.hp), nwh, fun t2 ht2 => ?_⟩
    have b6 := same_new (o := HO.tup (cutV [V.str "untold", .int x, .int d, .ref a, .ref c] (some 1) none)) ht2
    refine ⟨t2, _, rfl, .inr ⟨SqT.of upd_same, t1, t2, _, _, rfl, rfl, SqT.of (b6 _ _ upd_same), SqT.of upd_same, by simp, by have := cutV_length [V.str "untold", .int x, .int d, .ref a, .ref c] (some 1) none; rw [sizeLine_eq]; simp only [List.length_cons, List.length_nil] at this ⊢; omega, fun z => absurd (show [V.int x, .int d, .ref a, .ref c] = [] from z) (by simp), fun _ t3 ht3 => ?_⟩⟩
    have b7 := same_new (o := HO.tup ([V.str "told"] ++ cutV [V.str "untold", .int x, .int d, .ref a, .ref c] (some 1) none)) ht3
    have nt3 : t3 ≠ b := ((z4.same b5).same b6).1.nn ht3
    have ht3' : (upd (upd (upd G4 t1 (.tup [V.str "told"])) t2 (.tup (cutV [V.str "untold", .int x, .int d, .ref a, .ref c] (some 1) none))) t3 (.tup ([V.str "told"] ++ cutV [V.str "untold", .int x, .int d, .ref a, .ref c] (some 1) none))) t3 = some (.tup [V.str "told", .int x, .int d, .ref a, .ref c]) := by rw [upd_same]; rfl
    have b57 := (b5.trans b6).trans b7
    have z7 := z4.same b57
    have hq1 := b57 _ _ hq1''
    have he0 := b57 _ _ he0''
    have hq3 := b57 _ _ hq3'
    generalize upd (upd (upd G4 t1 (.tup [V.str "told"])) t2 (.tup (cutV [V.str "untold", .int x, .int d, .ref a, .ref c] (some 1) none))) t3 (.tup ([V.str "told"] ++ cutV [V.str "untold", .int x, .int d, .ref a, .ref c] (some 1) none)) = G7 at ht3' hq1 he0 hq3 z7 ⊢
    clear b5 b6 b7 b57 hq1'' he0'' hq3'
    refine ⟨(by show 1 ≤ sizeLine; decide), fun t4 ht4 => ?_⟩
    have b5 := same_new (o := HO.tup [V.int 0]) ht4
    refine ⟨_, rfl, _, rfl, pp, _, rfl, SqT.of ((z7.same b5).tup hb pap.hp), nwh, fun t5 ht5 => ?_⟩
    have b6 := same_new (o := HO.tup (cutV [V.str "untold", .int x, .int d, .ref a, .ref c] (some 1) none)) ht5
    refine ⟨t5, _, rfl, .inr ⟨SqT.of upd_same, t4, t5, _, _, rfl, rfl, SqT.of (b6 _ _ upd_same), SqT.of upd_same, by simp, by have := cutV_length [V.str "untold", .int x, .int d, .ref a, .ref c] (some 1) none; rw [sizeLine_eq]; simp only [List.length_cons, List.length_nil] at this ⊢; omega, fun z => absurd (show [V.int x, .int d, .ref a, .ref c] = [] from z) (by simp), fun _ t6 ht6 => ?_⟩⟩
    have b7 := same_new (o := HO.tup ([V.int 0] ++ cutV [V.str "untold", .int x, .int d, .ref a, .ref c] (some 1) none)) ht6
    have nt6 : t6 ≠ b := ((z7.same b5).same b6).1.nn ht6
    have ht6' : (upd (upd (upd G7 t4 (.tup [V.int 0])) t5 (.tup (cutV [V.str "untold", .int x, .int d, .ref a, .ref c] (some 1) none))) t6 (.tup ([V.int 0] ++ cutV [V.str "untold", .int x, .int d, .ref a, .ref c] (some 1) none))) t6 = some (.tup [V.int 0, .int x, .int d, .ref a, .ref c]) := by rw [upd_same]; rfl
    have b57 := (b5.trans b6).trans b7
    have z8 := z7.same b57
    have kq1 := b57 _ _ hq1
    have ke0 := b57 _ _ he0
    have kq3 := b57 _ _ hq3
    have kt3 := b57 _ _ ht3'
    generalize upd (upd (upd G7 t4 (.tup [V.int 0])) t5 (.tup (cutV [V.str "untold", .int x, .int d, .ref a, .ref c] (some 1) none))) t6 (.tup ([V.int 0] ++ cutV [V.str "untold", .int x, .int d, .ref a, .ref c] (some 1) none)) = G8 at ht6' kq1 ke0 kq3 kt3 z8 ⊢
    refine ⟨(by show 7 ≤ sizeLine; decide), fun p7 hp7 => ?_⟩
    have b8 := same_new (o := HO.lst [V.non, .ref e0, .str "untold", .ref q1, .ref q3, .ref t3, .ref t6]) hp7
    have np7 : p7 ≠ b := z8.1.nn hp7
    refine ⟨b, p7, _, rfl, z8.1.same b8, upd_same, np7, (by show 1 ≤ 7; decide), (by show 7 ≤ 1000; decide), fun i v H' hi bx => ?_⟩
    have bxF : Bx b H H' := (z8.same b8).trans bx
    have kk := fun (q : Addr) (o : HO) (e : G8 q = some o) (n : q ≠ b) => bx.2 _ _ (b8 _ _ e) n
    have hv := List.mem_of_getElem? hi
    refine qq _ _ bxF ?_
    simp only [List.mem_cons, List.mem_nil_iff, or_false] at hv
    rcases hv with rfl | rfl | rfl | rfl | rfl | rfl | rfl
    · exact .inl ⟨none, .non, rfl⟩
    · exact .inl ⟨some [], .tup (kk _ _ ke0 ne0), rfl⟩
    · exact .inl ⟨none, .str _, rfl⟩
    · exact .inl ⟨_, .lst (kk _ _ kq1 nq1), rfl⟩
    · exact .inl ⟨_, .lst (kk _ _ kq3 nq3), rfl⟩
    · exact val_five (.inr (kk _ _ kt3 nt3)) (.inr (.inl rfl)) (.inl ⟨_, rfl⟩) (.inl ⟨_, rfl⟩) (rv1.bx bxF) (rv2.bx bxF)
    · exact val_five (.inr (kk _ _ ht6' nt6)) (.inr (.inr rfl)) (.inl ⟨_, rfl⟩) (.inl ⟨_, rfl⟩) (rv1.bx bxF) (rv2.bx bxF)
end
end K1
namespace K1
open PySem PySem.Spec PyProof.Rows L2
/-! ### what stays behind a heard call: all but the source and the tables of code -/
section
variable {b : Addr} {T : List (Addr × Str)} {H H1 H2 : Hp}
def Rl (b : Addr) (T : List (Addr × Str)) (H H' : Hp) : Prop := BoxO H' b ∧ LamX.Tabs T H' ∧ ∀ c o, H c = some o → c ≠ b → (∀ ps, o ≠ .tbl ps) → H' c = some o
theorem Rl.refl (hb : BoxO H b) (t : LamX.Tabs T H) : Rl b T H H := ⟨hb, t, fun _ _ e _ _ => e⟩
theorem Rl.trans (a : Rl b T H H1) (c : Rl b T H1 H2) : Rl b T H H2 := ⟨c.1, c.2.1, fun d o e n1 n2 => c.2.2 d o (a.2.2 d o e n1 n2) n1 n2⟩
theorem Rl.same (a : Rl b T H H1) (s : Same H1 H2) : Rl b T H H2 := ⟨a.1.same s, a.2.1.ext s, fun c o e n1 n2 => s _ _ (a.2.2 c o e n1 n2)⟩
theorem Rl.new {p : Addr} {o : HO} (a : Rl b T H H1) (hp : H1 p = none) : Rl b T H (upd H1 p o) := a.same (same_new hp)
theorem tabs_bx (t : LamX.Tabs T H1) (hb : BoxO H1 b) (x : Bx b H1 H2) : LamX.Tabs T H2 := fun p hp => by
  obtain ⟨ps, h1, h2, h3⟩ := t p hp
  refine ⟨ps, x.2 _ _ h1 (hb.ne h1 fun xs => by intro z; cases z), h2, fun pos cv hc => ?_⟩
  obtain ⟨c, e1, e2⟩ := h3 pos cv hc
  exact ⟨c, e1, x.2 _ _ e2 (hb.ne e2 fun xs => by intro z; unfold LamX.CodeO at z; cases z)⟩
theorem Rl.bx (a : Rl b T H H1) (x : Bx b H1 H2) : Rl b T H H2 := ⟨x.1, tabs_bx a.2.1 a.1 x, fun c o e n1 n2 => x.2 _ _ (a.2.2 c o e n1 n2) n1⟩
theorem BoxO.ext (h : BoxO H1 b) (e : LamX.ExtN H1 H2) : BoxO H2 b := let ⟨x, y, q⟩ := h; ⟨x, y, e _ _ q (fun ps z => by cases z)⟩
theorem Rl.ext (a : Rl b T H H1) (e : LamX.ExtN H1 H2) (t : LamX.Tabs T H2) : Rl b T H H2 := ⟨a.1.ext e, t, fun c o q n1 n2 => e _ _ (a.2.2 c o q n1 n2) n2⟩
theorem Rl.tup {c : Addr} {xs : List V} (a : Rl b T H H1) (hb : BoxO H b) (h : H c = some (.tup xs)) : H1 c = some (.tup xs) := a.2.2 _ _ h (hb.ne h fun xs => by intro z; cases z) (fun ps z => by cases z)
theorem Rl.lst {c : Addr} {xs : List V} (a : Rl b T H H1) (n : c ≠ b) (h : H c = some (.lst xs)) : H1 c = some (.lst xs) := a.2.2 _ _ h n (fun ps z => by cases z)
theorem Rl.tabL {p : Addr} {ts : List (List V)} (a : Rl b T H H1) (hb : BoxO H b) (n : p ≠ b) (h : TabL H p ts) : TabL H1 p ts :=
  let ⟨as, h1, h2, h3⟩ := h
  ⟨as, a.lst n h1, h2, fun i c t e1 e2 => a.tup hb (h3 i c t e1 e2)⟩
theorem Rl.mach {M m ta : Addr} {ts : List (List V)} (a : Rl b T H H1) (hb : BoxO H b) (h : MachAt M H m ta ts) : MachAt M H1 m ta ts :=
  let ⟨⟨dx, t0, h0, h1⟩, as, k1, k2, k3⟩ := h
  ⟨⟨dx, t0, h0, a.2.2 _ _ h1 (hb.ne h1 fun xs => by intro z; cases z) (fun ps z => by cases z)⟩, as, a.tup hb k1, k2, fun i c t e1 e2 => a.tup hb (k3 i c t e1 e2)⟩
end
theorem TabL.mv {K : PySem.W.Frag} {H : Hp} {p : Addr} {ts : Ts} (h : TabL H p (vts ts)) : Mv K H (.ref p) (some ((vts ts).map some)) := by
  obtain ⟨as, h1, h2, h3⟩ := h
  refine .yes (xs := as.map V.ref) (.lst h1) ⟨by rw [List.length_map, List.length_map, h2], fun i x r e1 e2 => ?_⟩
  rw [List.getElem?_map] at e1 e2
  cases ea : as[i]? with
  | none => rw [ea] at e1; cases e1
  | some a =>
    cases et : (vts ts)[i]? with
    | none => rw [et] at e2; cases e2
    | some t =>
      rw [ea] at e1
      rw [et] at e2
      obtain rfl : V.ref a = x := Option.some.inj e1
      obtain rfl : some t = r := Option.some.inj e2
      refine ⟨.tup (h3 i a t ea et), fun ys e y hy => ?_⟩
      obtain rfl : t = ys := Option.some.inj e
      rw [vts, List.getElem?_map] at et
      cases e3 : ts[i]? with
      | none => rw [e3] at et; cases et
      | some t' =>
        rw [e3] at et
        obtain rfl : vrow t' = t := Option.some.inj et
        obtain ⟨j, _, rfl⟩ := List.mem_map.mp hy
        exact ⟨_, .int j⟩
theorem isTab_row {t : List Int} {n : Nat} (hl : t.length = n) (h : ∀ i ∈ t, 0 ≤ i ∧ i < (n : Int)) : isTab (some (vrow t)) (n : Int) = true := by
  show (seqB (some (vrow t)) (n : Int) (n : Int) && decide (fnb (vrow t) (n : Int) = V.non)) = true
  have e1 : seqB (some (vrow t)) (n : Int) (n : Int) = true := by
    show (decide ((n : Int) ≤ ((vrow t).length : Int)) && decide (((vrow t).length : Int) ≤ (n : Int))) = true
    rw [vrow, List.length_map, hl]
    simp
  rw [e1, fnb_all fun x hx => ?_]; rfl
  obtain ⟨i, hi, rfl⟩ := List.mem_map.mp hx
  obtain ⟨h1, h2⟩ := h i hi
  show (decide (0 ≤ i) && decide (i < (n : Int))) = true
  rw [decide_eq_true h1, decide_eq_true h2]; rfl
theorem chk_wf {ts : Ts} (w : Wf ts) : chkAt (some ((vts ts).map some)) = none := by
  have h1 := w.t1; have h8 := w.t8; have s1 := w.s1; have s12 := w.s12
  have e0 : ((vts ts).map some)[0]? = some (some (vrow ts[0])) := by
    rw [vts, List.map_map, List.getElem?_map, List.getElem?_eq_getElem (by omega)]; rfl
  have el : (vrow ts[0]).length = nS ts := by
    rw [vrow, List.length_map]
    exact (w.row _ (List.getElem_mem _)).1
  show (if ((vts ts).map some).length < 1 ∨ 8 < ((vts ts).map some).length then some (-1) else _) = _
  rw [if_neg (by simp only [vts, List.length_map]; omega), e0]
  show (if (vrow ts[0]).length < 1 ∨ 12 < (vrow ts[0]).length then some 0 else _) = _
  rw [if_neg (by omega), find_none fun j y _ hy => ?_]; rfl
  rw [vts, List.map_map, List.getElem?_map] at hy
  cases e : ts[j]? with
  | none => rw [e] at hy; cases hy
  | some t =>
    rw [e] at hy
    obtain rfl : some (vrow t) = y := Option.some.inj hy
    obtain ⟨r1, r2⟩ := w.row t (List.mem_of_getElem? e)
    rw [el, isTab_row r1 r2]; rfl
theorem mkS {H H' : Hp} {m dx : Addr} {o1 o2 : HO} (hm : H m = none) (hd : H dx = none) (k : ∀ b u, (upd (upd H dx o1) m o2) b = some u → b ≠ m → H' b = some u) : Same H H' := fun c o e =>
  k c o (by rw [upd_ne (ne_of_none e hm), upd_ne (ne_of_none e hd)]; exact e) (ne_of_none e hm)
theorem TabL.row {H : Hp} {p : Addr} {ts : Ts} (h : TabL H p (vts ts)) {i : Nat} {t : List Int} (e : ts[i]? = some t) : ∃ (as : List Addr) (a : Addr), H p = some (.lst (as.map V.ref)) ∧ as.length = ts.length ∧ as[i]? = some a ∧ H a = some (.tup (vrow t)) := by
  obtain ⟨as, h1, h2, h3⟩ := h
  have la : as.length = ts.length := by rw [h2, vts, List.length_map]
  have hi : i < as.length := by rw [la]; exact (List.getElem?_eq_some_iff.mp e).1
  exact ⟨as, as[i], h1, la, List.getElem?_eq_getElem hi, h3 i _ _ (List.getElem?_eq_getElem hi) (by rw [vts, List.getElem?_map, e]; rfl)⟩
theorem map_some : ∀ {a b : List (List V)}, a.map some = b.map some → a = b
  | [], [], _ => rfl
  | [], _ :: _, h => by cases h
  | _ :: _, [], h => by cases h
  | x :: a, y :: b, h => by
    rw [List.map_cons, List.map_cons] at h
    injection h with h1 h2
    rw [Option.some.inj h1, map_some h2]
theorem kindsR {K : PySem.W.Frag} {H : Hp} {row : List Int} : ∀ ys, some (vrow row) = some ys → Kinds K H ys := fun ys e y hy => by
  obtain rfl := Option.some.inj e
  obtain ⟨j, _, rfl⟩ := List.mem_map.mp hy
  exact ⟨_, .int j⟩
theorem MapsAt.rl {b q : Addr} {T : List (Addr × Str)} {H H1 : Hp} {F : List KR} (h : MapsAt H q F) (hb : BoxO H b) (n : q ≠ b) (r : Rl b T H H1) : MapsAt H1 q F :=
  let ⟨as, h1, h2, h3⟩ := h
  ⟨as, r.lst n h1, h2, fun i a x y e1 e2 => let ⟨c, d, g1, g2, g3⟩ := h3 i a x y e1 e2; ⟨c, d, r.tup hb g1, r.tup hb g2, r.tup hb g3⟩⟩
theorem sqL_rl {K : PySem.W.Frag} {H H1 H2 : Hp} {a b : Addr} {T : List (Addr × Str)} {xs : List V} (h : SqL K H a xs) (hb : H b = none) (s : Same H H1) (r : Rl b T H1 H2) : SqL K H2 a xs := by
  rcases h with (h | ⟨ob, h⟩) | h
  · exact .inl (.inl (r.2.2 _ _ (s _ _ h) (ne_of_none h hb) fun ps z => by cases z))
  · exact .inl (.inr ⟨ob, r.2.2 _ _ (s _ _ h) (ne_of_none h hb) fun ps z => by cases z⟩)
  · exact .inr h
theorem call_reprZ {Z : Cx} {a : Addr} {pn : List (Addr × Obj)} (hgd : Z.A.guards = some []) (hu : Z.A.units + 64 < cLine) : CallR (Z.suite a pn) (.builtin "repr") (rRepr Z.K) := call_repr (X := Z.suite a pn) hgd hu
/-! ### a def whose code object is known -/
structure FunC (K : PySem.W.Frag) (x qual : Str) (st : Stmt) (f : Addr) (fd : FuncData) (cdv : Value) : Prop where
  ex : ∃ (oc : Value) (od : Option Addr) (kV doc pm : Value) (an : Option Addr) (ct : Value) (osl : Array (Option Value)),
    fd = PySem.W.fnOf x qual (defArgs st) (defBody st) (defScope st) .none kV doc pm an cdv ct ∧ K.lookup f = some ⟨oc, od, .func fd, osl⟩ ∧ PySem.W.codeIn K cdv qual = true
  kp : PySem.W.keepIn K (.ref f) = true
theorem FunC.fun {K : PySem.W.Frag} {x qual : Str} {st : Stmt} {f : Addr} {fd : FuncData} {cdv : Value} (F : FunC K x qual st f fd cdv) : Fun K x qual st f fd := by
  obtain ⟨⟨oc, od, kV, doc, pm, an, ct, osl, h1, h2, h3⟩, kp⟩ := F
  exact ⟨⟨oc, od, kV, doc, pm, an, cdv, ct, osl, h1, h2, h3⟩, kp⟩
section
variable {P : Program} {w : World} {K : PySem.W.Frag} {mg : Str → Option Value} {base : Heap}
theorem FunC.ok {x qual : Str} {st : Stmt} {f : Addr} {fd : FuncData} {cdv : Value} {N ps : List Str} {k : Nat} {sp : Sp} (F : FunC K x qual st f fd cdv) (S : FnScope N ps (defScope st)) (len : ∀ vs H Q E, sp vs H Q E → vs.length = ps.length)
    (hbody : ∀ (A : Around) (outer : List Env) (s : Shared) (H : Hp) (vs : List V) (Q : VK) (E : XK), Room k (A.deeper (envOfC qual (defScope st) s.heap.objs.size f cdv)) → sp vs H Q E →
      ∃ t, PSs (cxOf CX0 P w K mg base N qual (defScope st) f cdv A outer s H E).nox (defBody st) t ∧ t { nx := fun _ H' => Q .non H', rt := Q } (start N vs) H) : FnOk P w K mg base CX0 (k + 1) f fd ps sp := by
  obtain ⟨oc, od, kV, doc, pm, an, ct, osl, rfl, lk, hcd⟩ := F.ex
  refine fn_of lk hcd S len fun A outer s H vs Q E hr hsp => ?_
  obtain ⟨t, h, q⟩ := hbody A outer s H vs Q E hr hsp
  exact ⟨t, h.nox, q⟩
end
/-! ### defs told where nothing is being shown -/
section
variable {P : Program} {w : World} {K : PySem.W.Frag} {mg : Str → Option Value} {base : Heap}
theorem okG {x qual : Str} {st : Stmt} {f : Addr} {fd : FuncData} {N ps : List Str} {k : Nat} {sp : Sp} (F : Fun K x qual st f fd) (S : FnScope N ps (defScope st)) (len : ∀ vs H Q E, sp vs H Q E → vs.length = ps.length)
    (hbody : ∀ (cdv : Value) (A : Around) (outer : List Env) (s : Shared) (H : Hp) (vs : List V) (Q : VK) (E : XK), Room k (A.deeper (envOfC qual (defScope st) s.heap.objs.size f cdv)) → (A.deeper (envOfC qual (defScope st) s.heap.objs.size f cdv)).guards = some [] → sp vs H Q E →
      ∃ t, PSs (cxOf CX0 P w K mg base N qual (defScope st) f cdv A outer s H E).nox (defBody st) t ∧ t { nx := fun _ H' => Q .non H', rt := Q } (start N vs) H) : FnG P w K mg base (k + 1) f fd ps sp := by
  obtain ⟨oc, od, kV, doc, pm, an, cdv, ct, osl, rfl, lk, hcd⟩ := F.ex
  refine ⟨len, fun A outer s H args us vs Q E hr hgd e0 hb r hsp => ?_⟩
  refine LamX.run_ofS lk hcd S hr e0 hb r (len _ _ _ _ hsp) fun hr' => ?_
  obtain ⟨t, h, q⟩ := hbody cdv A outer s H vs Q E hr' hgd hsp
  exact ⟨t, h.nox, q⟩
end
section
variable {X : Cx} {k : Nat} {f : Addr} {fd : FuncData} {ps ks : List Str} {sp : Sp} {x : Str} {st : Stmt} {p pos : Pos} {e : Expr} {es : List Expr} {kws : List Keyword} {t tk : TA}
theorem pe_callG (D : Df X.K X.mg x st ps f fd) (G : FnG X.prog X.w X.K X.mg X.base k f fd ps sp) (hr : Room k X.A) (hgd : X.A.guards = some []) (ha : PA X (e :: es) t) (hg : Gl X x := by rfl)
    (hdb : (x == ("__debug__" : Str)) = false := by decide) (he : starEach (e :: es) X.env = (false, eval e X.env) :: starEach es X.env := by rfl) (hpl : (backTo pos (starEach es X.env)).any (·.1) = false := by rfl) :
    PE X (.Call (.Name x p) (e :: es) [] pos) (fun σ H Q => t σ H fun vs H1 => sp vs H1 Q fun _ _ _ => False) := by
  refine ⟨fun pins s σ H Q I h => ?_⟩
  refine wpAny_Call_Name_kw (ld_glob I hg D.g ?_ hdb)
  refine PySem.W.callWith_K (h₀ := X.base) I.ok.mod.kin D.F.kp (thn (ha.run pos pins s σ H _ I h) fun us s1 ⟨vs, H1, I1, r, q⟩ => ⟨I1.kIn, ?_⟩) he hpl
  have hl : us.length = ps.length := by rw [← r.length]; exact G.len _ _ _ _ q
  refine wpAny_call (codeAny_mono (G.run X.A X.stack s1 H1 ⟨us, []⟩ us vs Q (fun _ _ _ => False) hr hgd I1.env0 (by
    have z := D.b s1 us I1.kIn (by rw [List.append_nil]; exact hl)
    rw [List.append_nil] at z
    exact z) r q) fun r s' hq => ?_)
  cases r with
  | error e => exact (show False from hq).elim
  | ok fl =>
    cases fl with
    | ret u => exact I1.after hq
    | next => exact False.elim hq
    | brk => exact False.elim hq
    | cont => exact False.elim hq
/-! ### f(k = v, ..), every argument by its name -/
theorem pe_callW {CX : CXT} {E : XK} {g : List Value → List Value → List Value} {gV : List V → List V → List V} (D : Df X.K X.mg x st ps f fd) (G : FnOk X.prog X.w X.K X.mg X.base CX k f fd ps sp) (hr : Room k X.A) (hb : KBn X.K fd ps 0 ks g gV) (hx : Passes CX X E) (hkw : PK X kws tk) (hg : Gl X x := by rfl)
    (hall : (backToKw pos (keywordEach kws X.env)).all (·.1.isSome) = true := by rfl) (hks : (backToKw pos (keywordEach kws X.env)).filterMap (·.1) = ks := by rfl) (hdb : (x == ("__debug__" : Str)) = false := by decide)
    (hpl : ((backTo pos (starEach [] X.env)).any (·.1) || (backToKw pos (keywordEach kws X.env)).any (·.1.isNone)) = false := by rfl) :
    PE X (.Call (.Name x p) [] kws pos) (fun σ H Q => tk σ H fun zs H1 => zs.length = ks.length ∧ sp (gV [] zs) H1 Q E) := by
  refine ⟨fun pins s σ H Q I h => ?_⟩
  refine wpAny_Call_Name_kw (ld_glob I hg D.g ?_ hdb)
  refine PySem.W.callWith_KW0 (h₀ := X.base) I.ok.mod.kin D.F.kp hall ?_ hpl
  refine thn (hkw.run pos pins s σ H _ I h) fun ws s2 ⟨zs, H2, I2, rz, l2, q2⟩ => ⟨I2.kIn, ?_⟩
  rw [hks]
  exact run_fnN (us := []) (vs := []) G hr hb hx I2 .nil rz rfl l2 q2
end
section
variable {P : Program} {w : World} {K : PySem.W.Frag} {mg : Str → Option Value} {base : Heap}
theorem FunC.okG {x qual : Str} {st : Stmt} {f : Addr} {fd : FuncData} {cdv : Value} {N ps : List Str} {k : Nat} {sp : Sp} (F : FunC K x qual st f fd cdv) (S : FnScope N ps (defScope st)) (len : ∀ vs H Q E, sp vs H Q E → vs.length = ps.length)
    (hbody : ∀ (A : Around) (outer : List Env) (s : Shared) (H : Hp) (vs : List V) (Q : VK) (E : XK), Room k (A.deeper (envOfC qual (defScope st) s.heap.objs.size f cdv)) → (A.deeper (envOfC qual (defScope st) s.heap.objs.size f cdv)).guards = some [] → sp vs H Q E →
      ∃ t, PSs (cxOf CX0 P w K mg base N qual (defScope st) f cdv A outer s H E).nox (defBody st) t ∧ t { nx := fun _ H' => Q .non H', rt := Q } (start N vs) H) : FnG P w K mg base (k + 1) f fd ps sp := by
  obtain ⟨oc, od, kV, doc, pm, an, ct, osl, rfl, lk, hcd⟩ := F.ex
  refine ⟨len, fun A outer s H args us vs Q E hr hgd e0 hb r hsp => ?_⟩
  refine LamX.run_ofS lk hcd S hr e0 hb r (len _ _ _ _ hsp) fun hr' => ?_
  obtain ⟨t, h, q⟩ := hbody A outer s H vs Q E hr' hgd hsp
  exact ⟨t, h.nox, q⟩
end
/-- nothing leaves -/
theorem passF {X : Cx} : Passes (L2.CX X.prog X.w) X (fun _ _ _ => False) := passes_call LamX.takes0 fun _ _ _ _ h => h
/-- f(d = .., c = .., b = .., a = ..) -/
abbrev gR : List Value → List Value → List Value := fun _ ws => ws.reverse
abbrev gRV : List V → List V → List V := fun _ zs => zs.reverse
section
variable {K : PySem.W.Frag} {f : Addr} {fd : FuncData}
theorem kb_tpaper (F : Fun K "telling_paper" "telling_paper" sTPaper f fd) : KBn K fd ["machine", "state"] 0 ["state", "machine"] gR gRV := by
  obtain ⟨oc, od, kV, doc, pm, an, cdv, ct, osl, rfl, lk, hcd⟩ := F.ex
  refine ⟨fun s us ws _ h0 h1 => .of_eq ?_, fun _ r => r.reverse⟩
  match us, ws, h0, h1 with
  | [], [_, _], _, _ => rfl
theorem kb_istell (F : Fun K "is_telling" "is_telling" sIsTell f fd) : KBn K fd ["machine", "state"] 0 ["state", "machine"] gR gRV := by
  obtain ⟨oc, od, kV, doc, pm, an, cdv, ct, osl, rfl, lk, hcd⟩ := F.ex
  refine ⟨fun s us ws _ h0 h1 => .of_eq ?_, fun _ r => r.reverse⟩
  match us, ws, h0, h1 with
  | [], [_, _], _, _ => rfl
theorem kb_tholds (F : Fun K "telling_holds" "telling_holds" sTHolds f fd) : KBn K fd ["machine", "state", "value"] 0 ["value", "state", "machine"] gR gRV := by
  obtain ⟨oc, od, kV, doc, pm, an, cdv, ct, osl, rfl, lk, hcd⟩ := F.ex
  refine ⟨fun s us ws _ h0 h1 => .of_eq ?_, fun _ r => r.reverse⟩
  match us, ws, h0, h1 with
  | [], [_, _, _], _, _ => rfl
end

/-! ### calls of a local name, what is raised wished for at the slots -/
def tCallLS (i : Nat) (f : Addr) (sp : Sp) (E : L2.St → XK) (t : TA) : TE := fun σ H Q => σ[i]? = some (some (.ref f)) ∧ t σ H fun vs H1 => sp vs H1 Q (E σ)
section
variable {X : Cx} {CX : CXT} {k i : Nat} {f : Addr} {fd : FuncData} {ps : List Str} {sp : Sp} {E : L2.St → XK} {x : Str} {p pos : Pos} {e : Expr} {es : List Expr} {t : TA}
theorem pe_callLS (F : FnOk X.prog X.w X.K X.mg X.base CX k f fd ps sp) (hr : Room k X.A) (hN : X.N[i]? = some x) (hv : Vis X.env.scope x) (hk : PySem.W.keepIn X.K (.ref f) = true) (hb : Binds X.K fd ps []) (hx : ∀ σ, PassesAt CX X σ (E σ)) (ha : PA X (e :: es) t)
    (hdb : (x == ("__debug__" : Str)) = false := by decide) (hcd : (x == ("__classdict__" : Str)) = false := by decide)
    (he : starEach (e :: es) X.env = (false, eval e X.env) :: starEach es X.env := by rfl) (hpl : (backTo pos (starEach es X.env)).any (·.1) = false := by rfl) : PE X (.Call (.Name x p) (e :: es) [] pos) (tCallLS i f sp E t) := by
  refine ⟨fun pins s σ H Q I h => ?_⟩
  obtain ⟨hs, ht⟩ := h
  refine wpAny_Call_Name_kw (thn ((pe_var (pos := p) hN hv hdb hcd).run pins s σ H (fun v H1 => v = .ref f ∧ H1 = H) I ⟨.ref f, hs, rfl, rfl⟩) fun u s1 ⟨v, H1, I1, r1, q1⟩ => ?_)
  obtain ⟨rfl, rfl⟩ := q1
  cases r1
  refine PySem.W.callWith_K (h₀ := X.base) I.ok.mod.kin hk (thn (ha.run pos pins s1 σ _ _ I1 ht) fun us s2 ⟨vs, H2, I2, r, q⟩ => ⟨I2.kIn, ?_⟩) he hpl
  exact run_fnS F hr hb (hx σ) I2 r q
end
section
variable {X : Cx} {params : Arguments} {body : Expr} {scope : Scope}
theorem run_lamS {CX : CXT} {k : Nat} {f c' : Addr} {q : Str} {N ps : List Str} {tb : XK → TE} {pins : List (Addr × Obj)} {σ : L2.St} {H : Hp} {s : Shared} {Q : VK} {E : XK} {us : List Value} {vs : List V} (I : Inv X pins σ H s) (hf : H f = some (LamO f c' q params body scope)) (hc : H c' = some (LamX.CodeO c' q))
    (S : FnScope N ps scope) (hbind : ∀ (pm ctv : Value) (us : List Value), us.length = ps.length → bindArgs (PySem.W.kla_fn "<lambda>" q params body scope [] pm (.ref c') ctv) ⟨us, []⟩ = pure (ps.zip us)) (hr : Room (k + 1) X.A) (hx : PassesAt CX X σ E) (r : Vals vs us) (hl : vs.length = ps.length)
    (hbody : ∀ (A : Around) (outer : List Env) (s : Shared) (H : Hp) (E : XK), Room k (A.deeper (envOfC q scope s.heap.objs.size f (.ref c'))) → PE (cxOf CX X.prog X.w X.K X.mg X.base N q scope f (.ref c') A outer s H E) body (tb E))
    (ht : tb E (L2.start N vs) H Q) : wpAny (model X.prog X.w) X.A (call (.ref f) us) (EP X pins σ Q) X.xe s := by
  obtain ⟨od, sl, pm, ctv, ho⟩ := lamO_at I.hok hf
  obtain ⟨⟨oc, cvs, tk, hoc, hdc, hvc⟩, _, _⟩ := I.hok c' _ hc
  have hlu : us.length = ps.length := by rw [← r.length]; exact hl
  have hkind : ∀ y ∈ ps.zip us, scope.names.lookup y.1 = some .local ∨ (scope.names.lookup y.1 = some .cell ∧ ((cellsFrom (s.heap.objs.size + 1) scope.names []).lookup y.1).isSome = true) := fun ⟨n, v⟩ hy => by
    rcases S.par n (List.of_mem_zip hy).1 with q | q
    · exact .inl q
    · exact .inr ⟨q, PySem.W.cellsFrom_some _ _ _ (.inl q)⟩
  have rc : codeAny (model X.prog X.w) X.A (.call (.ref f) ⟨us, []⟩) (CR CX X.stack X.prog X.w H s Q E) s := by
    refine PySem.W.kla_callFunE hr.depth ho rfl S.co S.gen rfl ⟨c', oc, cvs, tk, rfl, hoc, hdc, hvc⟩ ?_
    rw [hbind pm ctv us hlu]
    refine wpAny_pure (wpAny_newFunctionEnv_cells S.kind hkind fun env he s1 x => ?_)
    subst he
    refine ⟨I.nolimit.keeps x.toInCall.keep, ?_⟩
    have J : Inv (cxOf CX X.prog X.w X.K X.mg X.base N q scope f (.ref c') X.A X.stack s H E) [] (L2.start N vs) H s1 := inv_start S hr.hd I.env0 hl r x
    refine PySem.W.kla_codeExpr (wpAny_mono ((hbody _ _ s H E (hr.deeper _)).run [] s1 (L2.start N vs) H Q J ht) (fun v s' hq => ?_) fun e s' hq => hq)
    obtain ⟨w', H', J', rv, q⟩ := hq
    exact ⟨w', H', J'.os, J'.bare, J'.base, J'.hok, rv, q⟩
  refine wpAny_call (codeAny_mono rc fun r s' hq => ?_)
  cases r with
  | error e => exact hx pins H s e s' I hq
  | ok fl =>
    cases fl with
    | ret u => exact I.after hq
    | next => exact False.elim hq
    | brk => exact False.elim hq
    | cont => exact False.elim hq
theorem pe_callLamS {CX : CXT} {k i : Nat} {q x : Str} {N ps : List Str} {tb : XK → TE} {E : L2.St → XK} {p pos : Pos} {e : Expr} {es : List Expr} {t : TA} (S : FnScope N ps scope) (hbind : ∀ (pm cv ctv : Value) (us : List Value), us.length = ps.length → bindArgs (PySem.W.kla_fn "<lambda>" q params body scope [] pm cv ctv) ⟨us, []⟩ = pure (ps.zip us))
    (hr : Room (k + 1) X.A) (hx : ∀ σ, PassesAt CX X σ (E σ)) (hN : X.N[i]? = some x) (hv : Vis X.env.scope x) (ha : PA X (e :: es) t)
    (hbody : ∀ (f c' : Addr) (A : Around) (outer : List Env) (s : Shared) (H : Hp) (E : XK), Room k (A.deeper (envOfC q scope s.heap.objs.size f (.ref c'))) → PE (cxOf CX X.prog X.w X.K X.mg X.base N q scope f (.ref c') A outer s H E) body (tb E))
    (hd : (x == ("__debug__" : Str)) = false := by decide) (hcd : (x == ("__classdict__" : Str)) = false := by decide)
    (he : starEach (e :: es) X.env = (false, eval e X.env) :: starEach es X.env := by rfl) (hpl : (backTo pos (starEach es X.env)).any (·.1) = false := by rfl) :
    PE X (.Call (.Name x p) (e :: es) [] pos) (fun σ H Q => ∃ f c', σ[i]? = some (some (.ref f)) ∧ H f = some (LamO f c' q params body scope) ∧ t σ H fun vs H1 => vs.length = ps.length ∧ H1 f = some (LamO f c' q params body scope) ∧ H1 c' = some (LamX.CodeO c' q) ∧ tb (E σ) (L2.start N vs) H1 Q) := by
  refine ⟨fun pins s σ H Q I h => ?_⟩
  obtain ⟨f, c', hs, hf, ht⟩ := h
  refine wpAny_Call_Name_kw (thn ((pe_var (pos := p) hN hv hd hcd).run pins s σ H (fun v H1 => v = .ref f ∧ H1 = H) I ⟨.ref f, hs, rfl, rfl⟩) fun u s1 ⟨v, H1, I1, r1, q1⟩ => ?_)
  obtain ⟨ev, eH⟩ := q1
  subst ev
  rw [eH] at I1
  obtain rfl : u = Value.ref f := r1
  have fnA : ∀ {σ' H' s'}, Inv X pins σ' H' s' → H' f = some (LamO f c' q params body scope) → PySem.W.FnAt f s'.heap := fun {σ' H' s'} I' e => by
    obtain ⟨od, sl, pm, ctv, ho⟩ := lamO_at I'.hok e
    exact ⟨_, od, _, sl, ho⟩
  refine PySem.W.callWith_F (first := []) (fnA I1 hf) (thn (ha.run pos pins s1 σ H _ I1 ht) fun us s2 ⟨vs, H2, I2, r, hl, h1, h2, hb⟩ => ⟨fnA I2 h1, ?_⟩) he hpl
  show wpAny _ _ (call (.ref f) us) _ _ _
  exact run_lamS I2 h1 h2 S (fun pm ctv us hl => hbind pm _ ctv us hl) hr (hx σ) r hl (hbody f c') hb
end
end K1
namespace K1
open PySem PySem.Spec PyProof.Rows L2
/-! ### what is no state -/
abbrev nLa : List Str := ["_law_script", "_law_k", "_law_box_here", "_law_tables_here", "_law_machine", "_law_maps_here", "_law_state", "_law_due_here", "_law_told", "_law_value", "_law_turn", "_law_right", "_law_bad", "_law_work", "fault"]
theorem scLa : FnScope nLa ["_law_script"] (defScope sLaw) := ⟨rfl, rfl, rfl, by decide +kernel, rfl, by decide +kernel, by decide +kernel⟩
def qLa : Str := (envOfC "law" (defScope sLaw) 0 0 Value.none).qual ++ "<lambda>"
def bodyOf : Stmt → List Stmt | .For _ _ b _ _ => b | _ => []
abbrev sOuter : List Stmt := bodyOf ((defBody sLaw).getD 0 (.Pass ⟨0, 0, 0, 0⟩))
def itOf : Stmt → Expr | .For _ it _ _ _ => it | _ => .Name "" ⟨0, 0, 0, 0⟩
def el2 : Expr → Expr | .Tuple es _ _ => es.getD 2 (.Name "" ⟨0, 0, 0, 0⟩) | e => e
def lamP : Expr → Arguments | .Lambda a _ _ _ => a | _ => defArgs sLaw
def lamB : Expr → Expr | .Lambda _ b _ _ => b | e => e
def lamSc : Expr → Scope | .Lambda _ _ s _ => s | _ => defScope sLaw
abbrev eLam : Expr := el2 (itOf (sOuter.getD 5 (.Pass ⟨0, 0, 0, 0⟩)))
abbrev nLm : List Str := ["_law_one", "_law_other"]
theorem scLm : FnScope nLm nLm (lamSc eLam) := ⟨rfl, rfl, rfl, by decide +kernel, rfl, by decide +kernel, by decide +kernel⟩
theorem lamNoFree : ∀ y ∈ (lamSc eLam).names, y.2 ≠ .free := by decide +kernel
theorem lamBind (q : Str) (pm cv ctv : Value) (us : List Value) (hl : us.length = nLm.length) : bindArgs (PySem.W.kla_fn "<lambda>" q (lamP eLam) (lamB eLam) (lamSc eLam) [] pm cv ctv) ⟨us, []⟩ = pure (nLm.zip us) :=
  match us, hl with | [_, _], _ => rfl
abbrev LamH (f c' : Addr) : HO := LamO f c' qLa (lamP eLam) (lamB eLam) (lamSc eLam)
theorem lamH_ne {f c' : Addr} (ps : Array Value) : LamH f c' ≠ .tbl ps := lamO_ne ps
def tTryAs (K : PySem.W.Frag) (c : Value) (i : Nat) (ts : Addr → Value → Option Addr → TS) (Wout : WX) (tb : WX → TS) : TS := fun D σ H => tb (wAs K c i ts Wout D) D σ H
theorem ps_tryA {X : Cx} {n x : Str} {i : Nat} {c : Value} {body : List Stmt} {b₀ : Stmt} {suite : List Stmt} {np pos pos' : Pos} {tb : WX → TS} {ts : Addr → Value → Option Addr → TS} {Wout : WX} (hs : X.stack = X.env :: X.outer) (hf : X.env.frame = some X.env.locals) (hN : X.N.Nodup) (hi : X.N[i]? = some n) (hln : X.env.kindOf n = some .local) (hc : Names X x c) (tk : Takes X Wout)
    (hb : ∀ (W : WX) (pn : List (Addr × Obj)) (xe : Value → Shared → Prop), Takes (X.tr pn xe) W → PassesOwn (model X.prog X.w) X.A X.env xe → PSs (X.tr pn xe) body (tb W))
    (hsu : ∀ (a : Addr) (oe : Obj) (cls : Value) (d : Option Addr) (pn : List (Addr × Obj)), Zc cls d oe → (∃ vs, oe.data = .fields vs) → PSs (X.suite a ((a, oe) :: pn)) (b₀ :: suite) (ts a cls d)) :
    PS X (.Try body [.ExceptHandler (some (.Name x np)) (some n) (b₀ :: suite) pos'] [] [] pos) (tTryAs X.K c i ts Wout tb) := ps_try_as hs hf hN hi hln hc tk hb hsu
/-- the defs that the law calls, by their promises -/
structure Dn (P : Program) (w : World) (K : PySem.W.Frag) (mg : Str → Option Value) (base : Heap) (M CS : Addr) : Prop where
  B : Bt mg
  T : McT K mg M
  take : ∃ f fd, Df K mg "_law_take" sTake ["_law_box_here", "_law_many"] f fd ∧ FnOk P w K mg base CX0 1 f fd ["_law_box_here", "_law_many"] spTake
  pick : ∃ f fd, Df K mg "_law_pick" sPick ["_law_box_here", "_law_some"] f fd ∧ FnOk P w K mg base CX0 2 f fd ["_law_box_here", "_law_some"] spPick
  tpaper : ∃ f fd, Df K mg "telling_paper" sTPaper ["machine", "state"] f fd ∧ FnOk P w K mg base (L2.CX P w) 5 f fd ["machine", "state"] (spTPaper M CS)
  istell : ∃ f fd, Df K mg "is_telling" sIsTell ["machine", "state"] f fd ∧ FnOk P w K mg base (L2.CX P w) 6 f fd ["machine", "state"] (spIsTell M CS)
  tholds : ∃ f fd, Df K mg "telling_holds" sTHolds ["machine", "state", "value"] f fd ∧ FnOk P w K mg base (L2.CX P w) 6 f fd ["machine", "state", "value"] (spTHolds K M CS)
  cpaper : ∃ f fd, Df K mg "commuting_paper" sCPaper ["machine", "state"] f fd ∧ FnOk P w K mg base (L2.CX P w) 5 f fd ["machine", "state"] (spCPaper K M CS)
  box : ∃ f fd, Df K mg "_law_box" sBox ["_law_script", "_law_k"] f fd ∧ FnOk P w K mg base CX0 1 f fd ["_law_script", "_law_k"] (spBox K)
  tabs : ∃ f fd, Df K mg "_law_tables" sTabs ["_law_box_here", "_law_most"] f fd ∧ FnOk P w K mg base CX0 3 f fd ["_law_box_here", "_law_most"] spTabs
  maps : ∃ f fd, Df K mg "_law_maps" sMaps ["_law_tables_here"] f fd ∧ FnOk P w K mg base CX0 1 f fd ["_law_tables_here"] spMaps
  tells : ∃ f fd, Df K mg "_law_tells" sLTells ["_law_tables_here", "_law_maps_here", "_law_state"] f fd ∧ FnOk P w K mg base CX0 1 f fd ["_law_tables_here", "_law_maps_here", "_law_state"] spLTells
  comm : ∃ f fd, Df K mg "_law_commute" sLComm ["_law_tables_here", "_law_maps_here", "_law_state"] f fd ∧ FnOk P w K mg base CX0 1 f fd ["_law_tables_here", "_law_maps_here", "_law_state"] spLComm
  due : ∃ f fd, Df K mg "_law_due" sLDue ["_law_tables_here", "_law_maps_here", "_law_state", "_law_value"] f fd ∧ FnOk P w K mg base CX0 3 f fd ["_law_tables_here", "_law_maps_here", "_law_state", "_law_value"] (spLDue K)
  bent : ∃ f fd, Df K mg "_law_bent" sLBent ["_law_box_here", "_law_tables_here", "_law_value"] f fd ∧ FnOk P w K mg base CX0 3 f fd ["_law_box_here", "_law_tables_here", "_law_value"] (spLBent K)
  kept : ∃ f fd, Df K mg "_law_kept_right" sLKept ["_law_box_here", "_law_tables_here", "_law_maps_here", "_law_state"] f fd ∧ FnOk P w K mg base CX0 3 f fd ["_law_box_here", "_law_tables_here", "_law_maps_here", "_law_state"] spLKept
  g3 : mg "NoState" = some (.ref CS)
  t3 : ∃ q b i, LState.Txt K mg "NoState" q b CS i
  ess : PySem.W.exmOne K (.ref CS) (.ref CS) = some true
section
variable {P : Program} {w : World} {K : PySem.W.Frag} {mg : Str → Option Value} {base : Heap}
theorem law_bad {f M CS c Pt : Addr} {A : Around} {outer : List Env} {s : Shared} {H₀ : Hp} {E : XK} (hr : Room 10 (A.deeper (envOfC "law" (defScope sLaw) s.heap.objs.size f (.ref c)))) (hgd : (A.deeper (envOfC "law" (defScope sLaw) s.heap.objs.size f (.ref c))).guards = some []) (TB : LamX.TabB base mg c Pt) (dn : Dn P w K mg base M CS) :
    ∃ t, PSs (cxOf CX0 P w K mg base nLa "law" (defScope sLaw) f (.ref c) A outer s H₀ E).nox (sOuter.drop 4) t ∧
      ∀ (D : Ends) (H : Hp) (b p m ta : Addr) (ts : Ts) (v0 v1 v5 v6 v7 v8 v9 v10 v11 v12 v13 v14 : Option V), BoxO H b → LamX.Tabs [(Pt, qLa)] H → TabL H p (vts ts) → p ≠ b → Wf ts → MachAt M H m ta (vts ts) →
        (∀ H' w12 w13 w14, Rl b [(Pt, qLa)] H H' → D.nx [v0, v1, some (.ref b), some (.ref p), some (.ref m), v5, v6, v7, v8, v9, v10, v11, w12, w13, w14] H') →
        t D [v0, v1, some (.ref b), some (.ref p), some (.ref m), v5, v6, v7, v8, v9, v10, v11, v12, v13, v14] H := by
  have B := dn.B
  have TM := dn.T
  obtain ⟨fK, fdK, DK, GK⟩ := dn.pick
  obtain ⟨fT, fdT, DT, GT⟩ := dn.tpaper
  obtain ⟨fI, fdI, DI, GI⟩ := dn.istell
  obtain ⟨fH, fdH, DH, GH⟩ := dn.tholds
  obtain ⟨q3, b3, i3, T3⟩ := dn.t3
  have hu : (A.deeper (envOfC "law" (defScope sLaw) s.heap.objs.size f (.ref c))).units + 64 < cLine := hr.units
  have r2 := hr.mono (show 2 ≤ 10 by decide)
  have r5 := hr.mono (show 5 ≤ 10 by decide)
  have r6 := hr.mono (show 6 ≤ 10 by decide)
  have r8 := hr.mono (show 8 ≤ 10 by decide)
  refine ⟨_, pss_cons (ps_set (i := 12) scLa.nd rfl (.inl rfl) (pc DK GK r2 pass0 (pa_cons (pv 2) (pa_cons (pe_lst (pa_cons (pe_callB (clen (K := K) rfl) (by rfl) B.len PySem.boot_len (pa_cons (pe_ix (ixLK (K := K) rfl) (pv 3) pe_int (fun _ _ => rfl)) pa_nil)) (pa_cons (pe_op op_sub pe_int pe_int) (pa_cons pe_non (pa_cons pe_bl (pa_cons pe_str (pa_cons (pe_tup (pa_cons pe_int pa_nil)) pa_nil))))))) pa_nil))))
    (pss_one (ps_for PassesOwn.never rfl (pi_tup (pe_tup (pa_cons (pe_glob (v := .ref fT) rfl DT.g rfl) (pa_cons (pe_glob (v := .ref fI) rfl DI.g rfl) (pa_cons (pe_lamV (qn := qLa) TB rfl rfl rfl lamNoFree rfl) pa_nil))))) (pg_name (i := 13) scLa.nd rfl (.inl rfl))
      (pss_one (ps_tryA (i := 14) rfl rfl scLa.nd rfl rfl ⟨rfl, by decide, .inl dn.g3⟩ LamX.takes0 (fun W pn xe tk _ =>
          pss_cons (ps_expr (pe_or2 (pe_or2 (pe_callLS (i := 13) (E := WE W) GT r5 rfl (.inl rfl) DT.F.kp DT.b (fun σ => passAt tk σ) (pa_cons (pv 4) (pa_cons (pv 12) pa_nil))) (pe_callLS (i := 13) (E := WE W) GI r6 rfl (.inl rfl) DI.F.kp DI.b (fun σ => passAt tk σ) (pa_cons (pv 4) (pa_cons (pv 12) pa_nil))))
            (pe_callLamS (CX := L2.CX P w) (k := 7) (i := 13) (q := qLa) (N := nLm) (ps := nLm) (params := lamP eLam) (body := lamB eLam) (scope := lamSc eLam) (E := WE W) scLm (lamBind qLa) r8 (fun σ => passAt tk σ) rfl (.inl rfl) (pa_cons (pv 4) (pa_cons (pv 12) pa_nil))
              (fun f c' A outer s H E hr3 => pc DH GH (hr3.mono (show 6 ≤ 7 by decide)) (pass1 (E := E) (takes_of rfl rfl rfl rfl)) (pa_cons (pv 0) (pa_cons (pv 1) (pa_cons pe_non pa_nil)))))))
          (pss_one (ps_ret pe_bl)))
        (fun a oe cls d pn hz hf => pss_one (ps_if (pt_cmpR op_ne (pe_callB (call_or2 call_reprS (call_reprZ (Z := (cxOf CX0 P w K mg base nLa "law" (defScope sLaw) f (.ref c) A outer s H₀ E).nox) hgd hu)) rfl B.repr (by decide +kernel) (pa_cons (pe_by_LState T3 hz hf (pv 14)) pa_nil))
          (pe_callB (call_or2 call_reprS (call_reprZ (Z := (cxOf CX0 P w K mg base nLa "law" (defScope sLaw) f (.ref c) A outer s H₀ E).nox) hgd hu)) rfl B.repr (by decide +kernel) (pa_cons (pv 12) pa_nil)) (nomark _)) (pss_one (ps_ret pe_bl)) pss_nil)))))), fun D H b p m ta ts v0 v1 v5 v6 v7 v8 v9 v10 v11 v12 v13 v14 hb hT tl npb hW hM q => ?_⟩
  have RK : Rl b [(Pt, qLa)] H H := Rl.refl hb hT
  have n1 := hW.s1
  have n12 := hW.s12
  obtain ⟨t0, et0⟩ : ∃ t0, ts[0]? = some t0 := ⟨ts[0]'(by have := hW.t1; omega), List.getElem?_eq_getElem _⟩
  obtain ⟨as, a0, h1, h2, h3, h4⟩ := tl.row et0
  have l0 : ((vrow t0).length : Int) = (nS ts : Int) := by
    unfold nS
    rw [et0, vrow, List.length_map]; rfl
  refine ⟨_, rfl, _, rfl, p, _, 0, .ref a0, rfl, rfl, SqL.of h1, atI_nat (j := 0) (by rw [List.getElem?_map, h3]; rfl), a0, _, rfl, .inr (SqT.of h4), ?_⟩
  rw [l0]
  refine ⟨_, _, rfl, rfl, (by show 1 ≤ sizeLine; decide), fun z0 hz0 => ?_⟩
  have R0 := RK.new (o := HO.tup [.int 0]) hz0
  have hz1 : (upd H z0 (.tup [.int 0])) z0 = some (.tup [.int 0]) := upd_same
  generalize upd H z0 (.tup [.int 0]) = H0 at R0 hz1 ⊢
  refine ⟨(by show 6 ≤ sizeLine; decide), fun l hl => ⟨b, l, _, rfl, (R0.new hl).1, upd_same, R0.1.nn hl, (by show 1 ≤ 6; decide), (by show 6 ≤ 1000; decide), fun i vo H1 hvo bx1 => ?_⟩⟩
  have R1 := (R0.new (o := HO.lst [V.int (nS ts : Int), .int (0 - 1), .non, .bl true, .str "0", .ref z0]) hl).bx bx1
  have odo : OddV (nS ts : Int) H1 vo := by
    have hm := List.mem_of_getElem? hvo
    simp only [List.mem_cons, List.mem_nil_iff, or_false] at hm
    rcases hm with rfl | rfl | rfl | rfl | rfl | rfl
    · exact .inl (by simp)
    · exact .inl (by simp)
    · exact .inl (by simp)
    · exact .inl (by simp)
    · exact .inl (by simp)
    · exact .inr ⟨z0, rfl, bx1.tup (R0.1.same (same_new hl)) ((same_new hl) _ _ hz1)⟩
  obtain ⟨xo, sxo, rso⟩ := odo.txt K (by omega) (by omega)
  refine gn ?_
  dsimp only [List.set]
  -- the three works
  refine ⟨R1.2.1, fun fL cL H2 eN t2 hn2 hf2 hc2 => ⟨(by show 3 ≤ sizeLine; decide), fun tp htp => ⟨tp, rfl, ⟨_, SqT.of upd_same⟩, ?_⟩⟩⟩
  have R2 := (R1.ext eN t2).new (o := HO.tup [.ref fT, .ref fI, .ref fL]) htp
  have od2 : OddV (nS ts : Int) (upd H2 tp (.tup [.ref fT, .ref fI, .ref fL])) vo := odo.keep fun p xs h => (same_new htp) _ _ (eN _ _ h fun ps z => by cases z)
  have nfL : fL ≠ b := R1.1.nn hn2
  have hf3 := (same_new (o := HO.tup [.ref fT, .ref fI, .ref fL]) htp) _ _ hf2
  have hc3 := (same_new (o := HO.tup [.ref fT, .ref fI, .ref fL]) htp) _ _ hc2
  have htp3 : (upd H2 tp (.tup [V.ref fT, .ref fI, .ref fL])) tp = some (.tup [.ref fT, .ref fI, .ref fL]) := upd_same
  have ncL : cL ≠ b := (R1.ext eN t2).1.ne hc2 fun xs => by intro z; unfold LamX.CodeO at z; cases z
  generalize upd H2 tp (.tup [V.ref fT, .ref fI, .ref fL]) = H3 at R2 hf3 hc3 htp3 od2 ⊢
  have hM3 := R2.mach hb hM
  refine for_tup (K := K) (a := tp) (xs := [V.ref fT, .ref fI, .ref fL]) (fun _ σ H' => ∃ w13 w14, σ = [v0, v1, some (.ref b), some (.ref p), some (.ref m), v5, v6, v7, v8, v9, v10, v11, some vo, w13, w14] ∧ Same H3 H') ⟨v13, v14, rfl, Same.refl _⟩ (fun i σ H' _ ⟨_, _, _, sm⟩ => SqT.of (sm _ _ htp3)) ?_ ?_
  · rintro i x σ H' hx ⟨w13, w14, rfl, sm⟩
    refine gn ?_
    dsimp only [List.set]
    have hMG := hM3.same sm
    have od' := od2.keep (H' := H') fun p xs h => sm _ _ h
    match i, hx with
    | 0, hx =>
      cases hx
      refine .inl (.inl ⟨rfl, _, rfl, _, rfl, m, ta, ts, vo, rfl, hMG, hW, od'.kv K, fun _ => ?_, fun st e hst => ?_⟩)
      · exact fun d G sG _ hx => ⟨true, dn.ess, fun _ a na => ⟨_, rfl, rfl, rfl, d, vo, rfl, hx, nilP (rso _ _ (od'.keep fun p xs h => sG _ _ h) ⟨_, rfl, nilP (rso _ _ (od'.keep fun p xs h => sG _ _ h) (neV rfl ⟨_, rfl, iteF (nxP ⟨_, _, rfl, sm.trans sG⟩)⟩))⟩)⟩, fun z => (by cases z)⟩
      · subst e
        have := od'.bad
        rw [belowI (n := nS ts) hst] at this
        cases this
    | 1, hx =>
      cases hx
      refine .inl (.inr ⟨rfl, _, rfl, _, rfl, m, ta, ts, vo, rfl, hMG, hW, od'.kv K, fun _ => ?_, fun st e hst => ?_⟩)
      · exact fun d G sG _ hx => ⟨true, dn.ess, fun _ a na => ⟨_, rfl, rfl, rfl, d, vo, rfl, hx, nilP (rso _ _ (od'.keep fun p xs h => sG _ _ h) ⟨_, rfl, nilP (rso _ _ (od'.keep fun p xs h => sG _ _ h) (neV rfl ⟨_, rfl, iteF (nxP ⟨_, _, rfl, sm.trans sG⟩)⟩))⟩)⟩, fun z => (by cases z)⟩
      · subst e
        have := od'.bad
        rw [belowI (n := nS ts) hst] at this
        cases this
    | 2, hx =>
      cases hx
      refine .inr ⟨fL, cL, rfl, sm _ _ hf3, _, rfl, _, rfl, rfl, sm _ _ hf3, sm _ _ hc3, _, rfl, _, rfl, m, ta, ts, vo, .non, rfl, hMG, hW, od'.kv K, fun _ => ?_, fun st e hst => ?_⟩
      · exact fun d G sG _ hx => ⟨true, dn.ess, fun _ a na => ⟨_, rfl, rfl, rfl, d, vo, rfl, hx, nilP (rso _ _ (od'.keep fun p xs h => sG _ _ h) ⟨_, rfl, nilP (rso _ _ (od'.keep fun p xs h => sG _ _ h) (neV rfl ⟨_, rfl, iteF (nxP ⟨_, _, rfl, sm.trans sG⟩)⟩))⟩)⟩, fun z => (by cases z)⟩
      · subst e
        have := od'.bad
        rw [belowI (n := nS ts) hst] at this
        cases this
    | i + 3, hx => cases hx
  · rintro σ H4 ⟨w13, w14, rfl, sm⟩
    exact q _ _ _ _ (R2.same sm)
end
end K1
namespace K1
open PySem PySem.Spec PyProof.Rows L2
/-! ### papers told and bent -/
theorem pp_len {ts : Ts} {a h : Int} {r1 r2 : List Int} (w : Wf ts) (ha : 0 ≤ a ∧ a < (nS ts : Int)) (hh : 0 ≤ h ∧ h < (nS ts : Int)) (p : PP ts a h (some (r1, r2))) : r1.length ≤ 150 ∧ r2.length ≤ 150 := by
  obtain ⟨F, hF, e⟩ := p
  obtain ⟨x, hx, y, hy, _, rfl, rfl, _⟩ := part_some F [] e
  rw [List.nil_append] at hx
  have l := pair_short w ha hh hF
  have h1 := (hF.mem hx).2.2
  have h2 := (hF.mem hy).2.2
  omega
theorem stp_rng {ts : Ts} (w : Wf ts) {x d : Int} (hx : 0 ≤ x ∧ x < (nS ts : Int)) (hd : In8 ts d) : 0 ≤ stp ts x d ∧ stp ts x d < (nS ts : Int) := by
  obtain ⟨_, _, _, h⟩ := w.at_ hd hx
  exact h
/-- a paper that may be bent -/
def PapOk (ts : Ts) (H : Hp) (u : V) : Prop := ∃ pv x d a c r1 r2, u = .ref pv ∧ PapAt H pv x d a c r1 r2 ∧ VRow ts r1 ∧ VRow ts r2 ∧ r1.length ≤ 150 ∧ r2.length ≤ 150
theorem PapOk.bx {ts : Ts} {b : Addr} {H H' : Hp} {u : V} (h : PapOk ts H u) (hb : BoxO H b) (x : Bx b H H') : PapOk ts H' u :=
  let ⟨pv, x1, d, a, c, r1, r2, e, pa, r⟩ := h
  ⟨pv, x1, d, a, c, r1, r2, e, ⟨x.tup hb pa.hp, x.tup hb pa.ha, x.tup hb pa.hc⟩, r⟩
theorem PapOk.val {ts : Ts} {K : PySem.W.Frag} {b : Addr} {H : Hp} {u : V} (h : PapOk ts H u) (hW : Wf ts) (hb : BoxO H b) : ValOk K H u := by
  obtain ⟨pv, x, d, a, c, r1, r2, rfl, pa, v1, v2, l1, l2⟩ := h
  have t8 := hW.t8
  have na : a ≠ b := hb.ne pa.ha fun xs => by intro z; cases z
  have nc : c ≠ b := hb.ne pa.hc fun xs => by intro z; cases z
  exact val_five (b := b) (.inr pa.hp) (.inl rfl) (.inl ⟨_, rfl⟩) (.inl ⟨_, rfl⟩) (.inr (.inr ⟨a, _, rfl, na, .inr pa.ha, by rw [vrow, List.length_map]; omega, vrow_flat (n := ts.length) (by omega) v1⟩)) (.inr (.inr ⟨c, _, rfl, nc, .inr pa.hc, by rw [vrow, List.length_map]; omega, vrow_flat (n := ts.length) (by omega) v2⟩))
theorem tp_pap {ts : Ts} {H : Hp} {u : V} {st : Int} {r : Int × Int × List Int × List Int} (hW : Wf ts) (hst : 0 ≤ st ∧ st < (nS ts : Int)) (t : TPaper ts st (some r)) (v : TPV H u (some r)) : PapOk ts H u := by
  obtain ⟨x, d, r1, r2⟩ := r
  obtain ⟨p, a, b, rfl, h1, h2, h3⟩ := v
  obtain ⟨k1, k2, k3, _⟩ := t
  have hx := k1.rng hW hst
  obtain ⟨l1, l2⟩ := pp_len hW hx (stp_rng hW hx k2) k3
  obtain ⟨v1, v2, _⟩ := pp_some k3
  exact ⟨p, x, d, a, b, r1, r2, rfl, ⟨h1, h2, h3⟩, v1, v2, l1, l2⟩
/-- what is answered of a value, by both -/
def Ans (ts : Ts) (st : Int) (K : PySem.W.Frag) (H : Hp) (u : V) (b : Bool) : Prop := ((∃ o, KV K H u o ∧ seqB o 5 5 = false) ∧ b = false) ∨ ∃ wd a d x1 x2, Five K H u wd a d x1 x2 ∧ WdOk wd ∧ Sm x1 ∧ Sm x2 ∧ (b = true ↔ Holds ts st wd a d x1 x2)
theorem ans_ex {ts : Ts} {st : Int} {K : PySem.W.Frag} {H : Hp} {u : V} (h : ValOk K H u) : ∃ b, Ans ts st K H u b := by
  rcases h with h | ⟨wd, a, d, x1, x2, h⟩
  · exact ⟨false, .inl ⟨h, rfl⟩⟩
  · by_cases z : Holds ts st wd a d x1 x2
    · exact ⟨true, .inr ⟨wd, a, d, x1, x2, h.1, h.2.1, h.2.2.1, h.2.2.2, fun _ => z, fun _ => rfl⟩⟩
    · exact ⟨false, .inr ⟨wd, a, d, x1, x2, h.1, h.2.1, h.2.2.1, h.2.2.2, fun w => (by cases w), fun w => absurd w z⟩⟩
theorem Five.same {K : PySem.W.Frag} {H H' : Hp} {u wd a d : V} {x1 x2 : Option (List V)} (h : Five K H u wd a d x1 x2) (s : Same H H') : Five K H' u wd a d x1 x2 :=
  ⟨let ⟨p, y1, y2, e, q, w1, w2⟩ := h.ex; ⟨p, y1, y2, e, q.same s, w1.same s, w2.same s⟩, h.sc, h.ka.same s, h.kd.same s⟩
theorem Ans.same {ts : Ts} {st : Int} {K : PySem.W.Frag} {H H' : Hp} {u : V} {b : Bool} (h : Ans ts st K H u b) (s : Same H H') : Ans ts st K H' u b := by
  rcases h with ⟨⟨o, k, e⟩, eb⟩ | ⟨wd, a, d, x1, x2, f, r⟩
  · exact .inl ⟨⟨o, k.same s, e⟩, eb⟩
  · exact .inr ⟨wd, a, d, x1, x2, f.same s, r⟩
theorem bool_iff {a b : Bool} {P : Prop} (h : a = true ↔ P) (k : b = true ↔ P) : a = b := by
  cases a <;> cases b <;> simp_all
theorem Ans.due {ts : Ts} {st : Int} {K : PySem.W.Frag} {H : Hp} {u : V} {b : Bool} {Q : VK} (h : Ans ts st K H u b) (q : ∀ H', Same H H' → Q (.bl b) H') : (∃ o, KV K H u o ∧ seqB o 5 5 = false ∧ ∀ H', Same H H' → Q (.bl false) H') ∨
   (∃ wd a d x1 x2, Five K H u wd a d x1 x2 ∧ WdOk wd ∧ Sm x1 ∧ Sm x2 ∧ ∀ (b : Bool) H', Same H H' → (b = true ↔ Holds ts st wd a d x1 x2) → Q (.bl b) H') := by
  rcases h with ⟨⟨o, k, e⟩, rfl⟩ | ⟨wd, a, d, x1, x2, f, w, s1, s2, i⟩
  · exact .inl ⟨o, k, e, q⟩
  · exact .inr ⟨wd, a, d, x1, x2, f, w, s1, s2, fun c H' s j => by rw [bool_iff j i]; exact q H' s⟩
theorem Ans.holds {ts : Ts} {st : Int} {K : PySem.W.Frag} {H : Hp} {u : V} {b : Bool} {Q : VK} (h : Ans ts st K H u b) (q : ∀ H', Same H H' → Q (.bl b) H') : (∃ o, KV K H u o ∧ seqB o 5 5 = false ∧ ∀ H', Same H H' → Q (.bl false) H') ∨ (∃ wd a d x1 x2, Five K H u wd a d x1 x2 ∧ ∀ (b : Bool) H', Same H H' → (b = true ↔ Holds ts st wd a d x1 x2) → Q (.bl b) H') := by
  rcases h.due q with h | ⟨wd, a, d, x1, x2, f, _, _, _, k⟩
  · exact .inl h
  · exact .inr ⟨wd, a, d, x1, x2, f, k⟩
theorem Ans.spDue {ts : Ts} {st : Int} {K : PySem.W.Frag} {H : Hp} {p q : Addr} {F : List KR} {u : V} {b : Bool} {Q : VK} {E : XK} (h : Ans ts st K H u b) (tl : TabL H p (vts ts)) (hq : MapsAt H q F) (hF : Fst (actL ts) ts.length (idL (nS ts)) F) (hf : F.length ≤ 1000) (hW : Wf ts) (hst : 0 ≤ st ∧ st < (nS ts : Int)) (k : ∀ H', Same H H' → Q (.bl b) H') : spLDue K [.ref p, .ref q, .int st, u] H Q E :=
  ⟨p, q, st, F, ts, u, rfl, tl, hq, hF, hf, hW, hst, h.due k⟩
theorem Ans.spHolds {ts : Ts} {st : Int} {K : PySem.W.Frag} {M CS : Addr} {H : Hp} {m ta : Addr} {u : V} {b : Bool} {Q : VK} {E : XK} (h : Ans ts st K H u b) (hM : MachAt M H m ta (vts ts)) (hW : Wf ts) (hst : 0 ≤ st ∧ st < (nS ts : Int)) (k : ∀ H', Same H H' → Q (.bl b) H') : spTHolds K M CS [.ref m, .int st, u] H Q E :=
  ⟨m, ta, ts, .int st, u, rfl, hM, hW, ⟨K, _, .int st⟩, fun e => (by rw [belowI (n := nS ts) hst] at e; cases e), fun st' e' _ => by
    injection e' with e'
    subst e'
    exact h.holds k⟩
theorem Ans.kv {ts : Ts} {st : Int} {K : PySem.W.Frag} {H : Hp} {u : V} {b : Bool} (h : Ans ts st K H u b) : ∃ o, KV K H u o := by
  rcases h with ⟨⟨o, k, e⟩, _⟩ | ⟨wd, a, d, x1, x2, f, _⟩
  · exact ⟨o, k⟩
  · obtain ⟨p, y1, y2, rfl, q, _⟩ := f.ex
    exact ⟨_, q.kv⟩
theorem pl_bb (b : Bool) : Pl (.list [.bool b, .bool b]) 1 1000 := (Pl.list (PlA.cons (Pl.bl b) (PlA.cons (Pl.bl b) PlA.nil))).mono (by decide) (by decide)
abbrev sInner : List Stmt := bodyOf (sOuter.getD 3 (.Pass ⟨0, 0, 0, 0⟩))
section
variable {P : Program} {w : World} {K : PySem.W.Frag} {mg : Str → Option Value} {base : Heap}
theorem law_turns {f M CS c : Addr} {A : Around} {outer : List Env} {s : Shared} {H₀ : Hp} {E : XK} (hr : Room 10 (A.deeper (envOfC "law" (defScope sLaw) s.heap.objs.size f (.ref c)))) (hgd : (A.deeper (envOfC "law" (defScope sLaw) s.heap.objs.size f (.ref c))).guards = some []) (dn : Dn P w K mg base M CS) :
    ∃ t, PSs (cxOf CX0 P w K mg base nLa "law" (defScope sLaw) f (.ref c) A outer s H₀ E).nox (sInner.drop 6) t ∧
      ∀ (D : Ends) (H : Hp) (b p q m ta : Addr) (ts : Ts) (F : List KR) (st : Int) (u : V) (v0 v1 v7 v9 v10 v11 v12 v13 v14 : Option V), BoxO H b → TabL H p (vts ts) → p ≠ b → MapsAt H q F → q ≠ b → Fst (actL ts) ts.length (idL (nS ts)) F → F.length ≤ 1000 → Wf ts → MachAt M H m ta (vts ts) → (0 ≤ st ∧ st < (nS ts : Int)) → (u = .non ∨ (∃ z, u = .ref z) ∧ PapOk ts H u) →
        (∀ H' w9 w10 w11, Bx b H H' → D.nx [v0, v1, some (.ref b), some (.ref p), some (.ref m), some (.ref q), some (.int st), v7, some u, w9, w10, w11, v12, v13, v14] H') →
        t D [v0, v1, some (.ref b), some (.ref p), some (.ref m), some (.ref q), some (.int st), v7, some u, v9, v10, v11, v12, v13, v14] H := by
  have B := dn.B
  obtain ⟨fD, fdD, DD, GD⟩ := dn.due
  obtain ⟨fH, fdH, DH, GH⟩ := dn.tholds
  obtain ⟨fE, fdE, DE, GE⟩ := dn.bent
  have hu : (A.deeper (envOfC "law" (defScope sLaw) s.heap.objs.size f (.ref c))).units + 64 < cLine := hr.units
  have r3 := hr.mono (show 3 ≤ 10 by decide)
  have r6 := hr.mono (show 6 ≤ 10 by decide)
  refine ⟨_, pss_cons (ps_set (i := 9) scLa.nd rfl (.inl rfl) (pe_ifExp (pt_cmp (pc_notN (pv 8))) (pv 8) (pe_tup (pa_cons pe_str (pa_cons (pv 6) (pa_cons pe_int (pa_cons (pe_tup pa_nil) (pa_cons (pe_tup (pa_cons pe_int pa_nil)) pa_nil))))))))
    (pss_one (ps_for PassesOwn.never rfl (pi_range1 (by rfl) B.range (pa_cons pe_int pa_nil)) (pg_name (i := 10) scLa.nd rfl (.inl rfl))
      (pss_cons (ps_set (i := 11) scLa.nd rfl (.inl rfl) (pc DD GD r3 pass0 (pa_cons (pv 3) (pa_cons (pv 5) (pa_cons (pv 6) (pa_cons (pv 9) pa_nil))))))
      (pss_cons (ps_if (pt_cmpR op_ne (pe_callB (call_repr hgd hu) (by rfl) B.repr (by decide +kernel) (pa_cons (pe_lst (pa_cons (pc DH GH r6 passF (pa_cons (pv 4) (pa_cons (pv 6) (pa_cons (pv 9) pa_nil)))) (pa_cons (pe_callW DH GH r6 (kb_tholds DH.F) passF (pk_cons (pv 9) (pk_cons (pv 6) (pk_cons (pv 4) pk_nil)))) pa_nil))) pa_nil))
          (pe_callB (call_repr hgd hu) (by rfl) B.repr (by decide +kernel) (pa_cons (pe_lst (pa_cons (pv 11) (pa_cons (pv 11) pa_nil))) pa_nil)) (nomark _)) (pss_one (ps_ret pe_bl)) pss_nil)
      (pss_one (ps_set (i := 9) scLa.nd rfl (.inl rfl) (pc DE GE r3 pass0 (pa_cons (pv 2) (pa_cons (pv 3) (pa_cons (pe_ifExp (pt_cmp (pc_notN (pv 8))) (pv 8) (pe_tup (pa_cons pe_str (pa_cons (pv 6) (pa_cons pe_int (pa_cons (pe_tup pa_nil) (pa_cons (pe_tup (pa_cons pe_int pa_nil)) pa_nil))))))) pa_nil)))))))))), fun D H b p q m ta ts F st u v0 v1 v7 v9 v10 v11 v12 v13 v14 hb tl npb hq nqb hF hf hW hM hst hup k => ?_⟩
  have t1 := hW.t1
  have vz : VRow ts [0] := fun d hd => by rw [List.mem_singleton.mp hd]; omega
  have vn : VRow ts [] := fun d hd => absurd hd (by simp)
  -- the paper that stands for none
  have dflt : ∀ (G : Hp) (z1 z2 z3 : Addr), G z1 = some (.tup []) → G z2 = some (.tup [.int 0]) → G z3 = some (.tup [.str "untold", .int st, .int 0, .ref z1, .ref z2]) → PapOk ts G (.ref z3) := fun G z1 z2 z3 h1 h2 h3 => ⟨z3, st, 0, z1, z2, [], [0], rfl, ⟨h3, h1, h2⟩, vn, vz, by decide, by decide⟩
  refine seqG (fun σ G => ∃ val, σ = [v0, v1, some (.ref b), some (.ref p), some (.ref m), some (.ref q), some (.int st), v7, some u, some val, v10, v11, v12, v13, v14] ∧ Bx b H G ∧ ValOk K G val) ?_ (fun kk => ?_)
  · rintro σ G ⟨val, rfl, bx0, vo⟩
    refine ⟨6, rfl, by decide, by decide, for_range (n := 6) (fun i σ G => ∃ val w10 w11, σ = [v0, v1, some (.ref b), some (.ref p), some (.ref m), some (.ref q), some (.int st), v7, some u, some val, w10, w11, v12, v13, v14] ∧ Bx b H G ∧ ValOk K G val) ⟨val, v10, v11, rfl, bx0, vo⟩ ?_ ?_⟩
    · rintro i σ G1 hi ⟨val, w10, w11, rfl, bx1, vo⟩
      obtain ⟨rb, an⟩ := ans_ex (ts := ts) (st := st) vo
      have tl1 := tl.bx npb hb bx1
      have hM1 : MachAt M G1 m ta (vts ts) := let ⟨⟨dx, t0, h0, h1⟩, as, k1, k2, k3⟩ := hM
        ⟨⟨dx, t0, h0, bx1.2 _ _ h1 (hb.ne h1 fun xs => by intro z; cases z)⟩, as, bx1.tup hb k1, k2, fun i c t e1 e2 => bx1.tup hb (k3 i c t e1 e2)⟩
      have hq1 : MapsAt G1 q F := let ⟨as, h1, h2, h3⟩ := hq
        ⟨as, bx1.lst nqb h1, h2, fun i a x y e1 e2 => let ⟨c, d, g1, g2, g3⟩ := h3 i a x y e1 e2; ⟨c, d, bx1.tup hb g1, bx1.tup hb g2, bx1.tup hb g3⟩⟩
      refine ⟨_, rfl, _, rfl, _, rfl, _, rfl, nilP (an.spDue tl1 hq1 hF hf hW hst fun G2 s2 => ?_)⟩
      refine gn ?_
      dsimp only [List.set]
      have an2 := an.same s2
      refine ⟨_, rfl, _, rfl, _, rfl, nilP (an2.spHolds (hM1.same s2) hW hst fun G3 s3 => ?_)⟩
      have an3 := an2.same s3
      have hM3 := (hM1.same s2).same s3
      refine ⟨_, rfl, _, rfl, _, rfl, nilP ⟨rfl, an3.spHolds hM3 hW hst fun G4 s4 => ?_⟩⟩
      have bx4 := bx1.same ((s2.trans s3).trans s4)
      refine ⟨(by show 2 ≤ sizeLine; decide), fun l1 hl1 => ?_⟩
      have s5 := same_new (o := HO.lst [V.bl rb, .bl rb]) hl1
      refine nilP (reprP (d := .list [.bool rb, .bool rb]) (.lst (SqL.of upd_same) (.cons (.bl rb) (.cons (.bl rb) .nil))) (pl_bb rb) (by decide) (by decide) ?_)
      refine ⟨_, rfl, _, rfl, (by show 2 ≤ sizeLine; decide), fun l2 hl2 => ?_⟩
      have s6 := same_new (o := HO.lst [V.bl rb, .bl rb]) hl2
      refine nilP (reprP (d := .list [.bool rb, .bool rb]) (.lst (SqL.of upd_same) (.cons (.bl rb) (.cons (.bl rb) .nil))) (pl_bb rb) (by decide) (by decide) ?_)
      refine neV rfl ⟨_, rfl, iteF (nxP ?_)⟩
      have bx6 := bx4.same (s5.trans s6)
      generalize upd (upd G4 l1 (.lst [V.bl rb, .bl rb])) l2 (.lst [V.bl rb, .bl rb]) = G6 at bx6 ⊢
      -- the next one
      have go : ∀ (G7 : Hp) (pv : V), Bx b H G7 → PapOk ts G7 pv → spLBent K [.ref b, .ref p, pv] G7 (fun v H' => gName 9 v [v0, v1, some (.ref b), some (.ref p), some (.ref m), some (.ref q), some (.int st), v7, some u, some val, some (.int (0 + (i : Int))), some (.bl rb), v12, v13, v14] H' fun σ G => ∃ val w10 w11, σ = [v0, v1, some (.ref b), some (.ref p), some (.ref m), some (.ref q), some (.int st), v7, some u, some val, w10, w11, v12, v13, v14] ∧ Bx b H G ∧ ValOk K G val) fun _ _ _ => False := fun G7 pv bx7 po => by
        obtain ⟨pv, x, d, a, c, r1, r2, rfl, pa, q1, q2, l1, l2⟩ := po
        exact ⟨b, p, ts, pv, x, d, a, c, r1, r2, rfl, bx7.1, tl.bx npb hb bx7, npb, hW, pa, q1, q2, l1, l2, fun u' H' bx8 vo8 => gn ⟨_, _, _, rfl, bx7.trans bx8, vo8⟩⟩
      rcases hup with rfl | ⟨⟨z, rfl⟩, po⟩
      · refine ⟨_, rfl, _, rfl, _, rfl, _, rfl, iteN rfl ?_⟩
        refine ⟨_, rfl, (by show 0 ≤ sizeLine; decide), fun z1 hz1 => ⟨(by show 1 ≤ sizeLine; decide), fun z2 hz2 => ⟨(by show 5 ≤ sizeLine; decide), fun z3 hz3 => ?_⟩⟩⟩
        have u1 := same_new (o := HO.tup []) hz1
        have u2 := same_new (o := HO.tup [.int 0]) hz2
        have u3 := same_new (o := HO.tup [.str "untold", .int st, .int 0, .ref z1, .ref z2]) hz3
        exact nilP (go _ _ (bx6.same ((u1.trans u2).trans u3)) (dflt _ z1 z2 z3 (u3 _ _ (u2 _ _ upd_same)) (u3 _ _ upd_same) upd_same))
      · refine ⟨_, rfl, _, rfl, _, rfl, _, rfl, iteT ?_⟩
        exact ⟨_, rfl, nilP (go _ _ bx6 (po.bx hb bx6))⟩
    · rintro σ G1 ⟨val, w10, w11, rfl, bx1, vo⟩
      exact k _ _ _ _ bx1
  · rcases hup with rfl | ⟨⟨z, rfl⟩, po⟩
    · refine ⟨_, rfl, _, rfl, iteN rfl ?_⟩
      refine ⟨_, rfl, (by show 0 ≤ sizeLine; decide), fun z1 hz1 => ⟨(by show 1 ≤ sizeLine; decide), fun z2 hz2 => ⟨(by show 5 ≤ sizeLine; decide), fun z3 hz3 => ?_⟩⟩⟩
      have u1 := same_new (o := HO.tup []) hz1
      have u2 := same_new (o := HO.tup [.int 0]) hz2
      have u3 := same_new (o := HO.tup [.str "untold", .int st, .int 0, .ref z1, .ref z2]) hz3
      have bx3 := (Bx.refl hb).same ((u1.trans u2).trans u3)
      exact gn (kk _ _ ⟨_, rfl, bx3, (dflt _ z1 z2 z3 (u3 _ _ (u2 _ _ upd_same)) (u3 _ _ upd_same) upd_same).val hW bx3.1⟩)
    · refine ⟨_, rfl, _, rfl, iteT ?_⟩
      exact ⟨_, rfl, gn (kk _ _ ⟨_, rfl, Bx.refl hb, po.val hW hb⟩)⟩
end
end K1
namespace K1
open PySem PySem.Spec PyProof.Rows L2
/-! ### one state of the law -/
theorem TPV.bx {b : Addr} {H H' : Hp} {u : V} {r : Option (Int × Int × List Int × List Int)} (h : TPV H u r) (hb : BoxO H b) (x : Bx b H H') : TPV H' u r :=
  match r, h with
  | none, h => h
  | some (_, _, _, _), ⟨p, a, c, e, h1, h2, h3⟩ => ⟨p, a, c, e, x.tup hb h1, x.tup hb h2, x.tup hb h3⟩
theorem tp_tells {ts : Ts} {st : Int} {r : Option (Int × Int × List Int × List Int)} (t : TPaper ts st r) : r.isNone = true ↔ Tells ts st := by
  cases r with
  | none =>
    refine ⟨fun _ x hx d hd => ?_, fun _ => rfl⟩
    obtain ⟨F, hF, e⟩ := t x hx d hd
    exact (pp_none ⟨F, hF⟩).mp ⟨F, hF, e⟩
  | some z =>
    obtain ⟨x, d, r1, r2⟩ := z
    refine ⟨fun e => (by cases e), fun te => ?_⟩
    obtain ⟨h1, h2, h3, _⟩ := t
    obtain ⟨v1, v2, e1, e2⟩ := pp_some h3
    exact absurd (te x h1 d h2 r1 r2 v1 v2 e1) e2
theorem cp_comm {ts : Ts} {st : Int} {ns : List Int} {r : Option (Int × Int × Int)} (mem : ∀ x, x ∈ ns ↔ Rch ts st x) (t : PaperIs ts ns r) : r.isNone = true ↔ Comm ts st := by
  cases r with
  | none =>
    refine ⟨fun _ x hx d e hd he => ?_, fun _ => rfl⟩
    exact Classical.byContradiction fun z => t x ((mem x).mpr hx) d e hd he z
  | some z =>
    obtain ⟨x, a, b⟩ := z
    refine ⟨fun e => (by cases e), fun c => ?_⟩
    obtain ⟨i, h1, h2, h3, h4, _⟩ := t
    exact absurd (c x ((mem x).mp (List.mem_of_getElem? h1)) a b h2 h3) h4
def tpD (x d : Int) (r1 r2 : List Int) : PyData := .tuple [.str "untold", .int x, .int d, .tuple (dI r1), .tuple (dI r2)]
theorem pp_len2 {ts : Ts} {a h : Int} {r1 r2 : List Int} (w : Wf ts) (ha : 0 ≤ a ∧ a < (nS ts : Int)) (hh : 0 ≤ h ∧ h < (nS ts : Int)) (p : PP ts a h (some (r1, r2))) : r1.length ≤ 144 ∧ r2.length ≤ 144 := by
  obtain ⟨F, hF, e⟩ := p
  obtain ⟨x, hx, y, hy, _, rfl, rfl, _⟩ := part_some F [] e
  rw [List.nil_append] at hx
  have l := pair_short w ha hh hF
  have h1 := (hF.mem hx).2.2
  have h2 := (hF.mem hy).2.2
  omega
theorem tp_pl {ts : Ts} {st x d : Int} {r1 r2 : List Int} (hW : Wf ts) (hst : 0 ≤ st ∧ st < (nS ts : Int)) (t : TPaper ts st (some (x, d, r1, r2))) : Pl (tpD x d r1 r2) 2 30000 := by
  obtain ⟨k1, k2, k3, _⟩ := t
  have hx := k1.rng hW hst
  have n12 := hW.s12
  have t8 := hW.t8
  obtain ⟨l1, l2⟩ := pp_len2 hW hx (stp_rng hW hx k2) k3
  obtain ⟨v1, v2, _⟩ := pp_some k3
  have p1 := pl_r l1 fun z hz => by have := v1 z hz; omega
  have p2 := pl_r l2 fun z hz => by have := v2 z hz; omega
  obtain ⟨e1, e2⟩ := k2
  exact (Pl.tuple (PlA.cons (pl_str (x := "untold") (by decide +kernel) (by decide +kernel) (by decide +kernel)) (PlA.cons (Pl.int (i := x) (by omega)) (PlA.cons (Pl.int (i := d) (by omega)) (PlA.cons p1 (PlA.cons p2 PlA.nil)))))).mono (by decide) (by decide)
/-- the text of what is told -/
theorem tp_repr {ts : Ts} {st : Int} {r : Option (Int × Int × List Int × List Int)} (hW : Wf ts) (hst : 0 ≤ st ∧ st < (nS ts : Int)) (t : TPaper ts st r) : ∃ x : Str, ∀ (K : PySem.W.Frag) (H : Hp) (u : V) (Q : VK), TPV H u r → Q (.str x) H → rReprS [u] H Q ∨ rRepr K [u] H Q := by
  cases r with
  | none => exact ⟨"None", fun K H u Q v q => by
      obtain rfl : u = .non := v
      exact reprN q⟩
  | some z =>
    obtain ⟨x, d, r1, r2⟩ := z
    have pl := tp_pl hW hst t
    refine ⟨(tpD x d r1 r2).shown, fun K H u Q v q => ?_⟩
    obtain ⟨p, a, b, rfl, h1, h2, h3⟩ := v
    exact repr2 (.tup (SqT.of h1) (.cons (.str _) (.cons (.int _) (.cons (.int _) (.cons (dp_tup h2) (.cons (dp_tup h3) .nil)))))) pl (by decide) (by decide) q
theorem tp_told {ts : Ts} {H : Hp} {u : V} {st : Int} {r : Option (Int × Int × List Int × List Int)} (hW : Wf ts) (hst : 0 ≤ st ∧ st < (nS ts : Int)) (t : TPaper ts st r) (v : TPV H u r) : u = .non ∨ (∃ z, u = .ref z) ∧ PapOk ts H u := by
  cases r with
  | none => exact .inl v
  | some z =>
    have k := tp_pap hW hst t v
    obtain ⟨x, d, r1, r2⟩ := z
    obtain ⟨p, a, b, e, _⟩ := v
    exact .inr ⟨⟨p, e⟩, k⟩
theorem MapsAt.bx {b q : Addr} {H H1 : Hp} {F : List KR} (h : MapsAt H q F) (hb : BoxO H b) (n : q ≠ b) (x : Bx b H H1) : MapsAt H1 q F :=
  let ⟨as, h1, h2, h3⟩ := h
  ⟨as, x.lst n h1, h2, fun i a y z e1 e2 => let ⟨c, d, g1, g2, g3⟩ := h3 i a y z e1 e2; ⟨c, d, x.tup hb g1, x.tup hb g2, x.tup hb g3⟩⟩
theorem MachAt.bx {b M m ta : Addr} {ts : List (List V)} {H H1 : Hp} (h : MachAt M H m ta ts) (hb : BoxO H b) (x : Bx b H H1) : MachAt M H1 m ta ts :=
  let ⟨⟨dx, t0, h0, h1⟩, as, k1, k2, k3⟩ := h
  ⟨⟨dx, t0, h0, x.2 _ _ h1 (hb.ne h1 fun xs => by intro z; cases z)⟩, as, x.tup hb k1, k2, fun i c t e1 e2 => x.tup hb (k3 i c t e1 e2)⟩
theorem and_not {c d : Bool} {σ : L2.St} {H : Hp} {Q : Bool → Hp → Prop} (hσ : σ[7]? = some (some (.bl d))) (h : c = true → d = true) (q : Q false H) : (if c = true then tNot (tB (tVar 7)) σ H Q else Q false H) := by
  cases c with
  | false => exact iteF q
  | true =>
    refine iteT ⟨_, hσ, _, rfl, ?_⟩
    rw [h rfl]
    exact q
section
variable {P : Program} {w : World} {K : PySem.W.Frag} {mg : Str → Option Value} {base : Heap}
theorem law_state {f M CS c : Addr} {A : Around} {outer : List Env} {s : Shared} {H₀ : Hp} {E : XK} (hr : Room 10 (A.deeper (envOfC "law" (defScope sLaw) s.heap.objs.size f (.ref c)))) (hgd : (A.deeper (envOfC "law" (defScope sLaw) s.heap.objs.size f (.ref c))).guards = some []) (dn : Dn P w K mg base M CS) :
    ∃ t, PSs (cxOf CX0 P w K mg base nLa "law" (defScope sLaw) f (.ref c) A outer s H₀ E).nox sInner t ∧
      ∀ (D : Ends) (H : Hp) (b p q m ta : Addr) (ts : Ts) (F : List KR) (st : Int) (v0 v1 v7 v8 v9 v10 v11 v12 v13 v14 : Option V), BoxO H b → TabL H p (vts ts) → p ≠ b → MapsAt H q F → q ≠ b → Fst (actL ts) ts.length (idL (nS ts)) F → F.length ≤ 1000 → Wf ts → MachAt M H m ta (vts ts) → (0 ≤ st ∧ st < (nS ts : Int)) →
        (∀ H' w7 w8 w9 w10 w11, Bx b H H' → D.nx [v0, v1, some (.ref b), some (.ref p), some (.ref m), some (.ref q), some (.int st), w7, w8, w9, w10, w11, v12, v13, v14] H') →
        t D [v0, v1, some (.ref b), some (.ref p), some (.ref m), some (.ref q), some (.int st), v7, v8, v9, v10, v11, v12, v13, v14] H := by
  have B := dn.B
  obtain ⟨fL, fdL, DL, GL⟩ := dn.tells
  obtain ⟨fT, fdT, DT, GT⟩ := dn.tpaper
  obtain ⟨fI, fdI, DI, GI⟩ := dn.istell
  obtain ⟨fC, fdC, DC, GC⟩ := dn.comm
  obtain ⟨fP, fdP, DP, GP⟩ := dn.cpaper
  obtain ⟨fD, fdD, DD, GD⟩ := dn.due
  obtain ⟨fK, fdK, DK, GK⟩ := dn.kept
  have hu : (A.deeper (envOfC "law" (defScope sLaw) s.heap.objs.size f (.ref c))).units + 64 < cLine := hr.units
  have r1 := hr.mono (show 1 ≤ 10 by decide)
  have r3 := hr.mono (show 3 ≤ 10 by decide)
  have r5 := hr.mono (show 5 ≤ 10 by decide)
  have r6 := hr.mono (show 6 ≤ 10 by decide)
  obtain ⟨tt, htt, qt⟩ := law_turns (P := P) (w := w) (outer := outer) (s := s) (f := f) (c := c) (H₀ := H₀) (E := E) hr hgd dn
  refine ⟨_, pss_cons (ps_par (i := 7) (j := 8) rfl scLa.nd rfl rfl (by decide) rfl rfl (pa_cons (pc DL GL r1 pass0 (pa_cons (pv 3) (pa_cons (pv 5) (pa_cons (pv 6) pa_nil)))) (pa_cons (pc DT GT r5 passF (pa_cons (pv 4) (pa_cons (pv 6) pa_nil))) pa_nil)) rfl)
    (pss_cons (ps_if (PW.pt (pw_or (pt_cmpR op_ne (pe_callB call_reprS (by rfl) B.repr (by decide +kernel) (pa_cons (pc DI GI r6 passF (pa_cons (pv 4) (pa_cons (pv 6) pa_nil))) pa_nil)) (pe_callB call_reprS (by rfl) B.repr (by decide +kernel) (pa_cons (pv 7) pa_nil)) (nomark _))
        (pw_or (pt_cmpR op_ne (pe_cmp (pc_isN (pv 8))) (pv 7) (nomark _))
        (pw_or1 (pt_cmpR op_ne (pe_callW DI GI r6 (kb_istell DI.F) passF (pk_cons (pv 6) (pk_cons (pv 4) pk_nil))) (pv 7) (nomark _)))))) (pss_one (ps_ret pe_bl)) pss_nil)
    (pss_cons (ps_if (PW.pt (pw_or (PW.pt (pw_and (pt_val (pc DC GC r1 pass0 (pa_cons (pv 3) (pa_cons (pv 5) (pa_cons (pv 6) pa_nil))))) (pw_and1 (pt_not (pt_val (pv 7))))))
        (pw_or1 (PW.pt (pw_and (pt_val (pv 7)) (pw_and1 (pt_not (pt_val (pc DK GK r3 pass0 (pa_cons (pv 2) (pa_cons (pv 3) (pa_cons (pv 5) (pa_cons (pv 6) pa_nil))))))))))))) (pss_one (ps_ret pe_bl)) pss_nil)
    (pss_cons (ps_if (pt_cmpR op_ne (pe_callB call_reprS (by rfl) B.repr (by decide +kernel) (pa_cons (pe_cmp (pc_isN (pc DP GP r5 passF (pa_cons (pv 4) (pa_cons (pv 6) pa_nil))))) pa_nil)) (pe_callB call_reprS (by rfl) B.repr (by decide +kernel) (pa_cons (pc DC GC r1 pass0 (pa_cons (pv 3) (pa_cons (pv 5) (pa_cons (pv 6) pa_nil)))) pa_nil)) (nomark _)) (pss_one (ps_ret pe_bl)) pss_nil)
    (pss_cons (ps_if (PW.pt (pw_and (pt_cmp (pc_notN (pv 8))) (pw_and1 (PW.pt (pw_or (pt_not (pt_val (pe_callB call_isi (by rfl) B.isinstance (by decide +kernel) (pa_cons (pv 8) (pa_cons (pe_bltn (v := .ty "tuple") (by rfl) B.tuple PyProof.Rows.boot_tuple rfl) pa_nil)))))
        (pw_or (pt_not (pt_val (pe_callB call_isi (by rfl) B.isinstance (by decide +kernel) (pa_cons (pe_ix (ixTK (K := K) rfl) (pv 8) pe_int (fun _ _ => rfl)) (pa_cons (pe_bltn (v := .ty "tuple") (by rfl) B.tuple PyProof.Rows.boot_tuple rfl) pa_nil)))))
        (pw_or1 (pt_not (pt_val (pc DD GD r3 pass0 (pa_cons (pv 3) (pa_cons (pv 5) (pa_cons (pv 6) (pa_cons (pv 8) pa_nil)))))))))))))) (pss_one (ps_ret pe_bl)) pss_nil)
    (pss_cons (ps_if (pt_cmpR op_ne (pe_callB (call_or2 call_reprS (call_repr hgd hu)) (by rfl) B.repr (by decide +kernel) (pa_cons (pe_callW DT GT r5 (kb_tpaper DT.F) passF (pk_cons (pv 6) (pk_cons (pv 4) pk_nil))) pa_nil)) (pe_callB (call_or2 call_reprS (call_repr hgd hu)) (by rfl) B.repr (by decide +kernel) (pa_cons (pv 8) pa_nil)) (nomark _)) (pss_one (ps_ret pe_bl)) pss_nil)
      htt))))), fun D H b p q m ta ts F st v0 v1 v7 v8 v9 v10 v11 v12 v13 v14 hb tl npb hq nqb hF hf hW hM hst k => ?_⟩
  have kvst : ∃ (K' : PySem.W.Frag) (o : Option (List V)), KV K' H (.int st) o := ⟨K, _, .int st⟩
  have good : ∀ {X : Prop}, belowB (.int st) (nS ts : Int) = false → X := fun e => by rw [belowI (n := nS ts) hst] at e; cases e
  -- both tellings
  refine ⟨_, rfl, _, rfl, _, rfl, nilP ⟨p, q, st, F, ts, rfl, hq, hF, hf, hW, hst, fun bd H1 s1 ibd => ?_⟩⟩
  refine ⟨_, rfl, _, rfl, nilP ⟨m, ta, ts, .int st, rfl, hM.same s1, hW, ⟨K, _, .int st⟩, fun e => good e, fun st' e' _ r u H2 s2 tp tv => ?_⟩⟩
  injection e' with e'
  subst e'
  have ed : bd = r.isNone := bool_iff ibd (tp_tells tp)
  subst ed
  refine ⟨_, _, rfl, ?_⟩
  dsimp only [List.set]
  have bx2 : Bx b H H2 := (Bx.refl hb).same (s1.trans s2)
  -- whether it tells
  have rb : ∀ (c : Bool) (G : Hp) (Q : VK), Q (.str (if c then "True" else "False")) G → rReprS [V.bl c] G Q := fun c G Q q => ⟨_, rfl, .inr (.inl ⟨c, rfl, q⟩)⟩
  refine ⟨_, rfl, _, rfl, nilP ⟨m, ta, ts, .int st, rfl, hM.bx hb bx2, hW, ⟨K, _, .int st⟩, fun e => good e, fun st' e' _ r' H3 s3 tp' => ?_⟩⟩
  injection e' with e'
  subst e'
  obtain rfl := tp.one tp'
  refine nilP (rb _ _ _ ⟨_, rfl, nilP (rb _ _ _ (neV rfl ⟨_, rfl, iteF ?_⟩))⟩)
  have un : (u = .non ∧ r.isNone = true) ∨ ((∃ z, u = .ref z) ∧ r.isNone = false) := by
    cases r with
    | none => exact .inl ⟨tv, rfl⟩
    | some z =>
      obtain ⟨x, d, r1, r2⟩ := z
      obtain ⟨p', a', b', e, _⟩ := tv
      exact .inr ⟨⟨p', e⟩, rfl⟩
  have bx3 := bx2.same s3
  have eN : decide (u = V.non) = r.isNone := by
    rcases un with ⟨rfl, e⟩ | ⟨⟨z, rfl⟩, e⟩ <;> rw [e]
    · exact decide_eq_true rfl
    · exact decide_eq_false (by intro z; cases z)
  refine ⟨_, rfl, ?_⟩
  dsimp only
  rw [eN]
  refine ⟨_, rfl, neV rfl ⟨_, rfl, iteF ?_⟩⟩
  refine ⟨_, rfl, _, rfl, nilP ⟨rfl, m, ta, ts, .int st, rfl, hM.bx hb bx3, hW, ⟨K, _, .int st⟩, fun e => good e, fun st' e' _ r' H4 s4 tp' => ?_⟩⟩
  injection e' with e'
  subst e'
  obtain rfl := tp.one tp'
  refine ⟨_, rfl, neV rfl ⟨_, rfl, iteF (nxP ?_)⟩⟩
  have bx4 := bx3.same s4
  -- commuting deeds, kept rows
  dsimp only
  refine seqG (u := tSeq _ (tSeq _ (tSeq _ tt))) (fun σ G => σ = [v0, v1, some (.ref b), some (.ref p), some (.ref m), some (.ref q), some (.int st), some (.bl r.isNone), some u, v9, v10, v11, v12, v13, v14] ∧ Bx b H G ∧ TPV G u r) ?_ (fun kk => ?_)
  rotate_left
  · refine ⟨_, rfl, _, rfl, _, rfl, nilP ⟨p, q, st, F, ts, rfl, tl.bx npb hb bx4, hq.bx hb nqb bx4, hF, hf, hW, hst, fun bc H5 s5 ibc => ?_⟩⟩
    have bx5 := bx4.same s5
    have tv5 := tv.bx bx2.1 ((Bx.refl bx2.1).same ((s3.trans s4).trans s5))
    have imp : bc = true → r.isNone = true := fun e => (tp_tells tp).mpr (ibc.mp e).tells
    refine ⟨_, rfl, and_not rfl imp (iteF ?_)⟩
    refine ⟨_, rfl, _, rfl, ifD (fun e => ?_) fun e => ?_⟩
    · refine ⟨_, rfl, _, rfl, _, rfl, _, rfl, nilP ⟨b, p, q, st, F, ts, rfl, bx5.1, hq.bx hb nqb bx5, nqb, hF, hf, hW, hst, (tp_tells tp).mp e, fun H6 bx => ?_⟩⟩
      exact ⟨_, rfl, iteF (nxP (kk _ _ ⟨rfl, bx5.trans bx, tv5.bx bx5.1 bx⟩))⟩
    · exact iteF (nxP (kk _ _ ⟨rfl, bx5, tv5⟩))
  rintro σ G ⟨rfl, bxG, tvG⟩
  refine ⟨_, rfl, _, rfl, nilP ⟨m, ta, ts, .int st, rfl, hM.bx hb bxG, hW, ⟨_, .int st⟩, fun e => good e, fun _ => ⟨st, rfl, fun ns r3 u3 G1 s5 _ mem pis pv => ?_⟩⟩⟩
  have e3 : decide (u3 = V.non) = r3.isNone := by
    cases r3 with
    | none =>
      obtain rfl : u3 = .non := pv
      exact decide_eq_true rfl
    | some z =>
      obtain ⟨x, a', b'⟩ := z
      obtain ⟨p', rfl, _⟩ := pv
      exact decide_eq_false (by intro z; cases z)
  dsimp only
  rw [e3]
  have bxG1 := bxG.same s5
  refine nilP (rb _ _ _ ⟨_, rfl, _, rfl, _, rfl, nilP ⟨p, q, st, F, ts, rfl, tl.bx npb hb bxG1, hq.bx hb nqb bxG1, hF, hf, hW, hst, fun bc G2 s6 ibc => ?_⟩⟩)
  obtain rfl : bc = r3.isNone := bool_iff ibc (cp_comm mem pis)
  refine nilP (rb _ _ _ (neV rfl ⟨_, rfl, iteF (nxP ?_)⟩))
  have bxG2 := bxG1.same s6
  have tvG2 : TPV G2 u r := (tvG.bx bxG.1 ((Bx.refl bxG.1).same (s5.trans s6)))
  dsimp only
  refine seqG (u := tSeq _ tt) (fun σ G => σ = [v0, v1, some (.ref b), some (.ref p), some (.ref m), some (.ref q), some (.int st), some (.bl r.isNone), some u, v9, v10, v11, v12, v13, v14] ∧ Bx b H G ∧ TPV G u r) ?_ (fun kk => ?_)
  rotate_left
  · rcases un with ⟨rfl, er⟩ | ⟨⟨z, rfl⟩, er⟩
    · exact ⟨_, rfl, _, rfl, iteN rfl (iteN rfl (nxP (kk _ _ ⟨rfl, bxG2, tvG2⟩)))⟩
    · obtain ⟨x, d, r1, r2, rfl⟩ : ∃ x d r1 r2, r = some (x, d, r1, r2) := by
        cases r with
        | none => cases er
        | some z => exact ⟨z.1, z.2.1, z.2.2.1, z.2.2.2, rfl⟩
      obtain ⟨p', a', b', e, h1, h2, h3⟩ := id tvG2
      injection e with e
      subst e
      obtain ⟨k1, k2, k3, _⟩ := id tp
      have hx := k1.rng hW hst
      have t8 := hW.t8
      obtain ⟨l1, l2⟩ := pp_len hW hx (stp_rng hW hx k2) k3
      obtain ⟨w1, w2, e1, e2⟩ := pp_some k3
      have sm : ∀ (r : List Int), r.length ≤ 150 → VRow ts r → Sm (some (vrow r)) := fun r l v xs e => by
        obtain rfl := Option.some.inj e
        exact ⟨by rw [vrow, List.length_map]; omega, vrow_flat (n := ts.length) (by omega) v⟩
      have an : Ans ts st K G2 (.ref z) true := .inr ⟨.str "untold", .int x, .int d, some (vrow r1), some (vrow r2), ⟨⟨z, .ref a', .ref b', rfl, .inr h1, ⟨.tup h2, kindsR⟩, ⟨.tup h3, kindsR⟩⟩, rfl, .int x, .int d⟩, .inl rfl, sm r1 l1 w1, sm r2 l2 w2, fun _ => ⟨rfl, x, d, r1, r2, rfl, k1, rfl, k2, rfl, rfl, w1, w2, by omega, by omega, e1, e2⟩, fun _ => rfl⟩
      refine ⟨_, rfl, _, rfl, iteT ⟨_, rfl, _, _, _, _, _, rfl, .ty _, .base (.tup h1), kit_T K .t, _, rfl, iteN rfl ⟨_, rfl, z, _, 3, _, rfl, rfl, SqT.of h1, atI_nat (j := 3) rfl, _, _, _, _, _, rfl, .ty _, .base (.tup h2), kit_T K .t, _, rfl, iteN rfl ?_⟩⟩⟩
      refine ⟨_, rfl, _, rfl, _, rfl, _, rfl, nilP (an.spDue (tl.bx npb hb bxG2) (hq.bx hb nqb bxG2) hF hf hW hst fun H' s => ⟨_, rfl, iteF (nxP (kk _ _ ⟨rfl, bxG2.same s, tvG2.bx bxG2.1 ((Bx.refl bxG2.1).same s)⟩))⟩)⟩
  rintro σ G3 ⟨rfl, bxG3, tvG3⟩
  obtain ⟨xr, hxr⟩ := tp_repr hW hst tp
  refine ⟨_, rfl, _, rfl, nilP ⟨rfl, m, ta, ts, .int st, rfl, hM.bx hb bxG3, hW, ⟨K, _, .int st⟩, fun e => good e, fun st' e' _ r' u' G4 s7 tp' tv' => ?_⟩⟩
  injection e' with e'
  subst e'
  obtain rfl := tp.one tp'
  have tvG4 := tvG3.bx bxG3.1 ((Bx.refl bxG3.1).same s7)
  refine nilP (hxr _ _ _ _ tv' ⟨_, rfl, nilP (hxr _ _ _ _ tvG4 (neV rfl ⟨_, rfl, iteF (nxP ?_)⟩))⟩)
  have bxG4 := bxG3.same s7
  refine qt _ _ b p q m ta ts F st u _ _ _ _ _ _ _ _ _ bxG4.1 (tl.bx npb hb bxG4) npb (hq.bx hb nqb bxG4) nqb hF hf hW (hM.bx hb bxG4) hst (tp_told hW hst tp tvG4) fun H' w9 w10 w11 bx => k _ _ _ _ _ _ (bxG4.trans bx)
end
end K1
namespace K1
open PySem PySem.Spec PyProof.Rows L2
def spLaw (K : PySem.W.Frag) (T : List (Addr × Str)) : Sp := fun vs H Q _ => ∃ (a : Addr) (ns : List Int), vs = [.ref a] ∧ SqL K H a (ns.map V.int) ∧ ns.length ≤ 63 ∧ LamX.Tabs T H ∧ ∀ H', Q (.bl true) H'
section
variable {P : Program} {w : World} {K : PySem.W.Frag} {mg : Str → Option Value} {base : Heap}
theorem ok_law {f fI M CM CS c Pt : Addr} {fd fdI : FuncData} (F : FunC K "law" "law" sLaw f fd (.ref c)) (MI : Mk K M fI) (BI : Binds K fdI ["self", "tables"] []) (GI : FnOk P w K mg base (L2.CX P w) 6 fI fdI ["self", "tables"] (spMInit K CM M)) (TB : LamX.TabB base mg c Pt) (dn : Dn P w K mg base M CS) :
    FnG P w K mg base 11 f fd ["_law_script"] (spLaw K [(Pt, qLa)]) := by
  refine F.okG scLa (fun vs H Q E h => ?_) (fun A outer s H vs Q E hr hgd h => ?_)
  · obtain ⟨a, ns, rfl, _⟩ := h
    rfl
  · obtain ⟨a, ns, rfl, hS, hn, hT, qq⟩ := h
    have B := dn.B
    have TM := dn.T
    obtain ⟨fB, fdB, DB, GB⟩ := dn.box
    obtain ⟨fA, fdA, DA, GA⟩ := dn.tabs
    obtain ⟨fMp, fdMp, DMp, GMp⟩ := dn.maps
    have r1 := hr.mono (show 1 ≤ 10 by decide)
    have r3 := hr.mono (show 3 ≤ 10 by decide)
    have r7 := hr.mono (show 7 ≤ 10 by decide)
    obtain ⟨ts_, hts, qs⟩ := law_state (P := P) (w := w) (outer := outer) (s := s) (f := f) (c := c) (H₀ := H) (E := E) hr hgd dn
    obtain ⟨tb_, htb, qb⟩ := law_bad (P := P) (w := w) (outer := outer) (s := s) (f := f) (c := c) (H₀ := H) (E := E) hr hgd TB dn
    refine ⟨_, pss_cons (ps_for PassesOwn.never rfl (pi_range1 (by rfl) B.range (pa_cons pe_int pa_nil)) (pg_name (i := 1) scLa.nd rfl (.inl rfl))
        (pss_cons (ps_set (i := 2) scLa.nd rfl (.inl rfl) (pc DB GB r1 pass0 (pa_cons (pv 0) (pa_cons (pv 1) pa_nil))))
        (pss_cons (ps_set (i := 3) scLa.nd rfl (.inl rfl) (pc DA GA r3 pass0 (pa_cons (pv 2) (pa_cons pe_int pa_nil))))
        (pss_cons (ps_par (i := 4) (j := 5) rfl scLa.nd rfl rfl (by decide) rfl rfl (pa_cons (pe_make MI GI r7 rfl TM.g BI .nil passF (pa_cons (pv 3) pa_nil)) (pa_cons (pc DMp GMp r1 pass0 (pa_cons (pv 3) pa_nil)) pa_nil)) rfl)
        (pss_cons (ps_for PassesOwn.never rfl (pi_range1 (by rfl) B.range (pa_cons (pe_callB (clen (K := K) rfl) (by rfl) B.len PySem.boot_len (pa_cons (pe_ix (ixLK (K := K) rfl) (pv 3) pe_int (fun _ _ => rfl)) pa_nil)) pa_nil)) (pg_name (i := 6) scLa.nd rfl (.inl rfl)) hts)
        htb)))))
      (pss_one (ps_ret pe_bl)), ?_⟩
    refine ⟨2, rfl, by decide, by decide, for_range (n := 2) (fun _ σ H' => ∃ v1 v2 v3 v4 v5 v6 v7 v8 v9 v10 v11 v12 v13 v14, σ = [some (.ref a), v1, v2, v3, v4, v5, v6, v7, v8, v9, v10, v11, v12, v13, v14] ∧ SqL K H' a (ns.map V.int) ∧ LamX.Tabs [(Pt, qLa)] H') ⟨_, _, _, _, _, _, _, _, _, _, _, _, _, _, rfl, hS, hT⟩ ?_ ?_⟩
    · rintro i σ H1 hi ⟨v1, v2, v3, v4, v5, v6, v7, v8, v9, v10, v11, v12, v13, v14, rfl, hS1, hT1⟩
      refine ⟨_, rfl, _, rfl, a, ns, _, rfl, hS1, hn, by omega, by omega, fun b H2 s2 nb bo => ?_⟩
      refine gn ?_
      dsimp only [List.set]
      have R2 : Rl b [(Pt, qLa)] H2 H2 := Rl.refl bo (hT1.ext s2)
      refine ⟨_, rfl, b, rfl, bo, fun p ts H3 bx3 hp0 npb tl hW few => ?_⟩
      refine gn ?_
      dsimp only [List.set]
      have R3 := R2.bx bx3
      refine ⟨_, rfl, fun m dx hm hdx ne => ?_⟩
      have s0 : Same H3 (upd (upd H3 dx (.own m)) m (.ins M dx [])) := (same_new hdx).trans (same_new (by rw [upd_ne ne.symm]; exact hm))
      refine ⟨m, dx, _, _, rfl, upd_same, (tl.same s0).mv, fun z hz => (by rw [chk_wf hW] at hz; cases hz), fun _ ts' ets ta H5 k5 hM => ⟨rfl, ?_⟩⟩
      obtain rfl : vts ts = ts' := map_some (Option.some.inj ets)
      have s5 := mkS hm hdx k5
      have tl5 := tl.same s5
      have R5 := R3.same s5
      clear k5 hm hdx s0
      refine ⟨_, rfl, p, ts, rfl, tl5, hW, few, fun q F H6 s6 hq0 hMaps hF hf => ?_⟩
      have nqb : q ≠ b := R5.1.nn hq0
      refine ⟨_, _, rfl, ?_⟩
      dsimp only [List.set]
      have R6 := R5.same s6
      have hM6 := hM.same s6
      have tl6 := tl5.same s6
      obtain ⟨t0, et0⟩ : ∃ t0, ts[0]? = some t0 := ⟨ts[0]'(by have := hW.t1; omega), List.getElem?_eq_getElem _⟩
      obtain ⟨as, a0, h1, h2, h3, h4⟩ := tl6.row et0
      have l0 : ((vrow t0).length : Int) = (nS ts : Int) := by
        unfold nS
        rw [et0, vrow, List.length_map]; rfl
      have n1 := hW.s1
      have n12 := hW.s12
      have eN : ((nS ts : Int)).toNat = nS ts := by omega
      have hb6 := R6.1
      refine ⟨_, rfl, p, _, 0, .ref a0, rfl, rfl, SqL.of h1, atI_nat (j := 0) (by rw [List.getElem?_map, h3]; rfl), a0, _, rfl, .inr (SqT.of h4), ((vrow t0).length : Int), rfl, by omega, by omega, for_range (fun j σ H' => ∃ w6 w7 w8 w9 w10 w11, σ = [some (.ref a), some (.int (0 + (i : Int))), some (.ref b), some (.ref p), some (.ref m), some (.ref q), w6, w7, w8, w9, w10, w11, v12, v13, v14] ∧ Bx b H6 H') ⟨_, _, _, _, _, _, rfl, Bx.refl hb6⟩ ?_ ?_⟩
      · rintro j σ H7 hj ⟨w6, w7, w8, w9, w10, w11, rfl, bx7⟩
        refine gn ?_
        dsimp only [List.set]
        exact qs _ H7 b p q m ta ts F (0 + (j : Int)) _ _ _ _ _ _ _ _ _ _ bx7.1 (tl6.bx npb hb6 bx7) npb (hMaps.bx hb6 nqb bx7) nqb hF hf hW (hM6.bx hb6 bx7) ⟨by omega, by omega⟩ fun H' x7 x8 x9 x10 x11 bx => ⟨_, _, _, _, _, _, rfl, bx7.trans bx⟩
      · rintro σ H7 ⟨w6, w7, w8, w9, w10, w11, rfl, bx7⟩
        have R7 := R6.bx bx7
        exact qb _ H7 b p m ta ts _ _ _ _ _ _ _ _ _ _ _ _ R7.1 R7.2.1 (tl6.bx npb hb6 bx7) npb hW (hM6.bx hb6 bx7) fun H' x12 x13 x14 r => ⟨_, _, _, _, _, _, _, _, _, _, _, _, _, _, rfl, sqL_rl hS1 nb s2 (R7.trans r), r.2.1⟩
    · rintro σ H1 ⟨v1, v2, v3, v4, v5, v6, v7, v8, v9, v10, v11, v12, v13, v14, rfl, _, _⟩
      exact qq _
end
end K1
namespace K1
open PySem PySem.Spec PyProof.Rows L2
/-- the caller's call of a law that is told where nothing is being shown; some tables of code objects stand by -/
theorem call_laws {P : Program} {w : World} {K : PySem.W.Frag} {mg mb : Str → Option Value} {k : Nat} {fa a : Addr} (Ps : List (Addr × Addr)) {fd : FuncData} {x : Str} {sp : Sp} {s : Shared} {vs : List Value} {ns : List Int}
    (KX : K.In s.heap) (hmg : s.heap.Ns mainGlobals mg) (hmb : s.heap.Ns builtinsNs mb) (hbb : ∀ x : Str, x ≠ "__name__" → mb x = bootBuiltins x) (hlim : s.heap.NoLimit) (hg : s.gens = #[])
    (hPs : ∀ p ∈ Ps, s.heap.get? p.2 = some { cls := .none, data := .fields #[] } ∧ K.lookup p.2 = none ∧ PySem.W.CodeHd s.heap p.1 p.2)
    (hbm : ∃ (bm : Addr) (ob : Obj), mg "__builtins__" = some (.ref bm) ∧ bm ≠ builtinsNs ∧ s.heap.get? bm = some ob ∧ ob.cls = .type "module" ∧ ob.dict = some builtinsNs ∧ ob.data = .plain)
    (ha : s.heap.get? a = some { cls := .type "list", data := .seq vs.toArray }) (hi : IntsAre vs ns) (hl : ns.length ≤ sizeLine) (hr : Room k callerA)
    (F : ∀ base : Heap, K.In base → base.Ns mainGlobals mg → (∀ p ∈ Ps, LamX.TabB base mg p.1 p.2) → FnG P w K mg base k fa fd [x] sp) (hbind : ∀ (s : Shared) (u : Value), BindsTo s fd ⟨[u], []⟩ [(x, u)])
    (hsp : ∀ H : Hp, (∀ p ∈ Ps, H p.2 = some (.tbl #[])) → SqL K H a (ns.map V.int) → sp [.ref a] H (fun v _ => v = .bl true) fun _ _ _ => False) :
    codeAny (model P w) callerA (.call (.ref fa) ⟨[.ref a], []⟩) (fun r s' => r = .ok (.ret (.bool true)) ∧ OldK s.heap s'.heap ∧ s'.os = s.os ∧ AllBare s'.gens) s := by
  have hTS : ∀ b, b ∈ Ps.map (·.2) → s.heap.get? b = some { cls := .none, data := .fields #[] } ∧ K.lookup b = none ∧ ∃ c, PySem.W.CodeHd s.heap c b := fun b hb => by
    obtain ⟨p, hp, rfl⟩ := List.mem_map.mp hb
    obtain ⟨h1, h2, h3⟩ := hPs p hp
    exact ⟨h1, h2, _, h3⟩
  generalize hTSd : Ps.map (·.2) = TS at hTS
  have inTS : ∀ p ∈ Ps, p.2 ∈ TS := fun p hp => by rw [← hTSd]; exact List.mem_map.mpr ⟨p, hp, rfl⟩
  have nPa : ∀ b ∈ TS, b ≠ a := fun b hb z => by
    have hT := (hTS b hb).1
    rw [z, ha] at hT
    cases Option.some.inj hT
  -- told of any way to follow the script
  have told : ∀ H : Hp, (∀ b ∈ TS, H b = some (.tbl #[])) → (∀ b, b ∉ TS → H b = none ∨ (b = a ∧ K.lookup a = none ∧ ∃ o xs, H a = some (.frz o (.lst xs)))) → SqL K H a (ns.map V.int) → HOk P w H s.heap →
      codeAny (model P w) callerA (.call (.ref fa) ⟨[.ref a], []⟩) (fun r s' => r = .ok (.ret (.bool true)) ∧ OldK s.heap s'.heap ∧ s'.os = s.os ∧ AllBare s'.gens) s := by
    intro H hP hO hS hok
    have out : ∀ {b : Addr} {o : Obj}, s.heap.get? b = some o → b ∉ TS → b ≠ a → (hidT s.heap H).get? b = some o := fun {b o} e n1 n2 => hidT_get e ((hO b n1).resolve_right fun z => n2 z.1)
    have neD : ∀ {b : Addr} {o : Obj}, s.heap.get? b = some o → (∀ v n, o.data ≠ .seq v n) → (o.data ≠ .fields #[]) → b ∉ TS ∧ b ≠ a := fun {b o} e h1 h2 => ⟨fun z => by
      have hT := (hTS b z).1
      rw [hT] at e
      cases Option.some.inj e
      exact h2 rfl, fun z => by
      rw [z, ha] at e
      cases Option.some.inj e
      exact h1 _ _ rfl⟩
    have ns_ : ∀ {b : Addr} {m : Str → Option Value}, s.heap.Ns b m → (hidT s.heap H).Ns b m := fun {b m} ⟨o, es, ep, e, d, r⟩ => by
      have n := neD e (fun v n z => by rw [d] at z; cases z) (fun z => by rw [d] at z; cases z)
      exact ⟨o, es, ep, out e n.1 n.2, d, r⟩
    have kin : K.In (hidT s.heap H) := fun b o e => by
      refine hidT_get (KX b o e) ?_
      by_cases z : b ∈ TS
      · rw [(hTS b z).2.1] at e; cases e
      · refine (hO b z).resolve_right fun ⟨z1, z2, _⟩ => ?_
        rw [z1, z2] at e
        cases e
    have hM : L2.Mod K mg (hidT s.heap H) := ⟨kin, ns_ hmg, ⟨mb, ns_ hmb, hbb⟩, let ⟨mc, h1, h2⟩ := hlim; ⟨mc, ns_ h1, h2⟩⟩
    have TB : ∀ p ∈ Ps, LamX.TabB (hidT s.heap H) mg p.1 p.2 := fun p hp => by
      obtain ⟨hT, nT, hC⟩ := hPs p hp
      refine ⟨?_, ?_, fun z => ?_⟩
      · obtain ⟨o, us, file, tf, flags, tg, inF, text, tt, e, e2, e3, r⟩ := hC
        have n := neD e (fun v n z => by rw [e3] at z; cases z) (fun z => by
          rw [e3] at z
          cases z
          have := r.1
          simp at this)
        exact ⟨o, us, file, tf, flags, tg, inF, text, tt, out e n.1 n.2, e2, e3, r⟩
      · obtain ⟨bm, ob, b1, b2, b3, b4, b5, b6⟩ := hbm
        have n := neD b3 (fun v n z => by rw [b6] at z; cases z) (fun z => by rw [b6] at z; cases z)
        refine ⟨bm, ob, b1, b2, fun z => ?_, fun z => n.1 (by rw [z]; exact inTS p hp), out b3 n.1 n.2, b4, b5, b6⟩
        obtain ⟨o, es, ep, e, d, _⟩ := hmg
        rw [z, e] at b3
        cases Option.some.inj b3
        rw [d] at b6
        cases b6
      · obtain ⟨o, es, ep, e, d, _⟩ := hmg
        rw [z, hT] at e
        cases Option.some.inj e
        cases d
    have e0 : Env0 P w K mg (hidT s.heap H) callerA [] s H := ⟨rfl, hM, fun b o e => of_hidT e, Nat.le_of_eq (hidT_size _ _), trivial, fun b hb => absurd (show b ∈ ([] : List Addr) from hb) (by simp), hok, .of_eq hg⟩
    refine codeAny_mono ((F _ kin (ns_ hmg) TB).run callerA [] s H ⟨[.ref a], []⟩ [.ref a] [.ref a] _ _ hr rfl e0 (hbind s (.ref a)) (.cons rfl .nil) (hsp H (fun p hp => hP _ (inTS p hp)) hS)) fun r s' h => ?_
    cases r with
    | error e => exact (show False from h).elim
    | ok fl =>
      cases fl with
      | next => exact False.elim h
      | brk => exact False.elim h
      | cont => exact False.elim h
      | ret u =>
        obtain ⟨v, H', os, bare, un, hok', r', q⟩ := h
        obtain rfl : v = V.bl true := q
        obtain rfl : u = Value.bool true := r'
        have hm' : ∀ b ∈ TS, ∃ more, s'.heap.get? b = some { cls := .none, data := .fields more } := fun b hb => by
          obtain ⟨more, hm⟩ := un.tbls b #[] (hP b hb)
          have z := hok' b _ hm
          rw [Array.empty_append] at z
          exact ⟨more, z⟩
        have rest : ∀ b o, b ∉ TS → s.heap.get? b = some o → s'.heap.get? b = some o := fun b o n e => by
          rcases hO b n with z | ⟨z, _, ob, xs, hf⟩
          · exact un.keep b o e z (fun w => absurd (show b ∈ ([] : List Addr) from w) (by simp)) (by simp)
          · rw [z] at e ⊢
            have e1 := (hok a _ hf).1
            rw [e] at e1
            rw [Option.some.inj e1]
            exact (hok' a _ (un.frzs a ob _ hf)).1
        refine ⟨rfl, ⟨fun b o e => ?_, fun b o e => ?_⟩, os, bare⟩
        · by_cases z : b ∈ TS
          · obtain ⟨hT, _, c, hC⟩ := hTS b z
            obtain ⟨more, hm⟩ := hm' b z
            rw [hT] at e
            cases Option.some.inj e
            exact .inr (.inl ⟨(hC.tab hT).isCodeTable, rfl, #[], more, rfl, by rw [Array.empty_append]; exact hm⟩)
          · exact .inl (rest b o z e)
        · by_cases z : b ∈ TS
          · obtain ⟨more, hm⟩ := hm' b z
            exact ⟨_, hm⟩
          · exact ⟨o, rest b o z e⟩
  have rv := vals_ints hi
  have naTS : a ∉ TS := fun z => nPa a z rfl
  cases hk : K.lookup a with
  | some o =>
    have e := KX a o hk
    rw [ha] at e
    cases Option.some.inj e
    refine told (fun b => if b ∈ TS then some (.tbl #[]) else none) (fun b hb => if_pos hb) (fun b n => .inl (if_neg n)) (.inr ⟨_, vs.toArray, _, hk, rfl, rfl, rfl, by rw [List.size_toArray, hi.length]; exact hl, by simpa using rv⟩) fun b u z => ?_
    by_cases n : b ∈ TS
    · have z' : some (HO.tbl #[]) = some u := (if_pos n).symm.trans z
      cases z'
      exact (hTS b n).1
    · have z' : (none : Option HO) = some u := (if_neg n).symm.trans z
      cases z'
  | none =>
    refine told (fun b => if b ∈ TS then some (.tbl #[]) else if b = a then some (.frz { cls := .type "list", data := .seq vs.toArray } (.lst (ns.map V.int))) else none) (fun b hb => if_pos hb) (fun b n => ?_) (.inl (.inr ⟨_, (if_neg naTS).trans (if_pos rfl)⟩)) fun b u z => ?_
    · by_cases n2 : b = a
      · exact .inr ⟨n2, hk, _, _, (if_neg naTS).trans (if_pos rfl)⟩
      · exact .inl ((if_neg n).trans (if_neg n2))
    · by_cases n : b ∈ TS
      · have z' : some (HO.tbl #[]) = some u := (if_pos n).symm.trans z
        cases z'
        exact (hTS b n).1
      · by_cases n2 : b = a
        · have z' := ((if_neg n).trans (if_pos n2)).symm.trans z
          cases z'
          rw [n2]
          exact ⟨ha, by rw [List.length_map]; exact hl, vs, _, rv, ha⟩
        · have z' := ((if_neg n).trans (if_neg n2)).symm.trans z
          cases z'
end K1
namespace K1
open PySem PySem.Spec PyProof.Rows L2
/-- what the top has left -/
structure Tp (K : PySem.W.Frag) (mg : Str → Option Value) (M CM CS c Pt fa : Addr) (fd : FuncData) : Prop where
  B : Bt mg
  ct : Ct mg
  mpr : ∃ t, mg "MOST_PAPER_ROW" = some (.int 200 t)
  whole : ∃ f fd, Df K mg "is_whole" sWhole ["value"] f fd
  below : ∃ f fd, Df K mg "is_below" sBelow ["value", "limit"] f fd
  seq : ∃ f fd, Df K mg "is_sequence" sSeq ["value", "least", "most"] f fd
  fnb : ∃ f fd, Df K mg "first_not_below" sFnb ["items", "limit"] f fd
  istab : ∃ f fd, Df K mg "is_table" sIsTab ["value", "states"] f fd
  chk : ∃ f fd, Df K mg "checked_tables" sChk ["value"] f fd
  needS : ∃ f fd, Df K mg "need_state" sNeedS ["machine", "state"] f fd
  fault : ∃ f fd, Df K mg "row_fault" sFault ["machine", "value"] f fd
  moved : ∃ f fd, Df K mg "moved" sMoved ["machine", "state", "row"] f fd
  first : ∃ f fd, DfF K mg f fd
  orbit : ∃ f fd, Df K mg "orbit" sOrbit ["machine", "state"] f fd
  parting : ∃ f fd, Df K mg "parting_rows" sParting ["machine", "archive", "here"] f fd
  tpaper : ∃ f fd, Df K mg "telling_paper" sTPaper ["machine", "state"] f fd
  istell : ∃ f fd, Df K mg "is_telling" sIsTell ["machine", "state"] f fd
  prow : ∃ f fd, Df K mg "is_paper_row" sPRow ["machine", "value"] f fd
  tholds : ∃ f fd, Df K mg "telling_holds" sTHolds ["machine", "state", "value"] f fd
  cpaper : ∃ f fd, Df K mg "commuting_paper" sCPaper ["machine", "state"] f fd
  box : ∃ f fd, Df K mg "_law_box" sBox ["_law_script", "_law_k"] f fd
  take : ∃ f fd, Df K mg "_law_take" sTake ["_law_box_here", "_law_many"] f fd
  pick : ∃ f fd, Df K mg "_law_pick" sPick ["_law_box_here", "_law_some"] f fd
  tabs : ∃ f fd, Df K mg "_law_tables" sTabs ["_law_box_here", "_law_most"] f fd
  maps : ∃ f fd, Df K mg "_law_maps" sMaps ["_law_tables_here"] f fd
  lled : ∃ f fd, Df K mg "_law_led" sLLed ["_law_tables_here", "_law_state", "_law_row"] f fd
  ltells : ∃ f fd, Df K mg "_law_tells" sLTells ["_law_tables_here", "_law_maps_here", "_law_state"] f fd
  lcomm : ∃ f fd, Df K mg "_law_commute" sLComm ["_law_tables_here", "_law_maps_here", "_law_state"] f fd
  lwhole : ∃ f fd, Df K mg "_law_whole" sLWhole ["_law_value", "_law_most"] f fd
  lisrow : ∃ f fd, Df K mg "_law_is_row" sLIsRow ["_law_value", "_law_many"] f fd
  ldue : ∃ f fd, Df K mg "_law_due" sLDue ["_law_tables_here", "_law_maps_here", "_law_state", "_law_value"] f fd
  lbent : ∃ f fd, Df K mg "_law_bent" sLBent ["_law_box_here", "_law_tables_here", "_law_value"] f fd
  lkept : ∃ f fd, Df K mg "_law_kept_right" sLKept ["_law_box_here", "_law_tables_here", "_law_maps_here", "_law_state"] f fd
  law : FunC K "law" "law" sLaw fa fd (.ref c)
  lawb : ∀ (s : Shared) (u : Value), BindsTo s fd ⟨[u], []⟩ [("_law_script", u)]
  init : ∃ f fd, Fun K "__init__" "Machine.__init__" sMInit f fd ∧ Mk K M f ∧ Binds K fd ["self", "tables"] []
  T : McT K mg M
  t1 : ∃ q b i, LAt.Txt K mg "BadMachine" q b CM i
  t3 : ∃ q b i, LState.Txt K mg "NoState" q b CS i
  ess : PySem.W.exmOne K (.ref CS) (.ref CS) = some true
  tab : PySem.W.tabIn K "law" = some (c, Pt)
  nP : K.lookup Pt = Option.none
section
variable {P : Program} {w : World} {K : PySem.W.Frag} {mg : Str → Option Value} {base : Heap}
theorem asm {M CM CS c Pt fa : Addr} {fd : FuncData} (t : Tp K mg M CM CS c Pt fa fd) (TB : LamX.TabB base mg c Pt) : FnG P w K mg base 11 fa fd ["_law_script"] (spLaw K [(Pt, qLa)]) := by
  have B := t.B
  have ct := t.ct
  have T := t.T
  obtain ⟨_, _, dWhole⟩ := t.whole
  obtain ⟨_, _, dBelow⟩ := t.below
  obtain ⟨_, _, dSeq⟩ := t.seq
  obtain ⟨_, _, dFnb⟩ := t.fnb
  obtain ⟨_, _, dIstab⟩ := t.istab
  obtain ⟨_, _, dChk⟩ := t.chk
  obtain ⟨_, _, dNeedS⟩ := t.needS
  obtain ⟨_, _, dFault⟩ := t.fault
  obtain ⟨_, _, dMoved⟩ := t.moved
  obtain ⟨_, _, dFirst⟩ := t.first
  obtain ⟨_, _, dOrbit⟩ := t.orbit
  obtain ⟨_, _, dParting⟩ := t.parting
  obtain ⟨_, _, dTpaper⟩ := t.tpaper
  obtain ⟨_, _, dIstell⟩ := t.istell
  obtain ⟨_, _, dProw⟩ := t.prow
  obtain ⟨_, _, dTholds⟩ := t.tholds
  obtain ⟨_, _, dCpaper⟩ := t.cpaper
  obtain ⟨_, _, dBox⟩ := t.box
  obtain ⟨_, _, dTake⟩ := t.take
  obtain ⟨_, _, dPick⟩ := t.pick
  obtain ⟨_, _, dTabs⟩ := t.tabs
  obtain ⟨_, _, dMaps⟩ := t.maps
  obtain ⟨_, _, dLled⟩ := t.lled
  obtain ⟨_, _, dLtells⟩ := t.ltells
  obtain ⟨_, _, dLcomm⟩ := t.lcomm
  obtain ⟨_, _, dLwhole⟩ := t.lwhole
  obtain ⟨_, _, dLisrow⟩ := t.lisrow
  obtain ⟨_, _, dLdue⟩ := t.ldue
  obtain ⟨_, _, dLbent⟩ := t.lbent
  obtain ⟨_, _, dLkept⟩ := t.lkept
  obtain ⟨_, _, fInit, mk, bInit⟩ := t.init
  obtain ⟨_, _, _, x1⟩ := id t.t1
  obtain ⟨_, _, _, x3⟩ := id t.t3
  have gWhole := ok_whole (P := P) (w := w) (base := base) dWhole B
  have gBelow := ok_below (P := P) (w := w) (base := base) dBelow dWhole B
  have gSeq := ok_seq (P := P) (w := w) (base := base) dSeq B
  have gFnb := ok_fnb (P := P) (w := w) (base := base) dFnb dBelow B gBelow
  have gIstab := ok_istab (P := P) (w := w) (base := base) dIstab dSeq dFnb gSeq gFnb
  have gChk := ok_chk (P := P) (w := w) (base := base) dChk dSeq dIstab B ct x1 gSeq gIstab
  have gInit := ok_minit (P := P) (w := w) (base := base) fInit dChk B T gChk
  have gNeedS := ok_needS (P := P) (w := w) (base := base) dNeedS dBelow T x3 gBelow
  have gFault := ok_fault (P := P) (w := w) (base := base) dFault dSeq dFnb ct T gSeq gFnb
  have gMoved := ok_moved (P := P) (w := w) (base := base) dMoved T
  have gMovedA := ok_movedA (P := P) (w := w) (base := base) dMoved T
  have gFirst := ok_first (P := P) (w := w) (base := base) dFirst B T
  have gOrbit := ok_orbit (P := P) (w := w) (base := base) dOrbit dNeedS dFirst B gNeedS gFirst
  have gParting := ok_parting (P := P) (w := w) (base := base) dParting dFirst B gFirst
  have gTpaper := ok_tpaper (P := P) (w := w) (base := base) dTpaper dOrbit dParting B T gOrbit gParting
  have gIstell := ok_istell (P := P) (w := w) (base := base) dIstell dTpaper gTpaper
  have gProw := ok_prow (P := P) (w := w) (base := base) dProw dSeq dFault t.mpr gSeq gFault
  have gTholds := ok_tholds (P := P) (w := w) (base := base) dTholds dOrbit dSeq dWhole dBelow dProw dMoved B T gOrbit gSeq gWhole gBelow gProw gMovedA
  have gCpaper := ok_cpaper (P := P) (w := w) (base := base) dCpaper dOrbit dMoved B T gOrbit gMoved
  have gTake := ok_take (P := P) (w := w) (base := base) dTake B
  have gPick := ok_pick (P := P) (w := w) (base := base) dPick dTake B gTake
  have gBox := ok_box (P := P) (w := w) (base := base) dBox B
  have gTabs := ok_tabs (P := P) (w := w) (base := base) dTabs dTake dPick B gTake gPick
  have gMaps := ok_maps (P := P) (w := w) (base := base) dMaps B
  have gLled := ok_lled (P := P) (w := w) (base := base) dLled
  have gLtells := ok_ltells (P := P) (w := w) (base := base) dLtells B
  have gLcomm := ok_lcomm (P := P) (w := w) (base := base) dLcomm B
  have gLwhole := ok_lwhole (P := P) (w := w) (base := base) dLwhole B
  have gLisrow := ok_lisrow (P := P) (w := w) (base := base) dLisrow dLwhole B gLwhole
  have gLdue := ok_ldue (P := P) (w := w) (base := base) dLdue dLwhole dLisrow dLled B gLwhole gLisrow gLled
  have gLbent := ok_lbent (P := P) (w := w) (base := base) dLbent dPick dTake B gPick gTake
  have gLkept := ok_lkept (P := P) (w := w) (base := base) dLkept dPick B gPick
  have dn : Dn P w K mg base M CS := ⟨B, T, ⟨_, _, dTake, gTake⟩, ⟨_, _, dPick, gPick⟩, ⟨_, _, dTpaper, gTpaper⟩, ⟨_, _, dIstell, gIstell⟩, ⟨_, _, dTholds, gTholds⟩, ⟨_, _, dCpaper, gCpaper⟩, ⟨_, _, dBox, gBox⟩, ⟨_, _, dTabs, gTabs⟩, ⟨_, _, dMaps, gMaps⟩, ⟨_, _, dLtells, gLtells⟩, ⟨_, _, dLcomm, gLcomm⟩, ⟨_, _, dLdue, gLdue⟩, ⟨_, _, dLbent, gLbent⟩, ⟨_, _, dLkept, gLkept⟩, x3.gC, t.t3, t.ess⟩
  exact ok_law t.law mk bInit gInit TB dn
end
/-- the end: from what the top has left -/
theorem walkK {l : PySem.W.OpenLaw} {q : Program} {loose : List Str} {XP : (Str → Option Value) → Heap → Prop} {YP : World → Heap → Prop} {d : DefRec} {K : Params → PySem.W.Frag} (hn : l.most = some 63) (hdf : d.params.defaults = []) (hY : ∀ (w : World) (h : Heap), YP w h → (K w.params).In h)
    (hr : ∃ d', (recsOf q).find? (fun e => e.name == ("law" : Str)) = some d')
    (F : ∀ (w : World) (mg : Str → Option Value) (fa : Addr) (h : Heap), (K w.params).In h → h.Ns mainGlobals mg → mg d.name = some (.ref fa) → ∃ (M CM CS c Pt : Addr) (fd : FuncData), Tp (K w.params) mg M CM CS c Pt fa fd) :
    PySem.W.WalkO q loose XP YP l.row.toRowW d [] (fun f vs => PySem.call f vs) := by
  refine Att.attach_callB hn hdf fun w s₀ s₁ mg mb fa o pm cd doc a vs ns G Y ho hd hcd hmg hobj hints hlen hbits hg => ?_
  have KX := hY w _ Y
  obtain ⟨M, CM, CS, c, Pt, fd, t⟩ := F w mg fa _ KX G.T.g hmg
  obtain ⟨d', hr⟩ := hr
  obtain ⟨C, hT⟩ := PySem.W.tab_of G.T KX hr t.tab
  exact call_laws (k := 11) [(c, Pt)] (x := "_law_script") (sp := spLaw (K w.params) [(Pt, qLa)]) KX G.T.g G.T.b G.T.builtins G.T.nolimit hg (fun p hp => by
      rw [List.mem_singleton.mp hp]
      exact ⟨hT, t.nP, C⟩) G.T.bmain hobj hints (Nat.le_trans hlen (by decide)) ⟨rfl, by decide, by decide⟩ (fun base _ _ TB => asm t (TB _ List.mem_cons_self)) t.lawb
    fun H hP hS => ⟨a, ns, rfl, hS, hlen, fun p hp => by
      rw [List.mem_singleton.mp hp]
      exact .nil (hP _ List.mem_cons_self), fun _ => rfl⟩
end K1
namespace K1
open PySem PySem.Spec PyProof.Rows L2
section
variable {K : PySem.W.Frag} {h : Heap} {mg : Str → Option Value} {x qual : Str} {st : Stmt} {ps : List Str} {f C : Addr} {oc kV doc pm cdv ct : Value} {od an : Option Addr} {osl : Array (Option Value)}
theorem df_of (X : K.In h) (G : h.Ns mainGlobals mg) (a : PySem.W.nsIn K mainGlobals x = some (some (.ref f))) (l : K.lookup f = some ⟨oc, od, .func (PySem.W.fnOf x x (defArgs st) (defBody st) (defScope st) .none kV doc pm an cdv ct), osl⟩)
    (c : PySem.W.codeIn K cdv x = true) (k : PySem.W.keepIn K (.ref f) = true)
    (b : ∀ (kV doc pm : Value) (an : Option Addr) (cdv ct : Value) (us : List Value), us.length = ps.length → bindArgs (PySem.W.fnOf x x (defArgs st) (defBody st) (defScope st) .none kV doc pm an cdv ct) ⟨us, []⟩ = pure (ps.zip us)) : ∃ f fd, Df K mg x st ps f fd :=
  ⟨f, _, ⟨fun_mk l c k, PySem.W.mg_of X G a, (fun_mk l c k).binds b⟩⟩
theorem dfF_of {T : Addr} {o1 : Value} {o2 : Option Addr} {n : Nat} {o4 : Array (Option Value)} (X : K.In h) (G : h.Ns mainGlobals mg) (a : PySem.W.nsIn K mainGlobals "first_rows" = some (some (.ref f)))
    (l : K.lookup f = some ⟨oc, od, .func (PySem.W.fnOf "first_rows" "first_rows" (defArgs sFirst) (defBody sFirst) (defScope sFirst) (.ref T) kV doc pm an cdv ct), osl⟩)
    (c : PySem.W.codeIn K cdv "first_rows" = true) (k : PySem.W.keepIn K (.ref f) = true) (lT : K.lookup T = some ⟨o1, o2, .seq #[.none, .none] n, o4⟩) : ∃ f fd, DfF K mg f fd :=
  ⟨f, _, ⟨⟨⟨oc, od, .ref T, kV, doc, pm, an, cdv, ct, osl, rfl, l, c, .inr ⟨by simp, T, _, [.none, .none], n, rfl, lT, rfl, .cons rfl (.cons rfl .nil)⟩, .inl rfl⟩, k⟩, PySem.W.mg_of X G a⟩⟩
theorem law_of {fa cc : Addr} (X : K.In h) (G : h.Ns mainGlobals mg) (e : mg "law" = some (.ref fa)) (a : PySem.W.nsIn K mainGlobals "law" = some (some (.ref f))) (l : K.lookup f = some ⟨oc, od, .func (PySem.W.fnOf "law" "law" (defArgs sLaw) (defBody sLaw) (defScope sLaw) .none kV doc pm an (.ref cc) ct), osl⟩)
    (c : PySem.W.codeIn K (.ref cc) "law" = true) (k : PySem.W.keepIn K (.ref f) = true) : ∃ fd, FunC K "law" "law" sLaw fa fd (.ref cc) ∧ ∀ (s : Shared) (u : Value), BindsTo s fd ⟨[u], []⟩ [("_law_script", u)] := by
  have z := e.symm.trans (PySem.W.mg_of X G a)
  cases Option.some.inj z
  exact ⟨_, ⟨⟨oc, od, kV, doc, pm, an, ct, osl, rfl, l, c⟩, k⟩, fun s u => .of_eq rfl⟩
theorem init_of {M : Addr} (a : PySem.W.findIn K (.ref M) "__init__" = some (some (.ref f))) (i : PySem.W.isFn K (.ref f) = true) (m : PySem.W.makesIn K M = true) (kM : PySem.W.keepIn K (.ref M) = true)
    (l : K.lookup f = some ⟨oc, od, .func (PySem.W.fnOf "__init__" "Machine.__init__" (defArgs sMInit) (defBody sMInit) (defScope sMInit) .none kV doc pm an cdv ct), osl⟩) (c : PySem.W.codeIn K cdv "Machine.__init__" = true) (k : PySem.W.keepIn K (.ref f) = true) :
    ∃ f fd, Fun K "__init__" "Machine.__init__" sMInit f fd ∧ Mk K M f ∧ Binds K fd ["self", "tables"] [] :=
  ⟨f, _, fun_mk l c k, ⟨m, a, i, kM⟩, (fun_mk l c k).binds fun _ _ _ _ _ _ us hl => match us, hl with | [_, _], _ => rfl⟩
end
section
variable {K : PySem.W.Frag} {h : Heap} {mg : Str → Option Value} {cn ql nm q : Str} {C N0 N fI : Addr} {bs sub : List Value} {sn : List Str} {ab : Bool} {col : Option Bool} {dd : Option Addr} {k0 k1 k2 k3 k5 : Option Value} {oc doc pm cdv ct : Value} {od an : Option Addr} {osl : Array (Option Value)} {p1 p2 q1 q2 q3 q4 : Pos}
theorem at_of_ (X : K.In h) (G : h.Ns mainGlobals mg) (a : PySem.W.nsIn K mainGlobals cn = some (some (.ref C))) (xl : K.lookup C = some (excClassObj nm q C N bs (.ref N0 :: veT) true sn sub ab col dd k0 k1 k2 k3 k5 "ValueError.__new__"))
    (sa : PySem.W.findIn K (.ref C) "__setattr__" = some (some (.builtin "object.__setattr__"))) (ga : PySem.W.findIn K (.ref C) "__getattribute__" = some (some (.builtin "BaseException.__getattribute__"))) (gg : PySem.W.findIn K (.ref C) "__getattr__" = some none) (no : PySem.W.findIn K (.ref C) "at" = some none)
    (ic : PySem.W.findIn K (.ref C) "__init__" = some (some (.ref fI))) (tc : PySem.W.typeIn K (.ref fI) = some (.type "function")) (kc : PySem.W.keepIn K (.ref C) = true) (ec : PySem.W.subIn K (.ref C) (.type "BaseException") = some true) (ty : PySem.W.typeIn K (.ref C) = some (.type "type")) (hc : PySem.W.hasDictIn K C = true)
    (l : K.lookup fI = some ⟨oc, od, .func (PySem.W.fnOf "__init__" ql (LAt.iA p1 p2) (LAt.iB q1 q2 q3 q4) LAt.iS .none .none doc pm an cdv ct), osl⟩) (c : PySem.W.codeIn K cdv ql = true) : ∃ q b i, LAt.Txt K mg cn q b C i :=
  ⟨ql, _, fI, ⟨PySem.W.mg_of X G a, ⟨nm, q, N, bs, sn, sub, ab, col, dd, k0, k1, k2, k3, k5, xl⟩, mro_ve N0, sa, ga, gg, no, ic, tc, kc, ec, ty, hc, ⟨oc, od, doc, pm, an, cdv, ct, osl, p1, p2, q1, q2, q3, q4, l, c⟩⟩⟩
theorem state_of_ (X : K.In h) (G : h.Ns mainGlobals mg) (a : PySem.W.nsIn K mainGlobals cn = some (some (.ref C))) (xl : K.lookup C = some (excClassObj nm q C N bs keT true sn sub ab col dd k0 k1 k2 k3 k5 "LookupError.__new__"))
    (sa : PySem.W.findIn K (.ref C) "__setattr__" = some (some (.builtin "object.__setattr__"))) (ga : PySem.W.findIn K (.ref C) "__getattribute__" = some (some (.builtin "BaseException.__getattribute__"))) (gg : PySem.W.findIn K (.ref C) "__getattr__" = some none) (no : PySem.W.findIn K (.ref C) "state" = some none)
    (ic : PySem.W.findIn K (.ref C) "__init__" = some (some (.ref fI))) (tc : PySem.W.typeIn K (.ref fI) = some (.type "function")) (kc : PySem.W.keepIn K (.ref C) = true) (ec : PySem.W.subIn K (.ref C) (.type "BaseException") = some true) (ty : PySem.W.typeIn K (.ref C) = some (.type "type")) (hc : PySem.W.hasDictIn K C = true)
    (l : K.lookup fI = some ⟨oc, od, .func (PySem.W.fnOf "__init__" ql (LState.iA p1 p2) (LState.iB q1 q2 q3 q4) LState.iS .none .none doc pm an cdv ct), osl⟩) (c : PySem.W.codeIn K cdv ql = true) : ∃ q b i, LState.Txt K mg cn q b C i :=
  ⟨ql, _, fI, ⟨PySem.W.mg_of X G a, ⟨nm, q, N, bs, sn, sub, ab, col, dd, k0, k1, k2, k3, k5, xl⟩, mro_ke, sa, ga, gg, no, ic, tc, kc, ec, ty, hc, ⟨oc, od, doc, pm, an, cdv, ct, osl, p1, p2, q1, q2, q3, q4, l, c⟩⟩⟩
end
theorem ct_of {K : PySem.W.Frag} {h : Heap} {mg : Str → Option Value} {t1 t2 t3 : Tok} (X : K.In h) (G : h.Ns mainGlobals mg) (a : PySem.W.nsIn K mainGlobals "MOST_TABLES" = some (some (.int 8 t1))) (b : PySem.W.nsIn K mainGlobals "MOST_STATES" = some (some (.int 12 t2))) (c : PySem.W.nsIn K mainGlobals "MOST_ROW" = some (some (.int 10000 t3))) : Ct mg :=
  ⟨⟨_, PySem.W.mg_of X G a⟩, ⟨_, PySem.W.mg_of X G b⟩, ⟨_, PySem.W.mg_of X G c⟩⟩
theorem bt_of {K : PySem.W.Frag} {h : Heap} {mg : Str → Option Value} (X : K.In h) (G : h.Ns mainGlobals mg) (z : ∀ x ∈ ([("isinstance" : Str), "int", "bool", "list", "tuple", "len", "enumerate", "range", "sorted", "set", "repr", "abs", "min", "max"]), PySem.W.nsIn K mainGlobals x = some none) : Bt mg := by
  have n := fun x hx => PySem.W.mg_none_of X G (z x hx)
  exact ⟨n _ (by decide), n _ (by decide), n _ (by decide), n _ (by decide), n _ (by decide), n _ (by decide), n _ (by decide), n _ (by decide), n _ (by decide), n _ (by decide), n _ (by decide), n _ (by decide), n _ (by decide), n _ (by decide)⟩
theorem tab_mk {K : PySem.W.Frag} {x : Str} {f c Pt : Addr} {oc o1 : Value} {od o2 : Option Addr} {fd : FuncData} {osl o4 : Array (Option Value)} {vs : Array Value} (a : PySem.W.nsIn K mainGlobals x = some (some (.ref f))) (l : K.lookup f = some ⟨oc, od, .func fd, osl⟩) (hc : fd.code = .ref c)
    (lc : K.lookup c = some ⟨o1, o2, .fields vs, o4⟩) (hv : (vs[11]? : Option Value) = some (.ref Pt)) : PySem.W.tabIn K x = some (c, Pt) := by
  unfold PySem.W.tabIn
  rw [a]
  dsimp only
  rw [l]
  dsimp only
  rw [hc]
  dsimp only
  rw [lc]
  dsimp only
  rw [hv]
/-- the facts of the head, by the words that k_is answers -/
theorem tp_of {K : PySem.W.Frag} {h : Heap} {mg : Str → Option Value} {fa M CM CS c Pt fN : Addr} {oc kV doc pm ct o1 : Value} {od an o2 : Option Addr} {osl o4 : Array (Option Value)} {vs : Array Value} {t4 : Tok} (X : K.In h) (G : h.Ns mainGlobals mg)
    (B : Bt mg) (c_ : Ct mg) (mpr : PySem.W.nsIn K mainGlobals "MOST_PAPER_ROW" = some (some (.int 200 t4)))
    (whole : ∃ f fd, Df K mg "is_whole" sWhole ["value"] f fd)
    (below : ∃ f fd, Df K mg "is_below" sBelow ["value", "limit"] f fd)
    (seq : ∃ f fd, Df K mg "is_sequence" sSeq ["value", "least", "most"] f fd)
    (fnb : ∃ f fd, Df K mg "first_not_below" sFnb ["items", "limit"] f fd)
    (istab : ∃ f fd, Df K mg "is_table" sIsTab ["value", "states"] f fd)
    (chk : ∃ f fd, Df K mg "checked_tables" sChk ["value"] f fd)
    (needS : ∃ f fd, Df K mg "need_state" sNeedS ["machine", "state"] f fd)
    (fault : ∃ f fd, Df K mg "row_fault" sFault ["machine", "value"] f fd)
    (moved : ∃ f fd, Df K mg "moved" sMoved ["machine", "state", "row"] f fd)
    (first : ∃ f fd, DfF K mg f fd)
    (orbit : ∃ f fd, Df K mg "orbit" sOrbit ["machine", "state"] f fd)
    (parting : ∃ f fd, Df K mg "parting_rows" sParting ["machine", "archive", "here"] f fd)
    (tpaper : ∃ f fd, Df K mg "telling_paper" sTPaper ["machine", "state"] f fd)
    (istell : ∃ f fd, Df K mg "is_telling" sIsTell ["machine", "state"] f fd)
    (prow : ∃ f fd, Df K mg "is_paper_row" sPRow ["machine", "value"] f fd)
    (tholds : ∃ f fd, Df K mg "telling_holds" sTHolds ["machine", "state", "value"] f fd)
    (cpaper : ∃ f fd, Df K mg "commuting_paper" sCPaper ["machine", "state"] f fd)
    (box : ∃ f fd, Df K mg "_law_box" sBox ["_law_script", "_law_k"] f fd)
    (take : ∃ f fd, Df K mg "_law_take" sTake ["_law_box_here", "_law_many"] f fd)
    (pick : ∃ f fd, Df K mg "_law_pick" sPick ["_law_box_here", "_law_some"] f fd)
    (tabs : ∃ f fd, Df K mg "_law_tables" sTabs ["_law_box_here", "_law_most"] f fd)
    (maps : ∃ f fd, Df K mg "_law_maps" sMaps ["_law_tables_here"] f fd)
    (lled : ∃ f fd, Df K mg "_law_led" sLLed ["_law_tables_here", "_law_state", "_law_row"] f fd)
    (ltells : ∃ f fd, Df K mg "_law_tells" sLTells ["_law_tables_here", "_law_maps_here", "_law_state"] f fd)
    (lcomm : ∃ f fd, Df K mg "_law_commute" sLComm ["_law_tables_here", "_law_maps_here", "_law_state"] f fd)
    (lwhole : ∃ f fd, Df K mg "_law_whole" sLWhole ["_law_value", "_law_most"] f fd)
    (lisrow : ∃ f fd, Df K mg "_law_is_row" sLIsRow ["_law_value", "_law_many"] f fd)
    (ldue : ∃ f fd, Df K mg "_law_due" sLDue ["_law_tables_here", "_law_maps_here", "_law_state", "_law_value"] f fd)
    (lbent : ∃ f fd, Df K mg "_law_bent" sLBent ["_law_box_here", "_law_tables_here", "_law_value"] f fd)
    (lkept : ∃ f fd, Df K mg "_law_kept_right" sLKept ["_law_box_here", "_law_tables_here", "_law_maps_here", "_law_state"] f fd)
    (eL : mg "law" = some (.ref fa)) (aN : PySem.W.nsIn K mainGlobals "law" = some (some (.ref fN))) (lN : K.lookup fN = some ⟨oc, od, .func (PySem.W.fnOf "law" "law" (defArgs sLaw) (defBody sLaw) (defScope sLaw) .none kV doc pm an (.ref c) ct), osl⟩)
    (cN : PySem.W.codeIn K (.ref c) "law" = true) (kN : PySem.W.keepIn K (.ref fN) = true) (lc : K.lookup c = some ⟨o1, o2, .fields vs, o4⟩) (hv : (vs[11]? : Option Value) = some (.ref Pt)) (nP : K.lookup Pt = Option.none)
    (aM : PySem.W.nsIn K mainGlobals "Machine" = some (some (.ref M))) (pg : PySem.W.plainGet K M Str.empty = true) (hd : PySem.W.hasDictIn K M = true) (po : PySem.W.plainOver K M = true) (sa : PySem.W.findIn K (.ref M) "__setattr__" = some (some (.builtin "object.__setattr__")))
    (n1 : PySem.W.findIn K (.ref M) "tables" = some Option.none) (n2 : PySem.W.findIn K (.ref M) "deeds" = some Option.none) (n3 : PySem.W.findIn K (.ref M) "states" = some Option.none)
    (ca : PySem.W.findIn K (.ref M) "__class__" = some (some (.builtin "object.__class__"))) (sp : PySem.W.specialIn K (.builtin "object.__class__") "__get__" = some (some (.builtin "getset_descriptor.__get__"))) (tk : PySem.W.takesIn K (.builtin "object.__class__") = some true) (mo : PySem.W.mroIn K M (.type "object") = some true)
    (init : ∃ f fd, Fun K "__init__" "Machine.__init__" sMInit f fd ∧ Mk K M f ∧ Binds K fd ["self", "tables"] [])
    (aCM : PySem.W.nsIn K mainGlobals "BadMachine" = some (some (.ref CM))) (aCS : PySem.W.nsIn K mainGlobals "NoState" = some (some (.ref CS)))
    (t1 : ∃ q b i, LAt.Txt K mg "BadMachine" q b CM i) (t3 : ∃ q b i, LState.Txt K mg "NoState" q b CS i) (ess : PySem.W.exmOne K (.ref CS) (.ref CS) = some true) : ∃ (M CM CS c Pt : Addr) (fd : FuncData), Tp K mg M CM CS c Pt fa fd := by
  obtain ⟨fd, l1, l2⟩ := law_of X G eL aN lN cN kN
  exact ⟨M, CM, CS, c, Pt, fd, ⟨B, c_, ⟨_, PySem.W.mg_of X G mpr⟩, whole, below, seq, fnb, istab, chk, needS, fault, moved, first, orbit, parting, tpaper, istell, prow, tholds, cpaper, box, take, pick, tabs, maps, lled, ltells, lcomm, lwhole, lisrow, ldue, lbent, lkept, l1, l2, init, ⟨⟨pg, hd, po, sa⟩, n1, n2, n3, PySem.W.mg_of X G aM, ca, sp, tk, mo⟩, t1, t3, ess, tab_mk aN lN rfl lc hv, nP⟩⟩
end K1
open PySem PySem.W PyProof.Rows
set_option maxRecDepth 100000 in
set_option maxHeartbeats 0 in
theorem PySem.Challenge.cw_houseslessties_k07_whole_machines_that_t_holds : PySem.Challenge.rw_houseslessties_k07_whole_machines_that_t.Holds := by
  w_on; o_law; k_head; (case hw => w_witness2)
  k_fill
  refine K1.walkK (l := PySem.Challenge.rw_houseslessties_k07_whole_machines_that_t) rfl rfl (fun w h Y => PySem.W.km_in_of Y) ?hr ?F
  case hr => exact ⟨_, rfl⟩
  case F =>
    intro w mg fa h KX G hmg
    refine' K1.tp_of KX G ?B ?c_ ?mpr ?zwhole ?zbelow ?zseq ?zfnb ?zistab ?zchk ?zneedS ?zfault ?zmoved ?zfirst ?zorbit ?zparting ?ztpaper ?zistell ?zprow ?ztholds ?zcpaper ?zbox ?ztake ?zpick ?ztabs ?zmaps ?zlled ?zltells ?zlcomm ?zlwhole ?zlisrow ?zldue ?zlbent ?zlkept hmg ?aN ?lN ?cN ?kN ?lc ?hv ?nP ?aM ?pg ?hd ?po ?sa ?n1 ?n2 ?n3 ?ca ?sp ?tk ?mo ?init ?aCM ?aCS ?t1 ?t3 ?ess
    case B =>
      refine K1.bt_of KX G fun x hx => ?_
      simp only [List.mem_cons, List.mem_nil_iff, or_false] at hx
      rcases hx with rfl | rfl | rfl | rfl | rfl | rfl | rfl | rfl | rfl | rfl | rfl | rfl | rfl | rfl <;> k_is
    case c_ => refine' K1.ct_of KX G ?a_1 ?b_1 ?c_1; (case a_1 => k_is); (case b_1 => k_is); (case c_1 => k_is)
    case mpr => k_is
    case zwhole =>
      (refine' K1.df_of (by assumption) (by assumption) ?a_2 ?l_2 ?c_2 ?k_2 ?b_2; (case a_2 => k_is); (case l_2 => k_is); (case c_2 => k_is); (case k_2 => k_is))
      case b_2 => exact fun _ _ _ _ _ _ us hl => match us, hl with | [_], _ => rfl
    case zbelow =>
      (refine' K1.df_of (by assumption) (by assumption) ?a_3 ?l_3 ?c_3 ?k_3 ?b_3; (case a_3 => k_is); (case l_3 => k_is); (case c_3 => k_is); (case k_3 => k_is))
      case b_3 => exact fun _ _ _ _ _ _ us hl => match us, hl with | [_, _], _ => rfl
    case zseq =>
      (refine' K1.df_of (by assumption) (by assumption) ?a_4 ?l_4 ?c_4 ?k_4 ?b_4; (case a_4 => k_is); (case l_4 => k_is); (case c_4 => k_is); (case k_4 => k_is))
      case b_4 => exact fun _ _ _ _ _ _ us hl => match us, hl with | [_, _, _], _ => rfl
    case zfnb =>
      (refine' K1.df_of (by assumption) (by assumption) ?a_5 ?l_5 ?c_5 ?k_5 ?b_5; (case a_5 => k_is); (case l_5 => k_is); (case c_5 => k_is); (case k_5 => k_is))
      case b_5 => exact fun _ _ _ _ _ _ us hl => match us, hl with | [_, _], _ => rfl
    case zistab =>
      (refine' K1.df_of (by assumption) (by assumption) ?a_6 ?l_6 ?c_6 ?k_6 ?b_6; (case a_6 => k_is); (case l_6 => k_is); (case c_6 => k_is); (case k_6 => k_is))
      case b_6 => exact fun _ _ _ _ _ _ us hl => match us, hl with | [_, _], _ => rfl
    case zchk =>
      (refine' K1.df_of (by assumption) (by assumption) ?a_7 ?l_7 ?c_7 ?k_7 ?b_7; (case a_7 => k_is); (case l_7 => k_is); (case c_7 => k_is); (case k_7 => k_is))
      case b_7 => exact fun _ _ _ _ _ _ us hl => match us, hl with | [_], _ => rfl
    case zneedS =>
      (refine' K1.df_of (by assumption) (by assumption) ?a_8 ?l_8 ?c_8 ?k_8 ?b_8; (case a_8 => k_is); (case l_8 => k_is); (case c_8 => k_is); (case k_8 => k_is))
      case b_8 => exact fun _ _ _ _ _ _ us hl => match us, hl with | [_, _], _ => rfl
    case zfault =>
      (refine' K1.df_of (by assumption) (by assumption) ?a_9 ?l_9 ?c_9 ?k_9 ?b_9; (case a_9 => k_is); (case l_9 => k_is); (case c_9 => k_is); (case k_9 => k_is))
      case b_9 => exact fun _ _ _ _ _ _ us hl => match us, hl with | [_, _], _ => rfl
    case zmoved =>
      (refine' K1.df_of (by assumption) (by assumption) ?a_10 ?l_10 ?c_10 ?k_10 ?b_10; (case a_10 => k_is); (case l_10 => k_is); (case c_10 => k_is); (case k_10 => k_is))
      case b_10 => exact fun _ _ _ _ _ _ us hl => match us, hl with | [_, _, _], _ => rfl
    case zfirst => (refine' K1.dfF_of (by assumption) (by assumption) ?a_11 ?l_11 ?c_11 ?k_11 ?lT_11; (case a_11 => k_is); (case l_11 => k_is); (case c_11 => k_is); (case k_11 => k_is); (case lT_11 => k_is))
    case zorbit =>
      (refine' K1.df_of (by assumption) (by assumption) ?a_12 ?l_12 ?c_12 ?k_12 ?b_12; (case a_12 => k_is); (case l_12 => k_is); (case c_12 => k_is); (case k_12 => k_is))
      case b_12 => exact fun _ _ _ _ _ _ us hl => match us, hl with | [_, _], _ => rfl
    case zparting =>
      (refine' K1.df_of (by assumption) (by assumption) ?a_13 ?l_13 ?c_13 ?k_13 ?b_13; (case a_13 => k_is); (case l_13 => k_is); (case c_13 => k_is); (case k_13 => k_is))
      case b_13 => exact fun _ _ _ _ _ _ us hl => match us, hl with | [_, _, _], _ => rfl
    case ztpaper =>
      (refine' K1.df_of (by assumption) (by assumption) ?a_14 ?l_14 ?c_14 ?k_14 ?b_14; (case a_14 => k_is); (case l_14 => k_is); (case c_14 => k_is); (case k_14 => k_is))
      case b_14 => exact fun _ _ _ _ _ _ us hl => match us, hl with | [_, _], _ => rfl
    case zistell =>
      (refine' K1.df_of (by assumption) (by assumption) ?a_15 ?l_15 ?c_15 ?k_15 ?b_15; (case a_15 => k_is); (case l_15 => k_is); (case c_15 => k_is); (case k_15 => k_is))
      case b_15 => exact fun _ _ _ _ _ _ us hl => match us, hl with | [_, _], _ => rfl
    case zprow =>
      (refine' K1.df_of (by assumption) (by assumption) ?a_16 ?l_16 ?c_16 ?k_16 ?b_16; (case a_16 => k_is); (case l_16 => k_is); (case c_16 => k_is); (case k_16 => k_is))
      case b_16 => exact fun _ _ _ _ _ _ us hl => match us, hl with | [_, _], _ => rfl
    case ztholds =>
      (refine' K1.df_of (by assumption) (by assumption) ?a_17 ?l_17 ?c_17 ?k_17 ?b_17; (case a_17 => k_is); (case l_17 => k_is); (case c_17 => k_is); (case k_17 => k_is))
      case b_17 => exact fun _ _ _ _ _ _ us hl => match us, hl with | [_, _, _], _ => rfl
    case zcpaper =>
      (refine' K1.df_of (by assumption) (by assumption) ?a_18 ?l_18 ?c_18 ?k_18 ?b_18; (case a_18 => k_is); (case l_18 => k_is); (case c_18 => k_is); (case k_18 => k_is))
      case b_18 => exact fun _ _ _ _ _ _ us hl => match us, hl with | [_, _], _ => rfl
    case zbox =>
      (refine' K1.df_of (by assumption) (by assumption) ?a_19 ?l_19 ?c_19 ?k_19 ?b_19; (case a_19 => k_is); (case l_19 => k_is); (case c_19 => k_is); (case k_19 => k_is))
      case b_19 => exact fun _ _ _ _ _ _ us hl => match us, hl with | [_, _], _ => rfl
    case ztake =>
      (refine' K1.df_of (by assumption) (by assumption) ?a_20 ?l_20 ?c_20 ?k_20 ?b_20; (case a_20 => k_is); (case l_20 => k_is); (case c_20 => k_is); (case k_20 => k_is))
      case b_20 => exact fun _ _ _ _ _ _ us hl => match us, hl with | [_, _], _ => rfl
    case zpick =>
      (refine' K1.df_of (by assumption) (by assumption) ?a_21 ?l_21 ?c_21 ?k_21 ?b_21; (case a_21 => k_is); (case l_21 => k_is); (case c_21 => k_is); (case k_21 => k_is))
      case b_21 => exact fun _ _ _ _ _ _ us hl => match us, hl with | [_, _], _ => rfl
    case ztabs =>
      (refine' K1.df_of (by assumption) (by assumption) ?a_22 ?l_22 ?c_22 ?k_22 ?b_22; (case a_22 => k_is); (case l_22 => k_is); (case c_22 => k_is); (case k_22 => k_is))
      case b_22 => exact fun _ _ _ _ _ _ us hl => match us, hl with | [_, _], _ => rfl
    case zmaps =>
      (refine' K1.df_of (by assumption) (by assumption) ?a_23 ?l_23 ?c_23 ?k_23 ?b_23; (case a_23 => k_is); (case l_23 => k_is); (case c_23 => k_is); (case k_23 => k_is))
      case b_23 => exact fun _ _ _ _ _ _ us hl => match us, hl with | [_], _ => rfl
    case zlled =>
      (refine' K1.df_of (by assumption) (by assumption) ?a_24 ?l_24 ?c_24 ?k_24 ?b_24; (case a_24 => k_is); (case l_24 => k_is); (case c_24 => k_is); (case k_24 => k_is))
      case b_24 => exact fun _ _ _ _ _ _ us hl => match us, hl with | [_, _, _], _ => rfl
    case zltells =>
      (refine' K1.df_of (by assumption) (by assumption) ?a_25 ?l_25 ?c_25 ?k_25 ?b_25; (case a_25 => k_is); (case l_25 => k_is); (case c_25 => k_is); (case k_25 => k_is))
      case b_25 => exact fun _ _ _ _ _ _ us hl => match us, hl with | [_, _, _], _ => rfl
    case zlcomm =>
      (refine' K1.df_of (by assumption) (by assumption) ?a_26 ?l_26 ?c_26 ?k_26 ?b_26; (case a_26 => k_is); (case l_26 => k_is); (case c_26 => k_is); (case k_26 => k_is))
      case b_26 => exact fun _ _ _ _ _ _ us hl => match us, hl with | [_, _, _], _ => rfl
    case zlwhole =>
      (refine' K1.df_of (by assumption) (by assumption) ?a_27 ?l_27 ?c_27 ?k_27 ?b_27; (case a_27 => k_is); (case l_27 => k_is); (case c_27 => k_is); (case k_27 => k_is))
      case b_27 => exact fun _ _ _ _ _ _ us hl => match us, hl with | [_, _], _ => rfl
    case zlisrow =>
      (refine' K1.df_of (by assumption) (by assumption) ?a_28 ?l_28 ?c_28 ?k_28 ?b_28; (case a_28 => k_is); (case l_28 => k_is); (case c_28 => k_is); (case k_28 => k_is))
      case b_28 => exact fun _ _ _ _ _ _ us hl => match us, hl with | [_, _], _ => rfl
    case zldue =>
      (refine' K1.df_of (by assumption) (by assumption) ?a_29 ?l_29 ?c_29 ?k_29 ?b_29; (case a_29 => k_is); (case l_29 => k_is); (case c_29 => k_is); (case k_29 => k_is))
      case b_29 => exact fun _ _ _ _ _ _ us hl => match us, hl with | [_, _, _, _], _ => rfl
    case zlbent =>
      (refine' K1.df_of (by assumption) (by assumption) ?a_30 ?l_30 ?c_30 ?k_30 ?b_30; (case a_30 => k_is); (case l_30 => k_is); (case c_30 => k_is); (case k_30 => k_is))
      case b_30 => exact fun _ _ _ _ _ _ us hl => match us, hl with | [_, _, _], _ => rfl
    case zlkept =>
      (refine' K1.df_of (by assumption) (by assumption) ?a_31 ?l_31 ?c_31 ?k_31 ?b_31; (case a_31 => k_is); (case l_31 => k_is); (case c_31 => k_is); (case k_31 => k_is))
      case b_31 => exact fun _ _ _ _ _ _ us hl => match us, hl with | [_, _, _, _], _ => rfl
    (case aN => k_is); (case lN => k_is); (case cN => k_is); (case kN => k_is); (case lc => k_is); (case hv => rfl); (case nP => kernel_rfl)
    (case aM => k_is); (case pg => k_is); (case hd => k_is); (case po => k_is); (case sa => k_is); (case n1 => k_is); (case n2 => k_is); (case n3 => k_is); (case ca => k_is); (case sp => k_is); (case tk => k_is); (case mo => k_is)
    case init => refine' K1.init_of ?a_65 ?i_65 ?m_65 ?kM_65 ?l_65 ?c_65 ?k_65; (case a_65 => k_is); (case i_65 => k_is); (case m_65 => k_is); (case kM_65 => k_is); (case l_65 => k_is); (case c_65 => k_is); (case k_65 => k_is)
    (case aCM => k_is); (case aCS => k_is)
    case t1 => (refine' K1.at_of_ (by assumption) (by assumption) ?a_67 ?xl_67 ?sa_67 ?ga_67 ?gg_67 ?no_67 ?ic_67 ?tc_67 ?kc_67 ?ec_67 ?ty_67 ?hc_67 ?l_67 ?c_67; (case a_67 => k_is); (case xl_67 => k_is); (case sa_67 => k_is); (case ga_67 => k_is); (case gg_67 => k_is); (case no_67 => k_is); (case ic_67 => k_is); (case tc_67 => k_is); (case kc_67 => k_is); (case ec_67 => k_is); (case ty_67 => k_is); (case hc_67 => k_is); (case l_67 => k_is); (case c_67 => k_is))
    case t3 => (refine' K1.state_of_ (by assumption) (by assumption) ?a_69 ?xl_69 ?sa_69 ?ga_69 ?gg_69 ?no_69 ?ic_69 ?tc_69 ?kc_69 ?ec_69 ?ty_69 ?hc_69 ?l_69 ?c_69; (case a_69 => k_is); (case xl_69 => k_is); (case sa_69 => k_is); (case ga_69 => k_is); (case gg_69 => k_is); (case no_69 => k_is); (case ic_69 => k_is); (case tc_69 => k_is); (case kc_69 => k_is); (case ec_69 => k_is); (case ty_69 => k_is); (case hc_69 => k_is); (case l_69 => k_is); (case c_69 => k_is))
    case ess => first | k_is | kernel_rfl
