import PyProof.Rows.All
import Wide.All
import OpenK.AllK
import Wide.FinOn
import HandS.ForMost
import HandS.ForExc
import HandS.ExcInit
import PyProof.ExcBaseAll.LookupError
import KE.KExcIs
import HandS.IsInst
import KE.GoesEnum
import PyProof.ReprRoads
import PySem.Challenge.RW_houseslessties_k15_steps_nets_and_what_i
import HandS.TryMany
import HandS.Lambda
import HandS.Nested
import HandS.EndTab
import HandS.DictTup
import HandS.OwnEq
import HandS.Strs
import HandS.Conv
import HandS.TupAny
import HandS.TupMul
import HandS.SortInts
import HandS.Style
import HandS.MakeKw
import HandS.Defaults
import HandS.TupLe
import HandS.SetKeys
import HandS.SetFor
import HandS.RaiseMore
import KE.KDictDisplayH
import HandS.ExcField
import HandS.Iter
import KE.KDictWalk
import HandS.CallLocal
import HandS.Zip
import HandS.Flow
import KE.GoesZip
import KE.GoesMore
import HandS.Base
import HandS.Call
import HandS.Exc
import HandS.MakeKwOnly
import HandS.Deep
import HandS.TryOnly
import PyProof.Rows.ReprOcc
import PyProof.InstNe
import HandS.EndBits
set_option Elab.async false
set_option linter.all false
set_option maxRecDepth 100000
set_option maxHeartbeats 4000000
/-! exceptions of own classes whose base may be ValueError or KeyError: what is asked of the chain of classes stands as premises -/
namespace K1
open PySem PySem.HandSPX Builtin Builtin.ObjectAttr
/-- what the chain of classes behind the own one must be -/
structure Mro (B : String) (bm : List Value) : Prop where
  b : bm.contains (.type B) = true
  a : bm.contains (.type "AttributeError") = false
  n : bm.contains (.type "NameError") = false
  o : bm.contains (.type "object") = true
  p : ∀ self : Value, refuseLoop self "__setattr__" bm = pure ()
section
variable {prog : Program} {w : World} {A : Around} {E : Value → Shared → Prop} {R : Result → Shared → Prop} {h : Heap} {g : Array GenState} {d : Drawn} {t : Nat} {os : OsState}
variable {nm q : Str} {C N : Addr} {bs bm bmB : List Value} {hdct : Bool} {sn : List Str} {sub : List Value} {ab : Bool} {col : Option Bool} {dd : Option Addr} {k0 k1 k2 k3 k5 : Option Value} {B newId initId : String}
theorem check_newG {M : Model} (F : ExcBaseFacts B newId initId bmB) (T : Mro B bm) {rest : List Value} {Q : Unit → Shared → Prop}
    (hC : h.get? C = some (excClassObj nm q C N bs bm hdct sn sub ab col dd k0 k1 k2 k3 k5 newId)) (hq : Q () ⟨h, g, d, t, os⟩) : wpAny M A (checkBuiltinCall newId ⟨.ref C :: rest, []⟩) Q E ⟨h, g, d, t, os⟩ := by
  have hcont : (Value.ref C :: bm).contains (.type B) = true := by rw [List.contains_cons, T.b, Bool.or_true]
  have hstar := F.noStar
  simp only [checkBuiltinCall, F.newKind, F.newSplit, F.newRow]
  repeat (first | refine wpAny_loadPart_at hC ?_ | (refine wpAny_isSubtype_exc hC ?_; rw [hcont]) | refine wpAny_staticBase_exc hC ?_ | refine wpAny_madeBy_exc hC ?_ | simp only [bne_self_eq_false, Bool.false_eq_true, if_false] | wp_step)
  exact hq
theorem newG (F : ExcBaseFacts B newId initId bmB) (T : Mro B bm) {rest : List Value}
    (hC : h.get? C = some (excClassObj nm q C N bs bm hdct sn sub ab col dd k0 k1 k2 k3 k5 newId))
    (hq : R (.ok (.ret (.ref (h.objs.size + 1)))) ⟨(h.push { cls := .type "tuple", data := .seq rest.toArray }).push
      { cls := .ref C, data := .fields #[.ref h.objs.size, .none, .none, .none, .bool false, .none] }, g, d, t, os⟩) (hrest : rest.length ≤ sizeLine) :
    codeAny (model prog w) A (.builtin newId ⟨.ref C :: rest, []⟩) R ⟨h, g, d, t, os⟩ := by
  have hends := F.ends
  have hcB : (Value.ref C :: bm).contains (.type B) = true := by rw [List.contains_cons, T.b, Bool.or_true]
  have hcA : (Value.ref C :: bm).contains (.type "AttributeError") = false := by rw [List.contains_cons, T.a]; rfl
  have hcN : (Value.ref C :: bm).contains (.type "NameError") = false := by rw [List.contains_cons, T.n]; rfl
  refine codeAny_builtinAt F.entry ?_
  unfold Builtin.«BaseException.__new__»
  refine wpAt_bind ?_
  show wpAt _ _ _ (stack >>= _) _ _ _
  refine wpAt_bind (wpAt_stack fun p below => wpAt_of_wpAny ?_)
  wp_walk
  refine wpAt_of_wpAny ?_
  rw [F.owner]
  repeat (first | with_reducible refine wpAny_madeHere_exc F.canon hC ?_ | with_reducible refine wpAny_loadPart_at hC ?_ | (with_reducible refine wpAny_isSubtype_exc hC ?_; first | rw [hcB] | rw [hcA] | rw [hcN]) | wp_step)
  show R _ _
  rw [Heap.size_push]
  exact hq
theorem type_callG (F : ExcBaseFacts B newId initId bmB) (T : Mro B bm) {rest : List Value} {fI : Addr} {Q : Fin → Shared → Prop}
    (hC : h.get? C = some (excClassObj nm q C N bs bm hdct sn sub ab col dd k0 k1 k2 k3 k5 newId))
    (hi : W.Looks (model prog w) h (typeLookup (.ref C) "__init__") (some (.ref fI))) (hb : ∀ self, W.Looks (model prog w) h (bindSpecial (.ref fI) self) (.ref fI, [self])) (hrest : rest.length ≤ sizeLine)
    (hq : codeAny (model prog w) A (.call (.ref fI) ⟨.ref (h.objs.size + 1) :: rest, []⟩)
      (fun r s' => match r with | .ok (.ret v) => v = .none ∧ Q (.done (.ret (.ref (h.objs.size + 1)))) s' | .ok _ => False | .error e => E e s')
      ⟨(h.push (W.kdv_tup rest)).push (excO C h.objs.size), g, d, t, os⟩) :
    wpAny (model prog w) A (Builtin.«type.__call__» ⟨.ref C :: rest, []⟩) Q E ⟨h, g, d, t, os⟩ := by
  repeat (first | with_reducible refine wpAny_loadPart_at hC ?_ | with_reducible refine wpAny_madeBy_exc hC ?_ | wp_step)
  refine codeAny_call_builtin_code (Code.quiet_builtin _ F.quiet) (check_newG F T hC ?_)
  refine newG F T hC ?_ hrest
  show wpAny _ _ _ _ _ _
  have k : ∀ b o, h.get? b = some o → ((h.push (W.kdv_tup rest)).push (excO C h.objs.size)).get? b = some o := fun b o e => Heap.get?_push_of_some _ (Heap.get?_push_of_some _ e)
  have hC₁ := k _ _ hC
  have hget : ((h.push (W.kdv_tup rest)).push (excO C h.objs.size)).get? (h.objs.size + 1) = some (excO C h.objs.size) := by heap_get
  have hcC : (Value.ref C :: bm).contains (.ref C) = true := by simp
  have i1 := hi.keeps k
  have b1 := (hb (.ref (h.objs.size + 1))).keeps k
  unfold isInstance
  repeat (first | with_reducible refine wpAny_loadPart_at hget ?_ | (with_reducible refine wpAny_isSubtype_exc hC₁ ?_; rw [hcC]) | wp_step)
  show wpAny _ _ (typeLookup (.ref C) _) _ _ _
  refine i1.at ?_
  refine wpAny_holding (wpAny_bind (b1.at ?_))
  refine wpAny_bind (wpAny_call (codeAny_mono hq fun r s' z => ?_))
  rcases r with e | (v | _ | _ | _) <;> first | exact z | exact z.elim | skip
  obtain ⟨rfl, z⟩ := z
  first
    | exact wpAny_pure (wpAny_pure z)
    | (wp_walk; exact z)
theorem call_ownG (F : ExcBaseFacts B newId initId bmB) (T : Mro B bm) {rest : List Value} {fI : Addr}
    (hC : h.get? C = some (excClassObj nm q C N bs bm hdct sn sub ab col dd k0 k1 k2 k3 k5 newId))
    (hi : W.Looks (model prog w) h (typeLookup (.ref C) "__init__") (some (.ref fI))) (hb : ∀ self, W.Looks (model prog w) h (bindSpecial (.ref fI) self) (.ref fI, [self])) (hrest : rest.length ≤ sizeLine)
    (hq : codeAny (model prog w) (A.under (.builtin "type.__call__" ⟨.ref C :: rest, []⟩)) (.call (.ref fI) ⟨.ref (h.objs.size + 1) :: rest, []⟩) (W.InitBack (h.objs.size + 1) R)
      ⟨(h.push (W.kdv_tup rest)).push (excO C h.objs.size), g, d, t, os⟩) :
    codeAny (model prog w) A (.call (.ref C) ⟨rest, []⟩) R ⟨h, g, d, t, os⟩ := by
  have f1 := tc_lookup
  have f2 := tc_bind (.ref C)
  have hTy : (⟨h, g, d, t, os⟩ : Shared).TypeIs (.ref C) "type" := ⟨_, hC, rfl⟩
  refine codeAny_of_tree ?_
  show wpAny _ _ (callAny (.ref C) _) _ _ _
  repeat (any_goals (first | assumption | with_reducible refine wpAny_loadPart_at hC ?_ | wp_step))
  refine ⟨rfl, ?_⟩
  refine codeAny_call_builtin_at (Code.quiet_builtin _ (by decide +kernel)) entry_typeCall (wpAny_check_type_call_sub hC (type_callG F T hC hi hb hrest ?_))
  refine codeAny_mono hq fun r s' z => ?_
  rcases r with e | (v | _ | _ | _) <;> exact z
end
section
variable {prog : Program} {w : World} {A : Around} {E : Value → Shared → Prop} {R : Result → Shared → Prop} {hp : Heap} {g : Array GenState} {d : Drawn} {t : Nat} {os : OsState}
theorem exc_osaG {K : W.Frag} {name : Str} {tk : Tok} {v : Value} {x C : Addr} {fv : Array Value} {cd : ClassData} {B : String} {bm : List Value}
    (X : K.In hp) (hx : hp.get? x = some { cls := .ref C, data := .fields fv }) (hcd : W.clsIn K C = some cd) (hm : cd.mro = .ref C :: bm) (T : Mro B bm) (hh : cd.hasDict = true) (ha : W.findIn K (.ref C) name = some none)
    (hq : ∀ h' tk' dx, (∀ b o, b ≠ x → hp.get? b = some o → h'.get? b = some o) → hp.objs.size ≤ dx → dx ≠ x → h'.get? x = some { cls := .ref C, dict := some dx, data := .fields fv } →
      h'.Ns1 dx (fun y => if y = name then some v else none) → R (.ok (.ret .none)) ⟨h', g, d, tk', os⟩) :
    codeAny (model prog w) A (.call (.builtin "object.__setattr__") ⟨[.ref x, .str name tk, v], []⟩) R ⟨hp, g, d, t, os⟩ := by
  have I : W.InstAt hp x { cls := .ref C, data := .fields fv } C none := ⟨hx, rfl, rfl, trivial⟩
  have SF := F.store_object
  have ne : cd.mro.isEmpty = false := by rw [hm]; rfl
  have hob : cd.mro.contains (.type "object") = true := by rw [hm, List.contains_cons, T.o, Bool.or_true]
  have hxs : x ≠ hp.objs.size := Nat.ne_of_lt (Heap.lt_size hx)
  have sub : W.Looks (model prog w) hp (isInstance (.ref x) (.type "object")) true := I.type.andThen (W.looks_mroIn X (by unfold W.mroIn; rw [hcd, Option.bind_some, if_neg (by rw [ne]; decide), hob]))
  refine codeAny_call_builtin SF.slot.plain SF.entry (@W.check_slot (model prog w) _ _ ⟨hp, g, d, t, os⟩ "object.__setattr__" "object" "__setattr__" (.ref x) [.str name tk, v] [] _ SF.kind SF.split sub (SF.args (.ref x) (.str name tk) v) ?_)
  have hmr : W.Looks (model prog w) hp (mroOf (.ref C)) cd.mro := (W.looks_clsIn X hcd).andThen .now
  have L3 : W.Looks (model prog w) hp (storeTaker? none) none := .now
  have hcls : W.Looks (model prog w) hp (classData C) cd := W.looks_clsIn X hcd
  rw [W.osa_eq, refuse_eq]
  refine wpAny_bind (wpAny_bind (I.type.at (wpAny_bind (hmr.at ?_))))
  rw [hm, refuseLoop_ref, T.p]
  refine wpAny_pure (wpAny_bind (I.type.at (wpAny_bind ((W.looks_findIn X ha).at (wpAny_bind (L3.at ?_))))))
  show wpAny _ _ (storeInOwnDict (.ref x) (.ref C) (.str name tk) name v false) _ _ _
  obtain ⟨nm, bs, mro, ns, qn, hd, sn, sb, ab, col, del⟩ := cd
  dsimp only at hh
  subst hh
  unfold storeInOwnDict ownDictForStores
  repeat (first | with_reducible refine store_in_new ?_ ?_ | with_reducible refine wpAny_loadPart_at hx ?_ | with_reducible refine hcls.at ?_ | wp_step)
  · exact ⟨_, #[], _, (Heap.get?_update_ne _ _ _ _ hxs.symm).trans (Heap.get?_push_at rfl rfl), rfl, fun e he => absurd he (by simp), fun _ => rfl⟩
  · intro h' tk' hn' hs
    have hx₁ : (hp.push { cls := .type "dict", data := .dict #[] }).get? x = some { cls := .ref C, data := .fields fv } := Heap.get?_push_of_some _ hx
    refine hq h' tk' hp.objs.size (fun b o hb ho => ?_) (Nat.le_refl _) hxs.symm ?_ hn'
    · exact (hs.2 b (Nat.ne_of_lt (Heap.lt_size ho))).trans ((Heap.get?_update_ne _ _ _ _ hb).trans (Heap.get?_push_of_some _ ho))
    · exact (hs.2 x hxs).trans (Heap.get?_update_self _ hx₁ rfl)
end
abbrev veT : List Value := [.type "ValueError", .type "Exception", .type "BaseException", .type "object"]
abbrev keT : List Value := [.type "KeyError", .type "LookupError", .type "Exception", .type "BaseException", .type "object"]
theorem mro_ve (c : Addr) : Mro "ValueError" (.ref c :: veT) := ⟨rfl, rfl, rfl, rfl, fun self => by rw [refuseLoop_ref]; exact F.store_ValueError.passes self⟩
theorem ke_pass (self : Value) : refuseLoop self "__setattr__" keT = pure () := by kernel_rfl
theorem mro_ke : Mro "LookupError" keT := ⟨by decide +kernel, by decide +kernel, by decide +kernel, by decide +kernel, ke_pass⟩
end K1
/-! own exception classes whose __init__ stores one field -/

namespace K1
open PySem PySem.W PySem.Calls PyProof.Rows PySem.HandSPX
theorem one_le (v : Value) : [v].length ≤ sizeLine := by
  rw [sizeLine_eq]
  exact (by decide : 1 ≤ 16777216)
theorem ldE {M : Model} {s : Shared} {name : Str} {scope : Scope} {L a : Addr} {cd : Value} {m : Str → Option Value} {x : Str} {pos : Pos} {v : Value} {Q : Value → Shared → Prop} {A : Around} {E : Value → Shared → Prop} (hn : s.heap.Ns L m) (hv : m x = some v) (h : Q v s)
    (hk : scope.kind = .function := by rfl) (hl : (envOfC name scope L a cd).kindOf x = some .local := by rfl) (hd : (x == ("__debug__" : Str)) = false := by decide) :
    wpAny M A (eval (.Name x pos) (envOfC name scope L a cd)) Q E s := wpAny_Name (wpAny_loadName_local hk hl hn hv h) hd
end K1
namespace K1
open PySem PySem.Spec PyProof.Rows L2
theorem relO_one {v : V} {v' : Value} {g : Str} (r : RelV v v') (f : Str) : RelO (List.lookup f [(g, v)]) (if f = g then some v' else none) := by
  by_cases hw : f = g
  · subst hw
    rw [if_pos rfl]
    have q : List.lookup f [(f, v)] = some v := by simp [List.lookup]
    rw [q]
    exact r
  · rw [if_neg hw]
    have qw : (f == g) = false := by simpa using hw
    have q2 : List.lookup f [(g, v)] = none := by simp [List.lookup, qw]
    rw [q2]
    trivial
/-- C(e), C's __init__ storing e as the field g -/
def tMkF (g : Str) (C : Addr) (ta : TA) : L2.St → Hp → XK → Prop := fun σ H Q => ta σ H fun vs H1 => ∃ v, vs = [v] ∧ ∀ d, H1 d = none → Q (.ref C) (some d) (upd H1 d (.xd [(g, v)]))
def tRaiseF (g : Str) (C : Addr) (W : WX) (ta : TA) : TS := fun _ σ H => tMkF g C ta σ H fun cls d H' => W cls d σ H'
def tByF (g : Str) (C : Addr) (a : Addr) (cls : Value) (d : Option Addr) (te : TE) : TE := fun σ H Q => te σ H fun x H1 => x = .ref a ∧ cls = .ref C ∧ ∃ (dd : Addr) (v : V), d = some dd ∧ H1 dd = some (.xd [(g, v)]) ∧ Q v H1
end K1

namespace K1
namespace LAt
open PySem PySem.W PySem.Calls PyProof.Rows PySem.HandSPX
/-- the text of __init__ -/
def iA (p1 p2 : Pos) : Arguments := { posonlyargs := [], args := [{ arg := "self", annotation := none, pos := p1 }, { arg := "at", annotation := none, pos := p2 }], vararg := none, kwonlyargs := [], kw_defaults := [], kwarg := none, defaults := [] }
def iB (q1 q2 q3 q4 : Pos) : List Stmt := [.Assign [.Attribute (.Name "self" q1) "at" q2] (.Name "at" q3) q4]
def iS : Scope := { kind := .function, names := [(PySem.Str.ofString "self", .local), (PySem.Str.ofString "at", .local)], isGenerator := false, isCoroutine := false, more := [] }
/-- what the written part says of the class at C (named cn), of its chain bm, and of its __init__, at fI -/
structure Txt (K : Frag) (mg : Str → Option Value) (cn ql : Str) (bm : List Value) (C fI : Addr) : Prop where
  gC : mg cn = some (.ref C)
  cls : ∃ nm q N bs sn sub ab col dd k0 k1 k2 k3 k5, K.lookup C = some (excClassObj nm q C N bs bm true sn sub ab col dd k0 k1 k2 k3 k5 "ValueError.__new__")
  mr : Mro "ValueError" bm
  sa : findIn K (.ref C) "__setattr__" = some (some (.builtin "object.__setattr__"))
  ga : findIn K (.ref C) "__getattribute__" = some (some (.builtin "BaseException.__getattribute__"))
  gg : findIn K (.ref C) "__getattr__" = some none
  noN : findIn K (.ref C) "at" = some none
  iC : findIn K (.ref C) "__init__" = some (some (.ref fI))
  tC : typeIn K (.ref fI) = some (.type "function")
  kC : keepIn K (.ref C) = true
  exC : subIn K (.ref C) (.type "BaseException") = some true
  tyC : typeIn K (.ref C) = some (.type "type")
  hdC : hasDictIn K C = true
  fn : ∃ (oc : Value) (od : Option Addr) (doc pm : Value) (an : Option Addr) (cdv ct : Value) (osl : Array (Option Value)) (p1 p2 q1 q2 q3 q4 : Pos),
    K.lookup fI = some ⟨oc, od, .func (fnOf "__init__" ql (iA p1 p2) (iB q1 q2 q3 q4) iS .none .none doc pm an cdv ct), osl⟩ ∧ codeIn K cdv ql = true
/-- what __init__ leaves of a fresh exception at x -/
structure InitEnd (h h' : Heap) (x C dx t1 : Addr) (v : Value) : Prop where
  keep : ∀ b o, b ≠ x → h.get? b = some o → h'.get? b = some o
  obj : h'.get? x = some { cls := .ref C, dict := some dx, data := .fields #[.ref t1, .none, .none, .none, .bool false, .none] }
  dbig : h.objs.size ≤ dx
  dne : dx ≠ x
  ns : h'.Ns1 dx (fun y => if y = "at" then some v else none)
structure OwnMade (h h' : Heap) (e C d : Addr) (v : Value) : Prop where
  keep : ∀ b o, h.get? b = some o → h'.get? b = some o
  new : h.objs.size ≤ e
  obj : ∃ oe vs, h'.get? e = some oe ∧ oe.cls = .ref C ∧ oe.dict = some d ∧ oe.data = .fields vs ∧ vs[1]? = some .none
  dbig : h.objs.size ≤ d
  dne : d ≠ e
  ns : h'.Ns1 d (fun y => if y = "at" then some v else none)
section
variable {prog : Program} {w : World} {A : Around} {E : Value → Shared → Prop} {R : Result → Shared → Prop} {s : Shared} {K : Frag} {mg : Str → Option Value} {cn ql : Str} {bm : List Value} {C fI : Addr}
theorem init (T : Txt K mg cn ql bm C fI) {x t0 : Addr} {v : Value} (X : K.In s.heap) (hlim : s.heap.NoLimit) (hx : s.heap.get? x = some (excO C t0)) (hnx : K.lookup x = none) (hroom : A.depth < recursionLimit)
    (hq : ∀ h' tk dx, InitEnd s.heap h' x C dx t0 v → R (.ok (.ret .none)) { s with heap := h', toks := tk }) :
    codeAny (model prog w) A (.call (.ref fI) ⟨[.ref x, v], []⟩) R s := by
  obtain ⟨oc, od, doc, pm, an, cdv, ct, osl, p1, p2, q1, q2, q3, q4, ho, hcd⟩ := T.fn
  obtain ⟨nm, q, N, bs, sn, sub, ab, col, dd, k0, k1, k2, k3, k5, hC⟩ := T.cls
  have hcl : clsIn K C = some { name := nm, bases := bs, mro := .ref C :: bm, ns := N, qualname := q, hasDict := true, slotNames := sn, subclasses := sub, abstract := ab, collection := col, hasDel := false } := by unfold clsIn; rw [hC] <;> rfl
  refine Att.call_fn (binds := [("self", .ref x), ("at", v)]) X hlim ho hcd hroom (BindsTo.of_eq (by first | rfl | with_unfolding_all rfl)) (by first | rfl | decide | with_unfolding_all rfl) (fun s₁ IC => ?_) rfl rfl rfl
  obtain ⟨h₁, tk₁, rfl⟩ := IC.toInCall.same
  have k : ∀ b o, s.heap.get? b = some o → h₁.get? b = some o := IC.toInCall.keep
  have hn := IC.toInCall.ns
  have X₁ : K.In h₁ := X.keeps k
  have hx₁ := k _ _ hx
  show wpAny _ _ (execs _ _) _ _ _
  refine wpAny_execs_cons (plainObj_wpAny_Assign_Attribute ?_)
  refine ldE (v := v) hn (by first | rfl | with_unfolding_all rfl | kernel_rfl) (ldE (v := .ref x) hn (by first | rfl | with_unfolding_all rfl | kernel_rfl) ?_)
  refine set_plain X₁ (ox := excO C t0) (od := none) ⟨hx₁, rfl, rfl, trivial⟩ T.sa ?_
  refine exc_osaG X₁ hx₁ hcl rfl T.mr rfl T.noN (fun h₃ tk₃ dx k₃ dn dne hx₃ hn₃ => ?_)
  show wpAny _ _ (execs _ _) _ _ _
  have z : s.heap.objs.size < h₁.objs.size := hn.lt
  exact wpAny_execs_nil (hq h₃ tk₃ dx ⟨fun b o hb e => k₃ b o hb (k b o e), hx₃, Nat.le_of_lt (Nat.lt_of_lt_of_le z dn), dne, hn₃⟩)
theorem made (T : Txt K mg cn ql bm C fI) {v : Value} (X : K.In s.heap) (hlim : s.heap.NoLimit) (hroom : A.depth + 1 < recursionLimit)
    (hq : ∀ h' tk e d, OwnMade s.heap h' e C d v → R (.ok (.ret (.ref e))) { s with heap := h', toks := tk }) :
    codeAny (model prog w) A (.call (.ref C) ⟨[v], []⟩) R s := by
  obtain ⟨nm, q, N, bs, sn, sub, ab, col, dd, k0, k1, k2, k3, k5, hC⟩ := T.cls
  obtain ⟨hp, g, dr, tk, os⟩ := s
  have k : ∀ b o, hp.get? b = some o → ((hp.push (kdv_tup [v])).push (excO C hp.objs.size)).get? b = some o := fun b o e => Heap.get?_push_of_some _ (Heap.get?_push_of_some _ e)
  have hget : ((hp.push (kdv_tup [v])).push (excO C hp.objs.size)).get? (hp.objs.size + 1) = some (excO C hp.objs.size) := by heap_get
  have hnx : K.lookup (hp.objs.size + 1) = none := by
    cases e : K.lookup (hp.objs.size + 1) with
    | none => rfl
    | some o =>
      have z : hp.get? (hp.objs.size + 1) = some o := X _ _ e
      exact absurd (Nat.lt_of_succ_lt (Heap.lt_size z)) (Nat.lt_irrefl _)
  refine call_ownG F.excBase_ValueError T.mr (X _ _ hC) (looks_findIn X T.iC) (fun self => bind_fn X self T.tC) (one_le v) ?_
  refine init (s := ⟨(hp.push (kdv_tup [v])).push (excO C hp.objs.size), g, dr, tk, os⟩) T (X.keeps k) (hlim.keeps k) hget hnx ?_ fun h' tk' dx ⟨k', hx, dn, dne, hns⟩ => ?_
  · show A.depth + 1 < recursionLimit
    exact hroom
  · have old : ∀ b o, hp.get? b = some o → h'.get? b = some o := fun b o e => k' b o (Nat.ne_of_lt (Nat.lt_succ_of_lt (Heap.lt_size e))) (k b o e)
    have z : hp.objs.size + 1 + 1 ≤ dx := by
      first
        | (simpa only [Heap.size_push] using dn)
        | exact dn
        | (have q := dn; rw [Heap.size_push, Heap.size_push] at q; exact q)
    exact ⟨rfl, hq h' tk' (hp.objs.size + 1) dx ⟨old, Nat.le_succ _, ⟨_, _, hx, rfl, rfl, rfl, rfl⟩, Nat.le_trans (Nat.le_trans (Nat.le_succ _) (Nat.le_succ _)) z, dne, hns⟩⟩
end
end LAt
end K1
namespace K1
open PySem PySem.Spec PyProof.Rows L2
section
variable {X : Cx} {cn ql : Str} {bm : List Value} {C fI : Addr}
theorem pmk_LAt {a : Expr} {ta : TA} {p pos : Pos} {k : Nat} (T : LAt.Txt X.K X.mg cn ql bm C fI) (hr : Room k X.A) (ha : PA X [a] ta) (hg : Gl X cn := by rfl)
    (he : starEach (a :: []) X.env = (false, eval a X.env) :: starEach [] X.env := by rfl) (hpl : (backTo pos (starEach [] X.env)).any (·.1) = false := by rfl) (hdb : (cn == ("__debug__" : Str)) = false := by decide) :
    PMk X (.Call (.Name cn p) [a] [] pos) (tMkF "at" C ta) := by
  intro pins s σ H Q I h
  refine wpAny_Call_Name_kw (ld_glob I hg T.gC ?_ hdb)
  refine PySem.W.callWith_K (h₀ := X.base) I.ok.mod.kin T.kC (thn (ha.run pos pins s σ H _ I h) fun us s1 hh => ?_) he hpl
  obtain ⟨vs, H1, I1, r1, v, ev, q1⟩ := hh
  subst ev
  refine ⟨I1.kIn, ?_⟩
  cases r1 with
  | cons rv rn =>
    rename_i v' us'
    cases rn
    show wpAny _ _ (call (.ref C) [v']) _ _ _
    have hlim := I1.nolimit
    obtain ⟨hp, g, dr, tk, os⟩ := s1
    refine wpAny_call (LAt.made T I1.kIn hlim (by have := hr.dp; omega) fun h' tk' e d M => ?_)
    show MkP X pins σ Q (.ref e) ⟨h', g, dr, tk', os⟩
    obtain ⟨oe, fv, hoe, hc, hd, hdat, h1⟩ := M.obj
    have hns := M.ns
    obtain ⟨G', g1, g2⟩ := restrict h' fun b => decide (b ≠ e)
    have gk : ∀ b, b ≠ e → G'.get? b = h'.get? b := fun b hb => g1 b (decide_eq_true hb)
    have ge : G'.get? e = none := g2 e (by simp)
    have old : ∀ b o, hp.get? b = some o → G'.get? b = some o := fun b o q => (gk b (Nat.ne_of_lt (Nat.lt_of_lt_of_le (Heap.lt_size q) M.new))).trans (M.keep b o q)
    have ob : ObjOk X.prog X.w (upd H1 d (.xd [(("at" : Str), v)])) G' d (.xd [(("at" : Str), v)]) :=
      ⟨_, hns.at (fun o q => (gk d M.dne).trans q), fun f => relO_one rv f⟩
    have J : Inv X pins σ (upd H1 d (.xd [(("at" : Str), v)])) ⟨G', g, dr, tk', os⟩ := I1.laid (t' := tk') old M.dbig ob
    refine ⟨e, oe, fv, ⟨G', g, dr, tk', os⟩, _, .ref C, some d, rfl, J, fun b o q => ?_, ge, hoe, ⟨hc, hd⟩, hdat, h1, ?_, rfl, I1.bare, raises_own T.exC T.tyC, q1 d (I1.hok.fresh M.dbig)⟩
    · by_cases hb : b = e
      · have q' : G'.get? b = some o := q
        rw [hb, ge] at q'; cases q'
      · exact (gk b hb).symm.trans q
    · rw [upd_ne (Ne.symm M.dne)]
      exact I1.hok.fresh M.new
theorem ps_raise_LAt {a : Expr} {ta : TA} {W : WX} {p pos pos2 : Pos} {k : Nat} (hc : X.calm = true) (T : LAt.Txt X.K X.mg cn ql bm C fI) (hr : Room k X.A) (tk : Takes X W) (ha : PA X [a] ta) (hg : Gl X cn := by rfl)
    (he : starEach (a :: []) X.env = (false, eval a X.env) :: starEach [] X.env := by rfl) (hpl : (backTo pos (starEach [] X.env)).any (·.1) = false := by rfl) (hdb : (cn == ("__debug__" : Str)) = false := by decide) :
    PS X (.Raise (some (.Call (.Name cn p) [a] [] pos)) none pos2) (tRaiseF "at" C W ta) := ps_raise hc tk (pmk_LAt T hr ha hg he hpl hdb)
theorem pe_by_LAt {a : Addr} {oe : Obj} {cls : Value} {d : Option Addr} {pn : List (Addr × Obj)} {e : Expr} {te : TE} {pos : Pos} (T : LAt.Txt X.K X.mg cn ql bm C fI) (hz : Zc cls d oe) (hf : ∃ vs, oe.data = .fields vs) (he : PE (X.suite a ((a, oe) :: pn)) e te)
    (hb : attributeBase e "at" X.env (eval e X.env) = eval e X.env := by rfl) :
    PE (X.suite a ((a, oe) :: pn)) (.Attribute e "at" pos) (tByF "at" C a cls d te) := by
  refine ⟨fun pins s σ H Q I h => ?_⟩
  refine attr_of hb (thn (he.run pins s σ H _ I h) fun u s1 hh => ?_)
  obtain ⟨x, H1, I1, rx, ex, ec, dd, v, ed, ea, q⟩ := hh
  subst ex
  obtain rfl : u = Value.ref a := rx
  subst ec
  subst ed
  obtain ⟨ha, _⟩ := I1.pin (a, oe) (List.mem_append_left _ List.mem_cons_self)
  obtain ⟨vs, hd⟩ := hf
  have hx : ObjOk X.prog X.w H1 s1.heap dd (.xd [(("at" : Str), v)]) := I1.hok dd _ ea
  obtain ⟨mA, hns, hr⟩ := hx
  obtain ⟨od, ho, hl⟩ := lookIn_ns hns
  have l : List.lookup ("at" : Str) [(("at" : Str), v)] = some v := by simp [List.lookup]
  obtain ⟨u, hu, ru⟩ := RelO.some_of (v := v) (o := mA "at") (by rw [← l]; exact hr "at")
  have J : PySem.W.InstAt s1.heap a oe C (some od) := ⟨ha, hz.1, by unfold PySem.W.notCls; rw [hd] <;> rfl, by rw [hz.2]; exact ho⟩
  exact HandSPX.exc_get I1.kIn J T.ga T.gg T.exC (PySem.W.findObj_own T.hdC T.noN rfl (by rw [hl, hu])) (handed_of ru) ⟨v, H1, I1.tok _, ru, q⟩
end
end K1

namespace K1
namespace LState
open PySem PySem.W PySem.Calls PyProof.Rows PySem.HandSPX
/-- the text of __init__ -/
def iA (p1 p2 : Pos) : Arguments := { posonlyargs := [], args := [{ arg := "self", annotation := none, pos := p1 }, { arg := "state", annotation := none, pos := p2 }], vararg := none, kwonlyargs := [], kw_defaults := [], kwarg := none, defaults := [] }
def iB (q1 q2 q3 q4 : Pos) : List Stmt := [.Assign [.Attribute (.Name "self" q1) "state" q2] (.Name "state" q3) q4]
def iS : Scope := { kind := .function, names := [(PySem.Str.ofString "self", .local), (PySem.Str.ofString "state", .local)], isGenerator := false, isCoroutine := false, more := [] }
/-- what the written part says of the class at C (named cn), of its chain bm, and of its __init__, at fI -/
structure Txt (K : Frag) (mg : Str → Option Value) (cn ql : Str) (bm : List Value) (C fI : Addr) : Prop where
  gC : mg cn = some (.ref C)
  cls : ∃ nm q N bs sn sub ab col dd k0 k1 k2 k3 k5, K.lookup C = some (excClassObj nm q C N bs bm true sn sub ab col dd k0 k1 k2 k3 k5 "LookupError.__new__")
  mr : Mro "LookupError" bm
  sa : findIn K (.ref C) "__setattr__" = some (some (.builtin "object.__setattr__"))
  ga : findIn K (.ref C) "__getattribute__" = some (some (.builtin "BaseException.__getattribute__"))
  gg : findIn K (.ref C) "__getattr__" = some none
  noN : findIn K (.ref C) "state" = some none
  iC : findIn K (.ref C) "__init__" = some (some (.ref fI))
  tC : typeIn K (.ref fI) = some (.type "function")
  kC : keepIn K (.ref C) = true
  exC : subIn K (.ref C) (.type "BaseException") = some true
  tyC : typeIn K (.ref C) = some (.type "type")
  hdC : hasDictIn K C = true
  fn : ∃ (oc : Value) (od : Option Addr) (doc pm : Value) (an : Option Addr) (cdv ct : Value) (osl : Array (Option Value)) (p1 p2 q1 q2 q3 q4 : Pos),
    K.lookup fI = some ⟨oc, od, .func (fnOf "__init__" ql (iA p1 p2) (iB q1 q2 q3 q4) iS .none .none doc pm an cdv ct), osl⟩ ∧ codeIn K cdv ql = true
/-- what __init__ leaves of a fresh exception at x -/
structure InitEnd (h h' : Heap) (x C dx t1 : Addr) (v : Value) : Prop where
  keep : ∀ b o, b ≠ x → h.get? b = some o → h'.get? b = some o
  obj : h'.get? x = some { cls := .ref C, dict := some dx, data := .fields #[.ref t1, .none, .none, .none, .bool false, .none] }
  dbig : h.objs.size ≤ dx
  dne : dx ≠ x
  ns : h'.Ns1 dx (fun y => if y = "state" then some v else none)
structure OwnMade (h h' : Heap) (e C d : Addr) (v : Value) : Prop where
  keep : ∀ b o, h.get? b = some o → h'.get? b = some o
  new : h.objs.size ≤ e
  obj : ∃ oe vs, h'.get? e = some oe ∧ oe.cls = .ref C ∧ oe.dict = some d ∧ oe.data = .fields vs ∧ vs[1]? = some .none
  dbig : h.objs.size ≤ d
  dne : d ≠ e
  ns : h'.Ns1 d (fun y => if y = "state" then some v else none)
section
variable {prog : Program} {w : World} {A : Around} {E : Value → Shared → Prop} {R : Result → Shared → Prop} {s : Shared} {K : Frag} {mg : Str → Option Value} {cn ql : Str} {bm : List Value} {C fI : Addr}
theorem init (T : Txt K mg cn ql bm C fI) {x t0 : Addr} {v : Value} (X : K.In s.heap) (hlim : s.heap.NoLimit) (hx : s.heap.get? x = some (excO C t0)) (hnx : K.lookup x = none) (hroom : A.depth < recursionLimit)
    (hq : ∀ h' tk dx, InitEnd s.heap h' x C dx t0 v → R (.ok (.ret .none)) { s with heap := h', toks := tk }) :
    codeAny (model prog w) A (.call (.ref fI) ⟨[.ref x, v], []⟩) R s := by
  obtain ⟨oc, od, doc, pm, an, cdv, ct, osl, p1, p2, q1, q2, q3, q4, ho, hcd⟩ := T.fn
  obtain ⟨nm, q, N, bs, sn, sub, ab, col, dd, k0, k1, k2, k3, k5, hC⟩ := T.cls
  have hcl : clsIn K C = some { name := nm, bases := bs, mro := .ref C :: bm, ns := N, qualname := q, hasDict := true, slotNames := sn, subclasses := sub, abstract := ab, collection := col, hasDel := false } := by unfold clsIn; rw [hC] <;> rfl
  refine Att.call_fn (binds := [("self", .ref x), ("state", v)]) X hlim ho hcd hroom (BindsTo.of_eq (by first | rfl | with_unfolding_all rfl)) (by first | rfl | decide | with_unfolding_all rfl) (fun s₁ IC => ?_) rfl rfl rfl
  obtain ⟨h₁, tk₁, rfl⟩ := IC.toInCall.same
  have k : ∀ b o, s.heap.get? b = some o → h₁.get? b = some o := IC.toInCall.keep
  have hn := IC.toInCall.ns
  have X₁ : K.In h₁ := X.keeps k
  have hx₁ := k _ _ hx
  show wpAny _ _ (execs _ _) _ _ _
  refine wpAny_execs_cons (plainObj_wpAny_Assign_Attribute ?_)
  refine ldE (v := v) hn (by first | rfl | with_unfolding_all rfl | kernel_rfl) (ldE (v := .ref x) hn (by first | rfl | with_unfolding_all rfl | kernel_rfl) ?_)
  refine set_plain X₁ (ox := excO C t0) (od := none) ⟨hx₁, rfl, rfl, trivial⟩ T.sa ?_
  refine exc_osaG X₁ hx₁ hcl rfl T.mr rfl T.noN (fun h₃ tk₃ dx k₃ dn dne hx₃ hn₃ => ?_)
  show wpAny _ _ (execs _ _) _ _ _
  have z : s.heap.objs.size < h₁.objs.size := hn.lt
  exact wpAny_execs_nil (hq h₃ tk₃ dx ⟨fun b o hb e => k₃ b o hb (k b o e), hx₃, Nat.le_of_lt (Nat.lt_of_lt_of_le z dn), dne, hn₃⟩)
theorem made (T : Txt K mg cn ql bm C fI) {v : Value} (X : K.In s.heap) (hlim : s.heap.NoLimit) (hroom : A.depth + 1 < recursionLimit)
    (hq : ∀ h' tk e d, OwnMade s.heap h' e C d v → R (.ok (.ret (.ref e))) { s with heap := h', toks := tk }) :
    codeAny (model prog w) A (.call (.ref C) ⟨[v], []⟩) R s := by
  obtain ⟨nm, q, N, bs, sn, sub, ab, col, dd, k0, k1, k2, k3, k5, hC⟩ := T.cls
  obtain ⟨hp, g, dr, tk, os⟩ := s
  have k : ∀ b o, hp.get? b = some o → ((hp.push (kdv_tup [v])).push (excO C hp.objs.size)).get? b = some o := fun b o e => Heap.get?_push_of_some _ (Heap.get?_push_of_some _ e)
  have hget : ((hp.push (kdv_tup [v])).push (excO C hp.objs.size)).get? (hp.objs.size + 1) = some (excO C hp.objs.size) := by heap_get
  have hnx : K.lookup (hp.objs.size + 1) = none := by
    cases e : K.lookup (hp.objs.size + 1) with
    | none => rfl
    | some o =>
      have z : hp.get? (hp.objs.size + 1) = some o := X _ _ e
      exact absurd (Nat.lt_of_succ_lt (Heap.lt_size z)) (Nat.lt_irrefl _)
  refine call_ownG F.excBase_LookupError T.mr (X _ _ hC) (looks_findIn X T.iC) (fun self => bind_fn X self T.tC) (one_le v) ?_
  refine init (s := ⟨(hp.push (kdv_tup [v])).push (excO C hp.objs.size), g, dr, tk, os⟩) T (X.keeps k) (hlim.keeps k) hget hnx ?_ fun h' tk' dx ⟨k', hx, dn, dne, hns⟩ => ?_
  · show A.depth + 1 < recursionLimit
    exact hroom
  · have old : ∀ b o, hp.get? b = some o → h'.get? b = some o := fun b o e => k' b o (Nat.ne_of_lt (Nat.lt_succ_of_lt (Heap.lt_size e))) (k b o e)
    have z : hp.objs.size + 1 + 1 ≤ dx := by
      first
        | (simpa only [Heap.size_push] using dn)
        | exact dn
        | (have q := dn; rw [Heap.size_push, Heap.size_push] at q; exact q)
    exact ⟨rfl, hq h' tk' (hp.objs.size + 1) dx ⟨old, Nat.le_succ _, ⟨_, _, hx, rfl, rfl, rfl, rfl⟩, Nat.le_trans (Nat.le_trans (Nat.le_succ _) (Nat.le_succ _)) z, dne, hns⟩⟩
end
end LState
end K1
namespace K1
open PySem PySem.Spec PyProof.Rows L2
section
variable {X : Cx} {cn ql : Str} {bm : List Value} {C fI : Addr}
theorem pmk_LState {a : Expr} {ta : TA} {p pos : Pos} {k : Nat} (T : LState.Txt X.K X.mg cn ql bm C fI) (hr : Room k X.A) (ha : PA X [a] ta) (hg : Gl X cn := by rfl)
    (he : starEach (a :: []) X.env = (false, eval a X.env) :: starEach [] X.env := by rfl) (hpl : (backTo pos (starEach [] X.env)).any (·.1) = false := by rfl) (hdb : (cn == ("__debug__" : Str)) = false := by decide) :
    PMk X (.Call (.Name cn p) [a] [] pos) (tMkF "state" C ta) := by
  intro pins s σ H Q I h
  refine wpAny_Call_Name_kw (ld_glob I hg T.gC ?_ hdb)
  refine PySem.W.callWith_K (h₀ := X.base) I.ok.mod.kin T.kC (thn (ha.run pos pins s σ H _ I h) fun us s1 hh => ?_) he hpl
  obtain ⟨vs, H1, I1, r1, v, ev, q1⟩ := hh
  subst ev
  refine ⟨I1.kIn, ?_⟩
  cases r1 with
  | cons rv rn =>
    rename_i v' us'
    cases rn
    show wpAny _ _ (call (.ref C) [v']) _ _ _
    have hlim := I1.nolimit
    obtain ⟨hp, g, dr, tk, os⟩ := s1
    refine wpAny_call (LState.made T I1.kIn hlim (by have := hr.dp; omega) fun h' tk' e d M => ?_)
    show MkP X pins σ Q (.ref e) ⟨h', g, dr, tk', os⟩
    obtain ⟨oe, fv, hoe, hc, hd, hdat, h1⟩ := M.obj
    have hns := M.ns
    obtain ⟨G', g1, g2⟩ := restrict h' fun b => decide (b ≠ e)
    have gk : ∀ b, b ≠ e → G'.get? b = h'.get? b := fun b hb => g1 b (decide_eq_true hb)
    have ge : G'.get? e = none := g2 e (by simp)
    have old : ∀ b o, hp.get? b = some o → G'.get? b = some o := fun b o q => (gk b (Nat.ne_of_lt (Nat.lt_of_lt_of_le (Heap.lt_size q) M.new))).trans (M.keep b o q)
    have ob : ObjOk X.prog X.w (upd H1 d (.xd [(("state" : Str), v)])) G' d (.xd [(("state" : Str), v)]) :=
      ⟨_, hns.at (fun o q => (gk d M.dne).trans q), fun f => relO_one rv f⟩
    have J : Inv X pins σ (upd H1 d (.xd [(("state" : Str), v)])) ⟨G', g, dr, tk', os⟩ := I1.laid (t' := tk') old M.dbig ob
    refine ⟨e, oe, fv, ⟨G', g, dr, tk', os⟩, _, .ref C, some d, rfl, J, fun b o q => ?_, ge, hoe, ⟨hc, hd⟩, hdat, h1, ?_, rfl, I1.bare, raises_own T.exC T.tyC, q1 d (I1.hok.fresh M.dbig)⟩
    · by_cases hb : b = e
      · have q' : G'.get? b = some o := q
        rw [hb, ge] at q'; cases q'
      · exact (gk b hb).symm.trans q
    · rw [upd_ne (Ne.symm M.dne)]
      exact I1.hok.fresh M.new
theorem ps_raise_LState {a : Expr} {ta : TA} {W : WX} {p pos pos2 : Pos} {k : Nat} (hc : X.calm = true) (T : LState.Txt X.K X.mg cn ql bm C fI) (hr : Room k X.A) (tk : Takes X W) (ha : PA X [a] ta) (hg : Gl X cn := by rfl)
    (he : starEach (a :: []) X.env = (false, eval a X.env) :: starEach [] X.env := by rfl) (hpl : (backTo pos (starEach [] X.env)).any (·.1) = false := by rfl) (hdb : (cn == ("__debug__" : Str)) = false := by decide) :
    PS X (.Raise (some (.Call (.Name cn p) [a] [] pos)) none pos2) (tRaiseF "state" C W ta) := ps_raise hc tk (pmk_LState T hr ha hg he hpl hdb)
theorem pe_by_LState {a : Addr} {oe : Obj} {cls : Value} {d : Option Addr} {pn : List (Addr × Obj)} {e : Expr} {te : TE} {pos : Pos} (T : LState.Txt X.K X.mg cn ql bm C fI) (hz : Zc cls d oe) (hf : ∃ vs, oe.data = .fields vs) (he : PE (X.suite a ((a, oe) :: pn)) e te)
    (hb : attributeBase e "state" X.env (eval e X.env) = eval e X.env := by rfl) :
    PE (X.suite a ((a, oe) :: pn)) (.Attribute e "state" pos) (tByF "state" C a cls d te) := by
  refine ⟨fun pins s σ H Q I h => ?_⟩
  refine attr_of hb (thn (he.run pins s σ H _ I h) fun u s1 hh => ?_)
  obtain ⟨x, H1, I1, rx, ex, ec, dd, v, ed, ea, q⟩ := hh
  subst ex
  obtain rfl : u = Value.ref a := rx
  subst ec
  subst ed
  obtain ⟨ha, _⟩ := I1.pin (a, oe) (List.mem_append_left _ List.mem_cons_self)
  obtain ⟨vs, hd⟩ := hf
  have hx : ObjOk X.prog X.w H1 s1.heap dd (.xd [(("state" : Str), v)]) := I1.hok dd _ ea
  obtain ⟨mA, hns, hr⟩ := hx
  obtain ⟨od, ho, hl⟩ := lookIn_ns hns
  have l : List.lookup ("state" : Str) [(("state" : Str), v)] = some v := by simp [List.lookup]
  obtain ⟨u, hu, ru⟩ := RelO.some_of (v := v) (o := mA "state") (by rw [← l]; exact hr "state")
  have J : PySem.W.InstAt s1.heap a oe C (some od) := ⟨ha, hz.1, by unfold PySem.W.notCls; rw [hd] <;> rfl, by rw [hz.2]; exact ho⟩
  exact HandSPX.exc_get I1.kIn J T.ga T.gg T.exC (PySem.W.findObj_own T.hdC T.noN rfl (by rw [hl, hu])) (handed_of ru) ⟨v, H1, I1.tok _, ru, q⟩
end
end K1

namespace K1
namespace LDeed
open PySem PySem.W PySem.Calls PyProof.Rows PySem.HandSPX
/-- the text of __init__ -/
def iA (p1 p2 : Pos) : Arguments := { posonlyargs := [], args := [{ arg := "self", annotation := none, pos := p1 }, { arg := "deed", annotation := none, pos := p2 }], vararg := none, kwonlyargs := [], kw_defaults := [], kwarg := none, defaults := [] }
def iB (q1 q2 q3 q4 : Pos) : List Stmt := [.Assign [.Attribute (.Name "self" q1) "deed" q2] (.Name "deed" q3) q4]
def iS : Scope := { kind := .function, names := [(PySem.Str.ofString "self", .local), (PySem.Str.ofString "deed", .local)], isGenerator := false, isCoroutine := false, more := [] }
/-- what the written part says of the class at C (named cn), of its chain bm, and of its __init__, at fI -/
structure Txt (K : Frag) (mg : Str → Option Value) (cn ql : Str) (bm : List Value) (C fI : Addr) : Prop where
  gC : mg cn = some (.ref C)
  cls : ∃ nm q N bs sn sub ab col dd k0 k1 k2 k3 k5, K.lookup C = some (excClassObj nm q C N bs bm true sn sub ab col dd k0 k1 k2 k3 k5 "LookupError.__new__")
  mr : Mro "LookupError" bm
  sa : findIn K (.ref C) "__setattr__" = some (some (.builtin "object.__setattr__"))
  ga : findIn K (.ref C) "__getattribute__" = some (some (.builtin "BaseException.__getattribute__"))
  gg : findIn K (.ref C) "__getattr__" = some none
  noN : findIn K (.ref C) "deed" = some none
  iC : findIn K (.ref C) "__init__" = some (some (.ref fI))
  tC : typeIn K (.ref fI) = some (.type "function")
  kC : keepIn K (.ref C) = true
  exC : subIn K (.ref C) (.type "BaseException") = some true
  tyC : typeIn K (.ref C) = some (.type "type")
  hdC : hasDictIn K C = true
  fn : ∃ (oc : Value) (od : Option Addr) (doc pm : Value) (an : Option Addr) (cdv ct : Value) (osl : Array (Option Value)) (p1 p2 q1 q2 q3 q4 : Pos),
    K.lookup fI = some ⟨oc, od, .func (fnOf "__init__" ql (iA p1 p2) (iB q1 q2 q3 q4) iS .none .none doc pm an cdv ct), osl⟩ ∧ codeIn K cdv ql = true
/-- what __init__ leaves of a fresh exception at x -/
structure InitEnd (h h' : Heap) (x C dx t1 : Addr) (v : Value) : Prop where
  keep : ∀ b o, b ≠ x → h.get? b = some o → h'.get? b = some o
  obj : h'.get? x = some { cls := .ref C, dict := some dx, data := .fields #[.ref t1, .none, .none, .none, .bool false, .none] }
  dbig : h.objs.size ≤ dx
  dne : dx ≠ x
  ns : h'.Ns1 dx (fun y => if y = "deed" then some v else none)
structure OwnMade (h h' : Heap) (e C d : Addr) (v : Value) : Prop where
  keep : ∀ b o, h.get? b = some o → h'.get? b = some o
  new : h.objs.size ≤ e
  obj : ∃ oe vs, h'.get? e = some oe ∧ oe.cls = .ref C ∧ oe.dict = some d ∧ oe.data = .fields vs ∧ vs[1]? = some .none
  dbig : h.objs.size ≤ d
  dne : d ≠ e
  ns : h'.Ns1 d (fun y => if y = "deed" then some v else none)
section
variable {prog : Program} {w : World} {A : Around} {E : Value → Shared → Prop} {R : Result → Shared → Prop} {s : Shared} {K : Frag} {mg : Str → Option Value} {cn ql : Str} {bm : List Value} {C fI : Addr}
theorem init (T : Txt K mg cn ql bm C fI) {x t0 : Addr} {v : Value} (X : K.In s.heap) (hlim : s.heap.NoLimit) (hx : s.heap.get? x = some (excO C t0)) (hnx : K.lookup x = none) (hroom : A.depth < recursionLimit)
    (hq : ∀ h' tk dx, InitEnd s.heap h' x C dx t0 v → R (.ok (.ret .none)) { s with heap := h', toks := tk }) :
    codeAny (model prog w) A (.call (.ref fI) ⟨[.ref x, v], []⟩) R s := by
  obtain ⟨oc, od, doc, pm, an, cdv, ct, osl, p1, p2, q1, q2, q3, q4, ho, hcd⟩ := T.fn
  obtain ⟨nm, q, N, bs, sn, sub, ab, col, dd, k0, k1, k2, k3, k5, hC⟩ := T.cls
  have hcl : clsIn K C = some { name := nm, bases := bs, mro := .ref C :: bm, ns := N, qualname := q, hasDict := true, slotNames := sn, subclasses := sub, abstract := ab, collection := col, hasDel := false } := by unfold clsIn; rw [hC] <;> rfl
  refine Att.call_fn (binds := [("self", .ref x), ("deed", v)]) X hlim ho hcd hroom (BindsTo.of_eq (by first | rfl | with_unfolding_all rfl)) (by first | rfl | decide | with_unfolding_all rfl) (fun s₁ IC => ?_) rfl rfl rfl
  obtain ⟨h₁, tk₁, rfl⟩ := IC.toInCall.same
  have k : ∀ b o, s.heap.get? b = some o → h₁.get? b = some o := IC.toInCall.keep
  have hn := IC.toInCall.ns
  have X₁ : K.In h₁ := X.keeps k
  have hx₁ := k _ _ hx
  show wpAny _ _ (execs _ _) _ _ _
  refine wpAny_execs_cons (plainObj_wpAny_Assign_Attribute ?_)
  refine ldE (v := v) hn (by first | rfl | with_unfolding_all rfl | kernel_rfl) (ldE (v := .ref x) hn (by first | rfl | with_unfolding_all rfl | kernel_rfl) ?_)
  refine set_plain X₁ (ox := excO C t0) (od := none) ⟨hx₁, rfl, rfl, trivial⟩ T.sa ?_
  refine exc_osaG X₁ hx₁ hcl rfl T.mr rfl T.noN (fun h₃ tk₃ dx k₃ dn dne hx₃ hn₃ => ?_)
  show wpAny _ _ (execs _ _) _ _ _
  have z : s.heap.objs.size < h₁.objs.size := hn.lt
  exact wpAny_execs_nil (hq h₃ tk₃ dx ⟨fun b o hb e => k₃ b o hb (k b o e), hx₃, Nat.le_of_lt (Nat.lt_of_lt_of_le z dn), dne, hn₃⟩)
theorem made (T : Txt K mg cn ql bm C fI) {v : Value} (X : K.In s.heap) (hlim : s.heap.NoLimit) (hroom : A.depth + 1 < recursionLimit)
    (hq : ∀ h' tk e d, OwnMade s.heap h' e C d v → R (.ok (.ret (.ref e))) { s with heap := h', toks := tk }) :
    codeAny (model prog w) A (.call (.ref C) ⟨[v], []⟩) R s := by
  obtain ⟨nm, q, N, bs, sn, sub, ab, col, dd, k0, k1, k2, k3, k5, hC⟩ := T.cls
  obtain ⟨hp, g, dr, tk, os⟩ := s
  have k : ∀ b o, hp.get? b = some o → ((hp.push (kdv_tup [v])).push (excO C hp.objs.size)).get? b = some o := fun b o e => Heap.get?_push_of_some _ (Heap.get?_push_of_some _ e)
  have hget : ((hp.push (kdv_tup [v])).push (excO C hp.objs.size)).get? (hp.objs.size + 1) = some (excO C hp.objs.size) := by heap_get
  have hnx : K.lookup (hp.objs.size + 1) = none := by
    cases e : K.lookup (hp.objs.size + 1) with
    | none => rfl
    | some o =>
      have z : hp.get? (hp.objs.size + 1) = some o := X _ _ e
      exact absurd (Nat.lt_of_succ_lt (Heap.lt_size z)) (Nat.lt_irrefl _)
  refine call_ownG F.excBase_LookupError T.mr (X _ _ hC) (looks_findIn X T.iC) (fun self => bind_fn X self T.tC) (one_le v) ?_
  refine init (s := ⟨(hp.push (kdv_tup [v])).push (excO C hp.objs.size), g, dr, tk, os⟩) T (X.keeps k) (hlim.keeps k) hget hnx ?_ fun h' tk' dx ⟨k', hx, dn, dne, hns⟩ => ?_
  · show A.depth + 1 < recursionLimit
    exact hroom
  · have old : ∀ b o, hp.get? b = some o → h'.get? b = some o := fun b o e => k' b o (Nat.ne_of_lt (Nat.lt_succ_of_lt (Heap.lt_size e))) (k b o e)
    have z : hp.objs.size + 1 + 1 ≤ dx := by
      first
        | (simpa only [Heap.size_push] using dn)
        | exact dn
        | (have q := dn; rw [Heap.size_push, Heap.size_push] at q; exact q)
    exact ⟨rfl, hq h' tk' (hp.objs.size + 1) dx ⟨old, Nat.le_succ _, ⟨_, _, hx, rfl, rfl, rfl, rfl⟩, Nat.le_trans (Nat.le_trans (Nat.le_succ _) (Nat.le_succ _)) z, dne, hns⟩⟩
end
end LDeed
end K1
namespace K1
open PySem PySem.Spec PyProof.Rows L2
section
variable {X : Cx} {cn ql : Str} {bm : List Value} {C fI : Addr}
theorem pmk_LDeed {a : Expr} {ta : TA} {p pos : Pos} {k : Nat} (T : LDeed.Txt X.K X.mg cn ql bm C fI) (hr : Room k X.A) (ha : PA X [a] ta) (hg : Gl X cn := by rfl)
    (he : starEach (a :: []) X.env = (false, eval a X.env) :: starEach [] X.env := by rfl) (hpl : (backTo pos (starEach [] X.env)).any (·.1) = false := by rfl) (hdb : (cn == ("__debug__" : Str)) = false := by decide) :
    PMk X (.Call (.Name cn p) [a] [] pos) (tMkF "deed" C ta) := by
  intro pins s σ H Q I h
  refine wpAny_Call_Name_kw (ld_glob I hg T.gC ?_ hdb)
  refine PySem.W.callWith_K (h₀ := X.base) I.ok.mod.kin T.kC (thn (ha.run pos pins s σ H _ I h) fun us s1 hh => ?_) he hpl
  obtain ⟨vs, H1, I1, r1, v, ev, q1⟩ := hh
  subst ev
  refine ⟨I1.kIn, ?_⟩
  cases r1 with
  | cons rv rn =>
    rename_i v' us'
    cases rn
    show wpAny _ _ (call (.ref C) [v']) _ _ _
    have hlim := I1.nolimit
    obtain ⟨hp, g, dr, tk, os⟩ := s1
    refine wpAny_call (LDeed.made T I1.kIn hlim (by have := hr.dp; omega) fun h' tk' e d M => ?_)
    show MkP X pins σ Q (.ref e) ⟨h', g, dr, tk', os⟩
    obtain ⟨oe, fv, hoe, hc, hd, hdat, h1⟩ := M.obj
    have hns := M.ns
    obtain ⟨G', g1, g2⟩ := restrict h' fun b => decide (b ≠ e)
    have gk : ∀ b, b ≠ e → G'.get? b = h'.get? b := fun b hb => g1 b (decide_eq_true hb)
    have ge : G'.get? e = none := g2 e (by simp)
    have old : ∀ b o, hp.get? b = some o → G'.get? b = some o := fun b o q => (gk b (Nat.ne_of_lt (Nat.lt_of_lt_of_le (Heap.lt_size q) M.new))).trans (M.keep b o q)
    have ob : ObjOk X.prog X.w (upd H1 d (.xd [(("deed" : Str), v)])) G' d (.xd [(("deed" : Str), v)]) :=
      ⟨_, hns.at (fun o q => (gk d M.dne).trans q), fun f => relO_one rv f⟩
    have J : Inv X pins σ (upd H1 d (.xd [(("deed" : Str), v)])) ⟨G', g, dr, tk', os⟩ := I1.laid (t' := tk') old M.dbig ob
    refine ⟨e, oe, fv, ⟨G', g, dr, tk', os⟩, _, .ref C, some d, rfl, J, fun b o q => ?_, ge, hoe, ⟨hc, hd⟩, hdat, h1, ?_, rfl, I1.bare, raises_own T.exC T.tyC, q1 d (I1.hok.fresh M.dbig)⟩
    · by_cases hb : b = e
      · have q' : G'.get? b = some o := q
        rw [hb, ge] at q'; cases q'
      · exact (gk b hb).symm.trans q
    · rw [upd_ne (Ne.symm M.dne)]
      exact I1.hok.fresh M.new
theorem ps_raise_LDeed {a : Expr} {ta : TA} {W : WX} {p pos pos2 : Pos} {k : Nat} (hc : X.calm = true) (T : LDeed.Txt X.K X.mg cn ql bm C fI) (hr : Room k X.A) (tk : Takes X W) (ha : PA X [a] ta) (hg : Gl X cn := by rfl)
    (he : starEach (a :: []) X.env = (false, eval a X.env) :: starEach [] X.env := by rfl) (hpl : (backTo pos (starEach [] X.env)).any (·.1) = false := by rfl) (hdb : (cn == ("__debug__" : Str)) = false := by decide) :
    PS X (.Raise (some (.Call (.Name cn p) [a] [] pos)) none pos2) (tRaiseF "deed" C W ta) := ps_raise hc tk (pmk_LDeed T hr ha hg he hpl hdb)
theorem pe_by_LDeed {a : Addr} {oe : Obj} {cls : Value} {d : Option Addr} {pn : List (Addr × Obj)} {e : Expr} {te : TE} {pos : Pos} (T : LDeed.Txt X.K X.mg cn ql bm C fI) (hz : Zc cls d oe) (hf : ∃ vs, oe.data = .fields vs) (he : PE (X.suite a ((a, oe) :: pn)) e te)
    (hb : attributeBase e "deed" X.env (eval e X.env) = eval e X.env := by rfl) :
    PE (X.suite a ((a, oe) :: pn)) (.Attribute e "deed" pos) (tByF "deed" C a cls d te) := by
  refine ⟨fun pins s σ H Q I h => ?_⟩
  refine attr_of hb (thn (he.run pins s σ H _ I h) fun u s1 hh => ?_)
  obtain ⟨x, H1, I1, rx, ex, ec, dd, v, ed, ea, q⟩ := hh
  subst ex
  obtain rfl : u = Value.ref a := rx
  subst ec
  subst ed
  obtain ⟨ha, _⟩ := I1.pin (a, oe) (List.mem_append_left _ List.mem_cons_self)
  obtain ⟨vs, hd⟩ := hf
  have hx : ObjOk X.prog X.w H1 s1.heap dd (.xd [(("deed" : Str), v)]) := I1.hok dd _ ea
  obtain ⟨mA, hns, hr⟩ := hx
  obtain ⟨od, ho, hl⟩ := lookIn_ns hns
  have l : List.lookup ("deed" : Str) [(("deed" : Str), v)] = some v := by simp [List.lookup]
  obtain ⟨u, hu, ru⟩ := RelO.some_of (v := v) (o := mA "deed") (by rw [← l]; exact hr "deed")
  have J : PySem.W.InstAt s1.heap a oe C (some od) := ⟨ha, hz.1, by unfold PySem.W.notCls; rw [hd] <;> rfl, by rw [hz.2]; exact ho⟩
  exact HandSPX.exc_get I1.kIn J T.ga T.gg T.exC (PySem.W.findObj_own T.hdC T.noN rfl (by rw [hl, hu])) (handed_of ru) ⟨v, H1, I1.tok _, ru, q⟩
end
end K1

namespace K1
namespace LHouse
open PySem PySem.W PySem.Calls PyProof.Rows PySem.HandSPX
/-- the text of __init__ -/
def iA (p1 p2 : Pos) : Arguments := { posonlyargs := [], args := [{ arg := "self", annotation := none, pos := p1 }, { arg := "house", annotation := none, pos := p2 }], vararg := none, kwonlyargs := [], kw_defaults := [], kwarg := none, defaults := [] }
def iB (q1 q2 q3 q4 : Pos) : List Stmt := [.Assign [.Attribute (.Name "self" q1) "house" q2] (.Name "house" q3) q4]
def iS : Scope := { kind := .function, names := [(PySem.Str.ofString "self", .local), (PySem.Str.ofString "house", .local)], isGenerator := false, isCoroutine := false, more := [] }
/-- what the written part says of the class at C (named cn), of its chain bm, and of its __init__, at fI -/
structure Txt (K : Frag) (mg : Str → Option Value) (cn ql : Str) (bm : List Value) (C fI : Addr) : Prop where
  gC : mg cn = some (.ref C)
  cls : ∃ nm q N bs sn sub ab col dd k0 k1 k2 k3 k5, K.lookup C = some (excClassObj nm q C N bs bm true sn sub ab col dd k0 k1 k2 k3 k5 "LookupError.__new__")
  mr : Mro "LookupError" bm
  sa : findIn K (.ref C) "__setattr__" = some (some (.builtin "object.__setattr__"))
  ga : findIn K (.ref C) "__getattribute__" = some (some (.builtin "BaseException.__getattribute__"))
  gg : findIn K (.ref C) "__getattr__" = some none
  noN : findIn K (.ref C) "house" = some none
  iC : findIn K (.ref C) "__init__" = some (some (.ref fI))
  tC : typeIn K (.ref fI) = some (.type "function")
  kC : keepIn K (.ref C) = true
  exC : subIn K (.ref C) (.type "BaseException") = some true
  tyC : typeIn K (.ref C) = some (.type "type")
  hdC : hasDictIn K C = true
  fn : ∃ (oc : Value) (od : Option Addr) (doc pm : Value) (an : Option Addr) (cdv ct : Value) (osl : Array (Option Value)) (p1 p2 q1 q2 q3 q4 : Pos),
    K.lookup fI = some ⟨oc, od, .func (fnOf "__init__" ql (iA p1 p2) (iB q1 q2 q3 q4) iS .none .none doc pm an cdv ct), osl⟩ ∧ codeIn K cdv ql = true
/-- what __init__ leaves of a fresh exception at x -/
structure InitEnd (h h' : Heap) (x C dx t1 : Addr) (v : Value) : Prop where
  keep : ∀ b o, b ≠ x → h.get? b = some o → h'.get? b = some o
  obj : h'.get? x = some { cls := .ref C, dict := some dx, data := .fields #[.ref t1, .none, .none, .none, .bool false, .none] }
  dbig : h.objs.size ≤ dx
  dne : dx ≠ x
  ns : h'.Ns1 dx (fun y => if y = "house" then some v else none)
structure OwnMade (h h' : Heap) (e C d : Addr) (v : Value) : Prop where
  keep : ∀ b o, h.get? b = some o → h'.get? b = some o
  new : h.objs.size ≤ e
  obj : ∃ oe vs, h'.get? e = some oe ∧ oe.cls = .ref C ∧ oe.dict = some d ∧ oe.data = .fields vs ∧ vs[1]? = some .none
  dbig : h.objs.size ≤ d
  dne : d ≠ e
  ns : h'.Ns1 d (fun y => if y = "house" then some v else none)
section
variable {prog : Program} {w : World} {A : Around} {E : Value → Shared → Prop} {R : Result → Shared → Prop} {s : Shared} {K : Frag} {mg : Str → Option Value} {cn ql : Str} {bm : List Value} {C fI : Addr}
theorem init (T : Txt K mg cn ql bm C fI) {x t0 : Addr} {v : Value} (X : K.In s.heap) (hlim : s.heap.NoLimit) (hx : s.heap.get? x = some (excO C t0)) (hnx : K.lookup x = none) (hroom : A.depth < recursionLimit)
    (hq : ∀ h' tk dx, InitEnd s.heap h' x C dx t0 v → R (.ok (.ret .none)) { s with heap := h', toks := tk }) :
    codeAny (model prog w) A (.call (.ref fI) ⟨[.ref x, v], []⟩) R s := by
  obtain ⟨oc, od, doc, pm, an, cdv, ct, osl, p1, p2, q1, q2, q3, q4, ho, hcd⟩ := T.fn
  obtain ⟨nm, q, N, bs, sn, sub, ab, col, dd, k0, k1, k2, k3, k5, hC⟩ := T.cls
  have hcl : clsIn K C = some { name := nm, bases := bs, mro := .ref C :: bm, ns := N, qualname := q, hasDict := true, slotNames := sn, subclasses := sub, abstract := ab, collection := col, hasDel := false } := by unfold clsIn; rw [hC] <;> rfl
  refine Att.call_fn (binds := [("self", .ref x), ("house", v)]) X hlim ho hcd hroom (BindsTo.of_eq (by first | rfl | with_unfolding_all rfl)) (by first | rfl | decide | with_unfolding_all rfl) (fun s₁ IC => ?_) rfl rfl rfl
  obtain ⟨h₁, tk₁, rfl⟩ := IC.toInCall.same
  have k : ∀ b o, s.heap.get? b = some o → h₁.get? b = some o := IC.toInCall.keep
  have hn := IC.toInCall.ns
  have X₁ : K.In h₁ := X.keeps k
  have hx₁ := k _ _ hx
  show wpAny _ _ (execs _ _) _ _ _
  refine wpAny_execs_cons (plainObj_wpAny_Assign_Attribute ?_)
  refine ldE (v := v) hn (by first | rfl | with_unfolding_all rfl | kernel_rfl) (ldE (v := .ref x) hn (by first | rfl | with_unfolding_all rfl | kernel_rfl) ?_)
  refine set_plain X₁ (ox := excO C t0) (od := none) ⟨hx₁, rfl, rfl, trivial⟩ T.sa ?_
  refine exc_osaG X₁ hx₁ hcl rfl T.mr rfl T.noN (fun h₃ tk₃ dx k₃ dn dne hx₃ hn₃ => ?_)
  show wpAny _ _ (execs _ _) _ _ _
  have z : s.heap.objs.size < h₁.objs.size := hn.lt
  exact wpAny_execs_nil (hq h₃ tk₃ dx ⟨fun b o hb e => k₃ b o hb (k b o e), hx₃, Nat.le_of_lt (Nat.lt_of_lt_of_le z dn), dne, hn₃⟩)
theorem made (T : Txt K mg cn ql bm C fI) {v : Value} (X : K.In s.heap) (hlim : s.heap.NoLimit) (hroom : A.depth + 1 < recursionLimit)
    (hq : ∀ h' tk e d, OwnMade s.heap h' e C d v → R (.ok (.ret (.ref e))) { s with heap := h', toks := tk }) :
    codeAny (model prog w) A (.call (.ref C) ⟨[v], []⟩) R s := by
  obtain ⟨nm, q, N, bs, sn, sub, ab, col, dd, k0, k1, k2, k3, k5, hC⟩ := T.cls
  obtain ⟨hp, g, dr, tk, os⟩ := s
  have k : ∀ b o, hp.get? b = some o → ((hp.push (kdv_tup [v])).push (excO C hp.objs.size)).get? b = some o := fun b o e => Heap.get?_push_of_some _ (Heap.get?_push_of_some _ e)
  have hget : ((hp.push (kdv_tup [v])).push (excO C hp.objs.size)).get? (hp.objs.size + 1) = some (excO C hp.objs.size) := by heap_get
  have hnx : K.lookup (hp.objs.size + 1) = none := by
    cases e : K.lookup (hp.objs.size + 1) with
    | none => rfl
    | some o =>
      have z : hp.get? (hp.objs.size + 1) = some o := X _ _ e
      exact absurd (Nat.lt_of_succ_lt (Heap.lt_size z)) (Nat.lt_irrefl _)
  refine call_ownG F.excBase_LookupError T.mr (X _ _ hC) (looks_findIn X T.iC) (fun self => bind_fn X self T.tC) (one_le v) ?_
  refine init (s := ⟨(hp.push (kdv_tup [v])).push (excO C hp.objs.size), g, dr, tk, os⟩) T (X.keeps k) (hlim.keeps k) hget hnx ?_ fun h' tk' dx ⟨k', hx, dn, dne, hns⟩ => ?_
  · show A.depth + 1 < recursionLimit
    exact hroom
  · have old : ∀ b o, hp.get? b = some o → h'.get? b = some o := fun b o e => k' b o (Nat.ne_of_lt (Nat.lt_succ_of_lt (Heap.lt_size e))) (k b o e)
    have z : hp.objs.size + 1 + 1 ≤ dx := by
      first
        | (simpa only [Heap.size_push] using dn)
        | exact dn
        | (have q := dn; rw [Heap.size_push, Heap.size_push] at q; exact q)
    exact ⟨rfl, hq h' tk' (hp.objs.size + 1) dx ⟨old, Nat.le_succ _, ⟨_, _, hx, rfl, rfl, rfl, rfl⟩, Nat.le_trans (Nat.le_trans (Nat.le_succ _) (Nat.le_succ _)) z, dne, hns⟩⟩
end
end LHouse
end K1
namespace K1
open PySem PySem.Spec PyProof.Rows L2
section
variable {X : Cx} {cn ql : Str} {bm : List Value} {C fI : Addr}
theorem pmk_LHouse {a : Expr} {ta : TA} {p pos : Pos} {k : Nat} (T : LHouse.Txt X.K X.mg cn ql bm C fI) (hr : Room k X.A) (ha : PA X [a] ta) (hg : Gl X cn := by rfl)
    (he : starEach (a :: []) X.env = (false, eval a X.env) :: starEach [] X.env := by rfl) (hpl : (backTo pos (starEach [] X.env)).any (·.1) = false := by rfl) (hdb : (cn == ("__debug__" : Str)) = false := by decide) :
    PMk X (.Call (.Name cn p) [a] [] pos) (tMkF "house" C ta) := by
  intro pins s σ H Q I h
  refine wpAny_Call_Name_kw (ld_glob I hg T.gC ?_ hdb)
  refine PySem.W.callWith_K (h₀ := X.base) I.ok.mod.kin T.kC (thn (ha.run pos pins s σ H _ I h) fun us s1 hh => ?_) he hpl
  obtain ⟨vs, H1, I1, r1, v, ev, q1⟩ := hh
  subst ev
  refine ⟨I1.kIn, ?_⟩
  cases r1 with
  | cons rv rn =>
    rename_i v' us'
    cases rn
    show wpAny _ _ (call (.ref C) [v']) _ _ _
    have hlim := I1.nolimit
    obtain ⟨hp, g, dr, tk, os⟩ := s1
    refine wpAny_call (LHouse.made T I1.kIn hlim (by have := hr.dp; omega) fun h' tk' e d M => ?_)
    show MkP X pins σ Q (.ref e) ⟨h', g, dr, tk', os⟩
    obtain ⟨oe, fv, hoe, hc, hd, hdat, h1⟩ := M.obj
    have hns := M.ns
    obtain ⟨G', g1, g2⟩ := restrict h' fun b => decide (b ≠ e)
    have gk : ∀ b, b ≠ e → G'.get? b = h'.get? b := fun b hb => g1 b (decide_eq_true hb)
    have ge : G'.get? e = none := g2 e (by simp)
    have old : ∀ b o, hp.get? b = some o → G'.get? b = some o := fun b o q => (gk b (Nat.ne_of_lt (Nat.lt_of_lt_of_le (Heap.lt_size q) M.new))).trans (M.keep b o q)
    have ob : ObjOk X.prog X.w (upd H1 d (.xd [(("house" : Str), v)])) G' d (.xd [(("house" : Str), v)]) :=
      ⟨_, hns.at (fun o q => (gk d M.dne).trans q), fun f => relO_one rv f⟩
    have J : Inv X pins σ (upd H1 d (.xd [(("house" : Str), v)])) ⟨G', g, dr, tk', os⟩ := I1.laid (t' := tk') old M.dbig ob
    refine ⟨e, oe, fv, ⟨G', g, dr, tk', os⟩, _, .ref C, some d, rfl, J, fun b o q => ?_, ge, hoe, ⟨hc, hd⟩, hdat, h1, ?_, rfl, I1.bare, raises_own T.exC T.tyC, q1 d (I1.hok.fresh M.dbig)⟩
    · by_cases hb : b = e
      · have q' : G'.get? b = some o := q
        rw [hb, ge] at q'; cases q'
      · exact (gk b hb).symm.trans q
    · rw [upd_ne (Ne.symm M.dne)]
      exact I1.hok.fresh M.new
theorem ps_raise_LHouse {a : Expr} {ta : TA} {W : WX} {p pos pos2 : Pos} {k : Nat} (hc : X.calm = true) (T : LHouse.Txt X.K X.mg cn ql bm C fI) (hr : Room k X.A) (tk : Takes X W) (ha : PA X [a] ta) (hg : Gl X cn := by rfl)
    (he : starEach (a :: []) X.env = (false, eval a X.env) :: starEach [] X.env := by rfl) (hpl : (backTo pos (starEach [] X.env)).any (·.1) = false := by rfl) (hdb : (cn == ("__debug__" : Str)) = false := by decide) :
    PS X (.Raise (some (.Call (.Name cn p) [a] [] pos)) none pos2) (tRaiseF "house" C W ta) := ps_raise hc tk (pmk_LHouse T hr ha hg he hpl hdb)
theorem pe_by_LHouse {a : Addr} {oe : Obj} {cls : Value} {d : Option Addr} {pn : List (Addr × Obj)} {e : Expr} {te : TE} {pos : Pos} (T : LHouse.Txt X.K X.mg cn ql bm C fI) (hz : Zc cls d oe) (hf : ∃ vs, oe.data = .fields vs) (he : PE (X.suite a ((a, oe) :: pn)) e te)
    (hb : attributeBase e "house" X.env (eval e X.env) = eval e X.env := by rfl) :
    PE (X.suite a ((a, oe) :: pn)) (.Attribute e "house" pos) (tByF "house" C a cls d te) := by
  refine ⟨fun pins s σ H Q I h => ?_⟩
  refine attr_of hb (thn (he.run pins s σ H _ I h) fun u s1 hh => ?_)
  obtain ⟨x, H1, I1, rx, ex, ec, dd, v, ed, ea, q⟩ := hh
  subst ex
  obtain rfl : u = Value.ref a := rx
  subst ec
  subst ed
  obtain ⟨ha, _⟩ := I1.pin (a, oe) (List.mem_append_left _ List.mem_cons_self)
  obtain ⟨vs, hd⟩ := hf
  have hx : ObjOk X.prog X.w H1 s1.heap dd (.xd [(("house" : Str), v)]) := I1.hok dd _ ea
  obtain ⟨mA, hns, hr⟩ := hx
  obtain ⟨od, ho, hl⟩ := lookIn_ns hns
  have l : List.lookup ("house" : Str) [(("house" : Str), v)] = some v := by simp [List.lookup]
  obtain ⟨u, hu, ru⟩ := RelO.some_of (v := v) (o := mA "house") (by rw [← l]; exact hr "house")
  have J : PySem.W.InstAt s1.heap a oe C (some od) := ⟨ha, hz.1, by unfold PySem.W.notCls; rw [hd] <;> rfl, by rw [hz.2]; exact ho⟩
  exact HandSPX.exc_get I1.kIn J T.ga T.gg T.exC (PySem.W.findObj_own T.hdC T.noN rfl (by rw [hl, hu])) (handed_of ru) ⟨v, H1, I1.tok _, ru, q⟩
end
end K1

namespace K1
namespace LTie
open PySem PySem.W PySem.Calls PyProof.Rows PySem.HandSPX
/-- the text of __init__ -/
def iA (p1 p2 : Pos) : Arguments := { posonlyargs := [], args := [{ arg := "self", annotation := none, pos := p1 }, { arg := "tie", annotation := none, pos := p2 }], vararg := none, kwonlyargs := [], kw_defaults := [], kwarg := none, defaults := [] }
def iB (q1 q2 q3 q4 : Pos) : List Stmt := [.Assign [.Attribute (.Name "self" q1) "tie" q2] (.Name "tie" q3) q4]
def iS : Scope := { kind := .function, names := [(PySem.Str.ofString "self", .local), (PySem.Str.ofString "tie", .local)], isGenerator := false, isCoroutine := false, more := [] }
/-- what the written part says of the class at C (named cn), of its chain bm, and of its __init__, at fI -/
structure Txt (K : Frag) (mg : Str → Option Value) (cn ql : Str) (bm : List Value) (C fI : Addr) : Prop where
  gC : mg cn = some (.ref C)
  cls : ∃ nm q N bs sn sub ab col dd k0 k1 k2 k3 k5, K.lookup C = some (excClassObj nm q C N bs bm true sn sub ab col dd k0 k1 k2 k3 k5 "LookupError.__new__")
  mr : Mro "LookupError" bm
  sa : findIn K (.ref C) "__setattr__" = some (some (.builtin "object.__setattr__"))
  ga : findIn K (.ref C) "__getattribute__" = some (some (.builtin "BaseException.__getattribute__"))
  gg : findIn K (.ref C) "__getattr__" = some none
  noN : findIn K (.ref C) "tie" = some none
  iC : findIn K (.ref C) "__init__" = some (some (.ref fI))
  tC : typeIn K (.ref fI) = some (.type "function")
  kC : keepIn K (.ref C) = true
  exC : subIn K (.ref C) (.type "BaseException") = some true
  tyC : typeIn K (.ref C) = some (.type "type")
  hdC : hasDictIn K C = true
  fn : ∃ (oc : Value) (od : Option Addr) (doc pm : Value) (an : Option Addr) (cdv ct : Value) (osl : Array (Option Value)) (p1 p2 q1 q2 q3 q4 : Pos),
    K.lookup fI = some ⟨oc, od, .func (fnOf "__init__" ql (iA p1 p2) (iB q1 q2 q3 q4) iS .none .none doc pm an cdv ct), osl⟩ ∧ codeIn K cdv ql = true
/-- what __init__ leaves of a fresh exception at x -/
structure InitEnd (h h' : Heap) (x C dx t1 : Addr) (v : Value) : Prop where
  keep : ∀ b o, b ≠ x → h.get? b = some o → h'.get? b = some o
  obj : h'.get? x = some { cls := .ref C, dict := some dx, data := .fields #[.ref t1, .none, .none, .none, .bool false, .none] }
  dbig : h.objs.size ≤ dx
  dne : dx ≠ x
  ns : h'.Ns1 dx (fun y => if y = "tie" then some v else none)
structure OwnMade (h h' : Heap) (e C d : Addr) (v : Value) : Prop where
  keep : ∀ b o, h.get? b = some o → h'.get? b = some o
  new : h.objs.size ≤ e
  obj : ∃ oe vs, h'.get? e = some oe ∧ oe.cls = .ref C ∧ oe.dict = some d ∧ oe.data = .fields vs ∧ vs[1]? = some .none
  dbig : h.objs.size ≤ d
  dne : d ≠ e
  ns : h'.Ns1 d (fun y => if y = "tie" then some v else none)
section
variable {prog : Program} {w : World} {A : Around} {E : Value → Shared → Prop} {R : Result → Shared → Prop} {s : Shared} {K : Frag} {mg : Str → Option Value} {cn ql : Str} {bm : List Value} {C fI : Addr}
theorem init (T : Txt K mg cn ql bm C fI) {x t0 : Addr} {v : Value} (X : K.In s.heap) (hlim : s.heap.NoLimit) (hx : s.heap.get? x = some (excO C t0)) (hnx : K.lookup x = none) (hroom : A.depth < recursionLimit)
    (hq : ∀ h' tk dx, InitEnd s.heap h' x C dx t0 v → R (.ok (.ret .none)) { s with heap := h', toks := tk }) :
    codeAny (model prog w) A (.call (.ref fI) ⟨[.ref x, v], []⟩) R s := by
  obtain ⟨oc, od, doc, pm, an, cdv, ct, osl, p1, p2, q1, q2, q3, q4, ho, hcd⟩ := T.fn
  obtain ⟨nm, q, N, bs, sn, sub, ab, col, dd, k0, k1, k2, k3, k5, hC⟩ := T.cls
  have hcl : clsIn K C = some { name := nm, bases := bs, mro := .ref C :: bm, ns := N, qualname := q, hasDict := true, slotNames := sn, subclasses := sub, abstract := ab, collection := col, hasDel := false } := by unfold clsIn; rw [hC] <;> rfl
  refine Att.call_fn (binds := [("self", .ref x), ("tie", v)]) X hlim ho hcd hroom (BindsTo.of_eq (by first | rfl | with_unfolding_all rfl)) (by first | rfl | decide | with_unfolding_all rfl) (fun s₁ IC => ?_) rfl rfl rfl
  obtain ⟨h₁, tk₁, rfl⟩ := IC.toInCall.same
  have k : ∀ b o, s.heap.get? b = some o → h₁.get? b = some o := IC.toInCall.keep
  have hn := IC.toInCall.ns
  have X₁ : K.In h₁ := X.keeps k
  have hx₁ := k _ _ hx
  show wpAny _ _ (execs _ _) _ _ _
  refine wpAny_execs_cons (plainObj_wpAny_Assign_Attribute ?_)
  refine ldE (v := v) hn (by first | rfl | with_unfolding_all rfl | kernel_rfl) (ldE (v := .ref x) hn (by first | rfl | with_unfolding_all rfl | kernel_rfl) ?_)
  refine set_plain X₁ (ox := excO C t0) (od := none) ⟨hx₁, rfl, rfl, trivial⟩ T.sa ?_
  refine exc_osaG X₁ hx₁ hcl rfl T.mr rfl T.noN (fun h₃ tk₃ dx k₃ dn dne hx₃ hn₃ => ?_)
  show wpAny _ _ (execs _ _) _ _ _
  have z : s.heap.objs.size < h₁.objs.size := hn.lt
  exact wpAny_execs_nil (hq h₃ tk₃ dx ⟨fun b o hb e => k₃ b o hb (k b o e), hx₃, Nat.le_of_lt (Nat.lt_of_lt_of_le z dn), dne, hn₃⟩)
theorem made (T : Txt K mg cn ql bm C fI) {v : Value} (X : K.In s.heap) (hlim : s.heap.NoLimit) (hroom : A.depth + 1 < recursionLimit)
    (hq : ∀ h' tk e d, OwnMade s.heap h' e C d v → R (.ok (.ret (.ref e))) { s with heap := h', toks := tk }) :
    codeAny (model prog w) A (.call (.ref C) ⟨[v], []⟩) R s := by
  obtain ⟨nm, q, N, bs, sn, sub, ab, col, dd, k0, k1, k2, k3, k5, hC⟩ := T.cls
  obtain ⟨hp, g, dr, tk, os⟩ := s
  have k : ∀ b o, hp.get? b = some o → ((hp.push (kdv_tup [v])).push (excO C hp.objs.size)).get? b = some o := fun b o e => Heap.get?_push_of_some _ (Heap.get?_push_of_some _ e)
  have hget : ((hp.push (kdv_tup [v])).push (excO C hp.objs.size)).get? (hp.objs.size + 1) = some (excO C hp.objs.size) := by heap_get
  have hnx : K.lookup (hp.objs.size + 1) = none := by
    cases e : K.lookup (hp.objs.size + 1) with
    | none => rfl
    | some o =>
      have z : hp.get? (hp.objs.size + 1) = some o := X _ _ e
      exact absurd (Nat.lt_of_succ_lt (Heap.lt_size z)) (Nat.lt_irrefl _)
  refine call_ownG F.excBase_LookupError T.mr (X _ _ hC) (looks_findIn X T.iC) (fun self => bind_fn X self T.tC) (one_le v) ?_
  refine init (s := ⟨(hp.push (kdv_tup [v])).push (excO C hp.objs.size), g, dr, tk, os⟩) T (X.keeps k) (hlim.keeps k) hget hnx ?_ fun h' tk' dx ⟨k', hx, dn, dne, hns⟩ => ?_
  · show A.depth + 1 < recursionLimit
    exact hroom
  · have old : ∀ b o, hp.get? b = some o → h'.get? b = some o := fun b o e => k' b o (Nat.ne_of_lt (Nat.lt_succ_of_lt (Heap.lt_size e))) (k b o e)
    have z : hp.objs.size + 1 + 1 ≤ dx := by
      first
        | (simpa only [Heap.size_push] using dn)
        | exact dn
        | (have q := dn; rw [Heap.size_push, Heap.size_push] at q; exact q)
    exact ⟨rfl, hq h' tk' (hp.objs.size + 1) dx ⟨old, Nat.le_succ _, ⟨_, _, hx, rfl, rfl, rfl, rfl⟩, Nat.le_trans (Nat.le_trans (Nat.le_succ _) (Nat.le_succ _)) z, dne, hns⟩⟩
end
end LTie
end K1
namespace K1
open PySem PySem.Spec PyProof.Rows L2
section
variable {X : Cx} {cn ql : Str} {bm : List Value} {C fI : Addr}
theorem pmk_LTie {a : Expr} {ta : TA} {p pos : Pos} {k : Nat} (T : LTie.Txt X.K X.mg cn ql bm C fI) (hr : Room k X.A) (ha : PA X [a] ta) (hg : Gl X cn := by rfl)
    (he : starEach (a :: []) X.env = (false, eval a X.env) :: starEach [] X.env := by rfl) (hpl : (backTo pos (starEach [] X.env)).any (·.1) = false := by rfl) (hdb : (cn == ("__debug__" : Str)) = false := by decide) :
    PMk X (.Call (.Name cn p) [a] [] pos) (tMkF "tie" C ta) := by
  intro pins s σ H Q I h
  refine wpAny_Call_Name_kw (ld_glob I hg T.gC ?_ hdb)
  refine PySem.W.callWith_K (h₀ := X.base) I.ok.mod.kin T.kC (thn (ha.run pos pins s σ H _ I h) fun us s1 hh => ?_) he hpl
  obtain ⟨vs, H1, I1, r1, v, ev, q1⟩ := hh
  subst ev
  refine ⟨I1.kIn, ?_⟩
  cases r1 with
  | cons rv rn =>
    rename_i v' us'
    cases rn
    show wpAny _ _ (call (.ref C) [v']) _ _ _
    have hlim := I1.nolimit
    obtain ⟨hp, g, dr, tk, os⟩ := s1
    refine wpAny_call (LTie.made T I1.kIn hlim (by have := hr.dp; omega) fun h' tk' e d M => ?_)
    show MkP X pins σ Q (.ref e) ⟨h', g, dr, tk', os⟩
    obtain ⟨oe, fv, hoe, hc, hd, hdat, h1⟩ := M.obj
    have hns := M.ns
    obtain ⟨G', g1, g2⟩ := restrict h' fun b => decide (b ≠ e)
    have gk : ∀ b, b ≠ e → G'.get? b = h'.get? b := fun b hb => g1 b (decide_eq_true hb)
    have ge : G'.get? e = none := g2 e (by simp)
    have old : ∀ b o, hp.get? b = some o → G'.get? b = some o := fun b o q => (gk b (Nat.ne_of_lt (Nat.lt_of_lt_of_le (Heap.lt_size q) M.new))).trans (M.keep b o q)
    have ob : ObjOk X.prog X.w (upd H1 d (.xd [(("tie" : Str), v)])) G' d (.xd [(("tie" : Str), v)]) :=
      ⟨_, hns.at (fun o q => (gk d M.dne).trans q), fun f => relO_one rv f⟩
    have J : Inv X pins σ (upd H1 d (.xd [(("tie" : Str), v)])) ⟨G', g, dr, tk', os⟩ := I1.laid (t' := tk') old M.dbig ob
    refine ⟨e, oe, fv, ⟨G', g, dr, tk', os⟩, _, .ref C, some d, rfl, J, fun b o q => ?_, ge, hoe, ⟨hc, hd⟩, hdat, h1, ?_, rfl, I1.bare, raises_own T.exC T.tyC, q1 d (I1.hok.fresh M.dbig)⟩
    · by_cases hb : b = e
      · have q' : G'.get? b = some o := q
        rw [hb, ge] at q'; cases q'
      · exact (gk b hb).symm.trans q
    · rw [upd_ne (Ne.symm M.dne)]
      exact I1.hok.fresh M.new
theorem ps_raise_LTie {a : Expr} {ta : TA} {W : WX} {p pos pos2 : Pos} {k : Nat} (hc : X.calm = true) (T : LTie.Txt X.K X.mg cn ql bm C fI) (hr : Room k X.A) (tk : Takes X W) (ha : PA X [a] ta) (hg : Gl X cn := by rfl)
    (he : starEach (a :: []) X.env = (false, eval a X.env) :: starEach [] X.env := by rfl) (hpl : (backTo pos (starEach [] X.env)).any (·.1) = false := by rfl) (hdb : (cn == ("__debug__" : Str)) = false := by decide) :
    PS X (.Raise (some (.Call (.Name cn p) [a] [] pos)) none pos2) (tRaiseF "tie" C W ta) := ps_raise hc tk (pmk_LTie T hr ha hg he hpl hdb)
theorem pe_by_LTie {a : Addr} {oe : Obj} {cls : Value} {d : Option Addr} {pn : List (Addr × Obj)} {e : Expr} {te : TE} {pos : Pos} (T : LTie.Txt X.K X.mg cn ql bm C fI) (hz : Zc cls d oe) (hf : ∃ vs, oe.data = .fields vs) (he : PE (X.suite a ((a, oe) :: pn)) e te)
    (hb : attributeBase e "tie" X.env (eval e X.env) = eval e X.env := by rfl) :
    PE (X.suite a ((a, oe) :: pn)) (.Attribute e "tie" pos) (tByF "tie" C a cls d te) := by
  refine ⟨fun pins s σ H Q I h => ?_⟩
  refine attr_of hb (thn (he.run pins s σ H _ I h) fun u s1 hh => ?_)
  obtain ⟨x, H1, I1, rx, ex, ec, dd, v, ed, ea, q⟩ := hh
  subst ex
  obtain rfl : u = Value.ref a := rx
  subst ec
  subst ed
  obtain ⟨ha, _⟩ := I1.pin (a, oe) (List.mem_append_left _ List.mem_cons_self)
  obtain ⟨vs, hd⟩ := hf
  have hx : ObjOk X.prog X.w H1 s1.heap dd (.xd [(("tie" : Str), v)]) := I1.hok dd _ ea
  obtain ⟨mA, hns, hr⟩ := hx
  obtain ⟨od, ho, hl⟩ := lookIn_ns hns
  have l : List.lookup ("tie" : Str) [(("tie" : Str), v)] = some v := by simp [List.lookup]
  obtain ⟨u, hu, ru⟩ := RelO.some_of (v := v) (o := mA "tie") (by rw [← l]; exact hr "tie")
  have J : PySem.W.InstAt s1.heap a oe C (some od) := ⟨ha, hz.1, by unfold PySem.W.notCls; rw [hd] <;> rfl, by rw [hz.2]; exact ho⟩
  exact HandSPX.exc_get I1.kIn J T.ga T.gg T.exC (PySem.W.findObj_own T.hdC T.noN rfl (by rw [hl, hu])) (handed_of ru) ⟨v, H1, I1.tok _, ru, q⟩
end
end K1
/-! enumerate over a tuple, repr of data of any depth, isinstance of a held exception -/
namespace K1
open PySem PySem.Spec PyProof.Rows L2
theorem meets_enum1 {v : Value} {o : Obj} {H : Heap → Prop} (B : Begins v o H) :
    Meets (Builtin.«enumerate.__new__» ⟨[.type "enumerate", v], []⟩) (fun _ R s => H s.heap ∧
      R (.ok (.ret (.ref (s.heap.push o).objs.size))) { s with heap := (s.heap.push o).push { cls := .type "enumerate", data := .fields #[.none, .bool false, .ref s.heap.objs.size, rawInt 0, .none, .none] } }) :=
  .of_wp fun prog w A R s h => by
    obtain ⟨hp, g, d, tk, os⟩ := s
    obtain ⟨h1, h⟩ := h
    have hsub := sub_enumerate
    have q1 : ∀ {A' : Around} {E : Value → Shared → Prop} {Q : Value → Shared → Prop}, Q (.ref hp.objs.size) ⟨hp.push o, g, d, tk, os⟩ → wpAny (model prog w) A' (pyIter v) Q E ⟨hp, g, d, tk, os⟩ :=
      fun q => B.iter prog w _ _ ⟨hp, g, d, tk, os⟩ _ h1 q
    wp_walk using q1
    refine wpAny_stack_any fun st => wpAny_pure ?_
    split
    · rename_i c _ _ _ _ _
      cases (c == Value.type "enumerate") <;> (wp_walk using q1; exact ⟨_, rfl, h⟩)
    · wp_walk using q1
      exact ⟨_, rfl, h⟩
theorem enum_begins1 {prog : Program} {w : World} {A : Around} {E : Value → Shared → Prop} {s : Shared} {v : Value} {o : Obj} {H : Heap → Prop} {Q : Value → Shared → Prop} (B : Begins v o H) (h1 : H s.heap)
    (h : ∀ h', IsEnum h' (s.heap.objs.size + 1) s.heap.objs.size 0 .none → h'.get? s.heap.objs.size = some o → h'.objs.size = s.heap.objs.size + 2 →
      (∀ b o, s.heap.get? b = some o → h'.get? b = some o) → Q (.ref (s.heap.objs.size + 1)) { s with heap := h' }) :
    wpAny (model prog w) A (call (.type "enumerate") [v]) Q E s := by
  refine callType_new F.called_enumerate (by decide) (F.typeCall_enumerate_1 _) (F.newCall_enumerate_1 _) (fun obj => F.args_object_init_2 obj _) F.entry_enumerate_new (meets_enum1 B) ⟨h1, ?_⟩
  have hz : (s.heap.push o).objs.size = s.heap.objs.size + 1 := Heap.size_push ..
  show _ ∧ _
  rw [hz]
  have he := Heap.get?_push_size (s.heap.push o) (o := { cls := .type "enumerate", data := .fields #[.none, .bool false, .ref s.heap.objs.size, rawInt 0, .none, .none] }) rfl
  rw [hz] at he
  exact ⟨⟨_, he, rfl⟩, h _ he (Heap.get?_push_of_some _ (Heap.get?_push_size _ B.free)) (by rw [Heap.size_push, hz]) fun b o x => Heap.get?_push_of_some _ (Heap.get?_push_of_some _ x)⟩
/-- the tuple at a, each item in a new pair -/
def IteT (K : PySem.W.Frag) (a : Addr) : It :=
  ⟨fun i H => ∃ (xs : List V) (x : V), SqT K H a xs ∧ xs[i]? = some x, fun i H v H' => ∃ T x, v = .ref T ∧ H T = none ∧ H' = upd H T (.tup [.int (i : Nat), x]) ∧ ∀ xs, SqT K H a xs → xs[i]? = some x, fun i H => ∃ xs : List V, SqT K H a xs ∧ xs.length ≤ i⟩
theorem turn_enumT {P : Program} {w : World} {K : PySem.W.Frag} {elts : List Expr} {kk : Nat} {tpos : Pos} (a e it : Addr) :
    Turn P w K (.Tuple elts kk tpos) (IteT K a) [e, it] e (fun i h => (∃ old, IsEnum h e it ((i : Nat) : Int) old) ∧ h.IsTupleIter it a i ∧ e ≠ it ∧ e ≠ a ∧ a ≠ it) where
  mem := by simp
  obj := fun i h st b hb => by
    obtain ⟨⟨old, he⟩, ⟨o, ho, hc, hd⟩, _⟩ := st
    rcases (show b = e ∨ b = it by simpa using hb) with z | z
    · rw [z]; exact ⟨_, he, fun v q => nomatch q⟩
    · rw [z]; exact ⟨o, ho, fun v q => by rw [hd] at q; cases q⟩
  keep := fun i h h' st k => let ⟨⟨old, he⟩, hi, hne⟩ := st; ⟨⟨old, k e (by simp) _ he⟩, hi.at fun o q => k it (by simp) o q, hne⟩
  item := by
    intro X hP hw hK hc i pins s σ H E I hf st hg
    subst hP hw hK
    obtain ⟨⟨old, he⟩, hit, hne, nea, nai⟩ := st
    obtain ⟨xs, x, hq, hx⟩ := hg
    obtain ⟨its, rv, p, hz⟩ := I.tuple hq
    obtain ⟨u, hu, ru⟩ := rv.get hx
    have hil' := (List.getElem?_eq_some_iff.mp hu).1
    have hel : e < s.heap.objs.size := Heap.lt_size he
    have hil : it < s.heap.objs.size := by obtain ⟨_, q, _⟩ := hit; exact Heap.lt_size q
    have D := Draws.tuple (prog := X.prog) (w := X.w) (A := X.A.in1) (show X.A.in1.handled = none from I.ok.hd hc) it a nai its.toArray
    refine wpAny_pyNext_enum_itemD D he ⟨hit, (show s.heap.IsTuple a its.toArray from p)⟩ (by simpa using hil') hne (by simp [hne, nea]) fun y h' tk hy ho hst hT hsz hk => ?_
    have ey : y = u := by
      have z : its[i]? = some y := by simpa using hy
      rw [hu] at z
      exact (Option.some.inj z).symm
    subst ey
    refine ⟨_, rfl, wpAny_letOwnedTupleGo_enum (s := { s with heap := h', toks := tk + 1 }) ho fun h'' he' sb => ?_⟩
    have hT2 : h''.get? s.heap.objs.size = some { cls := .type "tuple", data := .seq #[.int i tk, y] } := (sb.2 _ (Nat.ne_of_gt hel)).trans hT
    have new : ObjOk X.prog X.w (upd H s.heap.objs.size (.tup [.int (i : Nat), x])) h'' s.heap.objs.size (.tup [.int (i : Nat), x]) :=
      ⟨by show 2 ≤ sizeLine; decide, [.int i tk, y], .cons ⟨_, rfl⟩ (.cons ru .nil), ⟨_, hT2, rfl, _, rfl⟩⟩
    have I1 : Inv X pins σ (upd H s.heap.objs.size (.tup [.int (i : Nat), x])) { s with heap := h'', toks := tk + 1 } :=
      I.turnedNew (ch := [e, it]) (fun b ob hb q => (sb.2 b (fun z => hb (by simp [z]))).trans (hk b ob (fun z => hb (by simp [z])) (fun z => hb (by simp [z])) q)) hf (Nat.le_refl _) new
    refine ⟨.ref s.heap.objs.size, _, I1, rfl, ⟨_, x, rfl, I.hok.fresh (Nat.le_refl _), rfl, fun ys hy => by rw [I.tuple_inj hy hq]; exact hx⟩, ⟨⟨y, ?_⟩, hst.1.at fun o q => (sb.2 it (Ne.symm hne)).trans q, hne, nea, nai⟩, fun b hb => ?_⟩
    · have e1 : ((i + 1 : Nat) : Int) = (i : Int) + 1 := by omega
      rw [e1]; exact he'
    · have hb' : b < s.heap.objs.size := by
        rcases (show b = e ∨ b = it by simpa using hb) with z | z
        · rw [z]; exact hel
        · rw [z]; exact hil
      rw [upd_ne (Nat.ne_of_lt hb')]
      exact (hf b hb).1
  done := by
    intro X hP hw hK hc i pins s σ H E I hf st hg
    subst hP hw hK
    obtain ⟨⟨old, he⟩, hit, hne, nea, nai⟩ := st
    obtain ⟨xs, hq, hx⟩ := hg
    obtain ⟨its, rv, p, hz⟩ := I.tuple hq
    obtain ⟨f0, f1, f2, f3, f4, f5⟩ := hf it (by simp)
    have hl := rv.length
    have hTs : s.TypeIs (.ref e) "enumerate" := ⟨_, he, rfl⟩
    unfold pyNext
    refine wpAny_bind (wpAny_attempt (wpAny_callSpecial?_slot (name := Str.ofString "__next__") hTs F.slot_enumerate_next
      (wpAny_call_entry F.slot_enumerate_next hTs F.entry_enumerate_next ?_ (F.args_enumerate_next_1 _))))
    show wpAny _ _ (field (.ref e) 2 >>= _) _ _ _
    refine wpAny_bind (wpAny_field he rfl (x := .ref it) rfl ?_)
    refine wpAny_bind (wpAny_nextOf_tuple_end (show X.A.in1.handled = none from I.ok.hd hc) hit (show s.heap.IsTuple a its.toArray from p) (by simp; omega) fun h' y eb hx' => ?_)
    obtain ⟨o, ho, hc'⟩ := hx'
    refine wpAny_bind (wpAny_isInstance (T := "StopIteration") (b := true) ⟨o, ho, hc'⟩ isSubtype_stop ?_)
    exact wpAny_pure ⟨rfl, I.turned (t' := s.toks) (fun b o hb q => eb b o hb q) f0 f1 f3 f4 f5⟩
  self := fun A i s Q E st h => let ⟨⟨_, he⟩, _⟩ := st; wpAny_pyIter_enum he h
def iEnumA (K : PySem.W.Frag) (ta : TA) : TI := fun σ H R => ta σ H fun vs H1 => ∃ a, vs = [.ref a] ∧ ((∃ xs, SqL K H1 a xs ∧ R (Ite K a) H1) ∨ (∃ xs, SqT K H1 a xs ∧ R (IteT K a) H1))
theorem pi_enumA {X : Cx} {e : Expr} {ta : TA} {p pos tpos : Pos} {elts : List Expr} {kk : Nat} (hg : Gl X "enumerate") (hm : X.mg "enumerate" = none) (ha : PA X [e] ta) (hs : starEach [e] X.env = [(false, eval e X.env)] := by rfl) :
    PI X (.Tuple elts kk tpos) (.Call (.Name "enumerate" p) [e] [] pos) (iEnumA X.K ta) := by
  refine ⟨fun pins s σ H R I h => ?_⟩
  refine Call_ (ld_blt I hg hm boot_enumerate (PyProof.Rows.callWith_type1 (thn (ha.run pos pins s σ H _ I h) fun us s1 ⟨vs, H1, I1, r1, q1⟩ => ?_) hs rfl))
  obtain ⟨a, ex, q⟩ := q1
  subst ex
  cases r1 with
  | cons r rr =>
    cases rr
    cases r
    have big : ∀ b ∈ [s1.heap.objs.size + 1, s1.heap.objs.size], s1.heap.objs.size ≤ b := fun b hb => by
      rcases (show b = s1.heap.objs.size + 1 ∨ b = s1.heap.objs.size by simpa using hb) with z | z
      · rw [z]; exact Nat.le_add_right _ _
      · rw [z]; exact Nat.le_refl _
    rcases q with ⟨xs, hq, q⟩ | ⟨xs, hq, q⟩
    · obtain ⟨its, rv, p', hz⟩ := I1.list hq
      refine call_enumerate_list p'.isList fun h' he hit hsz hk => wpAny_pyIter_enum he ?_
      have I2 : Inv X pins σ H1 { s1 with heap := h' } := I1.kept (t' := s1.toks) hk
      exact ⟨s1.heap.objs.size + 1, [s1.heap.objs.size + 1, s1.heap.objs.size], _, _, H1, rfl, I2, turn_enum a (s1.heap.objs.size + 1) s1.heap.objs.size, ⟨⟨.none, he⟩, hit, Nat.succ_ne_self _⟩, fun b hb => I1.fpOk (big b hb) (I1.hok.fresh (big b hb)), q⟩
    · obtain ⟨its, rv, p', hz⟩ := I1.tuple hq
      have hp : s1.heap.IsTuple a its.toArray := p'
      have hal : a < s1.heap.objs.size := by obtain ⟨_, q, _⟩ := hp; exact Heap.lt_size q
      refine enum_begins1 (begins_tuple a its.toArray) hp fun h' he hit hsz hk => wpAny_pyIter_enum he ?_
      have I2 : Inv X pins σ H1 { s1 with heap := h' } := I1.kept (t' := s1.toks) hk
      exact ⟨s1.heap.objs.size + 1, [s1.heap.objs.size + 1, s1.heap.objs.size], _, _, H1, rfl, I2, turn_enumT a (s1.heap.objs.size + 1) s1.heap.objs.size, ⟨⟨.none, he⟩, ⟨_, hit, rfl, rfl⟩, Nat.succ_ne_self _, Nat.ne_of_gt (Nat.lt_succ_of_lt hal), Nat.ne_of_lt hal⟩, fun b hb => I1.fpOk (big b hb) (I1.hok.fresh (big b hb)), q⟩
section
variable {K : PySem.W.Frag} {a : Addr} {xs : List V} {g : TG} {tb : TS} {D : Ends} {σ : L2.St} {H : Hp}
theorem for_enumL (Pv : Nat → L2.St → Hp → Prop) (h0 : Pv 0 σ H) (hl : ∀ i σ H, i ≤ xs.length → Pv i σ H → SqL K H a xs)
    (hs : ∀ i x T σ H, xs[i]? = some x → H T = none → Pv i σ H → g (.ref T) σ (upd H T (.tup [.int (i : Nat), x])) fun σ2 H2 => tb { D with nx := Pv (i + 1), ct := Pv (i + 1), bk := D.nx } σ2 H2) (hd : ∀ σ H, Pv xs.length σ H → D.nx σ H) :
    ∃ W : Nat → Nat → L2.St → Hp → Prop, (∃ m, W 0 m σ H) ∧ ∀ i m σ H, W i m σ H →
      ((Ite K a).stop i H ∧ D.nx σ H) ∨ ((Ite K a).go i H ∧ ∃ N : L2.St → Hp → Prop, (∀ σ' H', N σ' H' → ∃ m', m' < m ∧ W (i + 1) m' σ' H') ∧ ∀ x H', (Ite K a).yld i H x H' → g x σ H' fun σ2 H2 => tb { D with nx := N, ct := N, bk := D.nx } σ2 H2) := by
  refine ⟨fun i m σ H => m = xs.length - i ∧ i ≤ xs.length ∧ Pv i σ H, ⟨xs.length, by simp, Nat.zero_le _, h0⟩, ?_⟩
  rintro i m σ H ⟨rfl, hi, p⟩
  have q := hl i σ H hi p
  by_cases hlt : i < xs.length
  · refine .inr ⟨⟨xs, xs[i], q, by simp [hlt]⟩, Pv (i + 1), fun σ' H' p' => ⟨xs.length - (i + 1), by omega, rfl, hlt, p'⟩, fun x H' y => ?_⟩
    obtain ⟨T, x', e1, e2, e3, e4⟩ := y
    subst e1 e3
    exact hs i x' T σ H (e4 xs q) e2 p
  · have e : i = xs.length := by omega
    subst e
    exact .inl ⟨⟨xs, q, Nat.le_refl _⟩, hd σ H p⟩
theorem for_enumT (Pv : Nat → L2.St → Hp → Prop) (h0 : Pv 0 σ H) (hl : ∀ i σ H, i ≤ xs.length → Pv i σ H → SqT K H a xs)
    (hs : ∀ i x T σ H, xs[i]? = some x → H T = none → Pv i σ H → g (.ref T) σ (upd H T (.tup [.int (i : Nat), x])) fun σ2 H2 => tb { D with nx := Pv (i + 1), ct := Pv (i + 1), bk := D.nx } σ2 H2) (hd : ∀ σ H, Pv xs.length σ H → D.nx σ H) :
    ∃ W : Nat → Nat → L2.St → Hp → Prop, (∃ m, W 0 m σ H) ∧ ∀ i m σ H, W i m σ H →
      ((IteT K a).stop i H ∧ D.nx σ H) ∨ ((IteT K a).go i H ∧ ∃ N : L2.St → Hp → Prop, (∀ σ' H', N σ' H' → ∃ m', m' < m ∧ W (i + 1) m' σ' H') ∧ ∀ x H', (IteT K a).yld i H x H' → g x σ H' fun σ2 H2 => tb { D with nx := N, ct := N, bk := D.nx } σ2 H2) := by
  refine ⟨fun i m σ H => m = xs.length - i ∧ i ≤ xs.length ∧ Pv i σ H, ⟨xs.length, by simp, Nat.zero_le _, h0⟩, ?_⟩
  rintro i m σ H ⟨rfl, hi, p⟩
  have q := hl i σ H hi p
  by_cases hlt : i < xs.length
  · refine .inr ⟨⟨xs, xs[i], q, by simp [hlt]⟩, Pv (i + 1), fun σ' H' p' => ⟨xs.length - (i + 1), by omega, rfl, hlt, p'⟩, fun x H' y => ?_⟩
    obtain ⟨T, x', e1, e2, e3, e4⟩ := y
    subst e1 e3
    exact hs i x' T σ H (e4 xs q) e2 p
  · have e : i = xs.length := by omega
    subst e
    exact .inl ⟨⟨xs, q, Nat.le_refl _⟩, hd σ H p⟩
end
/-! ### repr -/
/-- repr of what is no object -/
def rReprS : List V → Hp → VK → Prop := fun xs H Q => ∃ v, xs = [v] ∧ ((v = .non ∧ Q (.str "None") H) ∨ (∃ b : Bool, v = .bl b ∧ Q (.str (if b then "True" else "False")) H) ∨ (∃ i : Int, v = .int i ∧ i.natAbs.log2 < 1920 ∧ Q (.str (toString i)) H) ∨
  ∃ x : Str, v = .str x ∧ (reprText x).length ≤ sizeLine ∧ Q (.str (reprText x)) H)
theorem call_reprS {X : Cx} : CallR X (.builtin "repr") rReprS := by
  intro pins s σ H xs us Q I r h
  obtain ⟨v, rfl, h⟩ := h
  obtain ⟨u, rfl, rv⟩ := vals1 r
  rcases h with ⟨rfl, q⟩ | ⟨b, rfl, q⟩ | ⟨i, rfl, hz, q⟩ | ⟨x, rfl, hz, q⟩
  · cases rv
    exact PySem.P.repr_of_none ⟨.str _, H, I.tok _, ⟨_, rfl⟩, q⟩
  · cases rv
    exact PySem.P.repr_of_bool ⟨.str _, H, I.tok _, ⟨_, rfl⟩, q⟩
  · obtain ⟨t, rfl⟩ := rv
    exact PySem.P.repr_of_int hz ⟨.str _, H, I.tok _, ⟨_, rfl⟩, q⟩
  · obtain ⟨t, rfl⟩ := rv
    exact PySem.P.repr_of_str (t := t) ⟨.str _, H, I.tok _, ⟨_, rfl⟩, q⟩ hz
/-- repr of a list or tuple: plain data without dicts -/
def rRepr (K : PySem.W.Frag) : List V → Hp → VK → Prop := fun xs H Q => ∃ a d, xs = [.ref a] ∧ Dp K H (.ref a) d ∧ PyData.showable d = true ∧ PyData.hasDict d = false ∧ PyData.depth d ≤ 40 ∧ d.shown.length ≤ sizeLine ∧ Q (.str d.shown) H
theorem call_repr {X : Cx} (hg : X.A.guards = some []) (hu : X.A.units + 64 < cLine) : CallR X (.builtin "repr") (rRepr X.K) := by
  intro pins s σ H xs us Q I r h
  obtain ⟨a, d, rfl, hd, h1, h2, h3, h4, q⟩ := h
  obtain ⟨u, rfl, rv⟩ := vals1 r
  obtain ⟨as, R⟩ := Dp.reads I d _ u hd rv
  cases rv
  exact repr_of_reads' R h1 (PyData.noDict_hsm h2) hg (by omega) (fun _ _ e => e) (fun h' u' tk k => ⟨.str _, H, I.kept (t' := tk) k, ⟨_, rfl⟩, q⟩) h4
/-! ### isinstance of the exception that a suite holds, its own dict at d -/
structure ExcK (K : PySem.W.Frag) (C : Addr) : Prop where
  cl : (PySem.W.clsIn K C).isSome = true
  ga : PySem.W.findIn K (.ref C) "__getattribute__" = some (some (.builtin "BaseException.__getattribute__"))
  gt : PySem.W.findIn K (.ref C) "__getattr__" = some none
  sb : PySem.W.subIn K (.ref C) (.type "BaseException") = some true
  ca : PySem.W.findIn K (.ref C) "__class__" = some (some (.builtin "object.__class__"))
  sp : PySem.W.specialIn K (.builtin "object.__class__") "__get__" = some (some (.builtin "getset_descriptor.__get__"))
  tk : PySem.W.takesIn K (.builtin "object.__class__") = some true
  mo : PySem.W.mroIn K C (.type "object") = some true
def rIsD (K : PySem.W.Frag) (C d a : Addr) : List V → Hp → VK → Prop := fun xs H Q => ∃ (N : Addr) (g : Str) (v : V) (b : Bool), xs = [.ref a, .ref N] ∧ H d = some (.xd [(g, v)]) ∧ PySem.W.kitOne K (.ref C) (.ref N) = some b ∧ Q (.bl b) H
theorem call_isD {X : Cx} {a C d : Addr} {oe : Obj} {pn : List (Addr × Obj)} (T : ExcK X.K C) (hz : Zc (.ref C) (some d) oe) (hf : ∃ vs, oe.data = .fields vs) : CallR (X.suite a ((a, oe) :: pn)) (.builtin "isinstance") (rIsD X.K C d a) := by
  intro pins s σ H xs us Q I r h
  obtain ⟨N, g, v, b, rfl, hx, e, q⟩ := h
  obtain ⟨u1, u2, rfl, r1, r2⟩ := vals2 r
  cases r1
  cases r2
  obtain ⟨hget, _⟩ := I.pin (a, oe) (List.mem_append.mpr (.inl List.mem_cons_self))
  obtain ⟨vs, hd⟩ := hf
  have hx' : ObjOk X.prog X.w H s.heap d (.xd [(g, v)]) := I.hok d _ hx
  obtain ⟨mA, hns, hr⟩ := hx'
  obtain ⟨od, ho, hl⟩ := lookIn_ns hns
  have J : PySem.W.InstAt s.heap a oe C (some od) := ⟨hget, hz.1, by unfold PySem.W.notCls; rw [hd] <;> rfl, by rw [hz.2]; exact ho⟩
  exact PySem.W.kia_one (PySem.W.kitx_exc T.cl T.ga T.gt T.sb T.ca T.sp T.tk T.mo) I.kIn J e (fun z => nomatch z) fun tk => ⟨.bl b, H, I.kept (t' := tk) fun _ _ z => z, rfl, q⟩
/-! ### defs whose bodies show lists: they are told where nothing is being shown -/
structure FnG (P : Program) (w : World) (K : PySem.W.Frag) (mg : Str → Option Value) (base : Heap) (k : Nat) (f : Addr) (fd : FuncData) (ps : List Str) (sp : Sp) : Prop where
  len : ∀ vs H Q E, sp vs H Q E → vs.length = ps.length
  run : ∀ (A : Around) (outer : List Env) (s : Shared) (H : Hp) (args : Args) (us : List Value) (vs : List V) (Q : VK) (E : XK), Room k A → A.guards = some [] → Env0 P w K mg base A outer s H → BindsTo s fd args (ps.zip us) → Vals vs us → sp vs H Q E →
    codeAny (model P w) A (.call (.ref f) args) (CR CX0 outer P w H s Q E) s
end K1
/-! the text by places; short words for calls -/
namespace K1
open PySem PySem.Spec PyProof.Rows L2
def top (i : Nat) : Stmt := PySem.Challenge.pw_houseslessties_k15_steps_nets_and_what_i.main.body.getD i (.Pass ⟨0, 0, 0, 0⟩)
abbrev sBadMachineInit : Stmt := inClass (top 2) 0
abbrev sBadWebInit : Stmt := inClass (top 3) 0
abbrev sBadStepsInit : Stmt := inClass (top 4) 0
abbrev sTooGreatInit : Stmt := inClass (top 5) 0
abbrev sUInit : Stmt := inClass (top 6) 0
abbrev sNoStateInit : Stmt := inClass (top 7) 0
abbrev sNoDeedInit : Stmt := inClass (top 8) 0
abbrev sNoHouseInit : Stmt := inClass (top 9) 0
abbrev sNoTieInit : Stmt := inClass (top 10) 0
abbrev sWhole : Stmt := top 12
abbrev sBelow : Stmt := top 13
abbrev sSeq : Stmt := top 14
abbrev sFnb : Stmt := top 15
abbrev sRepl : Stmt := top 16
abbrev sMInit : Stmt := inClass (top 20) 0
abbrev sMEq : Stmt := inClass (top 20) 1
abbrev sIsTab : Stmt := top 21
abbrev sChk : Stmt := top 22
abbrev sNeedS : Stmt := top 23
abbrev sNeedD : Stmt := top 24
abbrev sMoved : Stmt := top 25
abbrev sFirst : Stmt := top 26
abbrev sJoin : Stmt := top 28
abbrev sNeedSs : Stmt := top 29
abbrev sJoined : Stmt := top 30
abbrev sWInit : Stmt := inClass (top 34) 0
abbrev sWEq : Stmt := inClass (top 34) 1
abbrev sPair : Stmt := top 35
abbrev sCTies : Stmt := top 36
abbrev sNeedH : Stmt := top 37
abbrev sNeedT : Stmt := top 38
abbrev sWays : Stmt := top 39
abbrev sFWays : Stmt := top 40
abbrev sPart : Stmt := top 41
abbrev sIsStep : Stmt := top 46
abbrev sStepsFault : Stmt := top 47
abbrev sStepsOf : Stmt := top 48
abbrev sCheckSteps : Stmt := top 49
abbrev sStandFirst : Stmt := top 50
abbrev sDoneAt : Stmt := top 51
abbrev sJoinedOver : Stmt := top 52
abbrev sPutJoined : Stmt := top 53
abbrev sNetInit : Stmt := inClass (top 54) 0
abbrev sNetDo : Stmt := inClass (top 54) 1
abbrev sNetMeet : Stmt := inClass (top 54) 2
abbrev sPTake : Stmt := top 55
abbrev sStandingAfter : Stmt := top 56
abbrev sTruthOf : Stmt := top 57
abbrev sLDealt : Stmt := top 59
abbrev sLAny : Stmt := top 60
abbrev sLOf : Stmt := top 61
abbrev sLWeb : Stmt := top 62
abbrev sLSteps : Stmt := top 63
abbrev sLJoins : Stmt := top 64
abbrev sLHeard : Stmt := top 65
abbrev sLJoined : Stmt := top 66
abbrev sLIsOddTold : Stmt := top 67
abbrev sLIsStepped : Stmt := top 68
abbrev sLaw : Stmt := top 69
/-- a def of the text: its object, its name in the module, how its arguments bind -/
structure Df (K : PySem.W.Frag) (mg : Str → Option Value) (x : Str) (st : Stmt) (ps : List Str) (f : Addr) (fd : FuncData) : Prop where
  F : Fun K x x st f fd
  g : mg x = some (.ref f)
  b : Binds K fd ps []
section
variable {X : Cx} {CX : CXT} {k : Nat} {f : Addr} {fd : FuncData} {ps : List Str} {sp : Sp} {E : XK} {x : Str} {st : Stmt} {p pos : Pos} {e : Expr} {es : List Expr} {t : TA}
/-- x(e, ..) -/
theorem pc (D : Df X.K X.mg x st ps f fd) (G : FnOk X.prog X.w X.K X.mg X.base CX k f fd ps sp) (hr : Room k X.A) (hx : Passes CX X E) (ha : PA X (e :: es) t) (hg : Gl X x := by rfl)
    (hdb : (x == ("__debug__" : Str)) = false := by decide) (he : starEach (e :: es) X.env = (false, eval e X.env) :: starEach es X.env := by rfl) (hpl : (backTo pos (starEach es X.env)).any (·.1) = false := by rfl) :
    PE X (.Call (.Name x p) (e :: es) [] pos) (tCall sp [] E t) := pe_call G hr hg D.g D.F.kp D.b .nil hx ha hdb he hpl
end
/-- what a def that raises may let out at its caller's def -/
theorem pass1 {X : Cx} {E : XK} (tk : Takes X (fun cls d _ H => E cls d H)) : Passes (L2.CX X.prog X.w) X E := passes_call tk fun _ _ _ _ h => h
/-! ### tests by cases -/
theorem ifD {c : Bool} {A B : Prop} (h1 : c = true → A) (h2 : c = false → B) : if c = true then A else B := by
  cases c with
  | true => exact iteT (h1 rfl)
  | false => exact iteF (h2 rfl)
theorem eqv {α : Type} {P : α → Prop} {a b : α} (e : a = b) (h : P b) : P a := e ▸ h
theorem qbl {Q : VK} {H : Hp} {a b : Bool} (e : a = b) (h : Q (.bl b) H) : Q (.bl a) H := e ▸ h
/-! ### values of any kind -/
/-- what a value is: some items for a list or a tuple, none for the others -/
inductive KV (K : PySem.W.Frag) (H : Hp) : V → Option (List V) → Prop
  | int (i : Int) : KV K H (.int i) none
  | bl (b : Bool) : KV K H (.bl b) none
  | non : KV K H .non none
  | str (x : Str) : KV K H (.str x) none
  | lst {a : Addr} {xs : List V} (h : H a = some (.lst xs)) : KV K H (.ref a) (some xs)
  | tup {a : Addr} {xs : List V} (h : H a = some (.tup xs)) : KV K H (.ref a) (some xs)
theorem KV.same {K : PySem.W.Frag} {H H' : Hp} {v : V} {o : Option (List V)} (h : KV K H v o) (s : Same H H') : KV K H' v o := by
  cases h with
  | int i => exact .int i
  | bl b => exact .bl b
  | non => exact .non
  | str x => exact .str x
  | lst h => exact .lst (s _ _ h)
  | tup h => exact .tup (s _ _ h)
def wholeB : V → Bool | .int _ => true | _ => false
def boolB : V → Bool | .bl _ => true | _ => false
inductive Tg where | i | b | n | s | l | t
def Tg.nm : Tg → String | .i => "int" | .b => "bool" | .n => "NoneType" | .s => "str" | .l => "list" | .t => "tuple"
def Tg.isI : Tg → Bool | .i => true | _ => false
def Tg.isB : Tg → Bool | .b => true | _ => false
def Tg.isQ : Tg → Bool | .l => true | .t => true | _ => false
theorem KV.ty {K : PySem.W.Frag} {H : Hp} {v : V} {o : Option (List V)} (h : KV K H v o) : ∃ g : Tg, TyX K H v (.type g.nm) ∧ g.isI = wholeB v ∧ g.isB = boolB v ∧ g.isQ = o.isSome := by
  cases h with
  | int i => exact ⟨.i, .base (.int i), rfl, rfl, rfl⟩
  | bl b => exact ⟨.b, .base (.bl b), rfl, rfl, rfl⟩
  | non => exact ⟨.n, .base .non, rfl, rfl, rfl⟩
  | str x => exact ⟨.s, .base (.str x), rfl, rfl, rfl⟩
  | lst h => exact ⟨.l, .base (.lst h), rfl, rfl, rfl⟩
  | tup h => exact ⟨.t, .base (.tup h), rfl, rfl, rfl⟩
theorem kit_I (K : PySem.W.Frag) (g : Tg) : PySem.W.kitOne K (.type g.nm) (.type "int") = some (g.isI || g.isB) := by
  cases g <;> exact kit_ty (by decide +kernel)
theorem kit_B (K : PySem.W.Frag) (g : Tg) : PySem.W.kitOne K (.type g.nm) (.type "bool") = some g.isB := by
  cases g <;> exact kit_ty (by decide +kernel)
def Tg.isL : Tg → Bool | .l => true | _ => false
def Tg.isT : Tg → Bool | .t => true | _ => false
theorem kit_L (K : PySem.W.Frag) (g : Tg) : PySem.W.kitOne K (.type g.nm) (.type "list") = some g.isL := by
  cases g <;> exact kit_ty (by decide +kernel)
theorem kit_T (K : PySem.W.Frag) (g : Tg) : PySem.W.kitOne K (.type g.nm) (.type "tuple") = some g.isT := by
  cases g <;> exact kit_ty (by decide +kernel)
theorem kit_Q (K : PySem.W.Frag) (g : Tg) : PySem.W.kitAny K (.type g.nm) [.type "list", .type "tuple"] = some g.isQ := by
  refine kitAny_cons (kit_L K g) (fun e => kitAny_cons (kit_T K g) (fun e2 => ?_) fun e2 => ?_) fun e => ?_
  all_goals (cases g <;> first | rfl | (cases e; done) | (cases e2; done))
/-- the built-in names that the text uses are the built-in ones -/
structure Bt (mg : Str → Option Value) : Prop where
  isinstance : mg "isinstance" = none
  int : mg "int" = none
  bool : mg "bool" = none
  list : mg "list" = none
  tuple : mg "tuple" = none
  len : mg "len" = none
  enumerate : mg "enumerate" = none
  range : mg "range" = none
  sorted : mg "sorted" = none
  set : mg "set" = none
  repr : mg "repr" = none
  abs : mg "abs" = none
  min : mg "min" = none
  max : mg "max" = none
  sum : mg "sum" = none
  all : mg "all" = none
  any : mg "any" = none
  zip : mg "zip" = none
  str : mg "str" = none
  dict : mg "dict" = none
  ke : mg "KeyError" = none
end K1
namespace K1
open PySem PySem.Spec PyProof.Rows L2
def belowB (v : V) (lim : Int) : Bool := match v with | .int i => decide (0 ≤ i) && decide (i < lim) | _ => false
def seqB (o : Option (List V)) (least most : Int) : Bool := match o with | some xs => decide (least ≤ (xs.length : Int)) && decide ((xs.length : Int) ≤ most) | none => false
def spWhole (K : PySem.W.Frag) : Sp := fun vs H Q _ => ∃ v o, vs = [v] ∧ KV K H v o ∧ Q (.bl (wholeB v)) H
def spBelow (K : PySem.W.Frag) : Sp := fun vs H Q _ => ∃ v o lim, vs = [v, .int lim] ∧ KV K H v o ∧ Q (.bl (belowB v lim)) H
def spSeq (K : PySem.W.Frag) : Sp := fun vs H Q _ => ∃ v o least most, vs = [v, .int least, .int most] ∧ KV K H v o ∧ ∀ H', Same H H' → Q (.bl (seqB o least most)) H'
section
variable {P : Program} {w : World} {K : PySem.W.Frag} {mg : Str → Option Value} {base : Heap}
theorem scW : FnScope ["value"] ["value"] (defScope sWhole) := ⟨rfl, rfl, rfl, by decide +kernel, rfl, by decide +kernel, by decide +kernel⟩
theorem ok_whole {f : Addr} {fd : FuncData} (D : Df K mg "is_whole" sWhole ["value"] f fd) (B : Bt mg) : FnOk P w K mg base CX0 1 f fd ["value"] (spWhole K) := by
  refine D.F.ok scW (fun vs H Q E h => ?_) (fun cdv A outer s H vs Q E hr h => ?_)
  · obtain ⟨v, o, rfl, _⟩ := h
    rfl
  · obtain ⟨v, o, rfl, kv, q⟩ := h
    obtain ⟨g, ty, eI, eB, eQ⟩ := kv.ty
    refine ⟨_, pss_one (ps_ret (pe_and (pe_callB call_isi (by rfl) B.isinstance (by decide +kernel) (pa_cons (pv 0) (pa_cons (pe_bltn (v := .ty "int") (by rfl) B.int PyProof.Rows.boot_int rfl) pa_nil)))
      (pe_one (pe_not (pe_callB call_isi (by rfl) B.isinstance (by decide +kernel) (pa_cons (pv 0) (pa_cons (pe_bltn (v := .ty "bool") (by rfl) B.bool PyProof.Rows.boot_bool rfl) pa_nil))))))), ?_⟩
    refine ⟨_, rfl, _, _, _, _, _, rfl, .ty _, ty, kit_I K g, _, rfl, ifD (fun e => ?_) fun e => ?_⟩
    · refine ⟨_, rfl, _, _, _, _, _, rfl, .ty _, ty, kit_B K g, _, rfl, ?_⟩
      have z : (!g.isB) = wholeB v := by rw [← eI]; cases g <;> first | rfl | cases e
      exact qbl z q
    · have z : false = wholeB v := by rw [← eI]; cases g <;> first | rfl | cases e
      exact qbl z q
theorem scB : FnScope ["value", "limit"] ["value", "limit"] (defScope sBelow) := ⟨rfl, rfl, rfl, by decide +kernel, rfl, by decide +kernel, by decide +kernel⟩
theorem ok_below {f fW : Addr} {fd fdW : FuncData} (D : Df K mg "is_below" sBelow ["value", "limit"] f fd) (DW : Df K mg "is_whole" sWhole ["value"] fW fdW) (B : Bt mg) : FnOk P w K mg base CX0 2 f fd ["value", "limit"] (spBelow K) := by
  have GW : FnOk P w K mg base CX0 1 fW fdW ["value"] (spWhole K) := ok_whole DW B
  refine D.F.ok scB (fun vs H Q E h => ?_) (fun cdv A outer s H vs Q E hr h => ?_)
  · obtain ⟨v, o, lim, rfl, _⟩ := h
    rfl
  · obtain ⟨v, o, lim, rfl, kv, q⟩ := h
    refine ⟨_, pss_one (ps_ret (pe_and (pc DW GW hr pass0 (pa_cons (pv 0) pa_nil)) (pe_one (pe_chain op_le op_lt pe_int (pv 0) (pv 1))))), ?_⟩
    refine ⟨_, rfl, _, _, rfl, kv, _, rfl, ifD (fun e => ?_) fun e => ?_⟩
    · obtain ⟨i, rfl⟩ : ∃ i, v = .int i := by
        cases v <;> first | exact ⟨_, rfl⟩ | cases e
      refine ⟨_, rfl, _, _, rfl, rfl, _, rfl, ifD (fun e2 => ?_) fun e2 => ?_⟩
      · refine ⟨_, rfl, _, _, rfl, rfl, ?_⟩
        have z : decide (i < lim) = belowB (.int i) lim := by
          show _ = (decide (0 ≤ i) && decide (i < lim))
          rw [e2]; rfl
        exact qbl z q
      · have z : false = belowB (.int i) lim := by
          show _ = (decide (0 ≤ i) && decide (i < lim))
          rw [e2]; rfl
        exact qbl z q
    · have z : false = belowB v lim := by cases v <;> first | rfl | cases e
      exact qbl z q
theorem scS : FnScope ["value", "least", "most"] ["value", "least", "most"] (defScope sSeq) := ⟨rfl, rfl, rfl, by decide +kernel, rfl, by decide +kernel, by decide +kernel⟩
theorem ok_seq {f : Addr} {fd : FuncData} (D : Df K mg "is_sequence" sSeq ["value", "least", "most"] f fd) (B : Bt mg) : FnOk P w K mg base CX0 1 f fd ["value", "least", "most"] (spSeq K) := by
  refine D.F.ok scS (fun vs H Q E h => ?_) (fun cdv A outer s H vs Q E hr h => ?_)
  · obtain ⟨v, o, least, most, rfl, _⟩ := h
    rfl
  · obtain ⟨v, o, least, most, rfl, kv, q⟩ := h
    refine ⟨_, pss_one (ps_ret (pe_and (pe_callB call_isiT (by rfl) B.isinstance (by decide +kernel) (pa_cons (pv 0) (pa_cons (pe_tup (pa_cons (pe_bltn (v := .ty "list") (by rfl) B.list PyProof.Rows.boot_list rfl) (pa_cons (pe_bltn (v := .ty "tuple") (by rfl) B.tuple PyProof.Rows.boot_tuple rfl) pa_nil))) pa_nil)))
      (pe_one (pe_chain op_le op_le (pv 1) (pe_callB call_len_seq (by rfl) B.len PySem.boot_len (pa_cons (pv 0) pa_nil)) (pv 2))))), ?_⟩
    refine ⟨_, rfl, (by show 2 ≤ sizeLine; decide), fun p hp => ?_⟩
    have sm : Same H (upd H p (.tup [.ty "list", .ty "tuple"])) := fun b o e => by rw [upd_ne (ne_of_none e hp)]; exact e
    obtain ⟨g, ty, eI, eB, eQ⟩ := (kv.same sm).ty
    refine ⟨_, _, _, _, _, _, rfl, upd_same, .cons (.ty _) (.cons (.ty _) .nil), ty, kit_Q K g, _, rfl, ifD (fun e => ?_) fun e => ?_⟩
    · have kv2 := kv.same sm
      generalize hH1 : upd H p (.tup [.ty "list", .ty "tuple"]) = H1 at *
      rw [eQ] at e
      have q2 := q _ sm
      cases kv with
      | lst h =>
        rename_i a xs
        have h1 : H1 a = some (.lst xs) := sm _ _ h
        refine ⟨_, rfl, _, rfl, _, _, rfl, .inl (SqL.of h1), _, _, rfl, rfl, _, rfl, ifD (fun e2 => ?_) fun e2 => ?_⟩
        · refine ⟨_, rfl, _, _, rfl, rfl, qbl ?_ q2⟩
          show _ = (decide (least ≤ (xs.length : Int)) && decide ((xs.length : Int) ≤ most))
          rw [e2]; rfl
        · refine qbl ?_ q2
          show _ = (decide (least ≤ (xs.length : Int)) && decide ((xs.length : Int) ≤ most))
          rw [e2]; rfl
      | tup h =>
        rename_i a xs
        have h1 : H1 a = some (.tup xs) := sm _ _ h
        refine ⟨_, rfl, _, rfl, _, _, rfl, .inr (SqT.of h1), _, _, rfl, rfl, _, rfl, ifD (fun e2 => ?_) fun e2 => ?_⟩
        · refine ⟨_, rfl, _, _, rfl, rfl, qbl ?_ q2⟩
          show _ = (decide (least ≤ (xs.length : Int)) && decide ((xs.length : Int) ≤ most))
          rw [e2]; rfl
        · refine qbl ?_ q2
          show _ = (decide (least ≤ (xs.length : Int)) && decide ((xs.length : Int) ≤ most))
          rw [e2]; rfl
      | _ => cases e
    · rw [eQ] at e
      have z : o = none := by cases o <;> first | rfl | cases e
      subst z
      exact q _ sm
end
end K1
namespace K1
open PySem PySem.Spec PyProof.Rows L2
def fnb (xs : List V) (lim : Int) : V := match xs.findIdx? (fun x => !belowB x lim) with | some i => .int (i : Nat) | none => .non
theorem fnb_at {xs : List V} {lim : Int} {i : Nat} {x : V} (hx : xs[i]? = some x) (hn : belowB x lim = false) (hb : ∀ j y, j < i → xs[j]? = some y → belowB y lim = true) : fnb xs lim = .int (i : Nat) := by
  obtain ⟨hi, ex⟩ := List.getElem?_eq_some_iff.mp hx
  have e : xs.findIdx? (fun x => !belowB x lim) = some i := by
    rw [List.findIdx?_eq_some_iff_getElem]
    refine ⟨hi, by rw [ex, hn]; rfl, fun j hj => ?_⟩
    have hj' : j < xs.length := Nat.lt_trans hj hi
    have := hb j xs[j] hj (by simp [hj'])
    simp [this]
  unfold fnb
  rw [e]
theorem fnb_none {xs : List V} {lim : Int} (hb : ∀ j y, j < xs.length → xs[j]? = some y → belowB y lim = true) : fnb xs lim = .non := by
  have e : xs.findIdx? (fun x => !belowB x lim) = none := by
    rw [List.findIdx?_eq_none_iff]
    intro x hx
    obtain ⟨j, hj, e⟩ := List.mem_iff_getElem.mp hx
    have := hb j xs[j] hj (by simp [hj])
    rw [← e, this]; rfl
  unfold fnb
  rw [e]
/-- a list or tuple at a -/
def SeqA (H : Hp) (a : Addr) (xs : List V) : Prop := H a = some (.lst xs) ∨ H a = some (.tup xs)
theorem SeqA.same {H H' : Hp} {a : Addr} {xs : List V} (h : SeqA H a xs) (s : Same H H') : SeqA H' a xs := h.elim (fun h => .inl (s _ _ h)) fun h => .inr (s _ _ h)
theorem SeqA.kv {K : PySem.W.Frag} {H : Hp} {a : Addr} {xs : List V} (h : SeqA H a xs) : KV K H (.ref a) (some xs) := h.elim .lst .tup
/-- each item is of some kind -/
def Kinds (K : PySem.W.Frag) (H : Hp) (xs : List V) : Prop := ∀ x ∈ xs, ∃ o, KV K H x o
theorem Kinds.same {K : PySem.W.Frag} {H H' : Hp} {xs : List V} (h : Kinds K H xs) (s : Same H H') : Kinds K H' xs := fun x hx => let ⟨o, k⟩ := h x hx; ⟨o, k.same s⟩
theorem same_new {H : Hp} {p : Addr} {o : HO} (hp : H p = none) : Same H (upd H p o) := fun b u e => by rw [upd_ne (ne_of_none e hp)]; exact e
def spFnb (K : PySem.W.Frag) : Sp := fun vs H Q _ => ∃ a xs lim, vs = [.ref a, .int lim] ∧ SeqA H a xs ∧ Kinds K H xs ∧ ∀ H', Same H H' → Q (fnb xs lim) H'
section
variable {P : Program} {w : World} {K : PySem.W.Frag} {mg : Str → Option Value} {base : Heap}
theorem scF : FnScope ["items", "limit", "at", "item"] ["items", "limit"] (defScope sFnb) := ⟨rfl, rfl, rfl, by decide +kernel, rfl, by decide +kernel, by decide +kernel⟩
/-- one turn of the search, and the way behind it: the iterator is a list's or a tuple's -/
theorem ok_fnb {f fB : Addr} {fd fdB : FuncData} (D : Df K mg "first_not_below" sFnb ["items", "limit"] f fd) (DB : Df K mg "is_below" sBelow ["value", "limit"] fB fdB) (B : Bt mg)
    (GB : FnOk P w K mg base CX0 2 fB fdB ["value", "limit"] (spBelow K)) : FnOk P w K mg base CX0 3 f fd ["items", "limit"] (spFnb K) := by
  refine D.F.ok scF (fun vs H Q E h => ?_) (fun cdv A outer s H vs Q E hr h => ?_)
  · obtain ⟨a, xs, lim, rfl, _⟩ := h
    rfl
  · obtain ⟨a, xs, lim, rfl, hS, hK, q⟩ := h
    refine ⟨_, pss_cons (ps_for PassesOwn.never rfl (pi_enumA (by rfl) B.enumerate (pa_cons (pv 0) pa_nil))
        (pg_tup rfl (pgs_cons (pg_name (i := 2) scF.nd rfl (.inl rfl)) (pgs_cons (pg_name (i := 3) scF.nd rfl (.inl rfl)) pgs_nil)))
        (pss_one (ps_if (pt_not (pt_val (pc DB GB hr pass0 (pa_cons (pv 3) (pa_cons (pv 1) pa_nil))))) (pss_one (ps_ret (pv 2))) pss_nil)))
      (pss_one (ps_ret pe_non)), ?_⟩
    let Pv : Nat → L2.St → Hp → Prop := fun i σ H' => ∃ v2 v3 : Option V, σ = [some (.ref a), some (.int lim), v2, v3] ∧ Same H H' ∧ ∀ j y, j < i → xs[j]? = some y → belowB y lim = true
    have end_ : ∀ σ H', Pv xs.length σ H' → Q .non H' := fun σ H' ⟨v2, v3, _, sm, hb⟩ => by
      have := q H' sm
      rw [fnb_none hb] at this
      exact this
    refine ⟨_, rfl, a, rfl, ?_⟩
    rcases hS with hS | hS
    · refine .inl ⟨xs, SqL.of hS, for_enumL (K := K) Pv ⟨none, none, rfl, Same.refl H, fun j y hj => absurd hj (Nat.not_lt_zero _)⟩ (fun i σ H' _ ⟨_, _, _, sm, _⟩ => SqL.of (sm _ _ hS)) ?_ end_⟩
      rintro i x T σ H' hx hT ⟨v2, v3, rfl, sm, hb⟩
      have sm2 : Same H (upd H' T (.tup [.int (i : Nat), x])) := sm.trans (same_new hT)
      obtain ⟨o, kv⟩ := hK x (List.mem_of_getElem? hx)
      refine ⟨T, _, rfl, SqT.of upd_same, rfl, _, _, rfl, _, _, rfl, rfl, ?_⟩
      refine ⟨_, rfl, _, rfl, _, o, lim, rfl, kv.same sm2, _, rfl, ?_⟩
      refine ifD (fun e => ?_) fun e => ?_
      · refine ⟨_, rfl, ?_⟩
        have e' : belowB x lim = false := by simpa using e
        have := q _ sm2
        rw [fnb_at hx e' hb] at this
        exact this
      · have e' : belowB x lim = true := by simpa using e
        refine ⟨_, _, rfl, sm2, fun j y hj hy => ?_⟩
        rcases Nat.lt_succ_iff_lt_or_eq.mp hj with z | z
        · exact hb j y z hy
        · subst z
          rw [hx] at hy
          rw [← Option.some.inj hy]
          exact e'
    · refine .inr ⟨xs, SqT.of hS, for_enumT (K := K) Pv ⟨none, none, rfl, Same.refl H, fun j y hj => absurd hj (Nat.not_lt_zero _)⟩ (fun i σ H' _ ⟨_, _, _, sm, _⟩ => SqT.of (sm _ _ hS)) ?_ end_⟩
      rintro i x T σ H' hx hT ⟨v2, v3, rfl, sm, hb⟩
      have sm2 : Same H (upd H' T (.tup [.int (i : Nat), x])) := sm.trans (same_new hT)
      obtain ⟨o, kv⟩ := hK x (List.mem_of_getElem? hx)
      refine ⟨T, _, rfl, SqT.of upd_same, rfl, _, _, rfl, _, _, rfl, rfl, ?_⟩
      refine ⟨_, rfl, _, rfl, _, o, lim, rfl, kv.same sm2, _, rfl, ?_⟩
      refine ifD (fun e => ?_) fun e => ?_
      · refine ⟨_, rfl, ?_⟩
        have e' : belowB x lim = false := by simpa using e
        have := q _ sm2
        rw [fnb_at hx e' hb] at this
        exact this
      · have e' : belowB x lim = true := by simpa using e
        refine ⟨_, _, rfl, sm2, fun j y hj hy => ?_⟩
        rcases Nat.lt_succ_iff_lt_or_eq.mp hj with z | z
        · exact hb j y z hy
        · subst z
          rw [hx] at hy
          rw [← Option.some.inj hy]
          exact e'
end
end K1
namespace K1
open PySem PySem.Spec PyProof.Rows L2
/-- the module's numbers -/
structure Ct (mg : Str → Option Value) : Prop where
  tabs : ∃ t, mg "MOST_TABLES" = some (.int 8 t)
  states : ∃ t, mg "MOST_STATES" = some (.int 12 t)
/-- a walk over a list or a tuple -/
def iSeqA (K : PySem.W.Frag) (tl : TE) : TI := fun σ H R => tl σ H fun x H1 => ∃ a, x = .ref a ∧ ((∃ xs, SqL K H1 a xs ∧ R (Itl K a) H1) ∨ (∃ xs, SqT K H1 a xs ∧ R (Itt K a) H1))
theorem pi_seqA {X : Cx} {tg l : Expr} {tl : TE} (hl : PE X l tl) : PI X tg l (iSeqA X.K tl) := by
  refine ⟨fun pins s σ H R I h => ?_⟩
  refine thn (hl.run pins s σ H _ I h) fun v s1 ⟨x, H1, I1, r1, q1⟩ => ?_
  obtain ⟨a, e, q⟩ := q1
  subst e
  cases r1
  rcases q with ⟨xs, hq, q⟩ | ⟨xs, hq, q⟩
  · obtain ⟨its, rv, p, hz⟩ := I1.list hq
    refine wpAny_pyIter_list p.isList ?_
    refine ⟨s1.heap.objs.size, [s1.heap.objs.size], _, _, H1, rfl, I1.kept (t' := s1.toks) fun b o e => Heap.get?_push_of_some _ e, turn_list a _, ⟨_, Heap.get?_push_size _ rfl, rfl, rfl⟩, fun b hb => ?_, q⟩
    have e : b = s1.heap.objs.size := by simpa using hb
    subst e
    exact I1.fpOk (Nat.le_refl _) (I1.hok.fresh (Nat.le_refl _))
  · obtain ⟨its, rv, p, hz⟩ := I1.tuple hq
    refine wpAny_pyIter_tuple (show s1.heap.IsTuple a its.toArray from p) ?_
    refine ⟨s1.heap.objs.size, [s1.heap.objs.size], _, _, H1, rfl, I1.kept (t' := s1.toks) fun b o e => Heap.get?_push_of_some _ e, turn_tuple a _, ⟨_, Heap.get?_push_size _ rfl, rfl, rfl⟩, fun b hb => ?_, q⟩
    have e : b = s1.heap.objs.size := by simpa using hb
    subst e
    exact I1.fpOk (Nat.le_refl _) (I1.hok.fresh (Nat.le_refl _))
/-- a table of n states, by its items (none: no sequence) -/
def isTab (r : Option (List V)) (n : Int) : Bool := seqB r n n && match r with | some ys => decide (fnb ys n = V.non) | none => false
/-- a value and, if it is a sequence, the kinds of its items -/
structure Rw (K : PySem.W.Frag) (H : Hp) (x : V) (r : Option (List V)) : Prop where
  kv : KV K H x r
  ks : ∀ ys, r = some ys → Kinds K H ys
theorem Rw.same {K : PySem.W.Frag} {H H' : Hp} {x : V} {r : Option (List V)} (h : Rw K H x r) (s : Same H H') : Rw K H' x r := ⟨h.kv.same s, fun ys e => (h.ks ys e).same s⟩
theorem KV.seqA {K : PySem.W.Frag} {H : Hp} {x : V} {ys : List V} (h : KV K H x (some ys)) : ∃ a, x = .ref a ∧ SeqA H a ys := by
  cases h with
  | lst h => exact ⟨_, rfl, .inl h⟩
  | tup h => exact ⟨_, rfl, .inr h⟩
def spIsTab (K : PySem.W.Frag) : Sp := fun vs H Q _ => ∃ x r n, vs = [x, .int n] ∧ Rw K H x r ∧ ∀ H', Same H H' → Q (.bl (isTab r n)) H'
section
variable {P : Program} {w : World} {K : PySem.W.Frag} {mg : Str → Option Value} {base : Heap}
theorem scIT : FnScope ["value", "states"] ["value", "states"] (defScope sIsTab) := ⟨rfl, rfl, rfl, by decide +kernel, rfl, by decide +kernel, by decide +kernel⟩
theorem ok_istab {f fS fF : Addr} {fd fdS fdF : FuncData} (D : Df K mg "is_table" sIsTab ["value", "states"] f fd) (DS : Df K mg "is_sequence" sSeq ["value", "least", "most"] fS fdS) (DF : Df K mg "first_not_below" sFnb ["items", "limit"] fF fdF)
    (GS : FnOk P w K mg base CX0 1 fS fdS ["value", "least", "most"] (spSeq K)) (GF : FnOk P w K mg base CX0 3 fF fdF ["items", "limit"] (spFnb K)) : FnOk P w K mg base CX0 4 f fd ["value", "states"] (spIsTab K) := by
  refine D.F.ok scIT (fun vs H Q E h => ?_) (fun cdv A outer s H vs Q E hr h => ?_)
  · obtain ⟨x, r, n, rfl, _⟩ := h
    rfl
  · obtain ⟨x, r, n, rfl, hw, q⟩ := h
    refine ⟨_, pss_one (ps_ret (pe_and (pc DS GS (hr.mono (by decide)) pass0 (pa_cons (pv 0) (pa_cons (pv 1) (pa_cons (pv 1) pa_nil)))) (pe_one (pe_cmp (pc_isN (pc DF GF hr pass0 (pa_cons (pv 0) (pa_cons (pv 1) pa_nil)))) rfl)))), ?_⟩
    refine ⟨_, rfl, _, rfl, _, rfl, _, r, n, n, rfl, hw.kv, fun H1 sm => ⟨_, rfl, ifD (fun e => ?_) fun e => ?_⟩⟩
    · cases r with
      | none => cases e
      | some ys =>
        obtain ⟨a, rfl, hS⟩ := hw.kv.seqA
        refine ⟨_, rfl, _, rfl, a, ys, n, rfl, hS.same sm, (hw.ks ys rfl).same sm, fun H2 sm2 => qbl ?_ (q _ (sm.trans sm2))⟩
        show _ = (seqB (some ys) n n && _)
        rw [e]; rfl
    · refine qbl ?_ (q _ sm)
      show _ = (seqB r n n && _)
      rw [e]; rfl
end
end K1
namespace K1
open PySem PySem.Spec PyProof.Rows L2
/-- the items of a lot of tables, each with what it holds -/
structure Rws (K : PySem.W.Frag) (H : Hp) (xs : List V) (rs : List (Option (List V))) : Prop where
  len : xs.length = rs.length
  at_ : ∀ (i : Nat) x r, xs[i]? = some x → rs[i]? = some r → Rw K H x r
theorem Rws.same {K : PySem.W.Frag} {H H' : Hp} {xs : List V} {rs : List (Option (List V))} (h : Rws K H xs rs) (s : Same H H') : Rws K H' xs rs := ⟨h.len, fun i x r e1 e2 => (h.at_ i x r e1 e2).same s⟩
theorem Rws.get {K : PySem.W.Frag} {H : Hp} {xs : List V} {rs : List (Option (List V))} (h : Rws K H xs rs) {i : Nat} {x : V} (e : xs[i]? = some x) : ∃ r, rs[i]? = some r ∧ Rw K H x r := by
  have hi : i < rs.length := h.len ▸ (List.getElem?_eq_some_iff.mp e).1
  exact ⟨rs[i], by simp [hi], h.at_ i x _ e (by simp [hi])⟩
/-- what is told of a value that is no machine: none for a machine's tables (xs of the value, by their items) -/
def chkAt (o : Option (List (Option (List V)))) : Option Int :=
  match o with
  | none => some (-1)
  | some rs => if rs.length < 1 ∨ 8 < rs.length then some (-1) else
    match rs[0]? with
    | some (some y0) => if y0.length < 1 ∨ 12 < y0.length then some 0 else (rs.findIdx? fun r => !isTab r (y0.length : Int)).map fun i => (i : Int)
    | _ => some 0
/-- a value that may be a machine's tables; of its items nothing is known where there are too many, or none -/
inductive Mv (K : PySem.W.Frag) (H : Hp) : V → Option (List (Option (List V))) → Prop
  | no {v : V} (h : KV K H v none) : Mv K H v none
  | yes {v : V} {xs : List V} {rs : List (Option (List V))} (h : KV K H v (some xs)) (r : Rws K H xs rs) : Mv K H v (some rs)
theorem Mv.same {K : PySem.W.Frag} {H H' : Hp} {v : V} {o : Option (List (Option (List V)))} (h : Mv K H v o) (s : Same H H') : Mv K H' v o := by
  cases h with
  | no h => exact .no (h.same s)
  | yes h r => exact .yes (h.same s) (r.same s)
/-- tables that stand at ta, each as a tuple -/
def TabsAt (H : Hp) (ta : Addr) (ts : List (List V)) : Prop := ∃ as : List Addr, H ta = some (.tup (as.map V.ref)) ∧ as.length = ts.length ∧ ∀ (i : Nat) a t, as[i]? = some a → ts[i]? = some t → H a = some (.tup t)
theorem TabsAt.same {H H' : Hp} {ta : Addr} {ts : List (List V)} (h : TabsAt H ta ts) (s : Same H H') : TabsAt H' ta ts := let ⟨as, h1, h2, h3⟩ := h; ⟨as, s _ _ h1, h2, fun i a t e1 e2 => s _ _ (h3 i a t e1 e2)⟩
/-- an error of the class at C, its field f at v -/
def Rz (C : Addr) (f : Str) (v : V) (H : Hp) (E : XK) : Prop := ∀ d H', Same H H' → H d = none → H' d = some (.xd [(f, v)]) → E (.ref C) (some d) H'
/-- checked_tables: the tables, or the error -/
def spChk (K : PySem.W.Frag) (C : Addr) : Sp := fun vs H Q E => ∃ v o, vs = [v] ∧ Mv K H v o ∧ (∀ z, chkAt o = some z → Rz C "at" (.int z) H E) ∧
  (chkAt o = none → ∀ (ts : List (List V)), o = some (ts.map some) → ∀ ta H', Same H H' → TabsAt H' ta ts → Q (.ref ta) H')
theorem chk_neg {o : Option (List (Option (List V)))} (h : seqB (o.map fun rs => rs.map fun _ => V.non) 1 8 = false) : chkAt o = some (-1) := by
  cases o with
  | none => rfl
  | some rs =>
    have z : rs.length < 1 ∨ 8 < rs.length := by
      have e : (decide ((1 : Int) ≤ ((rs.map fun _ => V.non).length : Int)) && decide (((rs.map fun _ => V.non).length : Int) ≤ 8)) = false := h
      rw [List.length_map] at e
      simp only [Bool.and_eq_false_iff, decide_eq_false_iff_not] at e
      omega
    show (if rs.length < 1 ∨ 8 < rs.length then some (-1) else _) = _
    rw [if_pos z]
theorem chk_zero {rs : List (Option (List V))} {r0 : Option (List V)} (h1 : seqB (some (rs.map fun _ => V.non)) 1 8 = true) (h0 : rs[0]? = some r0) (h : seqB r0 1 12 = false) : chkAt (some rs) = some 0 := by
  have e : (decide ((1 : Int) ≤ ((rs.map fun _ => V.non).length : Int)) && decide (((rs.map fun _ => V.non).length : Int) ≤ 8)) = true := h1
  rw [List.length_map] at e
  simp only [Bool.and_eq_true, decide_eq_true_eq] at e
  have z : ¬ (rs.length < 1 ∨ 8 < rs.length) := by omega
  show (if rs.length < 1 ∨ 8 < rs.length then some (-1) else _) = _
  rw [if_neg z, h0]
  cases r0 with
  | none => rfl
  | some y0 =>
    have e : (decide ((1 : Int) ≤ (y0.length : Int)) && decide ((y0.length : Int) ≤ 12)) = false := h
    simp only [Bool.and_eq_false_iff, decide_eq_false_iff_not] at e
    have z : y0.length < 1 ∨ 12 < y0.length := by omega
    show (if y0.length < 1 ∨ 12 < y0.length then some 0 else _) = _
    rw [if_pos z]
theorem chk_in {rs : List (Option (List V))} {y0 : List V} (h1 : seqB (some (rs.map fun _ => V.non)) 1 8 = true) (h0 : rs[0]? = some (some y0)) (h : seqB (some y0) 1 12 = true) : chkAt (some rs) = (rs.findIdx? fun r => !isTab r (y0.length : Int)).map fun i => (i : Int) := by
  have e : (decide ((1 : Int) ≤ ((rs.map fun _ => V.non).length : Int)) && decide (((rs.map fun _ => V.non).length : Int) ≤ 8)) = true := h1
  rw [List.length_map] at e
  simp only [Bool.and_eq_true, decide_eq_true_eq] at e
  have z : ¬ (rs.length < 1 ∨ 8 < rs.length) := by omega
  have e2 : (decide ((1 : Int) ≤ (y0.length : Int)) && decide ((y0.length : Int) ≤ 12)) = true := h
  simp only [Bool.and_eq_true, decide_eq_true_eq] at e2
  have z2 : ¬ (y0.length < 1 ∨ 12 < y0.length) := by omega
  show (if rs.length < 1 ∨ 8 < rs.length then some (-1) else _) = _
  rw [if_neg z, h0]
  show (if y0.length < 1 ∨ 12 < y0.length then some 0 else _) = _
  rw [if_neg z2]
theorem find_at {α : Type} {rs : List α} {p : α → Bool} {i : Nat} {r : α} (hr : rs[i]? = some r) (hn : p r = true) (hb : ∀ (j : Nat) y, j < i → rs[j]? = some y → p y = false) : rs.findIdx? p = some i := by
  obtain ⟨hi, ex⟩ := List.getElem?_eq_some_iff.mp hr
  rw [List.findIdx?_eq_some_iff_getElem]
  refine ⟨hi, by rw [ex, hn], fun j hj => ?_⟩
  have hj' : j < rs.length := Nat.lt_trans hj hi
  have := hb j rs[j] hj (by simp [hj'])
  simp [this]
theorem find_none {α : Type} {rs : List α} {p : α → Bool} (hb : ∀ (j : Nat) y, j < rs.length → rs[j]? = some y → p y = false) : rs.findIdx? p = none := by
  rw [List.findIdx?_eq_none_iff]
  intro x hx
  obtain ⟨j, hj, e⟩ := List.mem_iff_getElem.mp hx
  exact e ▸ hb j rs[j] hj (by simp [hj])
theorem isTab_some {r : Option (List V)} {n : Int} (h : isTab r n = true) : ∃ ys, r = some ys := by
  cases r with
  | none => cases h
  | some ys => exact ⟨ys, rfl⟩
/-- tuple(x) -/
def rTup (K : PySem.W.Frag) : List V → Hp → VK → Prop := fun xs H Q => ∃ p ys, xs = [.ref p] ∧ ((SqL K H p ys ∧ ∀ l, H l = none → Q (.ref l) (upd H l (.tup ys))) ∨ (SqT K H p ys ∧ Q (.ref p) H))
theorem ctup {X : Cx} {K : PySem.W.Frag} (h : X.K = K) : CallR X (.type "tuple") (rTup K) := by
  subst h
  exact call_tuple_of
section
variable {P : Program} {w : World} {K : PySem.W.Frag} {mg : Str → Option Value} {base : Heap}
theorem scC : FnScope ["value", "states", "at", "table"] ["value"] (defScope sChk) := ⟨rfl, rfl, rfl, by decide +kernel, rfl, by decide +kernel, by decide +kernel⟩
theorem ok_chk {f fS fI C cI : Addr} {fd fdS fdI : FuncData} {bm : List Value} {ql : Str} (D : Df K mg "checked_tables" sChk ["value"] f fd) (DS : Df K mg "is_sequence" sSeq ["value", "least", "most"] fS fdS) (DI : Df K mg "is_table" sIsTab ["value", "states"] fI fdI)
    (B : Bt mg) (c : Ct mg) (T : LAt.Txt K mg "BadMachine" ql bm C cI) (GS : FnOk P w K mg base CX0 1 fS fdS ["value", "least", "most"] (spSeq K)) (GI : FnOk P w K mg base CX0 4 fI fdI ["value", "states"] (spIsTab K)) :
    FnOk P w K mg base (L2.CX P w) 5 f fd ["value"] (spChk K C) := by
  obtain ⟨t1, hc1⟩ := c.tabs
  obtain ⟨t2, hc2⟩ := c.states
  refine D.F.okX scC (fun vs H Q E h => ?_) (fun cdv A outer s H vs Q E hr h => ?_)
  · obtain ⟨v, o, rfl, _⟩ := h
    rfl
  · obtain ⟨v, o, rfl, hm, qE, qQ⟩ := h
    have hr1 : Room 1 _ := hr.mono (by decide)
    refine ⟨_, pss_cons (ps_if (pt_not (pt_val (pc DS GS hr1 pass0 (pa_cons (pv 0) (pa_cons pe_int (pa_cons (pe_glob (v := .int 8) (by rfl) hc1 ⟨_, rfl⟩) pa_nil)))))) (pss_one (ps_raise_LAt rfl T hr (takes_of rfl rfl rfl rfl) (pa_cons (pe_un un_neg pe_int) pa_nil))) pss_nil)
      (pss_cons (ps_if (pt_not (pt_val (pc DS GS hr1 pass0 (pa_cons (pe_ix ix_seq (pv 0) pe_int (fun _ _ => rfl)) (pa_cons pe_int (pa_cons (pe_glob (v := .int 12) (by rfl) hc2 ⟨_, rfl⟩) pa_nil)))))) (pss_one (ps_raise_LAt rfl T hr (takes_of rfl rfl rfl rfl) (pa_cons pe_int pa_nil))) pss_nil)
      (pss_cons (ps_set (i := 1) scC.nd rfl (.inl rfl) (pe_callB call_len_seq (by rfl) B.len PySem.boot_len (pa_cons (pe_ix ix_seq (pv 0) pe_int (fun _ _ => rfl)) pa_nil)))
      (pss_cons (ps_for (passes_of rfl) rfl (pi_enumA (by rfl) B.enumerate (pa_cons (pv 0) pa_nil)) (pg_tup rfl (pgs_cons (pg_name (i := 2) scC.nd rfl (.inl rfl)) (pgs_cons (pg_name (i := 3) scC.nd rfl (.inl rfl)) pgs_nil)))
        (pss_one (ps_if (pt_not (pt_val (pc DI GI hr pass0 (pa_cons (pv 3) (pa_cons (pv 1) pa_nil))))) (pss_one (ps_raise_LAt rfl T hr (takes_of rfl rfl rfl rfl) (pa_cons (pv 2) pa_nil))) pss_nil)))
      (pss_one (ps_ret (pe_callTy call_tuple_of (by rfl) B.tuple (by decide +kernel) (pa_cons
        (pe_lc (own := [("table", 3)]) (g := gName 3) (tt := tYes) rfl scC.nd (pi_seqA (pv 0)) (blkOk_by (N := ["value", "states", "at", "table"]) (sc := defScope sChk) (by decide +kernel)) (fun _ _ _ _ _ => pg_name (i := 3) scC.nd rfl (Or.inl rfl)) (fun _ _ _ _ _ => pts_nil)
          (fun _ _ _ _ _ => pe_callTy (ctup (K := K) rfl) (by rfl) B.tuple PyProof.Rows.boot_tuple (pa_cons (pv 3) pa_nil))) pa_nil))))))), ?_⟩
    cases hm with
    | no kv =>
      refine ⟨_, rfl, _, none, 1, 8, rfl, kv, fun H1 s1 => ⟨_, rfl, ?_⟩⟩
      exact iteT ⟨_, rfl, _, rfl, fun d hd => qE (-1) rfl d _ (s1.trans (same_new hd)) (s1.free hd) upd_same⟩
    | yes kv R =>
      rename_i xs rs
      have eqs : ∀ l m, seqB (some xs) l m = seqB (some (rs.map fun _ => V.non)) l m := fun l m => by
        show (_ && _) = (_ && _)
        rw [List.length_map, R.len]
      refine ⟨_, rfl, _, some xs, 1, 8, rfl, kv, fun H1 s1 => ⟨_, rfl, ifD (fun e1 => ?_) fun e1 => ?_⟩⟩
      · have e1' : seqB (some xs) 1 8 = false := by simpa using e1
        rw [eqs] at e1'
        exact ⟨_, rfl, _, rfl, fun d hd => qE (-1) (chk_neg (o := some rs) e1') d _ (s1.trans (same_new hd)) (s1.free hd) upd_same⟩
      · have e1' : seqB (some xs) 1 8 = true := by simpa using e1
        have e1r := e1'
        rw [eqs] at e1r
        have hx0 : ∃ x0, xs[0]? = some x0 := by
          have z : (decide ((1 : Int) ≤ (xs.length : Int)) && decide ((xs.length : Int) ≤ 8)) = true := e1'
          simp only [Bool.and_eq_true, decide_eq_true_eq] at z
          exact ⟨xs[0]'(by omega), by simp⟩
        obtain ⟨x0, hx0⟩ := hx0
        obtain ⟨r0, hr0, W0⟩ := R.get hx0
        obtain ⟨a, rfl, hS⟩ := kv.seqA
        have ixr : ∀ {H' : Hp} {Qv : VK}, Same H H' → Qv x0 H' → rIx K (.ref a) (.int 0) H' Qv := fun {H' Qv} sm q => by
          rcases hS.same sm with h | h
          · exact .inl ⟨a, xs, 0, x0, rfl, rfl, SqL.of h, atI_nat (j := 0) hx0, q⟩
          · exact .inr (.inl ⟨a, xs, 0, x0, rfl, rfl, SqT.of h, atI_nat (j := 0) hx0, q⟩)
        refine ⟨_, rfl, ixr s1 ?_⟩
        refine ⟨_, r0, 1, 12, rfl, W0.kv.same s1, fun H2 s2 => ⟨_, rfl, ifD (fun e2 => ?_) fun e2 => ?_⟩⟩
        · have e2' : seqB r0 1 12 = false := by simpa using e2
          exact ⟨_, rfl, fun d hd => qE 0 (chk_zero e1r hr0 e2') d _ ((s1.trans s2).trans (same_new hd)) ((s1.trans s2).free hd) upd_same⟩
        · have e2' : seqB r0 1 12 = true := by simpa using e2
          have s12 := s1.trans s2
          obtain ⟨y0, rfl⟩ : ∃ y0, r0 = some y0 := by
            cases r0 with
            | none => cases e2'
            | some y0 => exact ⟨y0, rfl⟩
          have hc := chk_in e1r hr0 e2'
          obtain ⟨a0, rfl, hS0⟩ := W0.kv.seqA
          refine ⟨_, rfl, ixr s12 ⟨a0, y0, rfl, (hS0.same s12).elim (fun h => .inl (SqL.of h)) (fun h => .inr (SqT.of h)), ?_⟩⟩
          -- the loop
          let Pv : Nat → L2.St → Hp → Prop := fun i σ H' => ∃ v2 v3 : Option V, σ = [some (.ref a), some (.int (y0.length : Int)), v2, v3] ∧ Same H H' ∧ ∀ (j : Nat) r, j < i → rs[j]? = some r → isTab r (y0.length : Int) = true
          refine ⟨_, rfl, a, rfl, ?_⟩
          have P0 : Pv 0 [some (.ref a), some (.int (y0.length : Int)), none, none] H2 := ⟨none, none, rfl, s12, fun j r hj => absurd hj (Nat.not_lt_zero _)⟩
          rcases hS with hS | hS
          · refine .inl ⟨xs, SqL.of (s12 _ _ hS), for_enumL (K := K) Pv P0 (fun i σ H' _ ⟨_, _, _, sm, _⟩ => SqL.of (sm _ _ hS)) ?_ ?_⟩
            · rintro i x T σ H' hx hT ⟨v2, v3, rfl, sm, hb⟩
              have sm2 : Same H (upd H' T (.tup [.int (i : Nat), x])) := sm.trans (same_new hT)
              obtain ⟨r, hr', W⟩ := R.get hx
              refine ⟨T, _, rfl, SqT.of upd_same, rfl, _, _, rfl, _, _, rfl, rfl, ?_⟩
              refine ⟨_, rfl, _, rfl, x, r, (y0.length : Int), rfl, W.same sm2, fun H3 s3 => ⟨_, rfl, ifD (fun e => ?_) fun e => ?_⟩⟩
              · have e' : isTab r (y0.length : Int) = false := by simpa using e
                have hz : chkAt (some rs) = some (i : Int) := by
                  rw [hc, find_at hr' (by rw [e']; rfl) fun j y hj hy => by rw [hb j y hj hy]; rfl]; rfl
                exact ⟨_, rfl, _, rfl, fun d hd => qE _ hz d _ ((sm2.trans s3).trans (same_new hd)) ((sm2.trans s3).free hd) upd_same⟩
              · have e' : isTab r (y0.length : Int) = true := by simpa using e
                refine ⟨_, _, rfl, sm2.trans s3, fun j y hj hy => ?_⟩
                rcases Nat.lt_succ_iff_lt_or_eq.mp hj with z | z
                · exact hb j y z hy
                · subst z
                  rw [hr'] at hy
                  rw [← Option.some.inj hy]
                  exact e'
            · rintro σ H' ⟨v2, v3, rfl, sm, hb⟩
              have hz : chkAt (some rs) = none := by
                rw [hc, find_none fun j y hj hy => by rw [hb j y (by rw [R.len]; exact hj) hy]; rfl]; rfl
              have hsome : ∀ (i : Nat) r, rs[i]? = some r → ∃ ys, r = some ys := fun i r hi => isTab_some (hb i r (by rw [R.len]; exact (List.getElem?_eq_some_iff.mp hi).1) hi)
              have hts : some rs = some ((rs.map fun r => r.getD []).map some) := by
                congr 1
                rw [List.map_map]
                refine (List.map_id rs).symm.trans (List.map_congr_left fun r hr => ?_)
                obtain ⟨i, hi, e⟩ := List.mem_iff_getElem.mp hr
                obtain ⟨ys, rfl⟩ := hsome i r (by rw [← e]; simp [hi])
                rfl
              have qq := qQ hz _ hts
              have gett : ∀ (i : Nat) x, xs[i]? = some x → ∃ b ys, x = .ref b ∧ rs[i]? = some (some ys) ∧ SeqA H b ys := fun i x hx => by
                obtain ⟨r, h1, W⟩ := R.get hx
                obtain ⟨ys, rfl⟩ := hsome i r h1
                obtain ⟨b, rfl, h2⟩ := W.kv.seqA
                exact ⟨b, ys, rfl, h1, h2⟩
              let Lv : Addr → Nat → Hp → Prop := fun D i H2 => ∃ as : List Addr, as.length = i ∧ Same H' H2 ∧ H2 D = some (.lst (as.map V.ref)) ∧ ∀ (j : Nat) b t, as[j]? = some b → rs[j]? = some (some t) → H2 b = some (.tup t)
              refine ⟨_, rfl, a, rfl, .inl ⟨xs, SqL.of (sm _ _ hS), fun D hD => lc_list (K := K) (a := a) (xs := xs) (Lv D) ⟨[], rfl, same_new hD, upd_same, fun j b t z => nomatch z⟩ (fun i H2 _ ⟨as, _, s5, _⟩ => SqL.of (s5 _ _ (sm _ _ hS))) ?_ ?_⟩⟩
              · rintro i x H2 hx ⟨as, hl, s5, hD2, hA⟩
                obtain ⟨b, ys, rfl, h1, h2⟩ := gett i x hx
                have nD : ∀ c o, H' c = some o → c ≠ D := fun c o e => ne_of_none e hD
                have hlen : (as.map V.ref).length < sizeLine := by
                  rw [List.length_map, hl, sizeLine_eq]
                  have := (List.getElem?_eq_some_iff.mp hx).1
                  have z : (decide ((1 : Int) ≤ (xs.length : Int)) && decide ((xs.length : Int) ≤ 8)) = true := e1'
                  simp only [Bool.and_eq_true, decide_eq_true_eq] at z
                  omega
                have fin : ∀ (l : Addr) (H3 : Hp), Same H2 H3 → H3 l = some (.tup ys) → H3 D = some (.lst (as.map V.ref)) → l ≠ D → Lv D (i + 1) (upd H3 D (.lst (as.map V.ref ++ [.ref l]))) := fun l H3 s6 hl3 hD3 hne => by
                  have keep : ∀ c o, H3 c = some o → c ≠ D → upd H3 D (.lst (as.map V.ref ++ [.ref l])) c = some o := fun c o e n => by rw [upd_ne n]; exact e
                  refine ⟨as ++ [l], by rw [List.length_append, hl]; rfl, fun c o e => keep c o (s6 _ _ (s5 _ _ e)) (nD c o e), by rw [upd_same, List.map_append]; rfl, fun j b t hb ht => ?_⟩
                  by_cases hj : j < as.length
                  · rw [List.getElem?_append_left hj] at hb
                    have z := s6 _ _ (hA j b t hb ht)
                    exact keep _ _ z (ne_of z hD3 (by intro q; cases q))
                  · have hj2 : j = as.length := by
                      have := (List.getElem?_eq_some_iff.mp hb).1
                      rw [List.length_append] at this
                      have q : ([l] : List Addr).length = 1 := rfl
                      omega
                    subst hj2
                    rw [List.getElem?_append_right (Nat.le_refl _), Nat.sub_self] at hb
                    have eb : l = b := Option.some.inj hb
                    subst eb
                    rw [hl, h1] at ht
                    rw [← Option.some.inj (Option.some.inj ht)]
                    exact keep _ _ hl3 hne
                refine ⟨rfl, _, rfl, b, ys, rfl, ?_⟩
                rcases h2 with h2 | h2
                · have hb2 := s5 _ _ (sm _ _ h2)
                  refine .inl ⟨SqL.of hb2, fun l hl2 => ?_⟩
                  have nlD : l ≠ D := fun e => by rw [e, hD2] at hl2; cases hl2
                  exact ⟨_, (upd_ne nlD.symm).trans hD2, hlen, fin l _ (same_new hl2) upd_same ((upd_ne nlD.symm).trans hD2) nlD⟩
                · have hb2 := s5 _ _ (sm _ _ h2)
                  refine .inr ⟨SqT.of hb2, ?_⟩
                  exact ⟨_, hD2, hlen, fin b _ (Same.refl _) hb2 hD2 (ne_of hb2 hD2 (by intro q; cases q))⟩
              · rintro H2 ⟨as, hl, s5, hD2, hA⟩
                refine ⟨D, _, rfl, .inl ⟨SqL.of hD2, fun ta hta => ?_⟩⟩
                have s7 : Same H (upd H2 ta (.tup (as.map V.ref))) := (sm.trans s5).trans (same_new hta)
                refine qq ta _ s7 ⟨as, upd_same, by rw [hl, List.length_map, R.len], fun j b t hb ht => ?_⟩
                have hj : rs[j]? = some (some t) := by
                  rw [List.getElem?_map] at ht
                  cases e : rs[j]? with
                  | none => rw [e] at ht; cases ht
                  | some r =>
                    obtain ⟨ys, rfl⟩ := hsome j r e
                    rw [e] at ht
                    rw [← Option.some.inj ht]; rfl
                exact same_new hta _ _ (hA j b t hb hj)
          · refine .inr ⟨xs, SqT.of (s12 _ _ hS), for_enumT (K := K) Pv P0 (fun i σ H' _ ⟨_, _, _, sm, _⟩ => SqT.of (sm _ _ hS)) ?_ ?_⟩
            · rintro i x T σ H' hx hT ⟨v2, v3, rfl, sm, hb⟩
              have sm2 : Same H (upd H' T (.tup [.int (i : Nat), x])) := sm.trans (same_new hT)
              obtain ⟨r, hr', W⟩ := R.get hx
              refine ⟨T, _, rfl, SqT.of upd_same, rfl, _, _, rfl, _, _, rfl, rfl, ?_⟩
              refine ⟨_, rfl, _, rfl, x, r, (y0.length : Int), rfl, W.same sm2, fun H3 s3 => ⟨_, rfl, ifD (fun e => ?_) fun e => ?_⟩⟩
              · have e' : isTab r (y0.length : Int) = false := by simpa using e
                have hz : chkAt (some rs) = some (i : Int) := by
                  rw [hc, find_at hr' (by rw [e']; rfl) fun j y hj hy => by rw [hb j y hj hy]; rfl]; rfl
                exact ⟨_, rfl, _, rfl, fun d hd => qE _ hz d _ ((sm2.trans s3).trans (same_new hd)) ((sm2.trans s3).free hd) upd_same⟩
              · have e' : isTab r (y0.length : Int) = true := by simpa using e
                refine ⟨_, _, rfl, sm2.trans s3, fun j y hj hy => ?_⟩
                rcases Nat.lt_succ_iff_lt_or_eq.mp hj with z | z
                · exact hb j y z hy
                · subst z
                  rw [hr'] at hy
                  rw [← Option.some.inj hy]
                  exact e'
            · rintro σ H' ⟨v2, v3, rfl, sm, hb⟩
              have hz : chkAt (some rs) = none := by
                rw [hc, find_none fun j y hj hy => by rw [hb j y (by rw [R.len]; exact hj) hy]; rfl]; rfl
              have hsome : ∀ (i : Nat) r, rs[i]? = some r → ∃ ys, r = some ys := fun i r hi => isTab_some (hb i r (by rw [R.len]; exact (List.getElem?_eq_some_iff.mp hi).1) hi)
              have hts : some rs = some ((rs.map fun r => r.getD []).map some) := by
                congr 1
                rw [List.map_map]
                refine (List.map_id rs).symm.trans (List.map_congr_left fun r hr => ?_)
                obtain ⟨i, hi, e⟩ := List.mem_iff_getElem.mp hr
                obtain ⟨ys, rfl⟩ := hsome i r (by rw [← e]; simp [hi])
                rfl
              have qq := qQ hz _ hts
              have gett : ∀ (i : Nat) x, xs[i]? = some x → ∃ b ys, x = .ref b ∧ rs[i]? = some (some ys) ∧ SeqA H b ys := fun i x hx => by
                obtain ⟨r, h1, W⟩ := R.get hx
                obtain ⟨ys, rfl⟩ := hsome i r h1
                obtain ⟨b, rfl, h2⟩ := W.kv.seqA
                exact ⟨b, ys, rfl, h1, h2⟩
              let Lv : Addr → Nat → Hp → Prop := fun D i H2 => ∃ as : List Addr, as.length = i ∧ Same H' H2 ∧ H2 D = some (.lst (as.map V.ref)) ∧ ∀ (j : Nat) b t, as[j]? = some b → rs[j]? = some (some t) → H2 b = some (.tup t)
              refine ⟨_, rfl, a, rfl, .inr ⟨xs, SqT.of (sm _ _ hS), fun D hD => lc_tup (K := K) (a := a) (xs := xs) (Lv D) ⟨[], rfl, same_new hD, upd_same, fun j b t z => nomatch z⟩ (fun i H2 _ ⟨as, _, s5, _⟩ => SqT.of (s5 _ _ (sm _ _ hS))) ?_ ?_⟩⟩
              · rintro i x H2 hx ⟨as, hl, s5, hD2, hA⟩
                obtain ⟨b, ys, rfl, h1, h2⟩ := gett i x hx
                have nD : ∀ c o, H' c = some o → c ≠ D := fun c o e => ne_of_none e hD
                have hlen : (as.map V.ref).length < sizeLine := by
                  rw [List.length_map, hl, sizeLine_eq]
                  have := (List.getElem?_eq_some_iff.mp hx).1
                  have z : (decide ((1 : Int) ≤ (xs.length : Int)) && decide ((xs.length : Int) ≤ 8)) = true := e1'
                  simp only [Bool.and_eq_true, decide_eq_true_eq] at z
                  omega
                have fin : ∀ (l : Addr) (H3 : Hp), Same H2 H3 → H3 l = some (.tup ys) → H3 D = some (.lst (as.map V.ref)) → l ≠ D → Lv D (i + 1) (upd H3 D (.lst (as.map V.ref ++ [.ref l]))) := fun l H3 s6 hl3 hD3 hne => by
                  have keep : ∀ c o, H3 c = some o → c ≠ D → upd H3 D (.lst (as.map V.ref ++ [.ref l])) c = some o := fun c o e n => by rw [upd_ne n]; exact e
                  refine ⟨as ++ [l], by rw [List.length_append, hl]; rfl, fun c o e => keep c o (s6 _ _ (s5 _ _ e)) (nD c o e), by rw [upd_same, List.map_append]; rfl, fun j b t hb ht => ?_⟩
                  by_cases hj : j < as.length
                  · rw [List.getElem?_append_left hj] at hb
                    have z := s6 _ _ (hA j b t hb ht)
                    exact keep _ _ z (ne_of z hD3 (by intro q; cases q))
                  · have hj2 : j = as.length := by
                      have := (List.getElem?_eq_some_iff.mp hb).1
                      rw [List.length_append] at this
                      have q : ([l] : List Addr).length = 1 := rfl
                      omega
                    subst hj2
                    rw [List.getElem?_append_right (Nat.le_refl _), Nat.sub_self] at hb
                    have eb : l = b := Option.some.inj hb
                    subst eb
                    rw [hl, h1] at ht
                    rw [← Option.some.inj (Option.some.inj ht)]
                    exact keep _ _ hl3 hne
                refine ⟨rfl, _, rfl, b, ys, rfl, ?_⟩
                rcases h2 with h2 | h2
                · have hb2 := s5 _ _ (sm _ _ h2)
                  refine .inl ⟨SqL.of hb2, fun l hl2 => ?_⟩
                  have nlD : l ≠ D := fun e => by rw [e, hD2] at hl2; cases hl2
                  exact ⟨_, (upd_ne nlD.symm).trans hD2, hlen, fin l _ (same_new hl2) upd_same ((upd_ne nlD.symm).trans hD2) nlD⟩
                · have hb2 := s5 _ _ (sm _ _ h2)
                  refine .inr ⟨SqT.of hb2, ?_⟩
                  exact ⟨_, hD2, hlen, fin b _ (Same.refl _) hb2 hD2 (ne_of hb2 hD2 (by intro q; cases q))⟩
              · rintro H2 ⟨as, hl, s5, hD2, hA⟩
                refine ⟨D, _, rfl, .inl ⟨SqL.of hD2, fun ta hta => ?_⟩⟩
                have s7 : Same H (upd H2 ta (.tup (as.map V.ref))) := (sm.trans s5).trans (same_new hta)
                refine qq ta _ s7 ⟨as, upd_same, by rw [hl, List.length_map, R.len], fun j b t hb ht => ?_⟩
                have hj : rs[j]? = some (some t) := by
                  rw [List.getElem?_map] at ht
                  cases e : rs[j]? with
                  | none => rw [e] at ht; cases ht
                  | some r =>
                    obtain ⟨ys, rfl⟩ := hsome j r e
                    rw [e] at ht
                    rw [← Option.some.inj ht]; rfl
                exact same_new hta _ _ (hA j b t hb hj)
end
end K1
namespace K1
open PySem PySem.Spec PyProof.Rows L2
/-! ### the machine's object -/
def mf (ta : Addr) (n k : Int) : List (Str × V) := putF "states" (.int k) (putF "deeds" (.int n) (putF "tables" (.ref ta) []))
theorem mf_t (ta : Addr) (n k : Int) : (mf ta n k).lookup ("tables" : Str) = some (.ref ta) := by
  unfold mf
  rw [lookup_putF, if_neg (by decide +kernel), lookup_putF, if_neg (by decide +kernel), lookup_putF, if_pos rfl]
theorem mf_d (ta : Addr) (n k : Int) : (mf ta n k).lookup ("deeds" : Str) = some (.int n) := by
  unfold mf
  rw [lookup_putF, if_neg (by decide +kernel), lookup_putF, if_pos rfl]
theorem mf_s (ta : Addr) (n k : Int) : (mf ta n k).lookup ("states" : Str) = some (.int k) := by
  unfold mf
  rw [lookup_putF, if_pos rfl]
/-- the machine at m, of the class at M: tables that stand at ta -/
def MachAt (M : Addr) (H : Hp) (m ta : Addr) (ts : List (List V)) : Prop :=
  (∃ (dx : Addr) (t0 : List V), ts[0]? = some t0 ∧ H m = some (.ins M dx (mf ta (ts.length : Int) (t0.length : Int)))) ∧ TabsAt H ta ts
theorem MachAt.same {M : Addr} {H H' : Hp} {m ta : Addr} {ts : List (List V)} (h : MachAt M H m ta ts) (s : Same H H') : MachAt M H' m ta ts :=
  let ⟨⟨dx, t0, h0, h1⟩, h2⟩ := h
  ⟨⟨dx, t0, h0, s _ _ h1⟩, h2.same s⟩
/-- what the walk asks of the class Machine, at M -/
structure McT (K : PySem.W.Frag) (mg : Str → Option Value) (M : Addr) : Prop where
  cl : Cls K M
  nT : NoAttr K M "tables"
  nD : NoAttr K M "deeds"
  nS : NoAttr K M "states"
  g : mg "Machine" = some (.ref M)
  ca : PySem.W.findIn K (.ref M) "__class__" = some (some (.builtin "object.__class__"))
  sp : PySem.W.specialIn K (.builtin "object.__class__") "__get__" = some (some (.builtin "getset_descriptor.__get__"))
  tk : PySem.W.takesIn K (.builtin "object.__class__") = some true
  mo : PySem.W.mroIn K M (.type "object") = some true
/-- __init__ of a fresh machine -/
def spMInit (K : PySem.W.Frag) (C M : Addr) : Sp := fun vs H Q E => ∃ m dx v o, vs = [.ref m, v] ∧ H m = some (.ins M dx []) ∧ Mv K H v o ∧ (∀ z, chkAt o = some z → Rz C "at" (.int z) H E) ∧
  (chkAt o = none → ∀ (ts : List (List V)), o = some (ts.map some) → ∀ ta H', (∀ b u, H b = some u → b ≠ m → H' b = some u) → MachAt M H' m ta ts → Q .non H')
theorem chk_first {ts : List (List V)} (h : chkAt (some (ts.map some)) = none) : ∃ t0, ts[0]? = some t0 := by
  cases ts with
  | nil =>
    have z : chkAt (some ([] : List (Option (List V)))) = some (-1) := rfl
    rw [show (([] : List (List V)).map some) = [] from rfl, z] at h
    cases h
  | cons a r => exact ⟨a, rfl⟩
section
variable {P : Program} {w : World} {K : PySem.W.Frag} {mg : Str → Option Value} {base : Heap}
theorem scMI : FnScope ["self", "tables"] ["self", "tables"] (defScope sMInit) := ⟨rfl, rfl, rfl, by decide +kernel, rfl, by decide +kernel, by decide +kernel⟩
theorem ok_minit {f fC C M : Addr} {fd fdC : FuncData} (F : Fun K "__init__" "Machine.__init__" sMInit f fd) (DC : Df K mg "checked_tables" sChk ["value"] fC fdC) (B : Bt mg) (T : McT K mg M)
    (GC : FnOk P w K mg base (L2.CX P w) 5 fC fdC ["value"] (spChk K C)) : FnOk P w K mg base (L2.CX P w) 6 f fd ["self", "tables"] (spMInit K C M) := by
  refine F.okX scMI (fun vs H Q E h => ?_) (fun cdv A outer s H vs Q E hr h => ?_)
  · obtain ⟨m, dx, v, o, rfl, _⟩ := h
    rfl
  · obtain ⟨m, dx, v, o, rfl, hm, mv, qE, qQ⟩ := h
    refine ⟨_, pss_cons (ps_fld (pv 0) (pc DC GC hr (pass1 (takes_of rfl rfl rfl rfl)) (pa_cons (pv 1) pa_nil)) rfl)
      (pss_cons (ps_fld (pv 0) (pe_callB call_len_seq (by rfl) B.len PySem.boot_len (pa_cons (pe_fld (pv 0) rfl) pa_nil)) rfl)
      (pss_one (ps_fld (pv 0) (pe_callB call_len_seq (by rfl) B.len PySem.boot_len (pa_cons (pe_ix ix_tup (pe_fld (pv 0) rfl) pe_int (fun _ _ => rfl)) pa_nil)) rfl))), ?_⟩
    refine ⟨_, rfl, v, o, rfl, mv, fun z hz d H' sm hd he => qE z hz d H' sm hd he, fun hz ts hts ta H' sm hT => ?_⟩
    subst hts
    obtain ⟨t0, h0⟩ := chk_first hz
    have hm1 := sm _ _ hm
    obtain ⟨as, ha1, ha2, ha3⟩ := hT
    have nma : m ≠ ta := ne_of hm1 ha1 (by intro q; cases q)
    have k1 : ∀ {fs : List (Str × V)}, (upd H' m (.ins M dx fs)) ta = some (.tup (as.map V.ref)) := fun {fs} => by rw [upd_ne nma.symm]; exact ha1
    obtain ⟨a0, ea0⟩ : ∃ a0, as[0]? = some a0 := by
      have : 0 < as.length := by rw [ha2]; exact (List.getElem?_eq_some_iff.mp h0).1
      exact ⟨as[0], by simp [this]⟩
    have hA0 := ha3 0 a0 t0 ea0 h0
    have nm0 : m ≠ a0 := ne_of hm1 hA0 (by intro q; cases q)
    refine ⟨_, rfl, m, M, dx, [], rfl, hm1, T.cl, T.nT, (by show 0 < 1000; decide), ?_⟩
    refine ⟨_, rfl, m, M, dx, _, _, rfl, upd_same, T.cl, T.nT, (by rw [lookup_putF, if_pos rfl]), ta, _, rfl, .inr (SqT.of k1), _, rfl, m, M, dx, _, rfl, upd_same, T.cl, T.nD, (by show 1 < 1000; decide), ?_⟩
    rw [upd_upd]
    refine ⟨_, rfl, m, M, dx, _, _, rfl, upd_same, T.cl, T.nT, (by rw [lookup_putF, if_neg (by decide +kernel), lookup_putF, if_pos rfl]), ta, _, 0, _, rfl, rfl, SqT.of k1, atI_nat (j := 0) (by rw [List.getElem?_map, ea0]; rfl), a0, t0, rfl, .inr (SqT.of (by rw [upd_ne nm0.symm]; exact hA0)), _, rfl, m, M, dx, _, rfl, upd_same, T.cl, T.nS, (by show 2 < 1000; decide), ?_⟩
    rw [upd_upd]
    refine qQ hz ts rfl ta _ (fun b u e hb => ?_) ⟨⟨dx, t0, h0, ?_⟩, as, k1, ha2, fun i a t e1 e2 => ?_⟩
    · rw [upd_ne hb]
      exact sm _ _ e
    · rw [upd_same]
      show some (HO.ins M dx (putF "states" (.int t0.length) (putF "deeds" (.int ((as.map V.ref).length : Int)) (putF "tables" (.ref ta) [])))) = _
      rw [List.length_map, ha2]
      rfl
    · have z := ha3 i a t e1 e2
      rw [upd_ne (ne_of z hm1 (by intro q; cases q))]
      exact z
end
end K1
namespace K1
open PySem PySem.Spec PyProof.Rows L2
/-- x == y by x's own __eq__: y another such instance, or a tuple -/
def rEqOwn (C : Addr) (sp : Sp) : R2 := fun x y H Q => ∃ (a : Addr) (dx : Addr) (fs : List (Str × V)), x = .ref a ∧ H a = some (.ins C dx fs) ∧ ((∃ (b dy : Addr) (gs : List (Str × V)), y = .ref b ∧ H b = some (.ins C dy gs)) ∨ ∃ (b : Addr) (ys : List V), y = .ref b ∧ H b = some (.tup ys)) ∧
  sp [x, y] H (fun v H' => ∃ k, v = .bl k ∧ Q v H') E0
theorem op_eqOwn {X : Cx} {n : Nat} {C f : Addr} {fd : FuncData} {ps : List Str} {sp : Sp} (F : FnOk X.prog X.w X.K X.mg X.base CX0 n f fd ps sp) (hr : Room n X.A)
    (hs : PySem.W.findIn X.K (.ref C) "__eq__" = some (some (.ref f))) (hf : PySem.W.isFn X.K (.ref f) = true) (hb : Binds X.K fd ps []) (nf : PySem.W.notFirst X.K C (.type "tuple") = true) : OpR X (compareOp .Eq) (rEqOwn C sp) := by
  intro pins s σ H x y v u Q I rx ry hq
  obtain ⟨a, dx, fs, rfl, ha, hy, hsp⟩ := hq
  cases rx
  show wpAny (model X.prog X.w) X.A (richCompare .Eq (.ref a) u) (EP X pins σ Q) X.xe s
  obtain ⟨mA, J, _⟩ := ins_get I.hok ha
  obtain ⟨od, J, _⟩ := J.look
  obtain ⟨m, hF⟩ := I.fr
  have tl : ∃ tb, PySem.W.Looks (model X.prog X.w) s.heap (typeOf u) tb ∧ PySem.W.notFirst X.K C tb = true := by
    rcases hy with ⟨b, dy, gs, rfl, hb'⟩ | ⟨b, ys, rfl, hb'⟩
    · cases ry
      obtain ⟨mB, J', _⟩ := ins_get I.hok hb'
      obtain ⟨od', J', _⟩ := J'.look
      exact ⟨.ref C, J'.type, by simp [PySem.W.notFirst]⟩
    · cases ry
      obtain ⟨_, its, rv, o, h1, h2, _⟩ := (show ObjOk X.prog X.w H s.heap b (.tup ys) from I.hok b _ hb')
      exact ⟨.type "tuple", h2 ▸ (PySem.W.Looks.ld h1).andThen .now, nf⟩
  obtain ⟨tb, tl, hn⟩ := tl
  refine PySem.W.cmp_K (op := .Eq) (tb := tb) hr.units0 hF I.ok.mod.kin J tl hn hs hf ?_
  have hl := F.len _ _ _ _ hsp
  have r2 : Vals [V.ref a, y] [Value.ref a, u] := .cons rfl (.cons ry .nil)
  refine wpAny_call (codeAny_mono (F.run X.A X.stack s H ⟨[.ref a, u], []⟩ [.ref a, u] [.ref a, y] _ E0 hr I.env0 (by
    have := hb s [.ref a, u] I.kIn (by simpa using hl)
    simpa using this) r2 hsp) fun r s' hq => ?_)
  cases r with
  | error e => exact (show False from hq).elim
  | ok fl =>
    cases fl with
    | ret w =>
      obtain ⟨z, H', I', rz, k, ez, q⟩ := I.after hq
      subst ez
      cases rz
      exact ⟨.bl k, H', I', rfl, q⟩
    | next => exact False.elim hq
    | brk => exact False.elim hq
    | cont => exact False.elim hq
/-! ### whole numbers by rows -/
/-- the tables of a machine as lists of whole numbers -/
abbrev Ts := List (List Int)
def vrow (t : List Int) : List V := t.map V.int
def vts (ts : Ts) : List (List V) := ts.map vrow
def dI (t : List Int) : List PyData := t.map PyData.int
def dT (ts : Ts) : PyData := .tuple (ts.map fun t => .tuple (dI t))
section
variable {K : PySem.W.Frag} {H : Hp}
theorem dp_ints : ∀ t : List Int, DpAll K H (vrow t) (dI t)
  | [] => .nil
  | i :: r => .cons (.int i) (dp_ints r)
theorem dp_tup {a : Addr} {t : List Int} (h : H a = some (.tup (vrow t))) : Dp K H (.ref a) (.tuple (dI t)) := .tup (SqT.of h) (dp_ints t)
theorem dp_refs : ∀ (as : List Addr) (ts : Ts), as.length = ts.length → (∀ (i : Nat) a t, as[i]? = some a → (vts ts)[i]? = some t → H a = some (.tup t)) → DpAll K H (as.map V.ref) (ts.map fun t => PyData.tuple (dI t))
  | [], [], _, _ => .nil
  | a :: as, t :: ts, hl, h => .cons (dp_tup (h 0 a (vrow t) rfl rfl)) (dp_refs as ts (Nat.succ.inj hl) fun i b u e1 e2 => h (i + 1) b u e1 e2)
  | [], _ :: _, hl, _ => nomatch hl
  | _ :: _, [], hl, _ => nomatch hl
theorem TabsAt.dp {ta : Addr} {ts : Ts} (h : TabsAt H ta (vts ts)) : Dp K H (.ref ta) (dT ts) := by
  obtain ⟨as, h1, h2, h3⟩ := h
  exact .tup (SqT.of h1) (dp_refs as ts (by rw [h2]; exact List.length_map _) h3)
end
/-- plain data: shown shortly, compared by what they hold -/
structure Pl (d : PyData) (n w : Nat) : Prop where
  lay : d.canLay0 = true
  sh : d.showable = true
  nd : d.hasDict = false
  dp : d.depth ≤ n
  wt : d.weight ≤ w
  sr : d.leavesShort 20 = true
structure PlA (ds : List PyData) (n w : Nat) : Prop where
  lay : PyData.canLayAll0 ds = true
  sh : PyData.showableAll ds = true
  nd : PyData.hasDictAll ds = false
  dp : PyData.depthAll ds ≤ n
  wt : PyData.weightAll ds ≤ w
  sr : PyData.leavesShortAll 20 ds = true
theorem Pl.int {i : Int} (h : i.natAbs < 10 ^ 19) : Pl (.int i) 0 64 := by
  have h3 : i.natAbs ≠ 0 → i.natAbs.log2 < 64 := fun z => (Nat.log2_lt z).mpr (Nat.lt_of_lt_of_le h (by decide))
  refine ⟨by simp only [PyData.canLay0], ?_, by simp only [PyData.hasDict], by simp only [PyData.depth]; omega, ?_, ?_⟩
  · simp only [PyData.showable, decide_eq_true_eq]
    by_cases z : i.natAbs = 0
    · rw [z]; decide
    · have := h3 z
      omega
  · simp only [PyData.weight]
    split
    · omega
    · rename_i z
      have := h3 (fun e => z (by rw [Int.natAbs_eq_zero.mp e]; rfl))
      omega
  · have e := int_text_length_le10 (a := i) (k := 19) (by decide) h
    simp only [PyData.leavesShort, decide_eq_true_eq, PyData.shown]
    exact decide_eq_true (Nat.le_trans (Nat.le_of_eq (PySem.ofString_length _)) e)
theorem Pl.bl (b : Bool) : Pl (.bool b) 0 0 := ⟨by simp only [PyData.canLay0], by simp only [PyData.showable], by simp only [PyData.hasDict], by simp only [PyData.depth]; omega, by simp only [PyData.weight]; omega, by simp only [PyData.leavesShort]⟩
theorem PlA.nil : PlA [] 0 0 := ⟨by simp only [PyData.canLayAll0], by simp only [PyData.showableAll], by simp only [PyData.hasDictAll], by simp only [PyData.depthAll]; omega, by simp only [PyData.weightAll]; omega, by simp only [PyData.leavesShortAll]⟩
theorem PlA.cons {d : PyData} {ds : List PyData} {n m u v : Nat} (a : Pl d n u) (b : PlA ds m v) : PlA (d :: ds) (max n m) (u + 1 + v) := by
  refine ⟨by simp only [PyData.canLayAll0, a.lay, b.lay, Bool.and_self], by simp only [PyData.showableAll, a.sh, b.sh, Bool.and_self], by simp only [PyData.hasDictAll, a.nd, b.nd, Bool.or_self], ?_, ?_, by simp only [PyData.leavesShortAll, a.sr, b.sr, Bool.and_self]⟩
  · have h1 := a.dp; have h2 := b.dp
    simp only [PyData.depthAll]; omega
  · have h1 := a.wt; have h2 := b.wt
    simp only [PyData.weightAll]; omega
theorem Pl.list {ds : List PyData} {n w : Nat} (a : PlA ds n w) : Pl (.list ds) (n + 1) w := by
  refine ⟨by simp only [PyData.canLay0, a.lay], by simp only [PyData.showable, a.sh], by simp only [PyData.hasDict, a.nd], ?_, ?_, by simp only [PyData.leavesShort, a.sr]⟩
  · have h1 := a.dp
    simp only [PyData.depth]; omega
  · have h1 := a.wt
    simp only [PyData.weight]; omega
theorem Pl.tuple {ds : List PyData} {n w : Nat} (a : PlA ds n w) : Pl (.tuple ds) (n + 1) w := by
  refine ⟨by simp only [PyData.canLay0, a.lay], by simp only [PyData.showable, a.sh], by simp only [PyData.hasDict, a.nd], ?_, ?_, by simp only [PyData.leavesShort, a.sr]⟩
  · have h1 := a.dp
    simp only [PyData.depth]; omega
  · have h1 := a.wt
    simp only [PyData.weight]; omega
theorem Pl.mono {d : PyData} {n w m v : Nat} (a : Pl d n w) (h1 : n ≤ m) (h2 : w ≤ v) : Pl d m v := ⟨a.lay, a.sh, a.nd, Nat.le_trans a.dp h1, Nat.le_trans a.wt h2, a.sr⟩
theorem PlA.mono {d : List PyData} {n w m v : Nat} (a : PlA d n w) (h1 : n ≤ m) (h2 : w ≤ v) : PlA d m v := ⟨a.lay, a.sh, a.nd, Nat.le_trans a.dp h1, Nat.le_trans a.wt h2, a.sr⟩
theorem Pl.shaped {d : PyData} {n w : Nat} (a : Pl d n w) (h : n ≤ 40) : SeqAt.shaped d = true := by
  have := a.dp
  unfold SeqAt.shaped
  rw [a.lay, decide_eq_true (by omega)]; rfl
theorem Pl.short {d : PyData} {n w : Nat} (a : Pl d n w) (h : w ≤ 100000) : d.shown.length ≤ sizeLine := by
  have h1 := PyData.shown_le 20 (by decide) d a.sr
  have h2 := a.wt
  rw [sizeLine_eq]
  omega
/-- rows of whole numbers below 10 ^ 19 -/
theorem pla_ints : ∀ t : List Int, (∀ i ∈ t, i.natAbs < 10 ^ 19) → PlA (dI t) 0 (t.length * 65)
  | [], _ => PlA.nil
  | i :: r, h => (PlA.cons (Pl.int (h i List.mem_cons_self)) (pla_ints r fun j hj => h j (List.mem_cons_of_mem _ hj))).mono (by omega) (by show 64 + 1 + r.length * 65 ≤ (r.length + 1) * 65; omega)
theorem pla_rows {n : Nat} : ∀ ts : Ts, (∀ t ∈ ts, t.length ≤ n ∧ ∀ i ∈ t, i.natAbs < 10 ^ 19) → PlA (ts.map fun t => PyData.tuple (dI t)) 1 (ts.length * (n * 65 + 1))
  | [], _ => PlA.nil.mono (by omega) (by omega)
  | t :: r, h => by
    obtain ⟨h1, h2⟩ := h t List.mem_cons_self
    refine (PlA.cons (Pl.tuple (pla_ints t h2)) (pla_rows r fun u hu => h u (List.mem_cons_of_mem _ hu))).mono (by omega) ?_
    show t.length * 65 + 1 + r.length * (n * 65 + 1) ≤ (r.length + 1) * (n * 65 + 1)
    rw [Nat.add_mul]
    omega
theorem pl_dT {n : Nat} {ts : Ts} (h : ∀ t ∈ ts, t.length ≤ n ∧ ∀ i ∈ t, i.natAbs < 10 ^ 19) : Pl (dT ts) 2 (ts.length * (n * 65 + 1)) := Pl.tuple (pla_rows ts h)
end K1
namespace K1
open PySem PySem.Spec PyProof.Rows L2
/-- tables that are shown and compared: few, of few states -/
def Few (ts : Ts) : Prop := ts.length ≤ 8 ∧ ∀ t ∈ ts, t.length ≤ 12 ∧ ∀ i ∈ t, i.natAbs < 10 ^ 19
theorem Few.pl {ts : Ts} (h : Few ts) : Pl (dT ts) 2 10000 := (pl_dT h.2).mono (Nat.le_refl _) (by have := h.1; have : ts.length * (12 * 65 + 1) ≤ 8 * (12 * 65 + 1) := Nat.mul_le_mul_right _ h.1; omega)
/-- machine == other: another machine with the same tables, or a tuple -/
def spMEq (M : Addr) : Sp := fun vs H Q _ => ∃ m ta ts v, vs = [.ref m, v] ∧ MachAt M H m ta (vts ts) ∧ Few ts ∧
  ((∃ m2 ta2, v = .ref m2 ∧ MachAt M H m2 ta2 (vts ts) ∧ Q (.bl true) H) ∨ (∃ a xs, v = .ref a ∧ H a = some (.tup xs) ∧ Q (.bl false) H))
/-- which answers isinstance gives of the class -/
structure McI (K : PySem.W.Frag) (M : Addr) : Prop where
  y : PySem.W.kitOne K (.ref M) (.ref M) = some true
  n : PySem.W.kitOne K (.type "tuple") (.ref M) = some false
def spNeed (M C : Addr) (fld : Str) (g : Ts → Nat) : Sp := fun vs H Q E => ∃ m ta ts v, vs = [.ref m, v] ∧ MachAt M H m ta (vts ts) ∧ (∃ (K : PySem.W.Frag) (o : Option (List V)), KV K H v o) ∧
  (belowB v (g ts : Int) = true → Q v H) ∧ (belowB v (g ts : Int) = false → Rz C fld v H E)
theorem ints_of {t0 : List V} {ts : Ts} (h : (vts ts)[0]? = some t0) : ∃ r : List Int, ts[0]? = some r ∧ t0 = vrow r := by
  rw [vts, List.getElem?_map] at h
  cases e : ts[0]? with
  | none => rw [e] at h; cases h
  | some r =>
    rw [e] at h
    exact ⟨r, rfl, (Option.some.inj h).symm⟩
/-- how many states -/
def nS (ts : Ts) : Nat := (ts[0]?.getD []).length
theorem MachAt.fs {M : Addr} {H : Hp} {m ta : Addr} {ts : Ts} (h : MachAt M H m ta (vts ts)) : ∃ dx : Addr, H m = some (.ins M dx (mf ta (ts.length : Int) (nS ts : Int))) := by
  obtain ⟨⟨dx, t0, h0, h1⟩, _⟩ := h
  obtain ⟨r, hr, rfl⟩ := ints_of h0
  refine ⟨dx, ?_⟩
  rw [h1]
  have e1 : (vts ts).length = ts.length := List.length_map _
  have e2 : (vrow r).length = nS ts := by
    unfold nS
    rw [hr]
    exact List.length_map _
  rw [e1, e2]
section
variable {P : Program} {w : World} {K : PySem.W.Frag} {mg : Str → Option Value} {base : Heap}
theorem scME : FnScope ["self", "other"] ["self", "other"] (defScope sMEq) := ⟨rfl, rfl, rfl, by decide +kernel, rfl, by decide +kernel, by decide +kernel⟩
theorem ok_meq {f M : Addr} {fd : FuncData} (F : Fun K "__eq__" "Machine.__eq__" sMEq f fd) (B : Bt mg) (T : McT K mg M) (T2 : McI K M) : FnOk P w K mg base CX0 1 f fd ["self", "other"] (spMEq M) := by
  refine F.ok scME (fun vs H Q E h => ?_) (fun cdv A outer s H vs Q E hr h => ?_)
  · obtain ⟨m, ta, ts, v, rfl, _⟩ := h
    rfl
  · obtain ⟨m, ta, ts, v, rfl, hM, hF, q⟩ := h
    refine ⟨_, pss_one (ps_ret (pe_and (pe_callB call_isi (by rfl) B.isinstance (by decide +kernel) (pa_cons (pv 1) (pa_cons (pe_glob (v := .ref M) (by rfl) T.g rfl) pa_nil)))
      (pe_one (pe_cmpR (op_eqD hr.units) (pe_fld (pv 0) rfl) (pe_fld (pv 1) rfl) (nomark _))))), ?_⟩
    obtain ⟨dx, h1⟩ := hM.fs
    rcases q with ⟨m2, ta2, rfl, hM2, q⟩ | ⟨a, xs, rfl, ha, q⟩
    · obtain ⟨dx2, h2⟩ := hM2.fs
      refine ⟨_, rfl, _, _, _, _, _, rfl, .own M, .base (.ins h2 T.cl T.ca T.sp T.tk T.mo), T2.y, _, rfl, iteT ?_⟩
      refine ⟨_, rfl, m, M, dx, _, _, rfl, h1, T.cl, T.nT, mf_t _ _ _, _, rfl, m2, M, dx2, _, _, rfl, h2, T.cl, T.nT, mf_t _ _ _, dT ts, dT ts, hM.2.dp, hM2.2.dp, hF.pl.shaped (by decide), hF.pl.shaped (by decide), qbl ?_ q⟩
      exact SeqAt.eqv_refl _ hF.pl.lay
    · refine ⟨_, rfl, _, _, _, _, _, rfl, .own M, .base (.tup ha), T2.n, _, rfl, iteF q⟩
theorem scNS : FnScope ["machine", "state"] ["machine", "state"] (defScope sNeedS) := ⟨rfl, rfl, rfl, by decide +kernel, rfl, by decide +kernel, by decide +kernel⟩
theorem ok_needS {f fB C M cI : Addr} {fd fdB : FuncData} {bm : List Value} {ql : Str} (D : Df K mg "need_state" sNeedS ["machine", "state"] f fd) (DB : Df K mg "is_below" sBelow ["value", "limit"] fB fdB) (T : McT K mg M) (TX : LState.Txt K mg "NoState" ql bm C cI)
    (GB : FnOk P w K mg base CX0 2 fB fdB ["value", "limit"] (spBelow K)) : FnOk P w K mg base (L2.CX P w) 3 f fd ["machine", "state"] (spNeed M C "state" nS) := by
  refine D.F.okX scNS (fun vs H Q E h => ?_) (fun cdv A outer s H vs Q E hr h => ?_)
  · obtain ⟨m, ta, ts, v, rfl, _⟩ := h
    rfl
  · obtain ⟨m, ta, ts, v, rfl, hM, ⟨K', o, kv⟩, q1, q2⟩ := h
    refine ⟨_, pss_cons (ps_if (pt_not (pt_val (pc DB GB hr pass0 (pa_cons (pv 1) (pa_cons (pe_fld (pv 0) rfl) pa_nil))))) (pss_one (ps_raise_LState rfl TX hr (takes_of rfl rfl rfl rfl) (pa_cons (pv 1) pa_nil))) pss_nil) (pss_one (ps_ret (pv 1))), ?_⟩
    obtain ⟨dx, h1⟩ := hM.fs
    have kv' : KV K H v o := by cases kv <;> first | exact .int _ | exact .bl _ | exact .non | exact .str _ | exact .lst (by assumption) | exact .tup (by assumption)
    refine ⟨_, rfl, _, rfl, m, M, dx, _, _, rfl, h1, T.cl, T.nS, mf_s _ _ _, v, o, _, rfl, kv', _, rfl, ifD (fun e => ?_) fun e => ?_⟩
    · exact ⟨_, rfl, _, rfl, fun d hd => q2 (by simpa using e) d _ (same_new hd) hd upd_same⟩
    · exact ⟨_, rfl, q1 (by simpa using e)⟩
theorem scND : FnScope ["machine", "deed"] ["machine", "deed"] (defScope sNeedD) := ⟨rfl, rfl, rfl, by decide +kernel, rfl, by decide +kernel, by decide +kernel⟩
theorem ok_needD {f fB C M cI : Addr} {fd fdB : FuncData} {bm : List Value} {ql : Str} (D : Df K mg "need_deed" sNeedD ["machine", "deed"] f fd) (DB : Df K mg "is_below" sBelow ["value", "limit"] fB fdB) (T : McT K mg M) (TX : LDeed.Txt K mg "NoDeed" ql bm C cI)
    (GB : FnOk P w K mg base CX0 2 fB fdB ["value", "limit"] (spBelow K)) : FnOk P w K mg base (L2.CX P w) 3 f fd ["machine", "deed"] (spNeed M C "deed" List.length) := by
  refine D.F.okX scND (fun vs H Q E h => ?_) (fun cdv A outer s H vs Q E hr h => ?_)
  · obtain ⟨m, ta, ts, v, rfl, _⟩ := h
    rfl
  · obtain ⟨m, ta, ts, v, rfl, hM, ⟨K', o, kv⟩, q1, q2⟩ := h
    refine ⟨_, pss_cons (ps_if (pt_not (pt_val (pc DB GB hr pass0 (pa_cons (pv 1) (pa_cons (pe_fld (pv 0) rfl) pa_nil))))) (pss_one (ps_raise_LDeed rfl TX hr (takes_of rfl rfl rfl rfl) (pa_cons (pv 1) pa_nil))) pss_nil) (pss_one (ps_ret (pv 1))), ?_⟩
    obtain ⟨dx, h1⟩ := hM.fs
    have kv' : KV K H v o := by cases kv <;> first | exact .int _ | exact .bl _ | exact .non | exact .str _ | exact .lst (by assumption) | exact .tup (by assumption)
    refine ⟨_, rfl, _, rfl, m, M, dx, _, _, rfl, h1, T.cl, T.nD, mf_d _ _ _, v, o, _, rfl, kv', _, rfl, ifD (fun e => ?_) fun e => ?_⟩
    · exact ⟨_, rfl, _, rfl, fun d hd => q2 (by simpa using e) d _ (same_new hd) hd upd_same⟩
    · exact ⟨_, rfl, q1 (by simpa using e)⟩
end
end K1
namespace K1
open PySem PySem.Spec PyProof.Rows L2
def rowF (r : Option (List V)) (n : Int) : V := if seqB r 0 10000 = true then fnb (r.getD []) n else .int (-1)
theorem fnb_non {xs : List V} {lim : Int} (h : fnb xs lim = .non) : ∀ x ∈ xs, belowB x lim = true := by
  unfold fnb at h
  cases e : xs.findIdx? (fun x => !belowB x lim) with
  | some i => rw [e] at h; cases h
  | none =>
    rw [List.findIdx?_eq_none_iff] at e
    intro x hx
    simpa using e x hx
theorem fnb_all {xs : List V} {lim : Int} (h : ∀ x ∈ xs, belowB x lim = true) : fnb xs lim = .non := fnb_none fun j y _ hy => h y (List.mem_of_getElem? hy)
theorem rowF_non {r : Option (List V)} {n : Int} (h : rowF r n = .non) : ∃ xs, r = some xs ∧ ∀ x ∈ xs, belowB x n = true := by
  unfold rowF at h
  by_cases e : seqB r 0 10000 = true
  · rw [if_pos e] at h
    cases r with
    | none => cases e
    | some xs => exact ⟨xs, rfl, fnb_non h⟩
  · rw [if_neg e] at h
    cases h
/-- where a deed leads a state; where a row leads it -/
def stp (ts : Ts) (s d : Int) : Int := ((ts[d.toNat]?.getD [])[s.toNat]?).getD 0
def run (ts : Ts) (s : Int) (row : List Int) : Int := row.foldl (stp ts) s
/-- well made tables -/
structure Wf (ts : Ts) : Prop where
  t1 : 1 ≤ ts.length
  t8 : ts.length ≤ 8
  s1 : 1 ≤ nS ts
  s12 : nS ts ≤ 12
  row : ∀ t ∈ ts, t.length = nS ts ∧ ∀ i ∈ t, 0 ≤ i ∧ i < (nS ts : Int)
theorem Wf.few {ts : Ts} (h : Wf ts) : Few ts := ⟨h.t8, fun t ht => ⟨by rw [(h.row t ht).1]; exact h.s12, fun i hi => by
  have := (h.row t ht).2 i hi
  have := h.s12
  omega⟩⟩
theorem Wf.at_ {ts : Ts} (h : Wf ts) {s d : Int} (hd : 0 ≤ d ∧ d < ts.length) (hs : 0 ≤ s ∧ s < (nS ts : Int)) : ∃ t, ts[d.toNat]? = some t ∧ t[s.toNat]? = some (stp ts s d) ∧ 0 ≤ stp ts s d ∧ stp ts s d < (nS ts : Int) := by
  have h1 : d.toNat < ts.length := by omega
  have ht : ts[d.toNat]? = some ts[d.toNat] := by simp [h1]
  have hm : ts[d.toNat] ∈ ts := List.getElem_mem h1
  obtain ⟨r1, r2⟩ := h.row _ hm
  have h2 : s.toNat < ts[d.toNat].length := by rw [r1]; omega
  have e : stp ts s d = ts[d.toNat][s.toNat] := by
    unfold stp
    rw [ht]
    simp [h2]
  refine ⟨_, ht, by rw [e]; simp [h2], ?_⟩
  rw [e]
  exact r2 _ (List.getElem_mem h2)
theorem Wf.run {ts : Ts} (h : Wf ts) : ∀ (row : List Int) (s : Int), (∀ d ∈ row, 0 ≤ d ∧ d < (ts.length : Int)) → 0 ≤ s ∧ s < (nS ts : Int) → 0 ≤ run ts s row ∧ run ts s row < (nS ts : Int)
  | [], s, _, hs => hs
  | d :: r, s, hd, hs => by
    obtain ⟨t, _, _, h3⟩ := h.at_ (hd d List.mem_cons_self) hs
    exact Wf.run h r (stp ts s d) (fun e he => hd e (List.mem_cons_of_mem _ he)) h3
theorem run_snoc (ts : Ts) (s : Int) (row : List Int) (d : Int) : run ts s (row ++ [d]) = stp ts (run ts s row) d := by
  unfold run
  rw [List.foldl_append]; rfl
theorem take_succ {α : Type} {l : List α} {i : Nat} {x : α} (h : l[i]? = some x) : l.take (i + 1) = l.take i ++ [x] := by
  rw [List.take_add_one, h]; rfl
def spMoved (M : Addr) : Sp := fun vs H Q _ => ∃ m ta ts s p row, vs = [.ref m, .int s, .ref p] ∧ MachAt M H m ta (vts ts) ∧ Wf ts ∧ (0 ≤ s ∧ s < (nS ts : Int)) ∧ H p = some (.tup (vrow row)) ∧ (∀ d ∈ row, 0 ≤ d ∧ d < (ts.length : Int)) ∧ Q (.int (run ts s row)) H
section
variable {P : Program} {w : World} {K : PySem.W.Frag} {mg : Str → Option Value} {base : Heap}
theorem scMv : FnScope ["machine", "state", "row", "deed"] ["machine", "state", "row"] (defScope sMoved) := ⟨rfl, rfl, rfl, by decide +kernel, rfl, by decide +kernel, by decide +kernel⟩
theorem ok_moved {f M : Addr} {fd : FuncData} (D : Df K mg "moved" sMoved ["machine", "state", "row"] f fd) (T : McT K mg M) : FnOk P w K mg base CX0 1 f fd ["machine", "state", "row"] (spMoved M) := by
  refine D.F.ok scMv (fun vs H Q E h => ?_) (fun cdv A outer s H vs Q E hr h => ?_)
  · obtain ⟨m, ta, ts, v, p, row, rfl, _⟩ := h
    rfl
  · obtain ⟨m, ta, ts, s0, p, row, rfl, hM, hW, hs, hp, hd, q⟩ := h
    refine ⟨_, pss_cons (ps_for PassesOwn.never rfl (pi_tup (pv 2)) (pg_name (i := 3) scMv.nd rfl (.inl rfl)) (pss_one (ps_set (i := 1) scMv.nd rfl (.inl rfl) (pe_ix ix_tup (pe_ix ix_tup (pe_fld (pv 0) rfl) (pv 3) (fun _ _ => rfl)) (pv 1) (fun _ _ => rfl)))))
      (pss_one (ps_ret (pv 1))), ?_⟩
    refine ⟨_, rfl, p, rfl, ⟨_, SqT.of hp⟩, for_tup (K := K) (a := p) (xs := vrow row) (fun i σ H' => ∃ v3 : Option V, σ = [some (.ref m), some (.int (run ts s0 (row.take i))), some (.ref p), v3] ∧ H' = H)
      ⟨none, rfl, rfl⟩ (fun i σ H' _ ⟨_, _, e⟩ => by rw [e]; exact SqT.of hp) ?_ ?_⟩
    · rintro i y σ H' hi ⟨v3, rfl, rfl⟩
      obtain ⟨d, ed, rfl⟩ : ∃ d, row[i]? = some d ∧ y = V.int d := by
        rw [vrow, List.getElem?_map] at hi
        cases e : row[i]? with
        | none => rw [e] at hi; cases hi
        | some z =>
          rw [e] at hi
          exact ⟨z, rfl, (Option.some.inj hi).symm⟩
      have hb := hd d (List.mem_of_getElem? ed)
      have hr' := hW.run (row.take i) s0 (fun e he => hd e (List.mem_of_mem_take he)) hs
      obtain ⟨t, h1, h2, h3⟩ := hW.at_ hb hr'
      obtain ⟨dx, hm⟩ := hM.fs
      obtain ⟨as, ha1, ha2, ha3⟩ := hM.2
      have hla : d.toNat < as.length := by rw [ha2, vts, List.length_map]; omega
      have hA : as[d.toNat]? = some as[d.toNat] := by simp [hla]
      have hT := ha3 d.toNat _ (vrow t) hA (by rw [vts, List.getElem?_map, h1]; rfl)
      refine ⟨_, rfl, m, M, dx, _, _, rfl, hm, T.cl, T.nT, mf_t _ _ _, _, rfl, ta, _, d, _, rfl, rfl, SqT.of ha1, at_of (j := d.toNat) (by omega) (by rw [List.getElem?_map, hA]; rfl), ?_⟩
      refine ⟨_, rfl, _, _, _, .int (stp ts (run ts s0 (row.take i)) d), rfl, rfl, SqT.of hT, at_of (j := (run ts s0 (row.take i)).toNat) (by omega) (by rw [vrow, List.getElem?_map, h2]; rfl), ?_⟩
      refine ⟨some (.int d), ?_, rfl⟩
      rw [take_succ ed, run_snoc]
      rfl
    · rintro σ H' ⟨v3, rfl, rfl⟩
      have e : row.take (vrow row).length = row := by rw [vrow, List.length_map, List.take_length]
      rw [e]
      exact ⟨_, rfl, q⟩
end
end K1
namespace K1
/-! ### rows: the shorter ones ahead, then by their deeds -/
def LL : List Int → List Int → Prop
  | _, [] => False
  | [], _ :: _ => True
  | a :: r, b :: q => a < b ∨ (a = b ∧ LL r q)
theorem LL.irrefl : ∀ r, ¬ LL r r
  | [], h => h
  | a :: r, h => by
    rcases h with h | ⟨_, h⟩
    · omega
    · exact LL.irrefl r h
theorem LL.trans : ∀ {r q s : List Int}, LL r q → LL q s → LL r s
  | _, _, [], _, h => by
    cases ‹List Int› <;> exact absurd h (by simp [LL])
  | _, [], _ :: _, h, _ => by
    cases ‹List Int› <;> exact absurd h (by simp [LL])
  | [], _ :: _, _ :: _, _, _ => True.intro
  | a :: r, b :: q, c :: s, h1, h2 => by
    rcases h1 with h1 | ⟨rfl, h1⟩
    · rcases h2 with h2 | ⟨rfl, h2⟩
      · exact .inl (by omega)
      · exact .inl h1
    · rcases h2 with h2 | ⟨rfl, h2⟩
      · exact .inl h2
      · exact .inr ⟨rfl, h1.trans h2⟩
theorem LL.tri : ∀ {r q : List Int}, r.length = q.length → r = q ∨ LL r q ∨ LL q r
  | [], [], _ => .inl rfl
  | a :: r, b :: q, h => by
    by_cases e1 : a < b
    · exact .inr (.inl (.inl e1))
    · by_cases e2 : b < a
      · exact .inr (.inr (.inl e2))
      · obtain rfl : a = b := by omega
        rcases LL.tri (r := r) (q := q) (by simpa using h) with e | e | e
        · exact .inl (by rw [e])
        · exact .inr (.inl (.inr ⟨rfl, e⟩))
        · exact .inr (.inr (.inr ⟨rfl, e⟩))
  | [], _ :: _, h => by cases h
  | _ :: _, [], h => by cases h
theorem LL.app : ∀ {r q : List Int} (s t : List Int), r.length = q.length → LL r q → LL (r ++ s) (q ++ t)
  | [], [], _, _, _, h => h.elim
  | a :: r, b :: q, s, t, hl, h => by
    rcases h with h | ⟨e, h⟩
    · exact .inl h
    · exact .inr ⟨e, LL.app s t (by simpa using hl) h⟩
  | [], _ :: _, _, _, h, _ => by cases h
  | _ :: _, [], _, _, h, _ => by cases h
theorem LL.app' : ∀ (r : List Int) {s t : List Int}, LL s t → LL (r ++ s) (r ++ t)
  | [], _, _, h => h
  | _ :: r, _, _, h => .inr ⟨rfl, LL.app' r h⟩
def rlt (r q : List Int) : Prop := r.length < q.length ∨ (r.length = q.length ∧ LL r q)
theorem rlt.irrefl (r : List Int) : ¬ rlt r r := fun h => by
  rcases h with h | ⟨_, h⟩
  · omega
  · exact LL.irrefl r h
theorem rlt.trans {r q s : List Int} (a : rlt r q) (b : rlt q s) : rlt r s := by
  rcases a with a | ⟨a1, a2⟩ <;> rcases b with b | ⟨b1, b2⟩
  · exact .inl (by omega)
  · exact .inl (by omega)
  · exact .inl (by omega)
  · exact .inr ⟨by omega, a2.trans b2⟩
theorem rlt.tri (r q : List Int) : r = q ∨ rlt r q ∨ rlt q r := by
  by_cases e1 : r.length < q.length
  · exact .inr (.inl (.inl e1))
  · by_cases e2 : q.length < r.length
    · exact .inr (.inr (.inl e2))
    · have e : r.length = q.length := by omega
      rcases LL.tri e with h | h | h
      · exact .inl h
      · exact .inr (.inl (.inr ⟨e, h⟩))
      · exact .inr (.inr (.inr ⟨e.symm, h⟩))
theorem rlt.app {r q : List Int} (d e : Int) (h : rlt r q) : rlt (r ++ [d]) (q ++ [e]) := by
  rcases h with h | ⟨h1, h2⟩
  · exact .inl (by simp only [List.length_append, List.length_cons, List.length_nil]; omega)
  · exact .inr ⟨by simp only [List.length_append, List.length_cons, List.length_nil]; omega, LL.app _ _ h1 h2⟩
theorem rlt.last (r : List Int) {d e : Int} (h : d < e) : rlt (r ++ [d]) (r ++ [e]) := .inr ⟨by simp, LL.app' r (.inl h)⟩
theorem rlt.nil {r : List Int} (h : r ≠ []) : rlt [] r := .inl (by cases r with | nil => exact absurd rfl h | cons a r => simp)
def rle (r q : List Int) : Prop := r = q ∨ rlt r q
theorem rle.trans {r q s : List Int} (a : rle r q) (b : rle q s) : rle r s := by
  rcases a with rfl | a
  · exact b
  · rcases b with rfl | b
    · exact .inr a
    · exact .inr (a.trans b)
theorem rle.anti {r q : List Int} (a : rle r q) (b : rle q r) : r = q := by
  rcases a with rfl | a
  · rfl
  · rcases b with rfl | b
    · rfl
    · exact absurd (a.trans b) (rlt.irrefl _)
theorem rle.app {r q : List Int} (d : Int) (h : rle r q) : rle (r ++ [d]) (q ++ [d]) := by
  rcases h with rfl | h
  · exact .inl rfl
  · exact .inr (h.app d d)
/-! ### the search by rows, told without a heap -/
abbrev KR := List Int × List Int
def path {α : Type} (act : α → Int → α) (s : α) (r : List Int) : α := r.foldl act s
theorem path_snoc {α : Type} (act : α → Int → α) (s : α) (r : List Int) (d : Int) : path act s (r ++ [d]) = act (path act s r) d := by
  unfold path
  rw [List.foldl_append]; rfl
/-- all deeds of the first i things, and the first d deeds of the next one, are done -/
structure Bf {α : Type} (act : α → Int → α) (n : Nat) (s : α) (F : List (α × List Int)) (i d : Nat) : Prop where
  nd : (F.map (·.1)).Nodup
  h0 : F[0]? = some (s, [])
  pth : ∀ (j : Nat) k r, F[j]? = some (k, r) → k = path act s r ∧ (∀ e ∈ r, 0 ≤ e ∧ e < (n : Int)) ∧ r.length ≤ j
  asc : ∀ (j j' : Nat) k k' r r', j < j' → F[j]? = some (k, r) → F[j']? = some (k', r') → rlt r r'
  old : ∀ (j : Nat) k r, F[j]? = some (k, r) → r = [] ∨ ∃ (p : Nat) (kp : α) (rp : List Int) (e : Int), F[p]? = some (kp, rp) ∧ r = rp ++ [e] ∧ 0 ≤ e ∧ (p < i ∨ (p = i ∧ e < (d : Int)))
  cl : ∀ (p : Nat) kp rp (e : Int), F[p]? = some (kp, rp) → 0 ≤ e → e < (n : Int) → (p < i ∨ (p = i ∧ e < (d : Int))) → ∃ (j : Nat) (r : List Int), F[j]? = some (act kp e, r) ∧ rle r (rp ++ [e])
variable {α : Type} {act : α → Int → α} {n : Nat} {s : α} {F : List (α × List Int)} {i d : Nat}
theorem Bf.init : Bf act n s [(s, [])] 0 0 := by
  have one : ∀ (j : Nat) k r, ([(s, [])] : List (α × List Int))[j]? = some (k, r) → j = 0 ∧ k = s ∧ r = [] := fun j k r h => by
    cases j with
    | zero =>
      have e : (s, []) = (k, r) := Option.some.inj h
      injection e with e1 e2
      exact ⟨rfl, e1.symm, e2.symm⟩
    | succ j => cases h
  refine ⟨by simp, rfl, fun j k r h => ?_, fun j j' k k' r r' hj h h' => ?_, fun j k r h => .inl (one j k r h).2.2, fun p kp rp e h _ _ z => ?_⟩
  · obtain ⟨rfl, rfl, rfl⟩ := one j k r h
    exact ⟨rfl, fun e he => absurd he (by simp), Nat.zero_le _⟩
  · have := (one j' k' r' h').1
    omega
  · obtain ⟨rfl, rfl, rfl⟩ := one p kp rp h
    omega
/-- a row of the search against the row that is looked at -/
theorem Bf.ahead (b : Bf act n s F i d) {ki : α} {ri : List Int} (hi : F[i]? = some (ki, ri)) {j : Nat} {k : α} {r : List Int} (h : F[j]? = some (k, r)) : rlt r (ri ++ [(d : Int)]) := by
  rcases b.old j k r h with rfl | ⟨p, kp, rp, e, hp, rfl, _, z⟩
  · exact rlt.nil (by simp)
  · rcases z with z | ⟨rfl, z⟩
    · exact (b.asc p i kp ki rp ri z hp hi).app _ _
    · rw [hp] at hi
      have e2 : (kp, rp) = (ki, ri) := Option.some.inj hi
      injection e2 with _ e2
      subst e2
      exact rlt.last _ z
theorem Bf.more (b : Bf act n s F i d) {j : Nat} {k : α} {r : List Int} {ki : α} {ri : List Int} (hi : F[i]? = some (ki, ri)) (h : F[j]? = some (k, r)) (hk : k = act ki d) : Bf act n s F i (d + 1) := by
  refine ⟨b.nd, b.h0, b.pth, b.asc, fun j k r h => ?_, fun p kp rp e hp h0 hn z => ?_⟩
  · rcases b.old j k r h with e | ⟨p, kp, rp, e, hp, e1, e2, z⟩
    · exact .inl e
    · exact .inr ⟨p, kp, rp, e, hp, e1, e2, by omega⟩
  · by_cases q : p < i ∨ (p = i ∧ e < (d : Int))
    · exact b.cl p kp rp e hp h0 hn q
    · obtain ⟨rfl, rfl⟩ : p = i ∧ e = (d : Int) := by omega
      rw [hi] at hp
      have e2 : (ki, ri) = (kp, rp) := Option.some.inj hp
      injection e2 with e1 e2
      subst e1
      subst e2
      subst hk
      exact ⟨j, r, h, .inr (b.ahead hi h)⟩
theorem Bf.put (b : Bf act n s F i d) {ki : α} {ri : List Int} (hi : F[i]? = some (ki, ri)) (hn : act ki d ∉ F.map (·.1)) (hd : d < n) : Bf act n s (F ++ [(act ki d, ri ++ [(d : Int)])]) i (d + 1) := by
  have hil : i < F.length := (List.getElem?_eq_some_iff.mp hi).1
  have at_ : ∀ (j : Nat) k r, (F ++ [(act ki d, ri ++ [(d : Int)])])[j]? = some (k, r) → F[j]? = some (k, r) ∨ (j = F.length ∧ k = act ki d ∧ r = ri ++ [(d : Int)]) := fun j k r h => by
    by_cases hj : j < F.length
    · rw [List.getElem?_append_left hj] at h
      exact .inl h
    · rw [List.getElem?_append_right (by omega)] at h
      cases e : j - F.length with
      | zero =>
        rw [e] at h
        have e2 : (act ki d, ri ++ [(d : Int)]) = (k, r) := Option.some.inj h
        injection e2 with e1 e2
        exact .inr ⟨by omega, e1.symm, e2.symm⟩
      | succ q => rw [e] at h; cases h
  have up : ∀ (j : Nat) x, F[j]? = some x → (F ++ [(act ki d, ri ++ [(d : Int)])])[j]? = some x := fun j x h => by
    rw [List.getElem?_append_left (List.getElem?_eq_some_iff.mp h).1]; exact h
  have new : (F ++ [(act ki d, ri ++ [(d : Int)])])[F.length]? = some (act ki d, ri ++ [(d : Int)]) := by
    rw [List.getElem?_append_right (Nat.le_refl _), Nat.sub_self]; rfl
  refine ⟨?_, up _ _ b.h0, fun j k r h => ?_, fun j j' k k' r r' hj h h' => ?_, fun j k r h => ?_, fun p kp rp e hp h0 hne z => ?_⟩
  · rw [List.map_append, List.nodup_append]
    exact ⟨b.nd, by simp, fun y hy z hz e => by
      rw [List.map_cons, List.map_nil, List.mem_singleton] at hz
      rw [e, hz] at hy
      exact hn hy⟩
  · rcases at_ j k r h with h | ⟨rfl, rfl, rfl⟩
    · exact b.pth j k r h
    · obtain ⟨p1, p2, p3⟩ := b.pth i ki ri hi
      refine ⟨by rw [path_snoc, ← p1], fun e he => ?_, by simp only [List.length_append, List.length_cons, List.length_nil]; omega⟩
      rcases List.mem_append.mp he with he | he
      · exact p2 e he
      · rw [List.mem_singleton.mp he]; omega
  · rcases at_ j' k' r' h' with h' | ⟨rfl, rfl, rfl⟩
    · have hj' := (List.getElem?_eq_some_iff.mp h').1
      rcases at_ j k r h with h | ⟨rfl, _, _⟩
      · exact b.asc j j' k k' r r' hj h h'
      · omega
    · rcases at_ j k r h with h | ⟨rfl, _, _⟩
      · exact b.ahead hi h
      · omega
  · rcases at_ j k r h with h | ⟨rfl, rfl, rfl⟩
    · rcases b.old j k r h with e | ⟨p, kp, rp, e, hp, e1, e2, z⟩
      · exact .inl e
      · exact .inr ⟨p, kp, rp, e, up _ _ hp, e1, e2, by omega⟩
    · exact .inr ⟨i, ki, ri, d, up _ _ hi, rfl, by omega, by omega⟩
  · rcases at_ p kp rp hp with hp | ⟨rfl, _, _⟩
    · by_cases q : p < i ∨ (p = i ∧ e < (d : Int))
      · obtain ⟨j, r, h1, h2⟩ := b.cl p kp rp e hp h0 hne q
        exact ⟨j, r, up _ _ h1, h2⟩
      · obtain ⟨rfl, rfl⟩ : p = i ∧ e = (d : Int) := by omega
        rw [hi] at hp
        have e2 : (ki, ri) = (kp, rp) := Option.some.inj hp
        injection e2 with e1 e2
        subst e1
        subst e2
        exact ⟨F.length, _, new, .inl rfl⟩
    · omega
theorem Bf.next (b : Bf act n s F i n) : Bf act n s F (i + 1) 0 := by
  refine ⟨b.nd, b.h0, b.pth, b.asc, fun j k r h => ?_, fun p kp rp e hp h0 hn z => b.cl p kp rp e hp h0 hn (by omega)⟩
  rcases b.old j k r h with e | ⟨p, kp, rp, e, hp, e1, e2, z⟩
  · exact .inl e
  · exact .inr ⟨p, kp, rp, e, hp, e1, e2, by omega⟩
/-- all rows' first ones, ascending -/
structure Fst {α : Type} (act : α → Int → α) (n : Nat) (s : α) (F : List (α × List Int)) : Prop where
  nd : (F.map (·.1)).Nodup
  h0 : F[0]? = some (s, [])
  pth : ∀ (j : Nat) k r, F[j]? = some (k, r) → k = path act s r ∧ (∀ e ∈ r, 0 ≤ e ∧ e < (n : Int)) ∧ r.length ≤ j
  asc : ∀ (j j' : Nat) k k' r r', j < j' → F[j]? = some (k, r) → F[j']? = some (k', r') → rlt r r'
  all : ∀ r : List Int, (∀ e ∈ r, 0 ≤ e ∧ e < (n : Int)) → ∃ (j : Nat) (r' : List Int), F[j]? = some (path act s r, r') ∧ rle r' r
theorem Bf.done (b : Bf act n s F i 0) (hi : F.length ≤ i) : Fst act n s F := by
  refine ⟨b.nd, b.h0, b.pth, b.asc, fun r => ?_⟩
  generalize hm : r.length = m
  induction m generalizing r with
  | zero =>
    intro _
    obtain rfl : r = [] := List.eq_nil_of_length_eq_zero hm
    exact ⟨0, [], b.h0, .inl rfl⟩
  | succ m ih =>
    intro hr
    rcases List.eq_nil_or_concat r with rfl | ⟨q, e, rfl⟩
    · cases hm
    · have hq : q.length = m := by
        simp only [List.concat_eq_append, List.length_append, List.length_cons, List.length_nil] at hm
        omega
      rw [List.concat_eq_append] at hr ⊢
      obtain ⟨j, r', h1, h2⟩ := ih q hq fun x hx => hr x (List.mem_append_left _ hx)
      have he := hr e (List.mem_append_right _ (List.mem_singleton.mpr rfl))
      have hj := (List.getElem?_eq_some_iff.mp h1).1
      obtain ⟨j2, r2, h3, h4⟩ := b.cl j _ _ e h1 he.1 he.2 (.inl (by omega))
      exact ⟨j2, r2, by rw [path_snoc]; exact h3, h4.trans (h2.app e)⟩
end K1
namespace K1
open PySem PySem.Spec PyProof.Rows L2
/-! ### {k: v}, k a tuple -/
def tDispT (tk tv : TE) : TE := fun σ H Q => ∀ p, H p = none → tk σ (upd H p (.dT [])) fun x H1 => tv σ H1 fun y H2 => ∃ b k, x = .ref b ∧ H2 b = some (.tup (k.map kV)) ∧ H2 p = some (.dT []) ∧ Q (.ref p) (upd H2 p (.dT [(k, y)]))
theorem pe_dispT {X : Cx} {pos : Pos} {ke ve : Expr} {tk tv : TE} (hu : X.A.units < cLine) (hk : PE X ke tk) (hv : PE X ve tv) : PE X (.Dict [some ke] [ve] pos) (tDispT tk tv) := by
  refine ⟨fun pins s σ H Q I q => ?_⟩
  have hn := I.hok.fresh (Nat.le_refl s.heap.objs.size)
  have I1 := I.laid (a := s.heap.objs.size) (o := .dT []) (h' := s.heap.push { cls := .type "dict", data := .dict #[] }) (t' := s.toks) (fun _ _ q => Heap.get?_push_of_some _ q) (Nat.le_refl _) (dt_empty s.heap I.big)
  have P := pps_cons (pos := pos) hk hv pps_nil
  rw [arm_eval_Dict, zip_pairTrees [some ke] [ve] X.env pos rfl rfl, dictDisplay_pairs _ (by intro e; cases e) (by show 1 < 17; decide)]
  refine wpAny_bind (wpAny_standAt (wpAny_bind (wpAny_subDictH (knd := tupleKind (mixKind X.prog X.w)) (Q := fun d s' => wpAny (model X.prog X.w) X.A (pure (Value.ref d)) (EP X pins σ Q) X.xe s') hu (by show 1 ≤ 15; decide) ?_)))
  let Φ : V → V → Hp → Prop := fun x y H2 => ∃ b k, x = .ref b ∧ H2 b = some (.tup (k.map kV)) ∧ H2 s.heap.objs.size = some (.dT []) ∧ Q (.ref s.heap.objs.size) (upd H2 s.heap.objs.size (.dT [(k, y)]))
  refine thn (P.run pins _ σ _ (fun ps H2 => match ps with | [(x, y)] => Φ x y H2 | _ => False) I1 (q _ hn)) fun ws s2 hh => ?_
  obtain ⟨ps, H2, I2, rel, hh⟩ := hh
  match ps, hh with
  | [(x, y)], ⟨b, k, ex, hb, hp, q2⟩ =>
    cases rel with
    | cons r1 r2 =>
      cases r2
      rename_i u
      obtain ⟨u1, u2⟩ := u
      obtain ⟨rx, ry⟩ := r1
      subst ex
      obtain rfl : u1 = Value.ref b := rx
      obtain ⟨z, hd, xs, kt, dd⟩ := dt_of I2.hok hp
      cases kt
      refine ⟨[(k, b, u2)], ⟨rfl, rfl, key_of I2.hok hb, trivial⟩, dd, fun h' tk' dd' hs => wpAny_pure ?_⟩
      have dd2 : h'.DictOfH (tupleKind (mixKind X.prog X.w)) s.heap.objs.size [(k, b, u2)] := dd'
      have he : ∃ q, h'.get? s.heap.objs.size = some q := let ⟨q, _, _, hq, _⟩ := dd2; ⟨q, hq⟩
      obtain ⟨ob, es, ep, hq, h2, h3, h4, _, h5⟩ := dd2
      have nb : b ≠ s.heap.objs.size := ne_of hb hp (fun z => nomatch z)
      have kt2 : KT (upd H2 s.heap.objs.size (.dT [(k, y)])) [(k, y)] [(k, b, u2)] := .cons ⟨rfl, by rw [upd_ne nb]; exact hb, ry⟩ .nil
      refine ⟨.ref s.heap.objs.size, _, d_write (ob := .dT [(k, y)]) I2 (by rw [hp]; exact True.intro) hs he ⟨by show 1 ≤ sizeLine; decide, hd, _, kt2, ob, es, ep, hq, h2, h3, h4, h5⟩, rfl, q2⟩
/-! ### the keys of a dict that nobody else sees: locked for good -/
def iKeysF (td : TE) : TI := fun σ H R => td σ H fun x H1 => ∃ d kvs, x = .ref d ∧ H1 d = some (.dT kvs) ∧ ∀ o, R (Itkt d o kvs) (upd H1 d (.frz o (.dT kvs)))
theorem pi_keysF {X : Cx} {tg e : Expr} {td : TE} (he : PE X e td) : PI X tg e (iKeysF td) := by
  refine ⟨fun pins s σ H R I h => ?_⟩
  refine thn (he.run pins s σ H _ I h) fun u s1 ⟨x, H1, I1, rx, d, kvs, ex, hd0, q⟩ => ?_
  subst ex
  obtain rfl : u = Value.ref d := rx
  obtain ⟨o, I2⟩ := I1.lock hd0 trivial
  obtain ⟨hs, hgd, hx, es, ep, hdt, hsz, ent⟩ := I2.frzT upd_same
  refine iter_keys hs hgd hx hdt (pi_one (tk := s1.toks) I2 _ (turn_keysT _ hdt) ⟨_, Heap.get?_push_size _ rfl, rfl, ?_⟩ (q o))
  rw [hsz] <;> rfl
theorem lc_keysF {d : Addr} {o : Obj} {kvs : List (List Key × V)} {g : TG} {tt : TT} {te : TE} {vs : List Nat} {σ : L2.St} {H1 : Hp} {D : Addr} {Qd : Hp → Prop} (Pv : Nat → Hp → Prop) (h0 : Pv 0 (upd H1 D (.lst []))) (hl : ∀ i H, i ≤ kvs.length → Pv i H → H d = some (.frz o (.dT kvs)))
    (hs : ∀ (i : Nat) k v q H, kvs[i]? = some (k, v) → H q = some (.tup (k.map kV)) → Pv i H → g (.ref q) (wipe σ vs) H fun σ2 H2 => wipe σ2 vs = wipe σ vs ∧ tt σ2 H2 fun b H3 =>
      if b = true then te σ2 H3 fun y H4 => ∃ acc, H4 D = some (.lst acc) ∧ acc.length < sizeLine ∧ Pv (i + 1) (upd H4 D (.lst (acc ++ [y]))) else Pv (i + 1) H3) (hd : ∀ H, Pv kvs.length H → Qd H) :
    ∃ W : Nat → Nat → Hp → Prop, (∃ m, W 0 m (upd H1 D (.lst []))) ∧ ∀ i m H, W i m H →
      ((Itkt d o kvs).stop i H ∧ Qd H) ∨ ((Itkt d o kvs).go i H ∧ ∃ Nx : Hp → Prop, (∀ H', Nx H' → ∃ m', m' < m ∧ W (i + 1) m' H') ∧ ∀ x H', (Itkt d o kvs).yld i H x H' → g x (wipe σ vs) H' fun σ2 H2 => wipe σ2 vs = wipe σ vs ∧ tt σ2 H2 fun b H3 =>
        if b = true then te σ2 H3 fun y H4 => ∃ acc, H4 D = some (.lst acc) ∧ acc.length < sizeLine ∧ Nx (upd H4 D (.lst (acc ++ [y]))) else Nx H3) := by
  refine ⟨fun i m H => m = kvs.length - i ∧ i ≤ kvs.length ∧ Pv i H, ⟨kvs.length, by simp, Nat.zero_le _, h0⟩, ?_⟩
  rintro i m H ⟨rfl, hi, p⟩
  have q := hl i H hi p
  by_cases hlt : i < kvs.length
  · refine .inr ⟨⟨q, hlt⟩, Pv (i + 1), fun H' p' => ⟨kvs.length - (i + 1), by omega, rfl, hlt, p'⟩, fun x H' y => ?_⟩
    obtain ⟨e, k, v, b, e1, e2, e3⟩ := y
    subst e e2
    exact hs i k v b _ e1 e3 p
  · have e : i = kvs.length := by omega
    subst e
    exact .inl ⟨⟨q, Nat.le_refl _⟩, hd H p⟩
end K1
namespace K1
open PySem PySem.Spec PyProof.Rows L2
/-- at most as many as there are numbers -/
theorem nodup_le : ∀ (n : Nat) (L : List Int), L.Nodup → (∀ x ∈ L, 0 ≤ x ∧ x < (n : Int)) → L.length ≤ n
  | 0, L, _, h => by
    cases L with
    | nil => exact Nat.le_refl _
    | cons a r => have := h a List.mem_cons_self; omega
  | n + 1, L, nd, h => by
    have ih := nodup_le n (L.erase (n : Int)) (nd.erase _) fun x hx => by
      have h1 := h x (List.mem_of_mem_erase hx)
      have h2 : x ≠ (n : Int) := fun e => by
        rw [e] at hx
        exact (List.Nodup.mem_erase_iff nd).mp hx |>.1 rfl
      omega
    have h3 : L.length ≤ (L.erase (n : Int)).length + 1 := by
      by_cases hm : (n : Int) ∈ L
      · rw [List.length_erase_of_mem hm]; omega
      · rw [List.erase_of_not_mem hm]; omega
    omega
theorem val_some {kvs : List (List Key × V)} {k : List Key} {v : V} (h : valV kvs k = some v) : ∃ i : Nat, kvs[i]? = some (k, v) := by
  unfold valV at h
  cases e : kvs.find? (fun kv => decide (kv.1 = k)) with
  | none => rw [e] at h; cases h
  | some p =>
    rw [e] at h
    have h1 := List.find?_some e
    have h2 := List.mem_of_find?_eq_some e
    obtain ⟨i, hi, ep⟩ := List.mem_iff_getElem.mp h2
    refine ⟨i, ?_⟩
    rw [List.getElem?_eq_getElem hi, ep]
    obtain ⟨p1, p2⟩ := p
    have e1 : p1 = k := of_decide_eq_true h1
    have e2 : p2 = v := Option.some.inj h
    rw [e1, e2]
theorem ixTK {X : Cx} {K : PySem.W.Frag} (h : X.K = K) : IxR X (rIxT K) := by
  subst h
  exact ix_tup

/-- keys of some states; where a deed leads them -/
def kK (xs : List Int) : List Key := xs.map Sum.inl
theorem kK_v (xs : List Int) : (kK xs).map kV = vrow xs := by
  unfold kK vrow
  rw [List.map_map]; rfl
theorem kK_inj : ∀ {a b : List Int}, kK a = kK b → a = b
  | [], [], _ => rfl
  | [], _ :: _, h => by cases h
  | _ :: _, [], h => by cases h
  | x :: a, y :: b, h => by
    have h : (Sum.inl x :: kK a : List Key) = Sum.inl y :: kK b := h
    injection h with h1 h2
    injection h1 with h1
    rw [h1, kK_inj h2]
def actL (ts : Ts) (x : List Int) (d : Int) : List Int := x.map fun s => stp ts s d
theorem path_run (ts : Ts) : ∀ (r x : List Int), path (actL ts) x r = x.map fun s => run ts s r
  | [], x => by
    show x = x.map fun s => s
    rw [List.map_id']
  | d :: r, x => by
    show path (actL ts) (actL ts x d) r = _
    rw [path_run ts r, actL, List.map_map]; rfl
/-- how the search stands: its dict, its queue -/
structure DQ (H : Hp) (d q : Addr) (F : List KR) (kvs : List (List Key × V)) (as : List Addr) : Prop where
  hd : H d = some (.dT kvs)
  ky : kvs.map (·.1) = F.map fun e => kK e.1
  vl : ∀ (i : Nat) k v x r, kvs[i]? = some (k, v) → F[i]? = some (x, r) → ∃ a, v = .ref a ∧ H a = some (.tup (vrow r))
  hq : H q = some (.lst (as.map V.ref))
  ln : as.length = F.length
  it : ∀ (i : Nat) a x r, as[i]? = some a → F[i]? = some (x, r) → H a = some (.tup (vrow x))
theorem DQ.same {H H' : Hp} {d q : Addr} {F : List KR} {kvs : List (List Key × V)} {as : List Addr} (b : DQ H d q F kvs as) (s : Same H H') : DQ H' d q F kvs as :=
  ⟨s _ _ b.hd, b.ky, fun i k v x r e1 e2 => let ⟨a, h1, h2⟩ := b.vl i k v x r e1 e2; ⟨a, h1, s _ _ h2⟩, s _ _ b.hq, b.ln, fun i a x r e1 e2 => s _ _ (b.it i a x r e1 e2)⟩
theorem DQ.klen {H : Hp} {d q : Addr} {F : List KR} {kvs : List (List Key × V)} {as : List Addr} (b : DQ H d q F kvs as) : kvs.length = F.length := by
  have := congrArg List.length b.ky
  simpa using this
theorem DQ.none {H : Hp} {d q : Addr} {F : List KR} {kvs : List (List Key × V)} {as : List Addr} (b : DQ H d q F kvs as) {x : List Int} : valV kvs (kK x) = none ↔ x ∉ F.map (·.1) := by
  have e := valV_any (kK x) kvs
  have h : (kvs.any fun kv => decide (kv.1 = kK x)) = true ↔ x ∈ F.map (·.1) := by
    have z : (kvs.any fun kv => decide (kv.1 = kK x)) = ((kvs.map (·.1)).any fun k => decide (k = kK x)) := by rw [List.any_map]; rfl
    rw [z, b.ky, List.any_map, List.any_eq_true]
    constructor
    · rintro ⟨y, hy, e⟩
      have e' : kK y.1 = kK x := of_decide_eq_true e
      exact List.mem_map.mpr ⟨y, hy, kK_inj e'⟩
    · intro hx
      obtain ⟨y, hy, e⟩ := List.mem_map.mp hx
      exact ⟨y, hy, decide_eq_true (congrArg kK e)⟩
  constructor
  · intro hn hx
    rw [hn] at e
    rw [h.mpr hx] at e
    cases e
  · intro hx
    cases q : valV kvs (kK x) with
    | none => rfl
    | some v =>
      rw [q] at e
      exact absurd (h.mp e) hx
theorem DQ.look {H : Hp} {d q : Addr} {F : List KR} {kvs : List (List Key × V)} {as : List Addr} (b : DQ H d q F kvs as) (nd : (F.map (·.1)).Nodup) {x r : List Int} {i : Nat} (hi : F[i]? = some (x, r)) : ∃ a, valV kvs (kK x) = some (.ref a) ∧ H a = some (.tup (vrow r)) := by
  cases e : valV kvs (kK x) with
  | none => exact absurd (List.mem_map.mpr ⟨_, List.mem_of_getElem? hi, rfl⟩) (b.none.mp e)
  | some v =>
    obtain ⟨j, hj⟩ := val_some e
    have hk : (kvs.map (·.1))[j]? = some (kK x) := by rw [List.getElem?_map, hj]; rfl
    rw [b.ky, List.getElem?_map] at hk
    cases e2 : F[j]? with
    | none => rw [e2] at hk; cases hk
    | some y =>
      rw [e2] at hk
      have e3 : y.1 = x := kK_inj (Option.some.inj hk)
      have hij : j = i := by
        have f1 : (F.map (·.1))[j]? = some x := by rw [List.getElem?_map, e2]; exact congrArg some e3
        have f2 : (F.map (·.1))[i]? = some x := by rw [List.getElem?_map, hi]; rfl
        obtain ⟨g1, e5⟩ := List.getElem?_eq_some_iff.mp f1
        obtain ⟨g2, e6⟩ := List.getElem?_eq_some_iff.mp f2
        exact (List.getElem_inj nd).mp (e5.trans e6.symm)
      subst hij
      obtain ⟨a, e4, h4⟩ := b.vl j _ _ _ _ hj hi
      exact ⟨a, by rw [e4], h4⟩
theorem DQ.put {H : Hp} {d q : Addr} {F : List KR} {kvs : List (List Key × V)} {as : List Addr} (b : DQ H d q F kvs as) {x r : List Int} {e a : Addr} (hx : x ∉ F.map (·.1)) (he : H e = some (.tup (vrow x))) (ha : H a = some (.tup (vrow r))) :
    DQ (upd (upd H d (.dT (putK kvs (kK x) (.ref a)))) q (.lst (as.map V.ref ++ [.ref e]))) d q (F ++ [(x, r)]) (kvs ++ [(kK x, .ref a)]) (as ++ [e]) := by
  have ndq : d ≠ q := ne_of b.hd b.hq (by intro z; cases z)
  have keep : ∀ c ys, H c = some (.tup ys) → (upd (upd H d (.dT (putK kvs (kK x) (.ref a)))) q (.lst (as.map V.ref ++ [.ref e]))) c = some (.tup ys) := fun c ys h => by
    rw [upd_ne (ne_of h b.hq (by intro z; cases z)), upd_ne (ne_of h b.hd (by intro z; cases z))]; exact h
  have lk := b.klen
  have ll := b.ln
  refine ⟨?_, ?_, fun i k v y s h h' => ?_, ?_, ?_, fun i c y s h h' => ?_⟩
  · rw [upd_ne ndq, upd_same, putK_new _ (b.none.mpr hx)]
  · rw [List.map_append, b.ky, List.map_append]; rfl
  · by_cases hi : i < F.length
    · rw [List.getElem?_append_left (by omega)] at h
      rw [List.getElem?_append_left hi] at h'
      obtain ⟨c, e1, e2⟩ := b.vl i k v y s h h'
      exact ⟨c, e1, keep _ _ e2⟩
    · have hi2 : i = F.length := by
        have := (List.getElem?_eq_some_iff.mp h').1
        simp only [List.length_append, List.length_cons, List.length_nil] at this
        omega
      subst hi2
      rw [← lk, List.getElem?_append_right (Nat.le_refl _), Nat.sub_self] at h
      rw [List.getElem?_append_right (Nat.le_refl _), Nat.sub_self] at h'
      have e1 : (kK x, V.ref a) = (k, v) := Option.some.inj h
      have e2 : (x, r) = (y, s) := Option.some.inj h'
      injection e1 with _ e1
      injection e2 with _ e2
      subst e2
      exact ⟨a, e1.symm, keep _ _ ha⟩
  · rw [upd_same, List.map_append]; rfl
  · rw [List.length_append, List.length_append, b.ln]; rfl
  · by_cases hi : i < F.length
    · rw [List.getElem?_append_left (by omega)] at h
      rw [List.getElem?_append_left hi] at h'
      exact keep _ _ (b.it i c y s h h')
    · have hi2 : i = F.length := by
        have := (List.getElem?_eq_some_iff.mp h').1
        simp only [List.length_append, List.length_cons, List.length_nil] at this
        omega
      subst hi2
      rw [← ll, List.getElem?_append_right (Nat.le_refl _), Nat.sub_self] at h
      rw [List.getElem?_append_right (Nat.le_refl _), Nat.sub_self] at h'
      have e2 : (x, r) = (y, s) := Option.some.inj h'
      injection e2 with e2 _
      subst e2
      rw [← Option.some.inj h]
      exact keep _ _ he
/-- what the search tells: a dict of keys with their first rows -/
def DAt (H : Hp) (d : Addr) (F : List KR) : Prop := ∃ kvs : List (List Key × V), H d = some (.dT kvs) ∧ kvs.map (·.1) = (F.map fun e => kK e.1) ∧ ∀ (i : Nat) k v x r, kvs[i]? = some (k, v) → F[i]? = some (x, r) → ∃ a, v = .ref a ∧ H a = some (.tup (vrow r))
theorem actL_rng {ts : Ts} (w : Wf ts) {x : List Int} {d : Int} (hd : 0 ≤ d ∧ d < (ts.length : Int)) (hx : ∀ s ∈ x, 0 ≤ s ∧ s < (nS ts : Int)) : ∀ s ∈ actL ts x d, 0 ≤ s ∧ s < (nS ts : Int) := fun s hs => by
  obtain ⟨y, hy, rfl⟩ := List.mem_map.mp hs
  exact (w.at_ hd (hx y hy)).choose_spec.2.2
theorem path_rng {ts : Ts} (w : Wf ts) {x r : List Int} (hr : ∀ e ∈ r, 0 ≤ e ∧ e < (ts.length : Int)) (hx : ∀ s ∈ x, 0 ≤ s ∧ s < (nS ts : Int)) : ∀ s ∈ path (actL ts) x r, 0 ≤ s ∧ s < (nS ts : Int) := fun s hs => by
  rw [path_run] at hs
  obtain ⟨y, hy, rfl⟩ := List.mem_map.mp hs
  exact w.run r y hr (hx y hy)
/-- there are at most a thousand keys, however far the search has come -/
def FewK (ts : Ts) (ss : List Int) : Prop := ∀ (F : List KR), (F.map (·.1)).Nodup → (∀ e ∈ F, ∃ r : List Int, (∀ x ∈ r, 0 ≤ x ∧ x < (ts.length : Int)) ∧ e.1 = path (actL ts) ss r) → F.length ≤ 1000
theorem Bf.few {ts : Ts} {ss : List Int} {F : List KR} {i d : Nat} (f : FewK ts ss) (b : Bf (actL ts) ts.length ss F i d) : F.length ≤ 1000 := f F b.nd fun e he => by
  obtain ⟨j, hj⟩ := List.getElem?_of_mem he
  obtain ⟨h1, h2, _⟩ := b.pth j e.1 e.2 hj
  exact ⟨e.2, h2, h1⟩
def spFirst (M : Addr) : Sp := fun vs H Q _ => ∃ m ta ts ss p, vs = [.ref m, .ref p, .non, .non] ∧ MachAt M H m ta (vts ts) ∧ Wf ts ∧ (∀ s ∈ ss, 0 ≤ s ∧ s < (nS ts : Int)) ∧ ss.length ≤ 12 ∧ H p = some (.tup (vrow ss)) ∧ FewK ts ss ∧
  ∀ d F H', Same H H' → H d = none → DAt H' d F → Fst (actL ts) ts.length ss F → F.length ≤ 1000 → Q (.ref d) H'
section
variable {P : Program} {w : World} {K : PySem.W.Frag} {mg : Str → Option Value} {base : Heap}
/-- a def with two defaults that are None -/
structure DfF (K : PySem.W.Frag) (mg : Str → Option Value) (f : Addr) (fd : FuncData) : Prop where
  F : FunD K "first_rows" "first_rows" (defArgs sFirst) (defBody sFirst) (defScope sFirst) [.non, .non] [] f fd
  g : mg "first_rows" = some (.ref f)
theorem DfF.b {f : Addr} {fd : FuncData} (D : DfF K mg f fd) : ∃ ds, Vals [.non, .non] ds ∧ Binds K fd ["machine", "states", "out", "most"] ds :=
  D.F.binds1 2 0 (by simp) rfl fun T kV doc pm an cdv ct us its h1 h2 => match us, its, h1, h2 with | [_, _], [_, _], _, _ => ⟨_, rfl, rfl⟩
abbrev nFR : List Str := ["machine", "states", "out", "most", "rows", "queue", "at", "here", "deed", "table", "ends", "state"]
theorem scFR : FnScope nFR ["machine", "states", "out", "most"] (defScope sFirst) := ⟨rfl, rfl, rfl, by decide +kernel, rfl, by decide +kernel, by decide +kernel⟩
theorem iteE {c : Bool} {A B : Prop} (e : c = true) (h : A) : if c = true then A else B := by subst e; exact iteT h
theorem iteN {c : Bool} {A B : Prop} (e : c = false) (h : B) : if c = true then A else B := by subst e; exact iteF h
/-- a test that the proof never comes to -/
theorem pt_never {X : Cx} {e : Expr} : PT X e fun _ _ _ => False := ⟨fun _ _ _ _ _ _ h => h.elim⟩
theorem ok_first {f M : Addr} {fd : FuncData} (D : DfF K mg f fd) (B : Bt mg) (T : McT K mg M) : FnOk P w K mg base CX0 1 f fd ["machine", "states", "out", "most"] (spFirst M) := by
  refine D.F.ok scFR (fun vs H Q E h => ?_) (fun cdv A outer s H vs Q E hr h => ?_)
  · obtain ⟨m, ta, ts, ss, p, rfl, _⟩ := h
    rfl
  · obtain ⟨m, ta, ts, ss, p, rfl, hM, hW, hs, hs12, hp, few, q⟩ := h
    have hu := hu_of hr
    suffices z : ∃ t, PSs (cxOf CX0 P w K mg base nFR "first_rows" (defScope sFirst) f cdv A outer s H E).nox (defBody sFirst) t ∧ t { nx := fun _ H' => Q .non H', rt := Q } (start nFR [.ref m, .ref p, .non, .non]) H from
      let ⟨t, h1, h2⟩ := z
      ⟨t, h1.nox, h2⟩
    refine ⟨_, pss_cons (ps_set (i := 4) scFR.nd rfl (.inl rfl) (pe_dispT (Nat.lt_of_succ_lt hu) (pv 1) (pe_tup pa_nil)))
      (pss_cons (ps_set (i := 5) scFR.nd rfl (.inl rfl) (pe_lst (pa_cons (pv 1) pa_nil)))
      (pss_cons (ps_set (i := 6) scFR.nd rfl (.inl rfl) pe_int)
      (pss_cons (ps_while PassesOwn.never (PW.pt (pw_and (pt_cmpR op_lt (pv 6) (pe_callB call_len_seq (by rfl) B.len PySem.boot_len (pa_cons (pv 5) pa_nil)) (nomark _))
          (pw_and1 (PW.pt (pw_or (pt_cmp (pc_isN (pv 2))) (pw_or1 pt_never))))))
        (pss_cons (ps_set (i := 7) scFR.nd rfl (.inl rfl) (pe_ix ix_list (pv 5) (pv 6) (fun _ _ => rfl)))
        (pss_cons (ps_for PassesOwn.never rfl (pi_enumA (by rfl) B.enumerate (pa_cons (pe_fld (pv 0) rfl) pa_nil)) (pg_tup rfl (pgs_cons (pg_name (i := 8) scFR.nd rfl (.inl rfl)) (pgs_cons (pg_name (i := 9) scFR.nd rfl (.inr rfl)) pgs_nil)))
          (pss_cons (ps_set (i := 10) scFR.nd rfl (.inl rfl) (pe_callTy call_tuple_of (by rfl) B.tuple PyProof.Rows.boot_tuple (pa_cons
              (pe_lc (own := [("state", 11)]) (g := gName 11) (tt := tYes) rfl scFR.nd (pi_tup (pv 7)) (blkOk_by (N := nFR) (sc := defScope sFirst) (by decide +kernel)) (fun _ _ _ _ _ => pg_name (i := 11) scFR.nd rfl (Or.inl rfl)) (fun _ _ _ _ _ => pts_nil)
                (fun _ _ _ _ _ => pe_ix (ixTK (K := K) rfl) (pv 9) (pv 11) (fun _ _ => rfl))) pa_nil)))
          (pss_one (ps_if (pt_cmp (pc_dnotin hu (pv 10) (pv 4))) (pss_cons (ps_dput hu (pv 4) (pv 10) (pe_op op_catA (pe_dget hu (pv 4) (pv 7) (fun _ _ => rfl)) (pe_tup (pa_cons (pv 8) pa_nil))) rfl)
            (pss_one (ps_expr (pe_bm PySem.F.plainAttrs_list PySem.F.slot_list_append PySem.F.type_list_append mt_append (pv 5) (pa_cons (pv 10) pa_nil))))) pss_nil))))
        (pss_cons (ps_if (PW.pt (pw_and (pt_cmp (pc_notN (pv 3))) (pw_and1 pt_never))) pss_never pss_nil)
        (pss_one (ps_aug (i := 6) scFR.nd rfl (.inl rfl) pe_int ip_add))))))
      (pss_one (ps_ret (pv 4)))))), ?_⟩
    intro d hd
    refine ⟨_, rfl, (by show 0 ≤ sizeLine; decide), fun e0 he0 => ?_⟩
    have ned : e0 ≠ d := fun z => by rw [z, upd_same] at he0; cases he0
    have se : Same H (upd (upd H d (.dT [])) e0 (.tup [])) := (same_new hd).trans (same_new he0)
    refine ⟨p, kK ss, rfl, by rw [kK_v]; exact se _ _ hp, by rw [upd_ne ned.symm, upd_same], ?_⟩
    generalize hH1 : upd (upd (upd H d (.dT [])) e0 (.tup [])) d (.dT [(kK ss, .ref e0)]) = H1
    have s1 : Same H H1 := fun b o e => by
      rw [← hH1, upd_ne (ne_of_none e hd)]
      exact se _ _ e
    have hd1' : H1 d = some (.dT [(kK ss, .ref e0)]) := by rw [← hH1, upd_same]
    have he1 : H1 e0 = some (.tup []) := by rw [← hH1, upd_ne ned, upd_same]
    refine ⟨_, rfl, (by show 1 ≤ sizeLine; decide), fun q0 hq0 => ?_⟩
    have s2 : Same H (upd H1 q0 (.lst [.ref p])) := s1.trans (same_new hq0)
    have b0 : DQ (upd H1 q0 (.lst [.ref p])) d q0 [(ss, [])] [(kK ss, .ref e0)] [p] := by
      have sm := same_new (o := HO.lst [.ref p]) hq0
      refine ⟨sm _ _ hd1', rfl, fun i k v x r h h' => ?_, upd_same, rfl, fun i a x r h1 h2 => ?_⟩
      · cases i with
        | zero =>
          have z : (kK ss, V.ref e0) = (k, v) := Option.some.inj h
          have z' : (ss, []) = (x, r) := Option.some.inj h'
          injection z with _ z
          injection z' with _ z'
          subst z'
          exact ⟨e0, z.symm, sm _ _ he1⟩
        | succ i => cases h
      · cases i with
        | zero =>
          obtain rfl : p = a := Option.some.inj h1
          have z' : (ss, []) = (x, r) := Option.some.inj h2
          injection z' with z' _
          subst z'
          exact s2 _ _ hp
        | succ i => cases h1
    have nd0 : H d = none := hd
    refine while_by (fun σ H' => ∃ (i : Nat) (F : List KR) (kvs : List (List Key × V)) (as : List Addr) (v5 v6 v7 v8 : Option V), σ = [some (.ref m), some (.ref p), some .non, some .non, some (.ref d), some (.ref q0), some (.int (i : Int)), v5, v6, v7, v8, none] ∧ Same H H' ∧ DQ H' d q0 F kvs as ∧ Bf (actL ts) ts.length ss F i 0 ∧ i ≤ F.length)
      (fun (σ : L2.St) _ => match σ[6]? with | some (some (V.int i)) => 1000 - i.toNat | _ => 0) ⟨0, _, _, _, none, none, none, none, rfl, s2, b0, Bf.init, Nat.zero_le _⟩ ?_
      (fun σ H Q Q' hQ ⟨v, h1, v3, h2, p, ys, h3, h4, i, j, h5, h6, k, h7, h8⟩ => by
        refine ⟨v, h1, v3, h2, p, ys, h3, h4, i, j, h5, h6, k, h7, ?_⟩
        cases k with
        | false => exact hQ _ _ h8
        | true =>
          obtain ⟨u, hu, c, hc, h9⟩ := h8
          refine ⟨u, hu, c, hc, ?_⟩
          cases c with
          | false => exact h9
          | true => exact hQ _ _ h9)
    rintro σ H' ⟨i, F, kvs, as, v5, v6, v7, v8, rfl, sm, b, bf, hi⟩
    refine ⟨_, rfl, _, rfl, q0, _, rfl, .inl (SqL.of b.hq), _, _, rfl, rfl, _, rfl, ifD (fun ec => ⟨_, rfl, _, rfl, iteE rfl (iteT ?_)⟩) fun ec => iteF ?_⟩
    · have hlt : i < F.length := by
        have z : (i : Int) < ((as.map V.ref).length : Int) := of_decide_eq_true ec
        rw [List.length_map, b.ln] at z
        omega
      obtain ⟨x, rx, hx⟩ : ∃ x rx, F[i]? = some (x, rx) := ⟨F[i].1, F[i].2, List.getElem?_eq_getElem hlt⟩
      obtain ⟨a, ha⟩ : ∃ a, as[i]? = some a := by
        have : i < as.length := by rw [b.ln]; exact hlt
        exact ⟨as[i], List.getElem?_eq_getElem this⟩
      have hax := b.it i a x rx ha hx
      obtain ⟨px, pv, pl⟩ := bf.pth i x rx hx
      have hxr : ∀ s ∈ x, 0 ≤ s ∧ s < (nS ts : Int) := by rw [px]; exact path_rng hW pv hs
      have hxl : x.length ≤ 12 := by rw [px, path_run, List.length_map]; exact hs12
      obtain ⟨dx, hm⟩ := hM.fs
      obtain ⟨tas, ht1, ht2, ht3⟩ := hM.2
      have ltas : tas.length = ts.length := by rw [ht2, vts, List.length_map]
      refine ⟨_, rfl, _, rfl, q0, _, (i : Int), .ref a, rfl, rfl, SqL.of b.hq, atI_nat (by rw [List.getElem?_map, ha]; rfl), ?_⟩
      refine ⟨_, rfl, m, M, dx, _, _, rfl, sm _ _ hm, T.cl, T.nT, mf_t _ _ _, ta, rfl, .inr ⟨_, SqT.of (sm _ _ ht1), for_enumT (K := K) (a := ta) (xs := tas.map V.ref)
        (fun j σ H' => ∃ (F : List KR) (kvs : List (List Key × V)) (as : List Addr) (v6 v7 v8 : Option V), σ = [some (.ref m), some (.ref p), some .non, some .non, some (.ref d), some (.ref q0), some (.int (i : Int)), some (.ref a), v6, v7, v8, none] ∧ Same H H' ∧ DQ H' d q0 F kvs as ∧ Bf (actL ts) ts.length ss F i j ∧ F[i]? = some (x, rx) ∧ H' a = some (.tup (vrow x)))
        ⟨F, kvs, as, _, _, _, rfl, sm, b, bf, hx, hax⟩ (fun j σ H' _ ⟨_, _, _, _, _, _, _, sm, _⟩ => SqT.of (sm _ _ ht1)) ?_ ?_⟩⟩
      · rintro j y T0 σ H' hy hT0 ⟨F, kvs, as, v6, v7, v8, rfl, sm, b, bf, hx, hax⟩
        obtain ⟨tj, htj, rfl⟩ : ∃ t, tas[j]? = some t ∧ y = V.ref t := by
          rw [List.getElem?_map] at hy
          cases e : tas[j]? with
          | none => rw [e] at hy; cases hy
          | some t => rw [e] at hy; exact ⟨t, rfl, (Option.some.inj hy).symm⟩
        have hjt : j < ts.length := by rw [← ltas]; exact (List.getElem?_eq_some_iff.mp htj).1
        have hdj : 0 ≤ (j : Int) ∧ (j : Int) < (ts.length : Int) := by omega
        obtain ⟨t, h1'⟩ : ∃ t, ts[j]? = some t := ⟨ts[j], List.getElem?_eq_getElem hjt⟩
        have hT := ht3 j tj (vrow t) htj (by rw [vts, List.getElem?_map, h1']; rfl)
        generalize hyy : actL ts x (j : Int) = yy
        have lyy : yy.length = x.length := by rw [← hyy, actL, List.length_map]
        have sT := same_new (o := HO.tup [.int (j : Nat), .ref tj]) hT0
        refine ⟨T0, _, rfl, SqT.of upd_same, rfl, _, _, rfl, _, _, rfl, rfl, ?_⟩
        generalize hH2 : upd H' T0 (.tup [.int (j : Nat), .ref tj]) = H2 at sT ⊢
        have b2 := b.same sT
        have sm2 := sm.trans sT
        have hax2 := sT _ _ hax
        -- ends
        refine ⟨_, rfl, a, rfl, ⟨_, SqT.of hax2⟩, fun D0 hD0 => lc_tup (K := K) (a := a) (xs := vrow x) (fun k H3 => Same H2 H3 ∧ H3 D0 = some (.lst ((vrow yy).take k))) ⟨same_new hD0, by rw [upd_same]; rfl⟩ (fun k H3 _ ⟨s3, _⟩ => SqT.of (s3 _ _ hax2)) ?_ ?_⟩
        · rintro k z H3 hz ⟨s3, hD3⟩
          obtain ⟨xk, hxk, rfl⟩ : ∃ xk, x[k]? = some xk ∧ z = V.int xk := by
            rw [vrow, List.getElem?_map] at hz
            cases e : x[k]? with
            | none => rw [e] at hz; cases hz
            | some xk => rw [e] at hz; exact ⟨xk, rfl, (Option.some.inj hz).symm⟩
          have hk : k < x.length := (List.getElem?_eq_some_iff.mp hxk).1
          have hxkr := hxr xk (List.mem_of_getElem? hxk)
          obtain ⟨t', g1, g2, _⟩ := hW.at_ hdj hxkr
          have g1' : ts[j]? = some t' := by simpa using g1
          obtain rfl : t = t' := Option.some.inj (h1'.symm.trans g1')
          refine ⟨rfl, _, rfl, _, rfl, tj, _, xk, .int (stp ts xk j), rfl, rfl, SqT.of (s3 _ _ (sm2 _ _ hT)), at_of (j := xk.toNat) (by omega) (by rw [vrow, List.getElem?_map, g2]; rfl), ?_⟩
          refine ⟨_, hD3, by rw [List.length_take, vrow, List.length_map, sizeLine_eq]; omega, ?_, ?_⟩
          · intro c o e
            rw [upd_ne (ne_of_none e hD0)]
            exact s3 _ _ e
          · have ez : (vrow yy)[k]? = some (V.int (stp ts xk j)) := by rw [← hyy, vrow, actL, List.map_map, List.getElem?_map, hxk]; rfl
            rw [upd_same, take_succ ez]
        · rintro H3 ⟨s3, hD3⟩
          have etk : (vrow yy).take (vrow x).length = vrow yy := by rw [List.take_of_length_le]; rw [vrow, vrow, List.length_map, List.length_map, lyy]; exact Nat.le_refl _
          rw [etk] at hD3
          refine ⟨D0, _, rfl, .inl ⟨SqL.of hD3, fun en hen => ?_⟩⟩
          have s4 := s3.trans (same_new (o := HO.tup (vrow yy)) hen)
          generalize hH4 : upd H3 en (.tup (vrow yy)) = H4
          have hen4 : H4 en = some (.tup (vrow yy)) := by rw [← hH4]; exact upd_same
          have s4' : Same H2 H4 := by rw [← hH4]; exact s4
          have b4 := b2.same s4'
          have sm4 := sm2.trans s4'
          have hax4 := s4' _ _ hax2
          have hsmall : F.length ≤ 1000 := bf.few few
          obtain ⟨_, pv', pl'⟩ := bf.pth i x rx hx
          have hil : i < F.length := (List.getElem?_eq_some_iff.mp hx).1
          refine ⟨_, rfl, _, rfl, d, _, rfl, DGet.t (k := kK yy) b4.hd (by rw [kK_v]; exact hen4), _, rfl, ?_⟩
          cases ev : valV kvs (kK yy) with
          | some v =>
            refine iteF ?_
            have hin : yy ∈ F.map (·.1) := by
              by_cases z : yy ∈ F.map (·.1)
              · exact z
              · rw [b4.none.mpr z] at ev; cases ev
            obtain ⟨e, he, e1⟩ := List.mem_map.mp hin
            obtain ⟨j2, hj2⟩ := List.getElem?_of_mem he
            exact ⟨F, kvs, as, _, _, _, rfl, sm4, b4, bf.more (j := j2) (k := e.1) (r := e.2) hx hj2 (by rw [hyy]; exact e1), hx, hax4⟩
          | none =>
            refine iteT ?_
            have hnin := b4.none.mp ev
            obtain ⟨ra, hv, hra⟩ := b4.look bf.nd hx
            refine ⟨_, rfl, _, rfl, d, .ref ra, rfl, by rw [← hv]; exact DGet.t b4.hd (by rw [kK_v]; exact hax4), _, rfl, (by show 1 ≤ sizeLine; decide), fun dt hdt => ?_⟩
            have s5 := same_new (o := HO.tup [V.int (j : Nat)]) hdt
            have bfn : Bf (actL ts) ts.length ss (F ++ [(yy, rx ++ [(j : Int)])]) i (j + 1) := by
              rw [← hyy]
              exact bf.put hx (by rw [hyy]; exact hnin) hjt
            have hx' : (F ++ [(yy, rx ++ [(j : Int)])])[i]? = some (x, rx) := by rw [List.getElem?_append_left hil]; exact hx
            -- whichever tuple stands for the row, the rest is the same
            have rest : ∀ (rb : Addr) (H6 : Hp), Same H4 H6 → H6 rb = some (.tup (vrow (rx ++ [(j : Int)]))) → DPut H6 d (.ref en) (.ref rb) (upd H6 d (.dT (putK kvs (kK yy) (.ref rb)))) ∧
                DQ (upd (upd H6 d (.dT (putK kvs (kK yy) (.ref rb)))) q0 (.lst (as.map V.ref ++ [.ref en]))) d q0 (F ++ [(yy, rx ++ [(j : Int)])]) (kvs ++ [(kK yy, .ref rb)]) (as ++ [en]) ∧ (upd H6 d (.dT (putK kvs (kK yy) (.ref rb)))) q0 = some (.lst (as.map V.ref)) ∧
                Same H (upd (upd H6 d (.dT (putK kvs (kK yy) (.ref rb)))) q0 (.lst (as.map V.ref ++ [.ref en]))) ∧ (upd (upd H6 d (.dT (putK kvs (kK yy) (.ref rb)))) q0 (.lst (as.map V.ref ++ [.ref en]))) a = some (.tup (vrow x)) := fun rb H6 s6 hrb => by
              have b6 := b4.same s6
              have hq6 := b6.hq
              have ndq : q0 ≠ d := ne_of hq6 b6.hd (by intro z; cases z)
              refine ⟨DPut.t b6.hd (by rw [kK_v]; exact s6 _ _ hen4) (by rw [b6.klen, sizeLine_eq]; omega), b6.put hnin (s6 _ _ hen4) hrb, by rw [upd_ne ndq]; exact hq6, fun c o e => ?_, ?_⟩
              · have hcq : c ≠ q0 := fun z => by rw [z, s1.free hq0] at e; cases e
                rw [upd_ne hcq, upd_ne (ne_of_none e nd0)]
                exact s6 _ _ (sm4 _ _ e)
              · have z := s6 _ _ hax4
                rw [upd_ne (ne_of z hq6 (by intro z; cases z)), upd_ne (ne_of z b6.hd (by intro z; cases z))]
                exact z
            have fin : (as.map V.ref).length < sizeLine := by
              rw [List.length_map, b4.ln, sizeLine_eq]; omega
            have hrl : (vrow rx).length ≤ 1000 := by rw [vrow, List.length_map]; omega
            refine ⟨ra, dt, vrow rx, [.int (j : Nat)], rfl, rfl, SqT.of (s5 _ _ hra), SqT.of upd_same, ?_, fun e => ?_, fun _ e => absurd e (by simp), fun _ _ pn hpn => ?_⟩
            · show (vrow rx).length + 1 ≤ sizeLine
              rw [sizeLine_eq]; omega
            · have e0 : rx = [] := by
                cases rx with
                | nil => rfl
                | cons z r => cases e
              subst e0
              obtain ⟨g1, g2, g3, g4, g5⟩ := rest dt _ s5 upd_same
              refine ⟨_, rfl, _, rfl, d, _, rfl, g1, ?_⟩
              refine ⟨_, rfl, .inl ⟨rfl, _, SqL.of g3⟩, _, rfl, q0, _, _, rfl, rfl, g3, fin, ?_⟩
              exact ⟨_, _, _, _, _, _, rfl, g4, g2, bfn, hx', g5⟩
            · have s6 := s5.trans (same_new (o := HO.tup (vrow rx ++ [V.int (j : Nat)])) hpn)
              obtain ⟨g1, g2, g3, g4, g5⟩ := rest pn _ s6 (by rw [upd_same, vrow, vrow, List.map_append]; rfl)
              refine ⟨_, rfl, _, rfl, d, _, rfl, g1, ?_⟩
              refine ⟨_, rfl, .inl ⟨rfl, _, SqL.of g3⟩, _, rfl, q0, _, _, rfl, rfl, g3, fin, ?_⟩
              exact ⟨_, _, _, _, _, _, rfl, g4, g2, bfn, hx', g5⟩
      · rintro σ H' ⟨F, kvs, as, v6, v7, v8, rfl, sm, b, bf, hx, hax⟩
        have hil : i < F.length := (List.getElem?_eq_some_iff.mp hx).1
        have hsmall : F.length ≤ 1000 := bf.few few
        rw [List.length_map, ltas] at bf
        refine ⟨_, rfl, _, rfl, iteN rfl (iteF ⟨_, rfl, _, _, rfl, rfl, ?_⟩)⟩
        refine ⟨⟨i + 1, F, kvs, as, some (.ref a), v6, v7, v8, ?_, sm, b, bf.next, by omega⟩, ?_⟩
        · have z : ((i + 1 : Nat) : Int) = (i : Int) + 1 := by omega
          rw [z]; rfl
        · show 1000 - ((i : Int) + 1).toNat < 1000 - (i : Int).toNat
          omega
    · have hge : F.length ≤ i := by
        have z : ¬ ((i : Int) < ((as.map V.ref).length : Int)) := of_decide_eq_false ec
        rw [List.length_map, b.ln] at z
        omega
      exact ⟨_, rfl, q d F H' sm nd0 ⟨kvs, b.hd, b.ky, b.vl⟩ (bf.done hge) (bf.few few)⟩
/-- first_rows(e, ..) with its defaults -/
theorem pcF {X : Cx} {CX : CXT} {k : Nat} {f : Addr} {fd : FuncData} {sp : Sp} {E : XK} {p pos : Pos} {e : Expr} {es : List Expr} {t : TA} {ds : List Value} (D : DfF X.K X.mg f fd) (G : FnOk X.prog X.w X.K X.mg X.base CX k f fd ["machine", "states", "out", "most"] sp) (hr : Room k X.A) (hx : Passes CX X E) (ha : PA X (e :: es) t)
    (hv : Vals [.non, .non] ds) (hb : Binds X.K fd ["machine", "states", "out", "most"] ds) (hg : Gl X "first_rows" := by rfl)
    (hdb : (("first_rows" : Str) == ("__debug__" : Str)) = false := by decide) (he : starEach (e :: es) X.env = (false, eval e X.env) :: starEach es X.env := by rfl) (hpl : (backTo pos (starEach es X.env)).any (·.1) = false := by rfl) :
    PE X (.Call (.Name "first_rows" p) (e :: es) [] pos) (tCall sp [.non, .non] E t) := pe_call G hr hg D.g D.F.kp hb hv hx ha hdb he hpl
end
end K1
namespace K1
open PySem PySem.Spec PyProof.Rows L2
abbrev uF (x y z : V) : List (Str × V) := [("there", z), ("here", y), ("archive", x)]
def spUInit (K : PySem.W.Frag) (C : Addr) : Sp := fun vs H Q _ => ∃ a x y z, vs = [.ref a, x, y, z] ∧ OexC K C ∧ H a = some (exo a C none) ∧
  ∀ d H', (∀ c o, H c = some o → c ≠ a → H' c = some o) → H d = none → d ≠ a → H' a = some (exo a C (some d)) → H' d = some (exd d (uF x y z)) → Q .non H'
section
variable {P : Program} {w : World} {K : PySem.W.Frag} {mg : Str → Option Value} {base : Heap}
theorem scUI : FnScope ["self", "archive", "here", "there"] ["self", "archive", "here", "there"] (defScope sUInit) := ⟨rfl, rfl, rfl, by decide +kernel, rfl, by decide +kernel, by decide +kernel⟩
structure UnC (K : PySem.W.Frag) (mg : Str → Option Value) (C : Addr) : Prop where
  x : OexC K C
  n1 : PySem.W.findIn K (.ref C) "archive" = some none
  n2 : PySem.W.findIn K (.ref C) "here" = some none
  n3 : PySem.W.findIn K (.ref C) "there" = some none
  f : XfC K C
  g : mg "Untold" = some (.ref C)
theorem ok_uinit {f C : Addr} {fd : FuncData} (F : Fun K "__init__" "Untold.__init__" sUInit f fd) (U : UnC K mg C) : FnOk P w K mg base CX0 1 f fd ["self", "archive", "here", "there"] (spUInit K C) := by
  refine F.ok scUI (fun vs H Q E h => ?_) (fun cdv A outer s H vs Q E hr h => ?_)
  · obtain ⟨a, x, y, z, rfl, _⟩ := h
    rfl
  · obtain ⟨a, x, y, z, rfl, hx, ha, q⟩ := h
    refine ⟨_, pss_cons (ps_ost (pv 0) (pv 1)) (pss_cons (ps_ost (pv 0) (pv 2)) (pss_one (ps_ost (pv 0) (pv 3)))), ?_⟩
    refine ⟨_, rfl, _, rfl, a, C, rfl, hx, U.n1, .inl ⟨ha, fun d hd ne => ?_⟩⟩
    refine ⟨_, rfl, _, rfl, a, C, rfl, hx, U.n2, .inr ⟨d, _, upd_same, by rw [upd_ne ne, upd_same], by show 1 ≤ 900; decide, ?_⟩⟩
    refine ⟨_, rfl, _, rfl, a, C, rfl, hx, U.n3, .inr ⟨d, _, by rw [upd_ne ne.symm, upd_same], upd_same, by show 2 ≤ 900; decide, ?_⟩⟩
    refine q d _ (fun c o e n => ?_) hd ne (by rw [upd_ne ne.symm, upd_ne ne.symm, upd_same]) upd_same
    have ncd := ne_of_none e hd
    rw [upd_ne ncd, upd_ne ncd, upd_ne n, upd_ne ncd]
    exact e
/-- the error Untold, its fields -/
def RzU (CU : Addr) (x a b : Int) (H : Hp) (E : XK) : Prop := ∀ d H', Same H H' → H d = none → H' d = some (.xd (uF (.int x) (.int a) (.int b))) → E (.ref CU) (some d) H'
end
end K1
namespace K1
open PySem PySem.Spec PyProof.Rows L2
/-! ### the pairs of a dict with tuple keys that nobody else sees -/
section
variable {X : Cx} {pins : List (Addr × Obj)} {σ : L2.St} {H : Hp} {s : Shared} {d : Addr} {o : Obj}
theorem frzT2 {kvs : List (List Key × V)} (I : Inv X pins σ H s) (h : H d = some (.frz o (.dT kvs))) :
    (d == sysModules) = false ∧ s.heap.get? d = some o ∧ o.ExactDict ∧ ∃ (es : Array DictEntry) (ep : Nat), o.data = .dict es ep ∧ es.size = kvs.length ∧
      ∀ (i : Nat) (k : List Key) (v : V), kvs[i]? = some (k, v) → ∃ (en : DictEntry) (q : Addr), es[i]? = some en ∧ en.key = .ref q ∧ H q = some (.tup (k.map kV)) ∧ RelV v en.val := by
  obtain ⟨hd, z, hs, xs, pr, o', es, ep, ho, hx, hdt, he, _⟩ := I.hok d _ h
  rw [hd] at ho
  cases ho
  refine ⟨hs, hd, hx, es, ep, hdt, ?_, fun i k v e => ?_⟩
  · have l1 : es.size = xs.length := size_of_entries he
    have l2 : kvs.length = xs.length := Paired.length pr
    omega
  · obtain ⟨b, hb, e1, e2, e3⟩ := paired_get pr e
    have q := entry_at he i
    rw [hb] at q
    exact ⟨_, b.2.1, q, rfl, e2, e3⟩
end
def Itit (d : Addr) (o : Obj) (kvs : List (List Key × V)) : It :=
  ⟨fun i H => H d = some (.frz o (.dT kvs)) ∧ i < kvs.length, fun i H x H' => ∃ (T q : Addr) (k : List Key) (v : V), kvs[i]? = some (k, v) ∧ x = .ref T ∧ H T = none ∧ H q = some (.tup (k.map kV)) ∧ H' = upd H T (.tup [.ref q, v]), fun i H => H d = some (.frz o (.dT kvs)) ∧ kvs.length ≤ i⟩
section
variable {P : Program} {w : World} {K : PySem.W.Frag} {d : Addr} {o : Obj} {es : Array DictEntry} {ep : Nat}
theorem turn_itemsT {kvs : List (List Key × V)} {elts : List Expr} {kk : Nat} {tpos : Pos} (it : Addr) (hod : o.data = .dict es ep) :
    Turn P w K (.Tuple elts kk tpos) (Itit d o kvs) [it] it (fun i h => ∃ ok ov, IsItemIter h it d i kvs.length ep ok ov) where
  mem := by simp
  obj := fun i h st b hb => by
    have e : b = it := by simpa using hb
    subst e
    obtain ⟨ok, ov, e⟩ := st
    exact ⟨_, e, fun v z => nomatch z⟩
  keep := fun i h h' st k => let ⟨ok, ov, e⟩ := st; ⟨ok, ov, k it (by simp) _ e⟩
  item := by
    intro X hP hw hK hc i pins s σ H E I hf st hg
    subst hP hw hK
    obtain ⟨hd, hi⟩ := hg
    obtain ⟨hs, hgd, hx, es', ep', hdt, hsz, ent⟩ := frzT2 I hd
    obtain ⟨rfl, rfl⟩ := dict_ep hod hdt
    obtain ⟨⟨k, v⟩, hkv⟩ : ∃ p, kvs[i]? = some p := ⟨kvs[i], List.getElem?_eq_getElem hi⟩
    obtain ⟨en, q, hen, hkey, hq, rv⟩ := ent i k v hkv
    have hm : s.heap.DictRaw d es' ep' := ⟨o, hgd, hx, hod⟩
    obtain ⟨ok, ov, he⟩ := st
    rw [← hsz] at he
    have hi' : i < es'.size := by omega
    have een : es'[i] = en := by
      rw [Array.getElem?_eq_getElem hi'] at hen
      exact Option.some.inj hen
    have hlt : it < s.heap.objs.size := Heap.lt_size he
    refine wpAny_pyNext_items_item_raw he hm hi' fun h' ho hT hz hk => ?_
    rw [een, hkey] at ho hT
    refine ⟨_, rfl, wpAny_letOwnedTupleGo_items (s := { s with heap := h' }) ho fun h'' he' sb => ?_⟩
    have hT2 : h''.get? s.heap.objs.size = some { cls := .type "tuple", data := .seq #[.ref q, en.val] } := (sb.2 _ (Nat.ne_of_gt hlt)).trans hT
    have new : ObjOk X.prog X.w (upd H s.heap.objs.size (.tup [.ref q, v])) h'' s.heap.objs.size (.tup [.ref q, v]) :=
      ⟨by show 2 ≤ sizeLine; decide, [.ref q, en.val], .cons rfl (.cons rv .nil), ⟨_, hT2, rfl, _, rfl⟩⟩
    have I1 : Inv X pins σ (upd H s.heap.objs.size (.tup [.ref q, v])) { s with heap := h'' } :=
      I.turnedNew (t' := s.toks) (ch := [it]) (fun b ob hb e => (sb.2 b (by simpa using hb)).trans (hk b ob (by simpa using hb) e)) hf (Nat.le_refl _) new
    refine ⟨.ref s.heap.objs.size, _, I1, rfl, ⟨_, q, k, v, hkv, rfl, I.hok.fresh (Nat.le_refl _), hq, rfl⟩, ⟨.ref q, en.val, ?_⟩, fun b hb => ?_⟩
    · rw [← hsz]; exact he'
    · have e : b = it := by simpa using hb
      rw [e, upd_ne (Nat.ne_of_lt hlt)]
      exact (hf it (by simp)).1
  done := by
    intro X hP hw hK hc i pins s σ H E I hf st hg
    subst hP hw hK
    obtain ⟨hd, hi⟩ := hg
    obtain ⟨f0, f1, f2, f3, f4, f5⟩ := hf it (by simp)
    obtain ⟨hs, hgd, hx, es', ep', hdt, hsz, ent⟩ := frzT2 I hd
    obtain ⟨rfl, rfl⟩ := dict_ep hod hdt
    obtain ⟨ok, ov, he⟩ := st
    rw [← hsz] at he
    exact wpAny_pyNext_items_end_raw (I.ok.hd hc) he ⟨o, hgd, hx, hod⟩ (by omega) fun h' eb => ⟨rfl, I.turned (t' := s.toks) (fun b ob hb e => eb b ob hb e) f0 f1 f3 f4 f5⟩
  self := fun A i s Q E st h => let ⟨_, _, e⟩ := st; PySem.W.kcp_self e h
end
def iItemsF (td : TE) : TI := fun σ H R => td σ H fun x H1 => ∃ d kvs, x = .ref d ∧ H1 d = some (.dT kvs) ∧ ∀ o, R (Itit d o kvs) (upd H1 d (.frz o (.dT kvs)))
theorem pi_itemsF {X : Cx} {e : Expr} {td : TE} {apos cpos : Pos} {elts : List Expr} {kk : Nat} {tpos : Pos} (he : PE X e td) (hbase : attributeBase e "items" X.env (eval e X.env) = eval e X.env := by rfl) (hline : (apos.endLine == cpos.line) = true := by rfl) :
    PI X (.Tuple elts kk tpos) (.Call (.Attribute e "items" apos) [] [] cpos) (iItemsF td) := by
  refine ⟨fun pins s σ H R I h => ?_⟩
  refine wpAny_Call_method (T := "dict") (id := "dict.items") hbase rfl hline F.plainAttrs_dict F.slot_dict_items F.type_dict_items (thn (he.run pins s σ H _ I h) fun u s1 ⟨x, H0, I0, rx, d, kvs, ex, hd0, q⟩ => ?_)
  subst ex
  obtain rfl : u = Value.ref d := rx
  obtain ⟨o, I1⟩ := I0.lock hd0 trivial
  obtain ⟨hs, hgd, hx, es, ep, hdt, hsz, ent⟩ := I1.frzT upd_same
  have hm : s1.heap.DictRaw d es ep := ⟨o, hgd, hx, hdt⟩
  refine ⟨hm.typeIs, fun a ea => ?_, ?_⟩
  · cases ea
    exact ⟨o, hgd, hx.2.1⟩
  have I2 : Inv X pins σ (upd H0 d (.frz o (.dT kvs))) { s1 with heap := s1.heap.push { cls := .type "dict_items", data := .fields #[.ref d] } } := I1.kept (t' := s1.toks) fun b ob q => Heap.get?_push_of_some _ q
  have fin : wpAny (model X.prog X.w) X.A (pyIter (.ref s1.heap.objs.size)) (PIE X pins σ (.Tuple elts kk tpos) R) X.xe { s1 with heap := s1.heap.push { cls := .type "dict_items", data := .fields #[.ref d] } } := by
    refine wpAny_pyIter_items_raw (d := d) ⟨_, Heap.get?_push_size _ rfl, rfl, rfl⟩ (hm.at fun ob e => Heap.get?_push_of_some _ e) (pi_one (tk := s1.toks) I2 _ (turn_itemsT _ hdt) ⟨.none, .none, ?_⟩ (q o))
    rw [← hsz]
    exact Heap.get?_push_size _ rfl
  show wpAny _ _ (callWith cpos (.builtin "dict.items") [.ref d] [] []) _ X.xe s1
  exact method_meetsIn F.slot_dict_items F.entry_dict_items rfl (PySem.evalArgs_none ⟨rfl, hm.typeIs, F.args_dict_items_1 _, _, meets_dict_items_raw d hs, ⟨es, ep, hm⟩, fin⟩)
theorem lc_itemsF {d : Addr} {o : Obj} {kvs : List (List Key × V)} {g : TG} {tt : TT} {te : TE} {vs : List Nat} {σ : L2.St} {H1 : Hp} {D : Addr} {Qd : Hp → Prop} (Pv : Nat → Hp → Prop) (h0 : Pv 0 (upd H1 D (.lst []))) (hl : ∀ i H, i ≤ kvs.length → Pv i H → H d = some (.frz o (.dT kvs)))
    (hs : ∀ (i : Nat) k v q T H, kvs[i]? = some (k, v) → H q = some (.tup (k.map kV)) → H T = none → Pv i H → g (.ref T) (wipe σ vs) (upd H T (.tup [.ref q, v])) fun σ2 H2 => wipe σ2 vs = wipe σ vs ∧ tt σ2 H2 fun b H3 =>
      if b = true then te σ2 H3 fun y H4 => ∃ acc, H4 D = some (.lst acc) ∧ acc.length < sizeLine ∧ Pv (i + 1) (upd H4 D (.lst (acc ++ [y]))) else Pv (i + 1) H3) (hd : ∀ H, Pv kvs.length H → Qd H) :
    ∃ W : Nat → Nat → Hp → Prop, (∃ m, W 0 m (upd H1 D (.lst []))) ∧ ∀ i m H, W i m H →
      ((Itit d o kvs).stop i H ∧ Qd H) ∨ ((Itit d o kvs).go i H ∧ ∃ Nx : Hp → Prop, (∀ H', Nx H' → ∃ m', m' < m ∧ W (i + 1) m' H') ∧ ∀ x H', (Itit d o kvs).yld i H x H' → g x (wipe σ vs) H' fun σ2 H2 => wipe σ2 vs = wipe σ vs ∧ tt σ2 H2 fun b H3 =>
        if b = true then te σ2 H3 fun y H4 => ∃ acc, H4 D = some (.lst acc) ∧ acc.length < sizeLine ∧ Nx (upd H4 D (.lst (acc ++ [y]))) else Nx H3) := by
  refine ⟨fun i m H => m = kvs.length - i ∧ i ≤ kvs.length ∧ Pv i H, ⟨kvs.length, by simp, Nat.zero_le _, h0⟩, ?_⟩
  rintro i m H ⟨rfl, hi, p⟩
  have q := hl i H hi p
  by_cases hlt : i < kvs.length
  · refine .inr ⟨⟨q, hlt⟩, Pv (i + 1), fun H' p' => ⟨kvs.length - (i + 1), by omega, rfl, hlt, p'⟩, fun x H' y => ?_⟩
    obtain ⟨T, r, k, v, e1, e2, e3, e4, e5⟩ := y
    subst e2
    rw [e5]
    exact hs i k v r T _ e1 e4 e3 p
  · have e : i = kvs.length := by omega
    subst e
    exact .inl ⟨⟨q, Nat.le_refl _⟩, hd H p⟩
end K1
namespace K1
open PySem PySem.Spec PyProof.Rows L2
theorem belowB_int {v : V} {n : Nat} (h : belowB v (n : Int) = true) : ∃ i : Int, v = .int i ∧ 0 ≤ i ∧ i < (n : Int) := by
  cases v with
  | int i =>
    have z : (decide (0 ≤ i) && decide (i < (n : Int))) = true := h
    rw [Bool.and_eq_true, decide_eq_true_eq, decide_eq_true_eq] at z
    exact ⟨i, rfl, z⟩
  | _ => cases h
theorem belowI {i : Int} {n : Nat} (h : 0 ≤ i ∧ i < (n : Int)) : belowB (.int i) (n : Int) = true := by
  show (decide (0 ≤ i) && decide (i < (n : Int))) = true
  rw [decide_eq_true h.1, decide_eq_true h.2]; rfl
/-- the first of some values that is no state -/
def FstBad (n : Nat) (xs : List V) (v : V) : Prop := ∃ i : Nat, xs[i]? = some v ∧ belowB v (n : Int) = false ∧ ∀ (j : Nat) y, j < i → xs[j]? = some y → belowB y (n : Int) = true
def spNeedSs (M CS : Addr) : Sp := fun vs H Q E => ∃ m ta ts p xs, vs = [.ref m, .ref p] ∧ MachAt M H m ta (vts ts) ∧ H p = some (.tup xs) ∧ (∀ x ∈ xs, ∃ (K : PySem.W.Frag) (o : Option (List V)), KV K H x o) ∧
  (∀ v, FstBad (nS ts) xs v → Rz CS "state" v H E) ∧ ((∀ x ∈ xs, belowB x (nS ts : Int) = true) → Q .non H)
/-! ### two states side by side -/
theorem nodup_of {α β : Type} {l : List α} {f : α → β} (h : (l.map f).Nodup) : l.Pairwise fun a b => f a ≠ f b := List.pairwise_map.mp h
theorem pair_few {ts : Ts} (w : Wf ts) {a h : Int} (ha : 0 ≤ a ∧ a < (nS ts : Int)) (hh : 0 ≤ h ∧ h < (nS ts : Int)) : FewK ts [a, h] := fun F nd hF => by
  have form : ∀ e ∈ F, ∃ x y : Int, e.1 = [x, y] ∧ 0 ≤ x ∧ x < 12 ∧ 0 ≤ y ∧ y < 12 := fun e he => by
    obtain ⟨r, hr, e1⟩ := hF e he
    have h1 := w.run r a hr ha
    have h2 := w.run r h hr hh
    have := w.s12
    rw [path_run] at e1
    exact ⟨run ts a r, run ts h r, e1, by omega, by omega, by omega, by omega⟩
  have nd2 : (F.map fun e => e.1.getD 0 0 * 12 + e.1.getD 1 0).Nodup := by
    refine List.pairwise_map.mpr (List.Pairwise.imp_of_mem (fun {e e'} he he' ne z => ?_) (nodup_of nd))
    obtain ⟨x, y, e1, _⟩ := form e he
    obtain ⟨x', y', e2, _⟩ := form e' he'
    rw [e1, e2] at z
    have z' : x * 12 + y = x' * 12 + y' := z
    obtain ⟨rfl, rfl⟩ : x = x' ∧ y = y' := by omega
    exact ne (e1.trans e2.symm)
  have := nodup_le 144 _ nd2 fun z hz => by
    obtain ⟨e, he, rfl⟩ := List.mem_map.mp hz
    obtain ⟨x, y, e1, _⟩ := form e he
    rw [e1]
    show 0 ≤ x * 12 + y ∧ x * 12 + y < ((144 : Nat) : Int)
    omega
  rw [List.length_map] at this
  omega
/-- the things whose first state is t -/
def onT (F : List KR) (t : Int) : List KR := F.filter fun e => decide (e.1.getD 0 0 = t)
def endsOf (F : List KR) (t : Int) : List Int := (onT F t).map fun e => e.1.getD 1 0
def rowsOf (F : List KR) (t : Int) : List (List Int) := (onT F t).map (·.2)
theorem onT_snoc {F : List KR} {t : Int} {i : Nat} {e : KR} (h : F[i]? = some e) : onT (F.take (i + 1)) t = onT (F.take i) t ++ (if e.1.getD 0 0 = t then [e] else []) := by
  rw [take_succ h, onT, List.filter_append]
  show _ = onT (F.take i) t ++ _
  unfold onT
  by_cases z : e.1.getD 0 0 = t
  · rw [if_pos z, List.filter_cons, if_pos (decide_eq_true z), List.filter_nil]
  · rw [if_neg z, List.filter_cons, if_neg (by simpa using z), List.filter_nil]
theorem onT_len (F : List KR) (t : Int) (i : Nat) : (onT (F.take i) t).length ≤ F.length := by
  refine Nat.le_trans (List.length_filter_le _ _) ?_
  rw [List.length_take]; omega
def spJoined (M CU : Addr) : Sp := fun vs H Q E => ∃ m ta ts a h t, vs = [.ref m, .int a, .int h, .int t] ∧ MachAt M H m ta (vts ts) ∧ Wf ts ∧ (0 ≤ a ∧ a < (nS ts : Int)) ∧ (0 ≤ h ∧ h < (nS ts : Int)) ∧
  ∀ F H', Same H H' → Fst (actL ts) ts.length [a, h] F → (∀ e, endsOf F t = [e] → Q (.int e) H') ∧ ((endsOf F t).length ≠ 1 → RzU CU a h t H' E)
def spJoin (M CS CU : Addr) : Sp := fun vs H Q E => ∃ m ta ts v1 v2 v3, vs = [.ref m, v1, v2, v3] ∧ MachAt M H m ta (vts ts) ∧ Wf ts ∧ (∀ x ∈ [v1, v2, v3], ∃ (K : PySem.W.Frag) (o : Option (List V)), KV K H x o) ∧ (∀ v H', Same H H' → FstBad (nS ts) [v1, v2, v3] v → Rz CS "state" v H' E) ∧
  (∀ a h t, v1 = .int a → v2 = .int h → v3 = .int t → (0 ≤ a ∧ a < (nS ts : Int)) → (0 ≤ h ∧ h < (nS ts : Int)) → (0 ≤ t ∧ t < (nS ts : Int)) → ∀ F H', Same H H' → Fst (actL ts) ts.length [a, h] F → (∀ e, endsOf F t = [e] → Q (.int e) H') ∧ ((endsOf F t).length ≠ 1 → RzU CU a h t H' E))
def UntV (H : Hp) (v : V) : List (List Int) → Prop
  | [] => ∃ p, v = .ref p ∧ H p = some (.tup [.str "none"])
  | [_] => v = .non
  | r1 :: r2 :: _ => ∃ p a b, v = .ref p ∧ H a = some (.tup (vrow r1)) ∧ H b = some (.tup (vrow r2)) ∧ H p = some (.tup [.str "rows", .ref a, .ref b])
def spUntold (M CS : Addr) : Sp := fun vs H Q E => ∃ m ta ts v1 v2 v3, vs = [.ref m, v1, v2, v3] ∧ MachAt M H m ta (vts ts) ∧ Wf ts ∧ (∀ x ∈ [v1, v2, v3], ∃ (K : PySem.W.Frag) (o : Option (List V)), KV K H x o) ∧ (∀ v H', Same H H' → FstBad (nS ts) [v1, v2, v3] v → Rz CS "state" v H' E) ∧
  (∀ a h t, v1 = .int a → v2 = .int h → v3 = .int t → (0 ≤ a ∧ a < (nS ts : Int)) → (0 ≤ h ∧ h < (nS ts : Int)) → (0 ≤ t ∧ t < (nS ts : Int)) → ∀ F u H', Same H H' → Fst (actL ts) ts.length [a, h] F → UntV H' u (rowsOf F t) → Q u H')
section
variable {P : Program} {w : World} {K : PySem.W.Frag} {mg : Str → Option Value} {base : Heap}
theorem scNSs : FnScope ["machine", "states", "state"] ["machine", "states"] (defScope sNeedSs) := ⟨rfl, rfl, rfl, by decide +kernel, rfl, by decide +kernel, by decide +kernel⟩
theorem ok_needSs {f fN CS M : Addr} {fd fdN : FuncData} (D : Df K mg "need_states" sNeedSs ["machine", "states"] f fd) (DN : Df K mg "need_state" sNeedS ["machine", "state"] fN fdN)
    (GN : FnOk P w K mg base (L2.CX P w) 3 fN fdN ["machine", "state"] (spNeed M CS "state" nS)) : FnOk P w K mg base (L2.CX P w) 4 f fd ["machine", "states"] (spNeedSs M CS) := by
  refine D.F.okX scNSs (fun vs H Q E h => ?_) (fun cdv A outer s H vs Q E hr h => ?_)
  · obtain ⟨m, ta, ts, p, xs, rfl, _⟩ := h
    rfl
  · obtain ⟨m, ta, ts, p, xs, rfl, hM, hp, kv, qb, qg⟩ := h
    refine ⟨_, pss_one (ps_for (passes_of rfl) rfl (pi_tup (pv 1)) (pg_name (i := 2) scNSs.nd rfl (.inl rfl)) (pss_one (ps_expr (pc DN GN hr (pass1 (takes_of rfl rfl rfl rfl)) (pa_cons (pv 0) (pa_cons (pv 2) pa_nil)))))), ?_⟩
    refine ⟨_, rfl, p, rfl, ⟨_, SqT.of hp⟩, for_tup (K := K) (a := p) (xs := xs) (fun i σ H' => ∃ v2, σ = [some (.ref m), some (.ref p), v2] ∧ H' = H ∧ ∀ (j : Nat) y, j < i → xs[j]? = some y → belowB y (nS ts : Int) = true) ⟨none, rfl, rfl, fun j y hj => absurd hj (Nat.not_lt_zero _)⟩ (fun i σ H' _ ⟨_, _, e, _⟩ => e ▸ SqT.of hp) ?_ ?_⟩
    · rintro i x σ H' hx ⟨v2, rfl, rfl, ok⟩
      refine ⟨_, rfl, _, rfl, m, ta, ts, x, rfl, hM, kv x (List.mem_of_getElem? hx), fun e => ?_, fun e => qb x ⟨i, hx, e, ok⟩⟩
      refine ⟨_, rfl, rfl, fun j y hj hy => ?_⟩
      rcases Nat.lt_succ_iff_lt_or_eq.mp hj with z | z
      · exact ok j y z hy
      · subst z
        rw [hx] at hy
        rw [← Option.some.inj hy]; exact e
    · rintro σ H' ⟨v2, rfl, rfl, ok⟩
      refine qg fun x hx => ?_
      obtain ⟨j, hj⟩ := List.getElem?_of_mem hx
      exact ok j x (List.getElem?_eq_some_iff.mp hj).1 hj
abbrev nJd : List Str := ["machine", "archive", "here", "there", "ends", "at", "end"]
theorem scJd : FnScope nJd ["machine", "archive", "here", "there"] (defScope sJoined) := ⟨rfl, rfl, rfl, by decide +kernel, rfl, by decide +kernel, by decide +kernel⟩
abbrev gPair (i j : Nat) (K : PySem.W.Frag) : TG := gTup K 2 (gCons (gName i) (gCons (gName j) gNil))
theorem ok_joined {f fF fI CU M : Addr} {fd fdF fdI : FuncData} (D : Df K mg "joined" sJoined ["machine", "archive", "here", "there"] f fd) (DF : DfF K mg fF fdF) (U : UnC K mg CU) (B : Bt mg)
    (iC : PySem.W.findIn K (.ref CU) "__init__" = some (some (.ref fI))) (tI : PySem.W.typeIn K (.ref fI) = some (.type "function")) (bI : Binds K fdI ["self", "archive", "here", "there"] [])
    (GI : FnOk P w K mg base CX0 1 fI fdI ["self", "archive", "here", "there"] (spUInit K CU)) (GF : FnOk P w K mg base CX0 1 fF fdF ["machine", "states", "out", "most"] (spFirst M)) :
    FnOk P w K mg base (L2.CX P w) 4 f fd ["machine", "archive", "here", "there"] (spJoined M CU) := by
  refine D.F.okX scJd (fun vs H Q E h => ?_) (fun cdv A outer s H vs Q E hr h => ?_)
  · obtain ⟨m, ta, ts, a, h, t, rfl, _⟩ := h
    rfl
  · obtain ⟨m, ta, ts, a, h, t, rfl, hM, hW, ha, hh, q⟩ := h
    obtain ⟨ds, vd, bd⟩ := DF.b
    refine ⟨_, pss_cons (ps_setLc (i := 4) (own := [("at", 5), ("end", 6)]) (g := gPair 5 6 K) rfl scJd.nd rfl rfl (sw_true rfl rfl rfl rfl) (pi_keysF (pcF DF GF (hr.mono (by decide)) pass0 (pa_cons (pv 0) (pa_cons (pe_tup (pa_cons (pv 1) (pa_cons (pv 2) pa_nil))) pa_nil)) vd bd)) (blkOk_by (N := nJd) (sc := defScope sJoined) (by decide +kernel))
          (fun _ _ _ _ _ => pg_tup rfl (pgs_cons (pg_name (i := 5) scJd.nd rfl (Or.inl rfl)) (pgs_cons (pg_name (i := 6) scJd.nd rfl (Or.inl rfl)) pgs_nil))) (fun _ _ _ _ _ => pts_one (pt_cmpR op_eq (pv 5) (pv 3) (nomark _))) (fun _ _ _ _ _ => pv 6))
      (pss_cons (ps_if (pt_cmpR op_ne (pe_callB call_len_seq (by rfl) B.len PySem.boot_len (pa_cons (pv 4) pa_nil)) pe_int (nomark _)) (pss_one (ps_raise rfl (takes_of rfl rfl rfl rfl) (pmk_oex (CX := CX0) U.x iC tI GI (hr.mono (show 2 ≤ 3 by decide)) bI .nil (fun _ _ _ _ _ _ _ h => h.elim) (by rfl) U.g (pa_cons (pv 1) (pa_cons (pv 2) (pa_cons (pv 3) pa_nil)))))) pss_nil)
      (pss_one (ps_ret (pe_ix ix_list (pv 4) pe_int (fun _ _ => rfl))))), ?_⟩
    refine ⟨_, rfl, _, rfl, _, rfl, (by show 2 ≤ sizeLine; decide), fun p hp => ?_⟩
    have s1 := same_new (o := HO.tup [V.int a, .int h]) hp
    have hss : ∀ s ∈ [a, h], 0 ≤ s ∧ s < (nS ts : Int) := fun s hs => by
      simp only [List.mem_cons, List.mem_nil_iff, or_false] at hs
      rcases hs with rfl | rfl <;> assumption
    refine ⟨m, ta, ts, [a, h], p, rfl, hM.same s1, hW, hss, (by show 2 ≤ 12; decide), upd_same, pair_few hW ha hh, fun d F H2 s2 hd ⟨kvs, hd2, ky, vl⟩ hF hf => ?_⟩
    have s12 := s1.trans s2
    have hd0 : H d = none := s1.free hd
    have lk : kvs.length = F.length := by simpa using congrArg List.length ky
    refine ⟨d, kvs, rfl, hd2, fun od D0 hD0 => ?_⟩
    have ndD : d ≠ D0 := fun z => by rw [← z, upd_same] at hD0; cases hD0
    have hD2 : H2 D0 = none := by rw [upd_ne ndD.symm] at hD0; exact hD0
    generalize hH3 : upd H2 d (.frz od (.dT kvs)) = H3
    have hd3 : H3 d = some (.frz od (.dT kvs)) := by rw [← hH3, upd_same]
    have s3 : Same H H3 := fun c o e => by
      rw [← hH3, upd_ne (ne_of_none e hd0)]
      exact s12 _ _ e
    have hD3 : H3 D0 = none := by rw [← hH3, upd_ne ndD.symm]; exact hD2
    refine lc_keysF (fun i H' => Same H3 H' ∧ H' D0 = some (.lst ((endsOf (F.take i) t).map V.int))) ⟨same_new hD3, upd_same⟩ (fun i H' _ ⟨s4, _⟩ => s4 _ _ hd3) ?_ ?_
    · rintro i k v qk H' hk hqk ⟨s4, hD4⟩
      obtain ⟨e, he, rfl⟩ : ∃ e, F[i]? = some e ∧ k = kK e.1 := by
        have z : (kvs.map (·.1))[i]? = some k := by rw [List.getElem?_map, hk]; rfl
        rw [ky, List.getElem?_map] at z
        cases e : F[i]? with
        | none => rw [e] at z; cases z
        | some x => rw [e] at z; exact ⟨x, rfl, (Option.some.inj z).symm⟩
      obtain ⟨pe, pv1, _⟩ := hF.pth i e.1 e.2 he
      rw [path_run] at pe
      have pe' : e.1 = [run ts a e.2, run ts h e.2] := pe
      rw [kK_v, pe'] at hqk
      refine ⟨qk, _, rfl, SqT.of hqk, rfl, _, _, rfl, _, _, rfl, rfl, ?_⟩
      refine ⟨rfl, _, rfl, _, rfl, rfl, _, rfl, ?_⟩
      have hon : e.1.getD 0 0 = run ts a e.2 := by rw [pe']; rfl
      have hen : e.1.getD 1 0 = run ts h e.2 := by rw [pe']; rfl
      have snoc := onT_snoc (t := t) he
      refine ifD (fun c => ?_) fun c => ?_
      · have c' : run ts a e.2 = t := by
          have := of_decide_eq_true c
          injection this
        rw [hon, if_pos c'] at snoc
        refine ⟨_, rfl, _, hD4, ?_, ?_, ?_⟩
        · rw [List.length_map, endsOf, List.length_map, sizeLine_eq]
          have := onT_len F t i
          omega
        · intro c o e
          rw [upd_ne (ne_of_none e hD3)]
          exact s4 _ _ e
        · rw [upd_same, endsOf, endsOf, snoc, List.map_append, List.map_append]
          show _ = some (HO.lst (_ ++ [V.int (e.1.getD 1 0)]))
          rw [hen]
      · have c' : run ts a e.2 ≠ t := fun z => by
          have := of_decide_eq_false c
          exact this (by rw [z])
        rw [hon, if_neg c', List.append_nil] at snoc
        refine ⟨s4, ?_⟩
        rw [endsOf, snoc]
        exact hD4
    · rintro H4 ⟨s4, hD4⟩
      rw [lk, List.take_length] at hD4
      obtain ⟨q1, q2⟩ := q F H4 (s3.trans s4) hF
      refine ⟨_, rfl, _, _, rfl, .inl (SqL.of hD4), rfl, _, rfl, ifD (fun c => ?_) fun c => ?_⟩
      · have c' : (endsOf F t).length ≠ 1 := fun z => by
          rw [List.length_map, z] at c
          cases c
        refine ⟨_, rfl, _, rfl, _, rfl, by show 3 ≤ 1000; decide, fun ea hea => ⟨ea, .int a, .int h, .int t, rfl, U.x, upd_same, fun d H5 k2 hd ne hea2 hd2 => ⟨rfl, d, _, hea2, hd2, ?_, ?_⟩⟩⟩
        · rw [upd_ne ne] at hd; exact hd
        · refine q2 c' d _ (fun c o e => ?_) (by rw [upd_ne ne] at hd; exact hd) upd_same
          have nce := ne_of_none e hea
          have ncd : c ≠ d := fun z => by rw [z] at e; rw [upd_ne ne, e] at hd; cases hd
          rw [upd_ne ncd]
          unfold L2.del
          rw [if_neg nce]
          exact k2 c o (by rw [upd_ne nce]; exact e) nce
      · obtain ⟨e, he⟩ : ∃ e, endsOf F t = [e] := by
          match hx : endsOf F t with
          | [] => rw [hx] at c; cases c
          | [e] => exact ⟨e, rfl⟩
          | a :: b :: r =>
            rw [hx] at c
            have z := of_decide_eq_true (show decide (V.int ((((a :: b :: r).map V.int).length : Nat) : Int) = V.int 1) = true by
              have := c
              simpa using this)
            injection z with z
            simp only [List.length_map, List.length_cons] at z
            omega
        rw [he] at hD4
        exact ⟨_, rfl, D0, _, 0, _, rfl, rfl, SqL.of hD4, atI_nat (j := 0) rfl, q1 e he⟩
end
end K1
namespace K1
open PySem PySem.Spec PyProof.Rows L2
/-- rows at addresses -/
def RowsAt (H : Hp) (as : List Addr) (rs : List (List Int)) : Prop := as.length = rs.length ∧ ∀ (i : Nat) a r, as[i]? = some a → rs[i]? = some r → H a = some (.tup (vrow r))
theorem RowsAt.same {H H' : Hp} {as : List Addr} {rs : List (List Int)} (h : RowsAt H as rs) (s : Same H H') : RowsAt H' as rs := ⟨h.1, fun i a r e1 e2 => s _ _ (h.2 i a r e1 e2)⟩
theorem RowsAt.snoc {H : Hp} {as : List Addr} {rs : List (List Int)} {a : Addr} {r : List Int} (h : RowsAt H as rs) (ha : H a = some (.tup (vrow r))) : RowsAt H (as ++ [a]) (rs ++ [r]) := by
  refine ⟨by rw [List.length_append, List.length_append, h.1]; rfl, fun i c q e1 e2 => ?_⟩
  by_cases hi : i < as.length
  · rw [List.getElem?_append_left hi] at e1
    rw [List.getElem?_append_left (by rw [← h.1]; exact hi)] at e2
    exact h.2 i c q e1 e2
  · have hl : i = as.length := by
      have := (List.getElem?_eq_some_iff.mp e1).1
      simp only [List.length_append, List.length_cons, List.length_nil] at this
      omega
    subst hl
    rw [List.getElem?_append_right (Nat.le_refl _), Nat.sub_self] at e1
    rw [h.1, List.getElem?_append_right (Nat.le_refl _), Nat.sub_self] at e2
    rw [← Option.some.inj e1, ← Option.some.inj e2]
    exact ha
section
variable {P : Program} {w : World} {K : PySem.W.Frag} {mg : Str → Option Value} {base : Heap}
theorem scJn : FnScope ["machine", "archive", "here", "there"] ["machine", "archive", "here", "there"] (defScope sJoin) := ⟨rfl, rfl, rfl, by decide +kernel, rfl, by decide +kernel, by decide +kernel⟩
theorem ok_join {f fN fJ CS CU M : Addr} {fd fdN fdJ : FuncData} (D : Df K mg "join" sJoin ["machine", "archive", "here", "there"] f fd) (DN : Df K mg "need_states" sNeedSs ["machine", "states"] fN fdN) (DJ : Df K mg "joined" sJoined ["machine", "archive", "here", "there"] fJ fdJ)
    (GN : FnOk P w K mg base (L2.CX P w) 4 fN fdN ["machine", "states"] (spNeedSs M CS)) (GJ : FnOk P w K mg base (L2.CX P w) 4 fJ fdJ ["machine", "archive", "here", "there"] (spJoined M CU)) : FnOk P w K mg base (L2.CX P w) 5 f fd ["machine", "archive", "here", "there"] (spJoin M CS CU) := by
  refine D.F.okX scJn (fun vs H Q E h => ?_) (fun cdv A outer s H vs Q E hr h => ?_)
  · obtain ⟨m, ta, ts, v1, v2, v3, rfl, _⟩ := h
    rfl
  · obtain ⟨m, ta, ts, v1, v2, v3, rfl, hM, hW, kv, qb, qg⟩ := h
    refine ⟨_, pss_cons (ps_expr (pc DN GN hr (pass1 (takes_of rfl rfl rfl rfl)) (pa_cons (pv 0) (pa_cons (pe_tup (pa_cons (pv 1) (pa_cons (pv 2) (pa_cons (pv 3) pa_nil)))) pa_nil))))
      (pss_one (ps_ret (pc DJ GJ hr (pass1 (takes_of rfl rfl rfl rfl)) (pa_cons (pv 0) (pa_cons (pv 1) (pa_cons (pv 2) (pa_cons (pv 3) pa_nil))))))), ?_⟩
    refine ⟨_, rfl, _, rfl, _, rfl, _, rfl, (by show 3 ≤ sizeLine; decide), fun p hp => ?_⟩
    have s1 := same_new (o := HO.tup [v1, v2, v3]) hp
    refine ⟨m, ta, ts, p, _, rfl, hM.same s1, upd_same, fun x hx => ?_, fun v hv => qb v _ s1 hv, fun ok => ?_⟩
    · obtain ⟨K', o, z⟩ := kv x hx
      exact ⟨K', o, z.same s1⟩
    · obtain ⟨a, rfl, ha⟩ := belowB_int (ok v1 (by simp))
      obtain ⟨h, rfl, hh⟩ := belowB_int (ok v2 (by simp))
      obtain ⟨t, rfl, ht⟩ := belowB_int (ok v3 (by simp))
      exact ⟨_, rfl, _, rfl, _, rfl, _, rfl, m, ta, ts, a, h, t, rfl, hM.same s1, hW, ha, hh, fun F H' s2 hF => qg a h t rfl rfl rfl ha hh ht F H' (s1.trans s2) hF⟩
end
end K1
namespace K1
open PySem PySem.Spec PyProof.Rows L2
/-! ### small words -/
theorem seqG {t u : TS} {D : Ends} {σ : L2.St} {H : Hp} (G : L2.St → Hp → Prop) (hu : ∀ σ H, G σ H → u D σ H) (ht : (∀ σ H, G σ H → u D σ H) → t { D with nx := u D } σ H) : tSeq t u D σ H := ht hu
theorem gn {i : Nat} {x : V} {σ : L2.St} {H : Hp} {Q : L2.St → Hp → Prop} (h : Q (σ.set i (some x)) H) : gName i x σ H Q := h
theorem nxP {D : Ends} {σ : L2.St} {H : Hp} (h : D.nx σ H) : tNext D σ H := h
theorem nilP {σ : L2.St} {H : Hp} {Q : List V → Hp → Prop} (h : Q [] H) : tNil σ H Q := h
theorem cP {v : V} {σ : L2.St} {H : Hp} {Q : VK} (h : Q v H) : tC v σ H Q := h
theorem noP {σ : L2.St} {H : Hp} {Q : Option Int → Hp → Prop} (h : Q none H) : tNoPart σ H Q := h
theorem iteY {c : Bool} {A B : Prop} (e : c = true) (h : A) : if c = true then A else B := by subst e; exact iteT h
theorem neV {x : V} {Q : VK} {H : Hp} (hs : scal x x = true) (q : Q (.bl false) H) : rNe x x H Q := ⟨hs, qbl (by rw [decide_eq_true rfl]; rfl) q⟩
theorem eqVV {x : V} {Q : VK} {H : Hp} (hs : scal x x = true) (q : Q (.bl true) H) : rEq x x H Q := ⟨hs, qbl (by rw [decide_eq_true rfl]) q⟩
theorem passF {X : Cx} : Passes (L2.CX X.prog X.w) X (fun _ _ _ => False) := passes_call LamX.takes0 fun _ _ _ _ h => h
theorem lookup_same {α : Type} {l : List α} {i : Nat} {x y : α} (h1 : l[i]? = some x) (h2 : l[i]? = some y) : x = y := Option.some.inj (h1.symm.trans h2)
theorem ex_at {α : Type} {l : List α} {i : Nat} (h : i < l.length) : ∃ x, l[i]? = some x := ⟨l[i], List.getElem?_eq_getElem h⟩
theorem lt_at {α : Type} {l : List α} {i : Nat} {x : α} (h : l[i]? = some x) : i < l.length := (List.getElem?_eq_some_iff.mp h).1
theorem map_at {α β : Type} {f : α → β} {l : List α} {i : Nat} {x : α} (h : l[i]? = some x) : (l.map f)[i]? = some (f x) := by rw [List.getElem?_map, h]; rfl
theorem at_map {α β : Type} {f : α → β} {l : List α} {i : Nat} {y : β} (h : (l.map f)[i]? = some y) : ∃ x, l[i]? = some x ∧ y = f x := by
  rw [List.getElem?_map] at h
  cases e : l[i]? with
  | none => rw [e] at h; cases h
  | some x => rw [e] at h; exact ⟨x, rfl, (Option.some.inj h).symm⟩
theorem at_i {xs : List V} {i : Nat} {x : V} (h : xs[i]? = some x) : atI xs (i : Int) = some x := at_of (j := i) rfl h
theorem sz {n : Nat} (h : n ≤ 16777216) : n ≤ sizeLine := by rw [sizeLine_eq]; exact h
theorem szl {n : Nat} (h : n < 16777216) : n < sizeLine := by rw [sizeLine_eq]; exact h
/-! ### rules with the fragment told -/
section
variable {X : Cx} {K : PySem.W.Frag}
theorem neD (h : X.K = K) (hu : X.A.units + 64 < cLine) : OpR X (compareOp .NotEq) (rNeD K) := by subst h; exact op_neD hu
theorem eqD (h : X.K = K) (hu : X.A.units + 64 < cLine) : OpR X (compareOp .Eq) (rEqD K) := by subst h; exact op_eqD hu
def rList (K : PySem.W.Frag) : List V → Hp → VK → Prop := fun xs H Q => ∃ p ys, xs = [.ref p] ∧ (SqL K H p ys ∨ SqT K H p ys) ∧ ∀ l, H l = none → Q (.ref l) (upd H l (.lst ys))
theorem clist (h : X.K = K) : CallR X (.type "list") (rList K) := by subst h; exact call_list_of
theorem slL (h : X.K = K) : SlR X (rSlL K) := by subst h; exact sl_list
theorem slA (h : X.K = K) : SlR X (rSlA K) := by subst h; exact sl_tupA
theorem piL {tg l : Expr} {tl : TE} (h : X.K = K) (hl : PE X l tl) : PI X tg l (iList K tl) := by subst h; exact pi_list hl
theorem ixLK (h : X.K = K) : IxR X (rIxL K) := by subst h; exact ix_list
def rLenK (K : PySem.W.Frag) : List V → Hp → VK → Prop := fun xs H Q => ∃ p ys, xs = [.ref p] ∧ (SqL K H p ys ∨ SqT K H p ys) ∧ Q (.int (ys.length : Int)) H
theorem clen (h : X.K = K) : CallR X (.builtin "len") (rLenK K) := by subst h; exact call_len_seq
theorem opInK (h : X.K = K) : OpR X (compareOp .In) (rIn K false) := by subst h; exact op_in_seq
theorem opNotInK (h : X.K = K) : OpR X (compareOp .NotIn) (rIn K true) := by subst h; exact op_notIn_seq
theorem opCatA (h : X.K = K) : OpR X (binaryOp .Add) (rCatA K) := by subst h; exact op_catA
theorem pe_fldK {e : Expr} {f : Str} {te : TE} {pos : Pos} (h : X.K = K) (he : PE X e te) (hb : attributeBase e f X.env (eval e X.env) = eval e X.env) : PE X (.Attribute e f pos) (tFld K te f) := by subst h; exact pe_fld he hb
end
/-! ### slices and sums of tuples -/
theorem cut_to {xs : List V} {k : Nat} (h : k ≤ xs.length) : cutV xs none (some (k : Int)) = xs.take k := by
  unfold cutV
  rw [HT.sIx_nat, HT.sIx_none, Nat.min_eq_left h]; rfl
theorem cut_from {xs : List V} {k : Nat} (h : k ≤ xs.length) : cutV xs (some (k : Int)) none = xs.drop k := by
  unfold cutV
  rw [HT.sIx_nat, HT.sIx_none, Nat.min_eq_left h, ← List.length_drop, List.take_length]
theorem catA_by {K : PySem.W.Frag} {H : Hp} {Q : VK} {a b : Addr} {xs ys : List V} (ha : H a = some (.tup xs)) (hb : H b = some (.tup ys)) (hl : xs.length + ys.length ≤ sizeLine) (q : ∀ p H', Same H H' → H' p = some (.tup (xs ++ ys)) → Q (.ref p) H') : rCatA K (.ref a) (.ref b) H Q := by
  refine ⟨a, b, xs, ys, rfl, rfl, SqT.of ha, SqT.of hb, hl, fun e => ?_, fun _ e => ?_, fun _ _ p hp => q p _ (K1.same_new hp) upd_same⟩
  · subst e
    exact q b H (fun _ _ e => e) hb
  · subst e
    exact q a H (fun _ _ e => e) (by rw [List.append_nil]; exact ha)
theorem slA_by {K : PySem.W.Frag} {H : Hp} {Q : VK} {a : Addr} {xs : List V} {lo hi : Option Int} (ha : H a = some (.tup xs)) (q : ∀ p H', Same H H' → H' p = some (.tup (cutV xs lo hi)) → Q (.ref p) H') : rSlA K (.ref a) lo hi H Q := by
  refine ⟨a, xs, rfl, SqT.of ha, fun e => ?_, fun _ p hp => q p _ (K1.same_new hp) upd_same⟩
  refine q a H (fun _ _ e => e) ?_
  rw [ha]
  unfold cutV
  rw [e.1, e.2, List.drop_zero, Nat.sub_zero, List.take_length]
/-! ### errors, rows of values -/
theorem kv_any {K K' : PySem.W.Frag} {H : Hp} {v : V} {o : Option (List V)} (kv : KV K' H v o) : KV K H v o := by cases kv <;> first | exact .int _ | exact .bl _ | exact .non | exact .str _ | exact .lst (by assumption) | exact .tup (by assumption)
/-! ### whole numbers by rows -/
theorem dp_lst {K : PySem.W.Frag} {H : Hp} {a : Addr} {t : List Int} (h : H a = some (.lst (vrow t))) : Dp K H (.ref a) (.list (dI t)) := .lst (SqL.of h) (dp_ints t)
theorem vrow_set (t : List Int) (i : Nat) (x : Int) : vrow (t.set i x) = (vrow t).set i (.int x) := by unfold vrow; rw [List.map_set]
theorem vrow_len (t : List Int) : (vrow t).length = t.length := List.length_map _
theorem vrow_at {t : List Int} {i : Nat} {v : V} (h : (vrow t)[i]? = some v) : ∃ x, t[i]? = some x ∧ v = .int x := at_map h
theorem vrow_get {t : List Int} {i : Nat} (h : i < t.length) : (vrow t)[i]? = some (V.int (t.getD i 0)) := by
  rw [vrow, List.getElem?_map, List.getD_eq_getElem?_getD, List.getElem?_eq_getElem h]; rfl
theorem pl_str {x : Str} (h1 : PyData.strOk x = true) (h2 : x.cps.size ≤ 100) (h3 : (x.cps.toList.all fun c => decide (c < 16 ^ 8)) = true) : Pl (.str x) 0 100 :=
  ⟨by simp only [PyData.canLay0]; exact h1, by simp only [PyData.showable], by simp only [PyData.hasDict], by simp only [PyData.depth]; omega, by simp only [PyData.weight]; exact h2, by simp only [PyData.leavesShort]; exact h3⟩
theorem pl_non : Pl .none 0 100 := ⟨rfl, rfl, rfl, by show 0 ≤ 0; decide, by show _ ≤ 100; decide +kernel, rfl⟩
/-! ### what repr gives -/
theorem reprP {K : PySem.W.Frag} {p : Addr} {d : PyData} {n w : Nat} {H : Hp} {Q : VK} (hd : Dp K H (.ref p) d) (pl : Pl d n w) (hn : n ≤ 40) (hw : w ≤ 100000) (q : Q (.str d.shown) H) : rRepr K [.ref p] H Q := ⟨p, d, rfl, hd, pl.sh, pl.nd, Nat.le_trans pl.dp hn, pl.short hw, q⟩
theorem neDP {K : PySem.W.Frag} {x y : V} {d : PyData} {n w : Nat} {H : Hp} {Q : VK} (h1 : Dp K H x d) (h2 : Dp K H y d) (pl : Pl d n w) (hn : n ≤ 40) (q : Q (.bl false) H) : rNeD K x y H Q := ⟨d, d, h1, h2, pl.shaped hn, pl.shaped hn, qbl (by rw [SeqAt.eqv_refl _ pl.lay]; rfl) q⟩
theorem eqDP {K : PySem.W.Frag} {x y : V} {d : PyData} {n w : Nat} {H : Hp} {Q : VK} (h1 : Dp K H x d) (h2 : Dp K H y d) (pl : Pl d n w) (hn : n ≤ 40) (q : Q (.bl true) H) : rEqD K x y H Q := ⟨d, d, h1, h2, pl.shaped hn, pl.shaped hn, qbl (SeqAt.eqv_refl _ pl.lay) q⟩
/-! ### what stays: all but the things at xs, and the tables of code -/
def Ks (xs : List Addr) (H H' : Hp) : Prop := ∀ c o, H c = some o → c ∉ xs → (∀ ps, o ≠ .tbl ps) → H' c = some o
section
variable {xs ys : List Addr} {H H1 H2 : Hp}
theorem Ks.refl : Ks xs H H := fun _ _ e _ _ => e
theorem Ks.trans (a : Ks xs H H1) (b : Ks xs H1 H2) : Ks xs H H2 := fun c o e n1 n2 => b c o (a c o e n1 n2) n1 n2
theorem Ks.same (a : Ks xs H H1) (s : Same H1 H2) : Ks xs H H2 := fun c o e n1 n2 => s _ _ (a c o e n1 n2)
theorem Same.ks (s : Same H H1) : Ks xs H H1 := fun c o e _ _ => s _ _ e
theorem Ks.mono (a : Ks xs H H1) (h : ∀ c ∈ xs, c ∈ ys) : Ks ys H H1 := fun c o e n1 n2 => a c o e (fun z => n1 (h c z)) n2
theorem Ks.tup {c : Addr} {vs : List V} (a : Ks xs H H1) (h : H c = some (.tup vs)) (n : c ∉ xs) : H1 c = some (.tup vs) := a c _ h n fun ps z => by cases z
theorem Ks.lst {c : Addr} {vs : List V} (a : Ks xs H H1) (h : H c = some (.lst vs)) (n : c ∉ xs) : H1 c = some (.lst vs) := a c _ h n fun ps z => by cases z
theorem Ks.ins {c C dx : Addr} {fs : List (Str × V)} (a : Ks xs H H1) (h : H c = some (.ins C dx fs)) (n : c ∉ xs) : H1 c = some (.ins C dx fs) := a c _ h n fun ps z => by cases z
end
end K1
namespace K1
open PySem PySem.Spec PyProof.Rows L2
/-! ### replaced -/
def spRepl : Sp := fun vs H Q _ => ∃ (p : Addr) (xs : List V) (i : Nat) (v : V), vs = [.ref p, .int (i : Int), v] ∧ H p = some (.tup xs) ∧ i < xs.length ∧ xs.length ≤ 1000 ∧ ∀ q H', Same H H' → H' q = some (.tup (xs.set i v)) → Q (.ref q) H'
/-! ### webs -/
abbrev Prs := List (Nat × Nat)
def pV (p : Nat × Nat) : List V := [.int (p.1 : Int), .int (p.2 : Int)]
structure Wv (n : Nat) (ts : Prs) : Prop where
  n1 : 1 ≤ n
  n12 : n ≤ 12
  t20 : ts.length ≤ 20
  pr : ∀ p ∈ ts, p.1 < n ∧ p.2 < n ∧ p.1 ≠ p.2
theorem Wv.at_ {n : Nat} {ts : Prs} (h : Wv n ts) {i : Nat} {p : Nat × Nat} (e : ts[i]? = some p) : p.1 < n ∧ p.2 < n ∧ p.1 ≠ p.2 := h.pr p (List.mem_of_getElem? e)
def wf (ta : Addr) (n : Int) : List (Str × V) := putF "houses" (.int n) (putF "ties" (.ref ta) [])
theorem wf_t (ta : Addr) (n : Int) : (wf ta n).lookup ("ties" : Str) = some (.ref ta) := by
  unfold wf
  rw [lookup_putF, if_neg (by decide +kernel), lookup_putF, if_pos rfl]
theorem wf_h (ta : Addr) (n : Int) : (wf ta n).lookup ("houses" : Str) = some (.int n) := by
  unfold wf
  rw [lookup_putF, if_pos rfl]
/-- pairs as tuples -/
def PrsA (H : Hp) (as : List Addr) (ts : Prs) : Prop := as.length = ts.length ∧ ∀ (i : Nat) a t, as[i]? = some a → ts[i]? = some t → H a = some (.tup (pV t))
theorem PrsA.same {H H' : Hp} {as : List Addr} {ts : Prs} (h : PrsA H as ts) (s : Same H H') : PrsA H' as ts := ⟨h.1, fun i a t e1 e2 => s _ _ (h.2 i a t e1 e2)⟩
theorem PrsA.get {H : Hp} {as : List Addr} {ts : Prs} (h : PrsA H as ts) {i : Nat} {t : Nat × Nat} (e : ts[i]? = some t) : ∃ a, as[i]? = some a ∧ H a = some (.tup (pV t)) := by
  obtain ⟨a, ha⟩ := ex_at (l := as) (i := i) (by rw [h.1]; exact lt_at e)
  exact ⟨a, ha, h.2 i a t ha e⟩
theorem PrsA.get' {H : Hp} {as : List Addr} {ts : Prs} (h : PrsA H as ts) {i : Nat} {x : V} (e : (as.map V.ref)[i]? = some x) : ∃ a t, x = .ref a ∧ as[i]? = some a ∧ ts[i]? = some t ∧ H a = some (.tup (pV t)) := by
  obtain ⟨a, ha, rfl⟩ := at_map e
  obtain ⟨t, ht⟩ := ex_at (l := ts) (i := i) (by rw [← h.1]; exact lt_at ha)
  exact ⟨a, t, rfl, ha, ht, h.2 i a t ha ht⟩
def TiesT (H : Hp) (ta : Addr) (ts : Prs) : Prop := ∃ as : List Addr, H ta = some (.tup (as.map V.ref)) ∧ PrsA H as ts
theorem TiesT.same {H H' : Hp} {ta : Addr} {ts : Prs} (h : TiesT H ta ts) (s : Same H H') : TiesT H' ta ts := let ⟨as, h1, h2⟩ := h; ⟨as, s _ _ h1, h2.same s⟩
/-- the web at w -/
def WebAt (W : Addr) (H : Hp) (w : Addr) (n : Nat) (ts : Prs) : Prop := ∃ dx ta, H w = some (.ins W dx (wf ta (n : Int))) ∧ TiesT H ta ts
theorem WebAt.same {W : Addr} {H H' : Hp} {w : Addr} {n : Nat} {ts : Prs} (h : WebAt W H w n ts) (s : Same H H') : WebAt W H' w n ts := let ⟨dx, ta, h1, h2⟩ := h; ⟨dx, ta, s _ _ h1, h2.same s⟩
/-- what the walk asks of the class Web, at W -/
structure WcT (K : PySem.W.Frag) (mg : Str → Option Value) (W : Addr) : Prop where
  cl : Cls K W
  nT : NoAttr K W "ties"
  nH : NoAttr K W "houses"
  g : mg "Web" = some (.ref W)
/-- the module's numbers -/
structure Cw (mg : Str → Option Value) : Prop where
  houses : ∃ t, mg "MOST_HOUSES" = some (.int 12 t)
  ties : ∃ t, mg "MOST_TIES" = some (.int 20 t)
/-- a pair of unlike numbers below n -/
def pairB (o : Option (List V)) (n : Int) : Bool := match o with
  | some [x, y] => belowB x n && belowB y n && !decide (x = y)
  | _ => false
theorem fnb_two (x y : V) (n : Int) : decide (fnb [x, y] n = .non) = (belowB x n && belowB y n) := by
  unfold fnb
  rw [List.findIdx?_cons, List.findIdx?_cons, List.findIdx?_nil]
  cases belowB x n <;> cases belowB y n <;> rfl
theorem scal_int {x y : V} {n : Int} (h1 : belowB x n = true) (h2 : belowB y n = true) : scal x y = true := by
  cases x <;> first | (cases h1; done) | skip
  cases y <;> first | (cases h2; done) | rfl
def spPair (K : PySem.W.Frag) : Sp := fun vs H Q _ => ∃ v o n, vs = [v, .int n] ∧ Rw K H v o ∧ ∀ H', Same H H' → Q (.bl (pairB o n)) H'
/-- checked_ties of a good web -/
def spCTies : Sp := fun vs H Q _ => ∃ (n : Nat) (p : Addr) (as : List Addr) (ts : Prs), vs = [.int (n : Int), .ref p] ∧ SeqA H p (as.map V.ref) ∧ PrsA H as ts ∧ Wv n ts ∧ ∀ ta H', Same H H' → TiesT H' ta ts → Q (.ref ta) H'
def spWInit (W : Addr) : Sp := fun vs H Q _ => ∃ (w dx : Addr) (n : Nat) (p : Addr) (as : List Addr) (ts : Prs), vs = [.ref w, .int (n : Int), .ref p] ∧ H w = some (.ins W dx []) ∧ SeqA H p (as.map V.ref) ∧ PrsA H as ts ∧ Wv n ts ∧
  ∀ H', (∀ b u, H b = some u → b ≠ w → H' b = some u) → WebAt W H' w n ts → Q .non H'
def spNeedH (K : PySem.W.Frag) (W C : Addr) : Sp := fun vs H Q E => ∃ w v o n ts, vs = [.ref w, v] ∧ WebAt W H w n ts ∧ KV K H v o ∧ (belowB v (n : Int) = true → Q v H) ∧ (belowB v (n : Int) = false → Rz C "house" v H E)
def spNeedT (K : PySem.W.Frag) (W C : Addr) : Sp := fun vs H Q E => ∃ w v o n ts, vs = [.ref w, v] ∧ WebAt W H w n ts ∧ KV K H v o ∧ (belowB v (ts.length : Int) = true → Q v H) ∧ (belowB v (ts.length : Int) = false → Rz C "tie" v H E)
section
variable {P : Program} {w : World} {K : PySem.W.Frag} {mg : Str → Option Value} {base : Heap}
theorem scRe : FnScope ["items", "at", "item"] ["items", "at", "item"] (defScope sRepl) := ⟨rfl, rfl, rfl, by decide +kernel, rfl, by decide +kernel, by decide +kernel⟩
theorem ok_repl {f : Addr} {fd : FuncData} (D : Df K mg "replaced" sRepl ["items", "at", "item"] f fd) : FnOk P w K mg base CX0 1 f fd ["items", "at", "item"] spRepl := by
  refine D.F.ok scRe (fun vs H Q E h => ?_) (fun cdv A outer s H vs Q E hr h => ?_)
  · obtain ⟨p, xs, i, v, rfl, _⟩ := h
    rfl
  · obtain ⟨p, xs, i, v, rfl, hp, hi, hl, q⟩ := h
    refine ⟨_, pss_one (ps_ret (pe_op op_catA (pe_op op_catA (pe_slice sl_tupA (pv 0) po_none (po_some (pv 1))) (pe_tup (pa_cons (pv 2) pa_nil))) (pe_slice sl_tupA (pv 0) (po_some (pe_op op_add (pv 1) pe_int)) po_none))), ?_⟩
    refine ⟨_, rfl, noP ⟨_, rfl, _, rfl, slA_by hp fun p1 H1 s1 hp1 => ?_⟩⟩
    rw [cut_to (by omega)] at hp1
    refine ⟨_, rfl, (by show 1 ≤ sizeLine; decide), fun p2 hp2 => ?_⟩
    refine catA_by (same_new hp2 _ _ hp1) upd_same (sz (by rw [List.length_take]; simp only [List.length_cons, List.length_nil]; omega)) fun p3 H3 s3 hp3 => ?_
    have s03 := (s1.trans (same_new (o := HO.tup [v]) hp2)).trans s3
    refine ⟨_, rfl, _, rfl, _, _, rfl, rfl, _, rfl, noP (slA_by (s03 _ _ hp) fun p4 H4 s4 hp4 => ?_)⟩
    have e1 : ((i : Int) + 1) = ((i + 1 : Nat) : Int) := by omega
    rw [e1, cut_from (by omega)] at hp4
    refine catA_by (s4 _ _ hp3) hp4 (sz (by rw [List.length_append, List.length_take, List.length_drop]; simp only [List.length_cons, List.length_nil]; omega)) fun p5 H5 s5 hp5 => ?_
    refine q p5 H5 ((s03.trans s4).trans s5) ?_
    rw [hp5, List.set_eq_take_append_cons_drop, if_pos hi, List.append_assoc]; rfl
theorem scPr : FnScope ["value", "houses"] ["value", "houses"] (defScope sPair) := ⟨rfl, rfl, rfl, by decide +kernel, rfl, by decide +kernel, by decide +kernel⟩
theorem ok_pair {f fS fF : Addr} {fd fdS fdF : FuncData} (D : Df K mg "is_pair" sPair ["value", "houses"] f fd) (DS : Df K mg "is_sequence" sSeq ["value", "least", "most"] fS fdS) (DF : Df K mg "first_not_below" sFnb ["items", "limit"] fF fdF)
    (GS : FnOk P w K mg base CX0 1 fS fdS ["value", "least", "most"] (spSeq K)) (GF : FnOk P w K mg base CX0 3 fF fdF ["items", "limit"] (spFnb K)) : FnOk P w K mg base CX0 4 f fd ["value", "houses"] (spPair K) := by
  refine D.F.ok scPr (fun vs H Q E h => ?_) (fun cdv A outer s H vs Q E hr h => ?_)
  · obtain ⟨v, o, n, rfl, _⟩ := h
    rfl
  · obtain ⟨v, o, n, rfl, hw, q⟩ := h
    refine ⟨_, pss_cons (ps_if (PW.pt (pw_or (pt_not (pt_val (pc DS GS (hr.mono (by decide)) pass0 (pa_cons (pv 0) (pa_cons pe_int (pa_cons pe_int pa_nil)))))) (pw_or1 (pt_cmp (pc_notN (pc DF GF hr pass0 (pa_cons (pv 0) (pa_cons (pv 1) pa_nil)))))))) (pss_one (ps_ret pe_bl)) pss_nil)
      (pss_one (ps_ret (pe_cmpR op_ne (pe_ix ix_seq (pv 0) pe_int (fun _ _ => rfl)) (pe_ix ix_seq (pv 0) pe_int (fun _ _ => rfl)) (nomark _)))), ?_⟩
    refine ⟨_, rfl, _, o, 2, 2, rfl, hw.kv, fun H1 s1 => ⟨_, rfl, ?_⟩⟩
    by_cases e : seqB o 2 2 = true
    · rw [e]
      refine iteF ?_
      cases o with
      | none => cases e
      | some ys =>
        have hl : ys.length = 2 := by
          have z : (decide ((2 : Int) ≤ (ys.length : Int)) && decide ((ys.length : Int) ≤ 2)) = true := e
          simp only [Bool.and_eq_true, decide_eq_true_eq] at z
          omega
        obtain ⟨x, y, rfl⟩ : ∃ x y, ys = [x, y] := by
          match ys, hl with
          | [x, y], _ => exact ⟨x, y, rfl⟩
        obtain ⟨a, rfl, hS⟩ := hw.kv.seqA
        refine ⟨_, rfl, _, rfl, a, _, n, rfl, hS.same s1, (hw.ks _ rfl).same s1, fun H2 s2 => ⟨_, rfl, ?_⟩⟩
        have s12 := s1.trans s2
        have hS2 := hS.same s12
        have fe := fnb_two x y n
        rw [fe]
        by_cases e2 : (belowB x n && belowB y n) = true
        · have hb := e2
          simp only [Bool.and_eq_true] at hb
          rw [e2]
          refine iteF (nxP ?_)
          have rd : ∀ (j : Nat) (v : V) (Q : VK), [x, y][j]? = some v → Q v H2 → rIx K (.ref a) (.int (j : Int)) H2 Q := fun j v Q hj q => by
            rcases hS2 with h | h
            · exact .inl ⟨a, _, _, v, rfl, rfl, SqL.of h, at_i hj, q⟩
            · exact .inr (.inl ⟨a, _, _, v, rfl, rfl, SqT.of h, at_i hj, q⟩)
          refine ⟨_, rfl, rd 0 x _ rfl ⟨_, rfl, rd 1 y _ rfl ⟨scal_int hb.1 hb.2, qbl ?_ (q _ s12)⟩⟩⟩
          show _ = (belowB x n && belowB y n && !decide (x = y))
          rw [e2]; rfl
        · have e3 : (belowB x n && belowB y n) = false := by simpa using e2
          rw [e3]
          refine iteT (qbl ?_ (q _ s12))
          show _ = (belowB x n && belowB y n && !decide (x = y))
          rw [e3]; rfl
    · have e3 : seqB o 2 2 = false := by simpa using e
      rw [e3]
      refine iteT (iteT (qbl ?_ (q _ s1)))
      cases o with
      | none => rfl
      | some ys =>
        match ys, e3 with
        | [], _ => rfl
        | [x], _ => rfl
        | [x, y], e3 => cases e3
        | x :: y :: z :: r, _ => rfl
end
end K1
namespace K1
open PySem PySem.Spec PyProof.Rows L2
/-! ### walks over a list or a tuple -/
theorem pi_seqK {X : Cx} {K : PySem.W.Frag} {tg l : Expr} {tl : TE} (h : X.K = K) (hl : PE X l tl) : PI X tg l (iSeqA K tl) := by subst h; exact pi_seqA hl
theorem pi_enumK {X : Cx} {K : PySem.W.Frag} {e : Expr} {ta : TA} {p pos tpos : Pos} {elts : List Expr} {kk : Nat} (h : X.K = K) (hg : Gl X "enumerate") (hm : X.mg "enumerate" = none) (ha : PA X [e] ta) (hs : starEach [e] X.env = [(false, eval e X.env)] := by rfl) :
    PI X (.Tuple elts kk tpos) (.Call (.Name "enumerate" p) [e] [] pos) (iEnumA K ta) := by subst h; exact pi_enumA hg hm ha hs
/-- a list, or a tuple, at a wherever Pv holds -/
def AtA {α : Type} (Pv : α → Hp → Prop) (a : Addr) (xs : List V) : Prop := (∀ y H, Pv y H → H a = some (.lst xs)) ∨ (∀ y H, Pv y H → H a = some (.tup xs))
section
variable {K : PySem.W.Frag} {a : Addr} {xs : List V}
/-- a comprehension over enumerate of a tuple -/
theorem lc_enumT {g : TG} {tt : TT} {te : TE} {vs : List Nat} {σ : L2.St} {H1 : Hp} {D : Addr} {Qd : Hp → Prop} (Pv : Nat → Hp → Prop) (h0 : Pv 0 (upd H1 D (.lst []))) (hl : ∀ i H, i ≤ xs.length → Pv i H → SqT K H a xs)
    (hs : ∀ i x T H, xs[i]? = some x → H T = none → Pv i H → g (.ref T) (wipe σ vs) (upd H T (.tup [.int (i : Nat), x])) fun σ2 H2 => wipe σ2 vs = wipe σ vs ∧ tt σ2 H2 fun b H3 =>
      if b = true then te σ2 H3 fun y H4 => ∃ acc, H4 D = some (.lst acc) ∧ acc.length < sizeLine ∧ Pv (i + 1) (upd H4 D (.lst (acc ++ [y]))) else Pv (i + 1) H3) (hd : ∀ H, Pv xs.length H → Qd H) :
    ∃ W : Nat → Nat → Hp → Prop, (∃ m, W 0 m (upd H1 D (.lst []))) ∧ ∀ i m H, W i m H →
      ((IteT K a).stop i H ∧ Qd H) ∨ ((IteT K a).go i H ∧ ∃ Nx : Hp → Prop, (∀ H', Nx H' → ∃ m', m' < m ∧ W (i + 1) m' H') ∧ ∀ x H', (IteT K a).yld i H x H' → g x (wipe σ vs) H' fun σ2 H2 => wipe σ2 vs = wipe σ vs ∧ tt σ2 H2 fun b H3 =>
        if b = true then te σ2 H3 fun y H4 => ∃ acc, H4 D = some (.lst acc) ∧ acc.length < sizeLine ∧ Nx (upd H4 D (.lst (acc ++ [y]))) else Nx H3) := by
  refine ⟨fun i m H => m = xs.length - i ∧ i ≤ xs.length ∧ Pv i H, ⟨xs.length, by simp, Nat.zero_le _, h0⟩, ?_⟩
  rintro i m H ⟨rfl, hi, p⟩
  have q := hl i H hi p
  by_cases hlt : i < xs.length
  · refine .inr ⟨⟨xs, xs[i], q, by simp [hlt]⟩, Pv (i + 1), fun H' p' => ⟨xs.length - (i + 1), by omega, rfl, hlt, p'⟩, fun x H' y => ?_⟩
    obtain ⟨T, x', e1, e2, e3, e4⟩ := y
    subst e1 e3
    exact hs i x' T H (e4 xs q) e2 p
  · have e : i = xs.length := by omega
    subst e
    exact .inl ⟨⟨xs, q, Nat.le_refl _⟩, hd H p⟩
end
section
variable {P : Program} {w : World} {K : PySem.W.Frag} {mg : Str → Option Value} {base : Heap}
theorem pair_ok {n : Nat} {ts : Prs} (hW : Wv n ts) {i : Nat} {t : Nat × Nat} (ht : ts[i]? = some t) : pairB (some (pV t)) (n : Int) = true := by
  obtain ⟨h1, h2, h3⟩ := hW.at_ ht
  show ((decide (0 ≤ (t.1 : Int)) && decide ((t.1 : Int) < (n : Int))) && (decide (0 ≤ (t.2 : Int)) && decide ((t.2 : Int) < (n : Int))) && !decide (V.int (t.1 : Int) = V.int (t.2 : Int))) = true
  rw [decide_eq_true (by omega), decide_eq_true (by omega), decide_eq_true (by omega), decide_eq_true (by omega), decide_eq_false (by intro e; injection e with e; omega)]; rfl
theorem kinds_pV {H : Hp} (t : Nat × Nat) : Kinds K H (pV t) := fun x hx => by
  simp only [pV, List.mem_cons, List.mem_nil_iff, or_false] at hx
  rcases hx with rfl | rfl <;> exact ⟨_, .int _⟩
theorem rw_pV {H : Hp} {a : Addr} {t : Nat × Nat} (h : H a = some (.tup (pV t))) : Rw K H (.ref a) (some (pV t)) := ⟨.tup h, fun ys e => by obtain rfl := Option.some.inj e; exact kinds_pV t⟩
theorem scCT : FnScope ["houses", "ties", "at", "pair"] ["houses", "ties"] (defScope sCTies) := ⟨rfl, rfl, rfl, by decide +kernel, rfl, by decide +kernel, by decide +kernel⟩
theorem ok_cties {f fW fS fP C cI : Addr} {fd fdW fdS fdP : FuncData} {bm : List Value} {ql : Str} (D : Df K mg "checked_ties" sCTies ["houses", "ties"] f fd) (DW : Df K mg "is_whole" sWhole ["value"] fW fdW) (DS : Df K mg "is_sequence" sSeq ["value", "least", "most"] fS fdS) (DP : Df K mg "is_pair" sPair ["value", "houses"] fP fdP)
    (B : Bt mg) (c : Cw mg) (T : LAt.Txt K mg "BadWeb" ql bm C cI) (GW : FnOk P w K mg base CX0 1 fW fdW ["value"] (spWhole K)) (GS : FnOk P w K mg base CX0 1 fS fdS ["value", "least", "most"] (spSeq K)) (GP : FnOk P w K mg base CX0 4 fP fdP ["value", "houses"] (spPair K)) :
    FnOk P w K mg base (L2.CX P w) 5 f fd ["houses", "ties"] spCTies := by
  obtain ⟨t1, hc1⟩ := c.houses
  obtain ⟨t2, hc2⟩ := c.ties
  refine D.F.okX scCT (fun vs H Q E h => ?_) (fun cdv A outer s H vs Q E hr h => ?_)
  · obtain ⟨n, p, as, ts, rfl, _⟩ := h
    rfl
  · obtain ⟨n, p, as, ts, rfl, hS, hA, hW, q⟩ := h
    have hr1 : Room 1 _ := hr.mono (by decide)
    refine ⟨_, pss_cons (ps_if (PW.pt (pw_or (pt_not (pt_val (pc DW GW hr1 pass0 (pa_cons (pv 0) pa_nil)))) (pw_or (pt_not (pt_chain op_le op_le pe_int (pv 0) (pe_glob (v := .int 12) (by rfl) hc1 ⟨_, rfl⟩))) (pw_or1 (pt_not (pt_val (pc DS GS hr1 pass0 (pa_cons (pv 1) (pa_cons pe_int (pa_cons (pe_glob (v := .int 20) (by rfl) hc2 ⟨_, rfl⟩) pa_nil)))))))))) (pss_one (ps_raise_LAt rfl T hr (takes_of rfl rfl rfl rfl) (pa_cons (pe_un un_neg pe_int) pa_nil))) pss_nil)
      (pss_cons (ps_for (passes_of rfl) rfl (pi_enumA (by rfl) B.enumerate (pa_cons (pv 1) pa_nil)) (pg_tup rfl (pgs_cons (pg_name (i := 2) scCT.nd rfl (.inl rfl)) (pgs_cons (pg_name (i := 3) scCT.nd rfl (.inl rfl)) pgs_nil)))
        (pss_one (ps_if (pt_not (pt_val (pc DP GP hr pass0 (pa_cons (pv 3) (pa_cons (pv 0) pa_nil))))) (pss_one (ps_raise_LAt rfl T hr (takes_of rfl rfl rfl rfl) (pa_cons (pv 2) pa_nil))) pss_nil)))
      (pss_one (ps_ret (pe_callTy call_tuple_of (by rfl) B.tuple (by decide +kernel) (pa_cons
        (pe_lc (own := [("pair", 3)]) (g := gName 3) (tt := tYes) rfl scCT.nd (pi_seqA (pv 1)) (blkOk_by (N := ["houses", "ties", "at", "pair"]) (sc := defScope sCTies) (by decide +kernel)) (fun _ _ _ _ _ => pg_name (i := 3) scCT.nd rfl (Or.inl rfl)) (fun _ _ _ _ _ => pts_nil)
          (fun _ _ _ _ _ => pe_callTy (ctup (K := K) rfl) (by rfl) B.tuple PyProof.Rows.boot_tuple (pa_cons (pv 3) pa_nil))) pa_nil))))), ?_⟩
    have n1 := hW.n1
    have n12 := hW.n12
    have t20 := hW.t20
    have la : (as.map V.ref).length = ts.length := by rw [List.length_map, hA.1]
    have lt20 : (as.map V.ref).length ≤ 20 := by omega
    have sq : seqB (some (as.map V.ref)) 0 20 = true := by
      show (decide ((0 : Int) ≤ ((as.map V.ref).length : Int)) && decide (((as.map V.ref).length : Int) ≤ 20)) = true
      rw [decide_eq_true (by omega), decide_eq_true (by omega)]; rfl
    refine ⟨_, rfl, _, none, rfl, .int _, true, rfl, iteF ?_⟩
    refine ⟨_, rfl, _, _, rfl, rfl, _, rfl, iteY (decide_eq_true (by omega)) ⟨_, _, rfl, rfl, true, congrArg V.bl (decide_eq_true (show (n : Int) ≤ 12 by omega)), iteF ?_⟩⟩
    refine ⟨_, rfl, _, some (as.map V.ref), 0, 20, rfl, hS.kv, fun H1 s1 => ⟨_, rfl, ?_⟩⟩
    rw [sq]
    refine iteF (nxP ?_)
    refine ⟨_, rfl, p, rfl, ?_⟩
    rcases hS with hS | hS
    · refine .inl ⟨_, SqL.of (s1 _ _ hS), for_enumL (K := K) (fun (_ : Nat) (σ : L2.St) (H' : Hp) => ∃ v2 v3 : Option V, σ = [some (.int (n : Int)), some (.ref p), v2, v3] ∧ Same H H') ⟨none, none, rfl, s1⟩ (fun i σ H' _ ⟨_, _, _, sm⟩ => SqL.of (sm _ _ hS)) ?_ ?_⟩
      · rintro i x T σ H' hx hT ⟨v2, v3, rfl, sm⟩
        obtain ⟨a, t, rfl, ha, ht, hat⟩ := hA.get' hx
        have sm2 := sm.trans (same_new (o := HO.tup [.int (i : Nat), .ref a]) hT)
        refine ⟨T, _, rfl, SqT.of upd_same, rfl, _, _, rfl, _, _, rfl, rfl, ?_⟩
        refine ⟨_, rfl, _, rfl, .ref a, some (pV t), (n : Int), rfl, rw_pV (sm2 _ _ hat), fun H3 s3 => ⟨_, rfl, ?_⟩⟩
        rw [pair_ok hW ht]
        exact iteF ⟨_, _, rfl, sm2.trans s3⟩
      · rintro σ H' ⟨v2, v3, rfl, sm⟩
        refine ⟨_, rfl, p, rfl, .inl ⟨_, SqL.of (sm _ _ hS), fun D hD => lc_list (K := K) (a := p) (xs := as.map V.ref) (fun i H2 => Same H' H2 ∧ H2 D = some (.lst ((as.map V.ref).take i))) ⟨same_new hD, by rw [upd_same]; rfl⟩ (fun i H2 _ ⟨s5, _⟩ => SqL.of (s5 _ _ (sm _ _ hS))) ?_ ?_⟩⟩
        · rintro i x H2 hx ⟨s5, hD2⟩
          obtain ⟨a, t, e, ha, ht, hat⟩ := hA.get' hx
          subst e
          refine ⟨rfl, _, rfl, a, pV t, rfl, .inr ⟨SqT.of (s5 _ _ (sm _ _ hat)), _, hD2, szl (by rw [List.length_take]; omega), fun c o e => ?_, ?_⟩⟩
          · rw [upd_ne (ne_of_none e hD)]
            exact s5 _ _ e
          · rw [upd_same, take_succ hx]
        · rintro H2 ⟨s5, hD2⟩
          rw [List.take_of_length_le (Nat.le_refl _)] at hD2
          refine ⟨D, _, rfl, .inl ⟨SqL.of hD2, fun ta hta => ?_⟩⟩
          have s6 := (sm.trans s5).trans (same_new (o := HO.tup (as.map V.ref)) hta)
          exact q ta _ s6 ⟨as, upd_same, hA.same s6⟩
    · refine .inr ⟨_, SqT.of (s1 _ _ hS), for_enumT (K := K) (fun (_ : Nat) (σ : L2.St) (H' : Hp) => ∃ v2 v3 : Option V, σ = [some (.int (n : Int)), some (.ref p), v2, v3] ∧ Same H H') ⟨none, none, rfl, s1⟩ (fun i σ H' _ ⟨_, _, _, sm⟩ => SqT.of (sm _ _ hS)) ?_ ?_⟩
      · rintro i x T σ H' hx hT ⟨v2, v3, rfl, sm⟩
        obtain ⟨a, t, rfl, ha, ht, hat⟩ := hA.get' hx
        have sm2 := sm.trans (same_new (o := HO.tup [.int (i : Nat), .ref a]) hT)
        refine ⟨T, _, rfl, SqT.of upd_same, rfl, _, _, rfl, _, _, rfl, rfl, ?_⟩
        refine ⟨_, rfl, _, rfl, .ref a, some (pV t), (n : Int), rfl, rw_pV (sm2 _ _ hat), fun H3 s3 => ⟨_, rfl, ?_⟩⟩
        rw [pair_ok hW ht]
        exact iteF ⟨_, _, rfl, sm2.trans s3⟩
      · rintro σ H' ⟨v2, v3, rfl, sm⟩
        refine ⟨_, rfl, p, rfl, .inr ⟨_, SqT.of (sm _ _ hS), fun D hD => lc_tup (K := K) (a := p) (xs := as.map V.ref) (fun i H2 => Same H' H2 ∧ H2 D = some (.lst ((as.map V.ref).take i))) ⟨same_new hD, by rw [upd_same]; rfl⟩ (fun i H2 _ ⟨s5, _⟩ => SqT.of (s5 _ _ (sm _ _ hS))) ?_ ?_⟩⟩
        · rintro i x H2 hx ⟨s5, hD2⟩
          obtain ⟨a, t, e, ha, ht, hat⟩ := hA.get' hx
          subst e
          refine ⟨rfl, _, rfl, a, pV t, rfl, .inr ⟨SqT.of (s5 _ _ (sm _ _ hat)), _, hD2, szl (by rw [List.length_take]; omega), fun c o e => ?_, ?_⟩⟩
          · rw [upd_ne (ne_of_none e hD)]
            exact s5 _ _ e
          · rw [upd_same, take_succ hx]
        · rintro H2 ⟨s5, hD2⟩
          rw [List.take_of_length_le (Nat.le_refl _)] at hD2
          refine ⟨D, _, rfl, .inl ⟨SqL.of hD2, fun ta hta => ?_⟩⟩
          have s6 := (sm.trans s5).trans (same_new (o := HO.tup (as.map V.ref)) hta)
          exact q ta _ s6 ⟨as, upd_same, hA.same s6⟩
theorem scWI : FnScope ["self", "houses", "ties"] ["self", "houses", "ties"] (defScope sWInit) := ⟨rfl, rfl, rfl, by decide +kernel, rfl, by decide +kernel, by decide +kernel⟩
theorem ok_winit {f fC W : Addr} {fd fdC : FuncData} (F : Fun K "__init__" "Web.__init__" sWInit f fd) (DC : Df K mg "checked_ties" sCTies ["houses", "ties"] fC fdC) (T : WcT K mg W)
    (GC : FnOk P w K mg base (L2.CX P w) 5 fC fdC ["houses", "ties"] spCTies) : FnOk P w K mg base (L2.CX P w) 6 f fd ["self", "houses", "ties"] (spWInit W) := by
  refine F.okX scWI (fun vs H Q E h => ?_) (fun cdv A outer s H vs Q E hr h => ?_)
  · obtain ⟨w, dx, n, p, as, ts, rfl, _⟩ := h
    rfl
  · obtain ⟨w, dx, n, p, as, ts, rfl, hw, hS, hA, hW, q⟩ := h
    refine ⟨_, pss_cons (ps_fld (pv 0) (pc DC GC hr (pass1 (takes_of rfl rfl rfl rfl)) (pa_cons (pv 1) (pa_cons (pv 2) pa_nil))) rfl) (pss_one (ps_fld (pv 0) (pv 1) rfl)), ?_⟩
    refine ⟨_, rfl, _, rfl, n, p, as, ts, rfl, hS, hA, hW, fun ta H' sm hT => ?_⟩
    have hw1 := sm _ _ hw
    refine ⟨_, rfl, w, W, dx, [], rfl, hw1, T.cl, T.nT, (by show 0 < 1000; decide), ?_⟩
    refine ⟨_, rfl, _, rfl, w, W, dx, _, rfl, upd_same, T.cl, T.nH, (by show 1 < 1000; decide), ?_⟩
    rw [upd_upd]
    obtain ⟨bs, k1, k2⟩ := hT
    have kp : ∀ b u, H' b = some u → b ≠ w → (upd H' w (.ins W dx (wf ta (n : Int)))) b = some u := fun b u e nb => by rw [upd_ne nb]; exact e
    have nw : ∀ {c : Addr} {xs : List V}, H' c = some (.tup xs) → c ≠ w := fun h e => by rw [e, hw1] at h; cases h
    exact q _ (fun b u e nb => kp b u (sm _ _ e) nb) ⟨dx, ta, upd_same, bs, kp _ _ k1 (nw k1), k2.1, fun i a t e1 e2 => kp _ _ (k2.2 i a t e1 e2) (nw (k2.2 i a t e1 e2))⟩
theorem scNH : FnScope ["web", "house"] ["web", "house"] (defScope sNeedH) := ⟨rfl, rfl, rfl, by decide +kernel, rfl, by decide +kernel, by decide +kernel⟩
theorem ok_needH {f fB C W cI : Addr} {fd fdB : FuncData} {bm : List Value} {ql : Str} (D : Df K mg "need_house" sNeedH ["web", "house"] f fd) (DB : Df K mg "is_below" sBelow ["value", "limit"] fB fdB) (T : WcT K mg W) (TX : LHouse.Txt K mg "NoHouse" ql bm C cI)
    (GB : FnOk P w K mg base CX0 2 fB fdB ["value", "limit"] (spBelow K)) : FnOk P w K mg base (L2.CX P w) 3 f fd ["web", "house"] (spNeedH K W C) := by
  refine D.F.okX scNH (fun vs H Q E h => ?_) (fun cdv A outer s H vs Q E hr h => ?_)
  · obtain ⟨w, v, o, n, ts, rfl, _⟩ := h
    rfl
  · obtain ⟨w, v, o, n, ts, rfl, ⟨dx, ta, h1, _⟩, kv, q1, q2⟩ := h
    refine ⟨_, pss_cons (ps_if (pt_not (pt_val (pc DB GB hr pass0 (pa_cons (pv 1) (pa_cons (pe_fld (pv 0) rfl) pa_nil))))) (pss_one (ps_raise_LHouse rfl TX hr (takes_of rfl rfl rfl rfl) (pa_cons (pv 1) pa_nil))) pss_nil) (pss_one (ps_ret (pv 1))), ?_⟩
    refine ⟨_, rfl, _, rfl, w, W, dx, _, _, rfl, h1, T.cl, T.nH, wf_h _ _, v, o, _, rfl, kv, _, rfl, ifD (fun e => ?_) fun e => ?_⟩
    · exact ⟨_, rfl, _, rfl, fun d hd => q2 (by simpa using e) d _ (same_new hd) hd upd_same⟩
    · exact ⟨_, rfl, q1 (by simpa using e)⟩
theorem scNT : FnScope ["web", "tie"] ["web", "tie"] (defScope sNeedT) := ⟨rfl, rfl, rfl, by decide +kernel, rfl, by decide +kernel, by decide +kernel⟩
theorem ok_needT {f fB C W cI : Addr} {fd fdB : FuncData} {bm : List Value} {ql : Str} (D : Df K mg "need_tie" sNeedT ["web", "tie"] f fd) (DB : Df K mg "is_below" sBelow ["value", "limit"] fB fdB) (B : Bt mg) (T : WcT K mg W) (TX : LTie.Txt K mg "NoTie" ql bm C cI)
    (GB : FnOk P w K mg base CX0 2 fB fdB ["value", "limit"] (spBelow K)) : FnOk P w K mg base (L2.CX P w) 3 f fd ["web", "tie"] (spNeedT K W C) := by
  refine D.F.okX scNT (fun vs H Q E h => ?_) (fun cdv A outer s H vs Q E hr h => ?_)
  · obtain ⟨w, v, o, n, ts, rfl, _⟩ := h
    rfl
  · obtain ⟨w, v, o, n, ts, rfl, ⟨dx, ta, h1, as, g1, g2⟩, kv, q1, q2⟩ := h
    refine ⟨_, pss_cons (ps_if (pt_not (pt_val (pc DB GB hr pass0 (pa_cons (pv 1) (pa_cons (pe_callB call_len_seq (by rfl) B.len PySem.boot_len (pa_cons (pe_fld (pv 0) rfl) pa_nil)) pa_nil))))) (pss_one (ps_raise_LTie rfl TX hr (takes_of rfl rfl rfl rfl) (pa_cons (pv 1) pa_nil))) pss_nil) (pss_one (ps_ret (pv 1))), ?_⟩
    have el : ((as.map V.ref).length : Int) = (ts.length : Int) := by rw [List.length_map, g2.1]
    refine ⟨_, rfl, _, rfl, w, W, dx, _, _, rfl, h1, T.cl, T.nT, wf_t _ _, ta, _, rfl, .inr (SqT.of g1), v, o, _, rfl, kv, _, rfl, ?_⟩
    rw [el]
    refine ifD (fun e => ?_) fun e => ?_
    · exact ⟨_, rfl, _, rfl, fun d hd => q2 (by simpa using e) d _ (same_new hd) hd upd_same⟩
    · exact ⟨_, rfl, q1 (by simpa using e)⟩
end
end K1
namespace K1
open PySem PySem.Spec PyProof.Rows L2
/-! ### the ways on from a house -/
def inc (h : Nat) (p : Nat × Nat) : Bool := decide (h = p.1) || decide (h = p.2)
def oth (h : Nat) (p : Nat × Nat) : Nat := p.1 + p.2 - h
def wOnK (ts : Prs) (h k : Nat) : Prs := ((ts.take k).zipIdx.filter fun q => inc h q.1).map fun q => (q.2, oth h q.1)
def wOn (ts : Prs) (h : Nat) : Prs := wOnK ts h ts.length
theorem wOnK_succ {ts : Prs} {h k : Nat} {p : Nat × Nat} (e : ts[k]? = some p) : wOnK ts h (k + 1) = wOnK ts h k ++ if inc h p = true then [(k, oth h p)] else [] := by
  have hk := lt_at e
  have hl : (ts.take k).length = k := by rw [List.length_take]; omega
  unfold wOnK
  rw [take_succ e, List.zipIdx_append, hl, List.filter_append, List.map_append]
  congr 1
  show List.map _ (List.filter _ (List.zipIdx [p] (0 + k))) = _
  rw [Nat.zero_add]
  show List.map _ (List.filter _ [(p, k)]) = _
  rw [List.filter_cons]
  cases e2 : inc h p with
  | true => rfl
  | false => rfl
theorem wOnK_len (ts : Prs) (h k : Nat) : (wOnK ts h k).length ≤ ts.length := by
  unfold wOnK
  rw [List.length_map]
  refine Nat.le_trans (List.length_filter_le _ _) ?_
  rw [List.length_zipIdx, List.length_take]; omega
theorem wOn_mem {ts : Prs} {h : Nat} {q : Nat × Nat} : q ∈ wOn ts h ↔ ∃ p, ts[q.1]? = some p ∧ inc h p = true ∧ q.2 = oth h p := by
  unfold wOn wOnK
  rw [List.take_length, List.mem_map]
  constructor
  · rintro ⟨x, hx, e⟩
    obtain ⟨hx1, hx2⟩ := List.mem_filter.mp hx
    have hx1 := List.mem_zipIdx' hx1
    subst e
    exact ⟨x.1, by rw [List.getElem?_eq_getElem hx1.1]; exact congrArg some hx1.2.symm, hx2, rfl⟩
  · rintro ⟨p, e1, e2, e3⟩
    refine ⟨(p, q.1), List.mem_filter.mpr ⟨?_, e2⟩, by rw [← e3]⟩
    rw [List.mem_zipIdx_iff_getElem?]
    exact e1
/-- the ties of the ways on stand in their order -/
theorem wOn_asc (ts : Prs) (h : Nat) : ((wOn ts h).map (·.1)).Pairwise (· < ·) := by
  unfold wOn wOnK
  rw [List.take_length, List.map_map]
  have z : (ts.zipIdx.map (·.2)).Pairwise (· < ·) := by
    rw [List.zipIdx_map_snd]
    exact List.pairwise_lt_range'
  rw [List.pairwise_map] at z ⊢
  exact z.sublist List.filter_sublist
theorem inV_pV (h : Nat) (p : Nat × Nat) : inV (.int (h : Int)) (pV p) = inc h p := by
  show ((p.1 : Int) == (h : Int) || ((p.2 : Int) == (h : Int) || false)) = (decide (h = p.1) || decide (h = p.2))
  rw [Bool.or_false]
  have e : ∀ a : Nat, ((a : Int) == (h : Int)) = decide (h = a) := fun a => by
    by_cases z : h = a
    · rw [decide_eq_true z, z]; simp
    · rw [decide_eq_false z]
      simp only [beq_eq_false_iff_ne, ne_eq]
      omega
  rw [e, e]
theorem PrsA.snoc {H : Hp} {as : List Addr} {ts : Prs} {a : Addr} {t : Nat × Nat} (h : PrsA H as ts) (ha : H a = some (.tup (pV t))) : PrsA H (as ++ [a]) (ts ++ [t]) := by
  refine ⟨by rw [List.length_append, List.length_append, h.1]; rfl, fun i b u e1 e2 => ?_⟩
  by_cases hi : i < as.length
  · rw [List.getElem?_append_left hi] at e1
    rw [List.getElem?_append_left (by rw [← h.1]; exact hi)] at e2
    exact h.2 i b u e1 e2
  · rw [List.getElem?_append_right (by omega)] at e1
    rw [List.getElem?_append_right (by rw [← h.1]; omega), ← h.1] at e2
    cases z : i - as.length with
    | zero =>
      rw [z] at e1 e2
      obtain rfl : a = b := Option.some.inj e1
      obtain rfl : t = u := Option.some.inj e2
      exact ha
    | succ n => rw [z] at e1; cases e1
theorem PrsA.kp {H H' : Hp} {as : List Addr} {ts : Prs} (h : PrsA H as ts) (k : ∀ a xs, H a = some (.tup xs) → H' a = some (.tup xs)) : PrsA H' as ts := ⟨h.1, fun i a t e1 e2 => k _ _ (h.2 i a t e1 e2)⟩
def spWays (W : Addr) : Sp := fun vs H Q _ => ∃ (w : Addr) (n : Nat) (ts : Prs) (h : Nat), vs = [.ref w, .int (h : Int)] ∧ WebAt W H w n ts ∧ Wv n ts ∧ h < n ∧ ∀ l as H', Same H H' → H l = none → H' l = some (.lst (as.map V.ref)) → PrsA H' as (wOn ts h) → Q (.ref l) H'
section
variable {P : Program} {w : World} {K : PySem.W.Frag} {mg : Str → Option Value} {base : Heap}
abbrev nWy : List Str := ["web", "house", "tie", "pair"]
theorem scWy : FnScope nWy ["web", "house"] (defScope sWays) := ⟨rfl, rfl, rfl, by decide +kernel, rfl, by decide +kernel, by decide +kernel⟩
theorem ok_ways {f W : Addr} {fd : FuncData} (D : Df K mg "ways_on" sWays ["web", "house"] f fd) (B : Bt mg) (T : WcT K mg W) : FnOk P w K mg base CX0 1 f fd ["web", "house"] (spWays W) := by
  refine D.F.ok scWy (fun vs H Q E h => ?_) (fun cdv A outer s H vs Q E hr h => ?_)
  · obtain ⟨w, n, ts, h, rfl, _⟩ := h
    rfl
  · obtain ⟨w, n, ts, h, rfl, ⟨dx, ta, h1, tas, g1, g2⟩, hW, hn, q⟩ := h
    refine ⟨_, pss_one (ps_ret (pe_lc (own := [("tie", 2), ("pair", 3)]) (g := gTup K 2 (gCons (gName 2) (gCons (gName 3) gNil))) rfl scWy.nd (pi_enumA (by rfl) B.enumerate (pa_cons (pe_fld (pv 0) rfl) pa_nil)) (blkOk_by (N := nWy) (sc := defScope sWays) (by decide +kernel))
      (fun _ _ _ _ _ => pg_tup rfl (pgs_cons (pg_name (i := 2) scWy.nd rfl (.inl rfl)) (pgs_cons (pg_name (i := 3) scWy.nd rfl (.inl rfl)) pgs_nil)))
      (fun _ _ _ _ _ => pts_one (pt_cmpR (opInK (K := K) rfl) (pv 1) (pv 3) rfl))
      (fun _ _ _ _ _ => pe_tup (pa_cons (pv 2) (pa_cons (pe_op op_sub (pe_op op_add (pe_ix (ixTK (K := K) rfl) (pv 3) pe_int (fun _ _ => rfl)) (pe_ix (ixTK (K := K) rfl) (pv 3) pe_int (fun _ _ => rfl))) (pv 1)) pa_nil))))), ?_⟩
    refine ⟨_, rfl, w, W, dx, _, _, rfl, h1, T.cl, T.nT, wf_t _ _, ta, rfl, .inr ⟨_, SqT.of g1, fun D0 hD0 => lc_enumT (K := K) (a := ta) (xs := tas.map V.ref)
      (fun i H2 => ∃ as : List Addr, Same H H2 ∧ H2 D0 = some (.lst (as.map V.ref)) ∧ PrsA H2 as (wOnK ts h i)) ⟨[], same_new hD0, by rw [upd_same]; rfl, rfl, fun i a t e => by cases e⟩ (fun i H2 _ ⟨_, s2, _⟩ => SqT.of (s2 _ _ g1)) ?_ ?_⟩⟩
    · rintro i x T0 H2 hx hT0 ⟨as, s2, hD2, hA⟩
      obtain ⟨a, t, rfl, ha, ht, hat⟩ := g2.get' hx
      have sT := same_new (o := HO.tup [.int (i : Nat), .ref a]) hT0
      have hat2 := sT _ _ (s2 _ _ hat)
      have hD2' := sT _ _ hD2
      have s2' := s2.trans sT
      have hA' := hA.same sT
      have hT2 : (upd H2 T0 (.tup [.int (i : Nat), .ref a])) T0 = some (.tup [.int (i : Nat), .ref a]) := upd_same
      generalize upd H2 T0 (.tup [.int (i : Nat), .ref a]) = H3 at hat2 hD2' s2' hA' hT2 ⊢
      refine ⟨T0, _, rfl, SqT.of hT2, rfl, _, _, rfl, _, _, rfl, rfl, rfl, ?_⟩
      refine ⟨_, rfl, _, rfl, a, pV t, rfl, .inr (SqT.of hat2), rfl, rfl, _, rfl, ?_⟩
      rw [inV_pV]
      have ws := wOnK_succ (h := h) ht
      have lw := wOnK_len ts h i
      have t20 := hW.t20
      refine ifD (fun e => ?_) fun e => ?_
      · replace e : inc h t = true := by simpa using e
        rw [if_pos e] at ws
        refine ⟨_, rfl, _, rfl, a, _, 0, .int (t.1 : Int), rfl, rfl, SqT.of hat2, atI_nat (j := 0) rfl, _, rfl, a, _, 1, .int (t.2 : Int), rfl, rfl, SqT.of hat2, atI_nat (j := 1) rfl, _, _, rfl, rfl, _, rfl, _, _, rfl, rfl, (by show 2 ≤ sizeLine; decide), fun p hp => ?_⟩
        have sp := same_new (o := HO.tup [V.int (i : Nat), V.int ((t.1 : Int) + (t.2 : Int) - (h : Int))]) hp
        have eo : V.int ((t.1 : Int) + (t.2 : Int) - (h : Int)) = V.int ((oth h t : Nat) : Int) := by
          unfold oth
          unfold inc at e
          simp only [Bool.or_eq_true, decide_eq_true_eq] at e
          congr 1
          omega
        have hD4 := sp _ _ hD2'
        have keep : ∀ c ys, (upd H3 p (.tup [V.int (i : Nat), V.int ((t.1 : Int) + (t.2 : Int) - (h : Int))])) c = some (.tup ys) → (upd (upd H3 p (.tup [V.int (i : Nat), V.int ((t.1 : Int) + (t.2 : Int) - (h : Int))])) D0 (.lst (as.map V.ref ++ [.ref p]))) c = some (.tup ys) := fun c ys e => by
          rw [upd_ne (ne_of e hD4 (by intro z; cases z))]; exact e
        refine ⟨as.map V.ref, hD4, szl (by rw [List.length_map, hA.1]; omega), as ++ [p], fun c o eo => ?_, by rw [upd_same, List.map_append]; rfl, ?_⟩
        · rw [upd_ne (ne_of_none eo hD0)]
          exact sp _ _ (s2' _ _ eo)
        · rw [ws]
          refine ((hA'.same sp).kp keep).snoc (keep _ _ ?_)
          rw [upd_same, eo]; rfl
      · replace e : inc h t = false := by simpa using e
        rw [if_neg (by rw [e]; decide), List.append_nil] at ws
        exact ⟨as, s2', hD2', by rw [ws]; exact hA'⟩
    · rintro H2 ⟨as, s2, hD2, hA⟩
      rw [List.length_map, g2.1] at hA
      exact q D0 as H2 s2 hD0 hD2 hA
end
end K1
namespace K1
open PySem PySem.Spec PyProof.Rows L2
/-! ### dicts of numbers -/
theorem val_mem {k : Key} {v : V} : ∀ {kvs : List (Key × V)}, (kvs.map (·.1)).Nodup → (k, v) ∈ kvs → valV kvs k = some v
  | [], _, h => nomatch h
  | p :: r, nd, h => by
    rw [List.map_cons, List.nodup_cons] at nd
    rcases List.mem_cons.mp h with e | e
    · rw [← e, valV_pos (p := (k, v)) rfl]
    · rw [valV_neg fun z => nd.1 (by rw [z]; exact List.mem_map.mpr ⟨_, e, rfl⟩)]
      exact val_mem nd.2 e
theorem val_none {k : Key} {kvs : List (Key × V)} (h : k ∉ kvs.map (·.1)) : valV kvs k = none := by
  unfold valV
  rw [List.find?_eq_none.mpr fun x hx => ?_]; rfl
  intro e
  exact h (List.mem_map.mpr ⟨x, hx, of_decide_eq_true e⟩)
abbrev WR := Int × List Int
/-- the dict of the ways: each house with the tuple of its ties -/
def kvW (F : List WR) (ps : List Addr) : List (Key × V) := (F.zip ps).map fun e => (Sum.inl e.1.1, V.ref e.2)
theorem kvW_keys {F : List WR} {ps : List Addr} (h : ps.length = F.length) : (kvW F ps).map (·.1) = F.map fun e => (Sum.inl e.1 : Key) := by
  unfold kvW
  rw [List.map_map]
  have e : F.map (fun e => (Sum.inl e.1 : Key)) = ((F.zip ps).map (·.1)).map fun e => (Sum.inl e.1 : Key) := by rw [List.map_fst_zip (Nat.le_of_eq h.symm)]
  rw [e, List.map_map]; rfl
theorem kvW_len {F : List WR} {ps : List Addr} (h : ps.length = F.length) : (kvW F ps).length = F.length := by
  unfold kvW
  rw [List.length_map, List.length_zip, h, Nat.min_self]
theorem kvW_nd {F : List WR} {ps : List Addr} (h : ps.length = F.length) (nd : (F.map (·.1)).Nodup) : ((kvW F ps).map (·.1)).Nodup := by
  rw [kvW_keys h]
  have e : F.map (fun e => (Sum.inl e.1 : Key)) = (F.map (·.1)).map (Sum.inl : Int → Key) := by rw [List.map_map]; rfl
  rw [e]
  exact nd.map _ fun a b ne z => ne (by injection z)
theorem kvW_at {F : List WR} {ps : List Addr} {i : Nat} {x : Int} {r : List Int} {c : Addr} (h : ps.length = F.length) (nd : (F.map (·.1)).Nodup) (hi : F[i]? = some (x, r)) (hc : ps[i]? = some c) : valV (kvW F ps) (.inl x) = some (.ref c) := by
  refine val_mem (kvW_nd h nd) ?_
  unfold kvW
  refine List.mem_map.mpr ⟨((x, r), c), List.mem_of_getElem? (i := i) ?_, rfl⟩
  rw [List.getElem?_zip_eq_some]
  exact ⟨hi, hc⟩
theorem kvW_none {F : List WR} {ps : List Addr} {x : Int} (h : ps.length = F.length) (hx : x ∉ F.map (·.1)) : valV (kvW F ps) (.inl x) = none := by
  refine val_none ?_
  rw [kvW_keys h]
  intro z
  obtain ⟨e, he, ee⟩ := List.mem_map.mp z
  injection ee with ee
  exact hx (List.mem_map.mpr ⟨e, he, ee⟩)
theorem kvW_snoc {F : List WR} {ps : List Addr} {x : Int} {r : List Int} {c : Addr} (h : ps.length = F.length) : kvW (F ++ [(x, r)]) (ps ++ [c]) = kvW F ps ++ [(.inl x, .ref c)] := by
  unfold kvW
  rw [List.zip_append h.symm, List.map_append]; rfl
/-- how the search stands: the dict at d, the queue at q -/
structure WQ (H : Hp) (d q : Addr) (F : List WR) (ps : List Addr) : Prop where
  hd : H d = some (.dK (kvW F ps))
  hq : H q = some (.lst (F.map fun e => V.int e.1))
  ln : ps.length = F.length
  it : ∀ (i : Nat) c x r, ps[i]? = some c → F[i]? = some (x, r) → H c = some (.tup (vrow r))
theorem WQ.same {H H' : Hp} {d q : Addr} {F : List WR} {ps : List Addr} (b : WQ H d q F ps) (s : Same H H') : WQ H' d q F ps := ⟨s _ _ b.hd, s _ _ b.hq, b.ln, fun i c x r e1 e2 => s _ _ (b.it i c x r e1 e2)⟩
theorem snoc_at {α : Type} {l : List α} {i : Nat} {a b : α} (h : (l ++ [a])[i]? = some b) : l[i]? = some b ∨ (i = l.length ∧ a = b) := by
  by_cases hi : i < l.length
  · rw [List.getElem?_append_left hi] at h
    exact .inl h
  · rw [List.getElem?_append_right (by omega)] at h
    cases z : i - l.length with
    | zero =>
      rw [z] at h
      exact .inr ⟨by omega, Option.some.inj h⟩
    | succ n => rw [z] at h; cases h
theorem WQ.put {H : Hp} {d q : Addr} {F : List WR} {ps : List Addr} (b : WQ H d q F ps) {x : Int} {r : List Int} {c : Addr} (hx : x ∉ F.map (·.1)) (hc : H c = some (.tup (vrow r))) :
    (upd H d (.dK (putK (kvW F ps) (.inl x) (.ref c)))) q = some (.lst (F.map fun e => V.int e.1)) ∧ WQ (upd (upd H d (.dK (putK (kvW F ps) (.inl x) (.ref c)))) q (.lst ((F.map fun e => V.int e.1) ++ [.int x]))) d q (F ++ [(x, r)]) (ps ++ [c]) := by
  have ndq : d ≠ q := ne_of b.hd b.hq (by intro z; cases z)
  have h1 : (upd H d (.dK (putK (kvW F ps) (.inl x) (.ref c)))) q = some (.lst (F.map fun e => V.int e.1)) := by rw [upd_ne ndq.symm]; exact b.hq
  have keep : ∀ a ys, H a = some (.tup ys) → (upd (upd H d (.dK (putK (kvW F ps) (.inl x) (.ref c)))) q (.lst ((F.map fun e => V.int e.1) ++ [.int x]))) a = some (.tup ys) := fun a ys e => by
    rw [upd_ne (ne_of e b.hq (by intro z; cases z)), upd_ne (ne_of e b.hd (by intro z; cases z))]; exact e
  refine ⟨h1, by rw [upd_ne ndq, upd_same, kvW_snoc b.ln, putK_new _ (kvW_none b.ln hx)], by rw [upd_same, List.map_append]; rfl, by rw [List.length_append, List.length_append, b.ln]; rfl, fun i a y t e1 e2 => ?_⟩
  rcases snoc_at e1 with e1 | ⟨i1, rfl⟩
  · rcases snoc_at e2 with e2 | ⟨i2, _⟩
    · exact keep _ _ (b.it i a y t e1 e2)
    · have := lt_at e1
      have := b.ln
      omega
  · rcases snoc_at e2 with e2 | ⟨_, e2⟩
    · have := lt_at e2
      have := b.ln
      omega
    · injection e2 with _ e2
      subst e2
      exact keep _ _ hc
/-- where a tie leads a house (where it stands, if it is none of its ties, or the barred one) -/
def actW (ts : Prs) (bar : Option Nat) (x t : Int) : Int := match ts[t.toNat]? with
  | some p => if inc x.toNat p = true ∧ bar ≠ some t.toNat then (oth x.toNat p : Int) else x
  | none => x
def barV : Option Nat → V | none => .non | some b => .int (b : Int)
theorem actW_rng {n : Nat} {ts : Prs} {bar : Option Nat} {x t : Int} (hW : Wv n ts) (h : 0 ≤ x ∧ x < (n : Int)) : 0 ≤ actW ts bar x t ∧ actW ts bar x t < (n : Int) := by
  unfold actW
  cases e : ts[t.toNat]? with
  | none => exact h
  | some p =>
    obtain ⟨h1, h2, h3⟩ := hW.at_ e
    dsimp only
    split
    · rename_i hc
      have hi := hc.1
      unfold inc at hi
      simp only [Bool.or_eq_true, decide_eq_true_eq] at hi
      unfold oth
      omega
    · exact h
theorem pathW_rng {n : Nat} {ts : Prs} {bar : Option Nat} (hW : Wv n ts) : ∀ (r : List Int) (x : Int), 0 ≤ x ∧ x < (n : Int) → 0 ≤ path (actW ts bar) x r ∧ path (actW ts bar) x r < (n : Int)
  | [], _, h => h
  | t :: r, x, h => pathW_rng hW r (actW ts bar x t) (actW_rng hW h)
theorem Bf.skip {α : Type} {act : α → Int → α} {n : Nat} {s : α} {F : List (α × List Int)} {i : Nat} {x : α} {r : List Int} (hx : F[i]? = some (x, r)) : ∀ (k j : Nat), Bf act n s F i j → (∀ t, j ≤ t → t < j + k → act x (t : Int) = x) → Bf act n s F i (j + k)
  | 0, j, b, _ => b
  | k + 1, j, b, h => by
    have b1 := b.more (j := i) (k := x) (r := r) hx hx (h j (Nat.le_refl _) (by omega)).symm
    have := Bf.skip hx k (j + 1) b1 fun t h1 h2 => h t (by omega) (by omega)
    rw [show j + (k + 1) = j + 1 + k by omega]
    exact this
theorem Bf.fewW {n : Nat} {ts : Prs} {bar : Option Nat} {s : Int} {F : List WR} {i d : Nat} (b : Bf (actW ts bar) ts.length s F i d) (hW : Wv n ts) (hs : 0 ≤ s ∧ s < (n : Int)) : F.length ≤ n := by
  have := nodup_le n (F.map (·.1)) b.nd fun x hx => by
    obtain ⟨⟨k, r⟩, he, rfl⟩ := List.mem_map.mp hx
    obtain ⟨j, hj⟩ := List.getElem?_of_mem he
    rw [(b.pth j k r hj).1]
    exact pathW_rng hW r s hs
  rw [List.length_map] at this
  exact this
def spFWays (W : Addr) : Sp := fun vs H Q _ => ∃ (w : Addr) (n : Nat) (ts : Prs) (h : Nat) (bar : Option Nat), vs = [.ref w, .int (h : Int), barV bar] ∧ WebAt W H w n ts ∧ Wv n ts ∧ h < n ∧
  ∀ d q F ps H', Same H H' → H d = none → WQ H' d q F ps → Fst (actW ts bar) ts.length (h : Int) F → F.length ≤ n → Q (.ref d) H'
section
variable {P : Program} {w : World} {K : PySem.W.Frag} {mg : Str → Option Value} {base : Heap}
abbrev nFW : List Str := ["web", "house", "barred", "ways", "queue", "at", "here", "tie", "other"]
theorem scFW : FnScope nFW ["web", "house", "barred"] (defScope sFWays) := ⟨rfl, rfl, rfl, by decide +kernel, rfl, by decide +kernel, by decide +kernel⟩
theorem ok_fways {f fW W : Addr} {fd fdW : FuncData} (D : Df K mg "first_ways" sFWays ["web", "house", "barred"] f fd) (DW : Df K mg "ways_on" sWays ["web", "house"] fW fdW) (B : Bt mg)
    (GW : FnOk P w K mg base CX0 1 fW fdW ["web", "house"] (spWays W)) : FnOk P w K mg base CX0 2 f fd ["web", "house", "barred"] (spFWays W) := by
  refine D.F.ok scFW (fun vs H Q E h => ?_) (fun cdv A outer s H vs Q E hr h => ?_)
  · obtain ⟨w, n, ts, h, bar, rfl, _⟩ := h
    rfl
  · obtain ⟨w, n, ts, h, bar, rfl, hw, hW, hn, q⟩ := h
    have hu := hu_of hr
    refine ⟨_, pss_cons (ps_set (i := 3) scFW.nd rfl (.inl rfl) (pe_disp (pps_cons (pv 1) (pe_tup pa_nil) pps_nil) rfl rfl (List.cons_ne_nil _ _) (by decide)))
      (pss_cons (ps_set (i := 4) scFW.nd rfl (.inl rfl) (pe_lst (pa_cons (pv 1) pa_nil)))
      (pss_cons (ps_set (i := 5) scFW.nd rfl (.inl rfl) pe_int)
      (pss_cons (ps_while PassesOwn.never (pt_cmpR op_lt (pv 5) (pe_callB call_len_seq (by rfl) B.len PySem.boot_len (pa_cons (pv 4) pa_nil)) (nomark _))
        (pss_cons (ps_set (i := 6) scFW.nd rfl (.inl rfl) (pe_ix ix_list (pv 4) (pv 5) (fun _ _ => rfl)))
        (pss_cons (ps_for PassesOwn.never rfl (pi_list (pc DW GW hr pass0 (pa_cons (pv 0) (pa_cons (pv 6) pa_nil)))) (pg_tup rfl (pgs_cons (pg_name (i := 7) scFW.nd rfl (.inl rfl)) (pgs_cons (pg_name (i := 8) scFW.nd rfl (.inl rfl)) pgs_nil)))
          (pss_one (ps_if (PW.pt (pw_and (pt_cmpR op_ne (pv 7) (pv 2) (nomark _)) (pw_and1 (pt_cmp (pc_dnotin hu (pv 8) (pv 3))))))
            (pss_cons (ps_dput hu (pv 3) (pv 8) (pe_op op_catA (pe_dget hu (pv 3) (pv 6) (fun _ _ => rfl)) (pe_tup (pa_cons (pv 7) pa_nil))) rfl)
            (pss_one (ps_expr (pe_bm PySem.F.plainAttrs_list PySem.F.slot_list_append PySem.F.type_list_append mt_append (pv 4) (pa_cons (pv 8) pa_nil))))) pss_nil)))
        (pss_one (ps_aug (i := 5) scFW.nd rfl (.inl rfl) pe_int ip_add)))))
      (pss_one (ps_ret (pv 3)))))), ?_⟩
    intro d hd
    refine ⟨_, rfl, (by show 0 ≤ sizeLine; decide), fun e0 he0 => ?_⟩
    have ned : e0 ≠ d := fun z => by rw [z, upd_same] at he0; cases he0
    refine ⟨by rw [upd_ne ned.symm, upd_same], [(.inl (h : Int), .ref e0)], rfl, (by show 1 ≤ 15; decide), ?_⟩
    generalize hH1 : upd (upd (upd H d (.dK [])) e0 (.tup [])) d (.dK (mergeK [] [(.inl (h : Int), .ref e0)])) = H1
    have se : Same H (upd (upd H d (.dK [])) e0 (.tup [])) := (same_new hd).trans (same_new he0)
    have s1 : Same H H1 := fun b o e => by
      rw [← hH1, upd_ne (ne_of_none e hd)]
      exact se _ _ e
    have hd1 : H1 d = some (.dK (kvW [((h : Int), [])] [e0])) := by rw [← hH1, upd_same]; rfl
    have he1 : H1 e0 = some (.tup []) := by rw [← hH1, upd_ne ned, upd_same]
    refine ⟨_, rfl, (by show 1 ≤ sizeLine; decide), fun q0 hq0 => ?_⟩
    have s2 : Same H (upd H1 q0 (.lst [.int (h : Int)])) := s1.trans (same_new hq0)
    have b0 : WQ (upd H1 q0 (.lst [.int (h : Int)])) d q0 [((h : Int), [])] [e0] := by
      have sm := same_new (o := HO.lst [V.int (h : Int)]) hq0
      refine ⟨sm _ _ hd1, upd_same, rfl, fun i c x r e1 e2 => ?_⟩
      match i, e1, e2 with
      | 0, e1, e2 =>
        obtain rfl : e0 = c := Option.some.inj e1
        have z : ((h : Int), ([] : List Int)) = (x, r) := Option.some.inj e2
        injection z with _ z
        subst z
        exact sm _ _ he1
      | i + 1, e1, _ => cases e1
    have hh : 0 ≤ (h : Int) ∧ (h : Int) < (n : Int) := by omega
    have n12 := hW.n12
    have nq0 : H q0 = none := s1.free hq0
    refine while_by (fun σ H' => ∃ (i : Nat) (F : List WR) (ps : List Addr) (v6 v7 v8 : Option V), σ = [some (.ref w), some (.int (h : Int)), some (barV bar), some (.ref d), some (.ref q0), some (.int (i : Int)), v6, v7, v8] ∧ Same H H' ∧ WQ H' d q0 F ps ∧ Bf (actW ts bar) ts.length (h : Int) F i 0 ∧ i ≤ F.length)
      (fun (σ : L2.St) _ => match σ[5]? with | some (some (V.int i)) => 1000 - i.toNat | _ => 0) ⟨0, _, _, none, none, none, rfl, s2, b0, Bf.init, Nat.zero_le _⟩ ?_
      (fun σ H Q Q' hQ ⟨v, h1, v3, h2, p, ys, h3, h4, i, j, h5, h6, k, h7, h8⟩ => ⟨v, h1, v3, h2, p, ys, h3, h4, i, j, h5, h6, k, h7, hQ _ _ h8⟩)
    rintro σ H' ⟨i, F, ps, v6, v7, v8, rfl, sm, b, bf, hi⟩
    have fF := bf.fewW hW hh
    refine ⟨_, rfl, _, rfl, q0, _, rfl, .inl (SqL.of b.hq), _, _, rfl, rfl, _, rfl, ifD (fun ec => ?_) fun ec => ?_⟩
    · have hlt : i < F.length := by
        have z : (i : Int) < ((F.map fun e => V.int e.1).length : Int) := of_decide_eq_true ec
        rw [List.length_map] at z
        omega
      obtain ⟨⟨x, rx⟩, hx⟩ := ex_at (l := F) hlt
      obtain ⟨px, pv', pl⟩ := bf.pth i x rx hx
      have xr : 0 ≤ x ∧ x < (n : Int) := by rw [px]; exact pathW_rng hW rx _ hh
      refine ⟨_, rfl, _, rfl, q0, _, (i : Int), .int x, rfl, rfl, SqL.of b.hq, at_i (map_at hx), ?_⟩
      refine gn ?_
      dsimp only [List.set]
      have ex : ((x.toNat : Nat) : Int) = x := by omega
      refine ⟨_, rfl, _, rfl, w, n, ts, x.toNat, (by rw [ex]; rfl), hw.same sm, hW, by omega, fun l as H2 sm2 hl0 hl hA => ⟨l, rfl, ⟨_, SqL.of hl⟩, ?_⟩⟩
      have lq : l ≠ q0 := fun z => by rw [z, b.hq] at hl0; cases hl0
      have lwo : (wOn ts x.toNat).length ≤ 20 := Nat.le_trans (wOnK_len ts _ _) hW.t20
      have asc := wOn_asc ts x.toNat
      refine for_list (K := K) (a := l) (xs := as.map V.ref) (fun k σ H' => ∃ (F : List WR) (ps : List Addr) (j : Nat) (v7 v8 : Option V), σ = [some (.ref w), some (.int (h : Int)), some (barV bar), some (.ref d), some (.ref q0), some (.int (i : Int)), some (.int x), v7, v8] ∧ Same H H' ∧ WQ H' d q0 F ps ∧ Bf (actW ts bar) ts.length (h : Int) F i j ∧ F[i]? = some (x, rx) ∧ H' l = some (.lst (as.map V.ref)) ∧ PrsA H' as (wOn ts x.toNat) ∧
          j ≤ ts.length ∧ (∀ (k' : Nat) (e : Nat × Nat), k ≤ k' → (wOn ts x.toNat)[k']? = some e → j ≤ e.1) ∧ (∀ (k' : Nat) (e : Nat × Nat), k' < k → (wOn ts x.toNat)[k']? = some e → e.1 < j))
        ⟨F, ps, 0, _, _, rfl, sm.trans sm2, b.same sm2, bf, hx, hl, hA, Nat.zero_le _, fun _ _ _ _ => Nat.zero_le _, fun k' e hk => absurd hk (Nat.not_lt_zero _)⟩ (fun k σ H' _ ⟨_, _, _, _, _, _, _, _, _, _, hl', _⟩ => SqL.of hl') ?_ ?_
      · rintro k y σ H3 hy ⟨F, ps, j, v7, v8, rfl, sm, b, bf, hx, hl, hA, jn, j1, j2⟩
        obtain ⟨a, ⟨t, o⟩, rfl, ha, hto, hat⟩ := hA.get' hy
        obtain ⟨p, tp, ti, to_⟩ := wOn_mem.mp (List.mem_of_getElem? hto)
        replace to_ : o = oth x.toNat p := to_
        have jt := j1 k (t, o) (Nat.le_refl _) hto
        have tl := lt_at tp
        have fF := bf.fewW hW hh
        -- no way on between
        have gap : ∀ t', j ≤ t' → t' < t → actW ts bar x (t' : Int) = x := fun t' g1 g2 => by
          unfold actW
          rw [Int.toNat_natCast]
          cases e : ts[t']? with
          | none => rfl
          | some p' =>
            dsimp only
            refine if_neg fun hc => ?_
            obtain ⟨k', hk'⟩ := List.getElem?_of_mem (wOn_mem.mpr ⟨p', e, hc.1, rfl⟩ : (t', oth x.toNat p') ∈ wOn ts x.toNat)
            by_cases kk : k' < k
            · have := j2 k' _ kk hk'
              dsimp only at this
              omega
            · by_cases ke : k' = k
              · subst ke
                rw [hto] at hk'
                have z := Option.some.inj hk'
                injection z with z _
                omega
              · rw [List.pairwise_iff_getElem] at asc
                have l1 := lt_at hk'
                have l2 := lt_at hto
                have := asc k k' (by rw [List.length_map]; exact l2) (by rw [List.length_map]; exact l1) (by omega)
                rw [List.getElem_map, List.getElem_map] at this
                rw [List.getElem?_eq_getElem l1] at hk'
                rw [List.getElem?_eq_getElem l2] at hto
                rw [Option.some.inj hk', Option.some.inj hto] at this
                dsimp only at this
                omega
        have bft : Bf (actW ts bar) ts.length (h : Int) F i t := by
          have := Bf.skip hx (t - j) j bf fun t' g1 g2 => gap t' g1 (by omega)
          rw [show j + (t - j) = t by omega] at this
          exact this
        have nj1 : ∀ (k' : Nat) (e : Nat × Nat), k + 1 ≤ k' → (wOn ts x.toNat)[k']? = some e → t + 1 ≤ e.1 := fun k' e hk he => by
          rw [List.pairwise_iff_getElem] at asc
          have l1 := lt_at he
          have l2 := lt_at hto
          have := asc k k' (by rw [List.length_map]; exact l2) (by rw [List.length_map]; exact l1) (by omega)
          rw [List.getElem_map, List.getElem_map] at this
          rw [List.getElem?_eq_getElem l1] at he
          rw [List.getElem?_eq_getElem l2] at hto
          rw [Option.some.inj he, Option.some.inj hto] at this
          exact this
        have nj2 : ∀ (k' : Nat) (e : Nat × Nat), k' < k + 1 → (wOn ts x.toNat)[k']? = some e → e.1 < t + 1 := fun k' e hk he => by
          by_cases kk : k' = k
          · subst kk
            rw [hto] at he
            rw [← Option.some.inj he]
            exact Nat.lt_succ_self _
          · have := j2 k' e (by omega) he
            omega
        have hact : bar ≠ some t → actW ts bar x (t : Int) = (o : Int) := fun hb => by
          unfold actW
          rw [Int.toNat_natCast, tp]
          dsimp only
          rw [if_pos ⟨ti, hb⟩, ← to_]
        have hact' : bar = some t → actW ts bar x (t : Int) = x := fun hb => by
          unfold actW
          rw [Int.toNat_natCast, tp]
          dsimp only
          rw [if_neg fun z => z.2 hb]
        have hat' : H3 a = some (.tup [.int (t : Int), .int (o : Int)]) := hat
        refine ⟨a, _, rfl, SqT.of hat', rfl, _, _, rfl, _, _, rfl, rfl, ?_⟩
        have scb : scal (.int (t : Int)) (barV bar) = true := by cases bar <;> rfl
        refine ⟨_, rfl, _, rfl, scb, _, rfl, ifD (fun e1 => ?_) fun e1 => ?_⟩
        · have hb : bar ≠ some t := fun z => by
            rw [z] at e1
            have : decide (V.int (t : Int) = barV (some t)) = true := decide_eq_true rfl
            rw [this] at e1
            cases e1
          refine ⟨_, rfl, _, rfl, d, _, rfl, DGet.k (k := .inl (o : Int)) b.hd, _, rfl, ?_⟩
          by_cases hin : (o : Int) ∈ F.map (·.1)
          · obtain ⟨⟨o', ro⟩, he, e2⟩ := List.mem_map.mp hin
            obtain ⟨j3, hj3⟩ := List.getElem?_of_mem he
            dsimp only at e2
            subst e2
            obtain ⟨c, hc⟩ := ex_at (l := ps) (i := j3) (by rw [b.ln]; exact lt_at hj3)
            rw [kvW_at b.ln bf.nd hj3 hc]
            refine iteF ?_
            exact ⟨F, ps, t + 1, _, _, rfl, sm, b, bft.more (j := j3) (k := (o : Int)) (r := ro) hx hj3 (hact hb).symm, hx, hl, hA, tl, nj1, nj2⟩
          · rw [kvW_none b.ln hin]
            refine iteT ?_
            obtain ⟨c, hc⟩ := ex_at (l := ps) (i := i) (by rw [b.ln]; exact lt_at hx)
            have hcr := b.it i c x rx hc hx
            refine ⟨_, rfl, _, rfl, d, .ref c, rfl, by rw [← kvW_at b.ln bf.nd hx hc]; exact DGet.k (k := .inl x) b.hd, _, rfl, (by show 1 ≤ sizeLine; decide), fun dt hdt => ?_⟩
            have s5 := same_new (o := HO.tup [V.int (t : Int)]) hdt
            obtain ⟨_, _, pl'⟩ := bft.pth i x rx hx
            have li := lt_at hx
            refine catA_by (s5 _ _ hcr) upd_same (sz (by rw [vrow_len]; simp only [List.length_cons, List.length_nil]; omega)) fun rb H6 s6 hrb => ?_
            have s56 := s5.trans s6
            have b6 := b.same s56
            have hrb' : H6 rb = some (.tup (vrow (rx ++ [(t : Int)]))) := by rw [hrb, vrow, vrow, List.map_append]; rfl
            obtain ⟨g1, g2⟩ := b6.put (x := (o : Int)) hin hrb'
            refine ⟨_, rfl, _, rfl, d, _, rfl, DPut.k (k := .inl (o : Int)) b6.hd (szl (by rw [kvW_len b.ln]; omega)), ?_⟩
            refine ⟨_, rfl, .inl ⟨rfl, _, SqL.of g1⟩, _, rfl, q0, _, _, rfl, rfl, g1, szl (by rw [List.length_map]; omega), ?_⟩
            have keep : ∀ a ys, H6 a = some (.tup ys) → (upd (upd H6 d (.dK (putK (kvW F ps) (.inl (o : Int)) (.ref rb)))) q0 (.lst ((F.map fun e => V.int e.1) ++ [.int (o : Int)]))) a = some (.tup ys) := fun a ys e => by
              rw [upd_ne (ne_of e b6.hq (by intro z; cases z)), upd_ne (ne_of e b6.hd (by intro z; cases z))]; exact e
            have hl6 := s56 _ _ hl
            refine ⟨_, _, t + 1, _, _, rfl, fun c' u e => ?_, g2, ?_, ?_, ?_, (hA.same s56).kp keep, tl, nj1, nj2⟩
            · rw [upd_ne (ne_of_none e nq0), upd_ne (ne_of_none e hd)]
              exact s56 _ _ (sm _ _ e)
            · rw [← hact hb]
              exact bft.put hx (by rw [hact hb]; exact hin) tl
            · rw [List.getElem?_append_left li]; exact hx
            · rw [upd_ne lq, upd_ne (ne_of hl6 b6.hd (by intro z; cases z))]
              exact hl6
        · have hb : bar = some t := by
            cases bar with
            | none => cases e1
            | some b' =>
              have z : ¬ (V.int (t : Int) = V.int (b' : Int)) → False := fun ne => by
                rw [show decide (V.int (t : Int) = barV (some b')) = false from decide_eq_false ne] at e1
                cases e1
              by_cases tb : t = b'
              · rw [tb]
              · exact (z fun e => by injection e with e; omega).elim
          exact ⟨F, ps, t + 1, _, _, rfl, sm, b, bft.more (j := i) (k := x) (r := rx) hx hx (hact' hb).symm, hx, hl, hA, tl, nj1, nj2⟩
      · rintro σ H3 ⟨F, ps, j, v7, v8, rfl, sm, b, bf, hx, hl, hA, jn, j1, j2⟩
        rw [List.length_map, hA.1] at j1 j2
        have gap : ∀ t', j ≤ t' → t' < j + (ts.length - j) → actW ts bar x (t' : Int) = x := fun t' g1 g2 => by
          unfold actW
          rw [Int.toNat_natCast]
          cases e : ts[t']? with
          | none => rfl
          | some p' =>
            dsimp only
            refine if_neg fun hc => ?_
            obtain ⟨k', hk'⟩ := List.getElem?_of_mem (wOn_mem.mpr ⟨p', e, hc.1, rfl⟩ : (t', oth x.toNat p') ∈ wOn ts x.toNat)
            have := j2 k' _ (lt_at hk') hk'
            dsimp only at this
            omega
        have bfn := Bf.skip hx (ts.length - j) j bf gap
        rw [show j + (ts.length - j) = ts.length by omega] at bfn
        have li := lt_at hx
        refine ⟨_, rfl, _, _, rfl, rfl, ?_⟩
        refine ⟨⟨i + 1, F, ps, some (.int x), v7, v8, ?_, sm, b, bfn.next, by omega⟩, ?_⟩
        · have z : ((i + 1 : Nat) : Int) = (i : Int) + 1 := by omega
          rw [z]; rfl
        · have fF := bf.fewW hW hh
          show 1000 - ((i : Int) + 1).toNat < 1000 - (i : Int).toNat
          omega
    · have hge : F.length ≤ i := by
        have z : ¬ ((i : Int) < ((F.map fun e => V.int e.1).length : Int)) := of_decide_eq_false ec
        rw [List.length_map] at z
        omega
      exact ⟨_, rfl, q d q0 F ps H' sm hd b (bf.done hge) fF⟩
end
end K1
namespace K1
open PySem PySem.Spec PyProof.Rows L2
/-! ### parts -/
def vn (ns : List Nat) : List V := ns.map fun (x : Nat) => V.int (x : Int)
theorem vn_len (ns : List Nat) : (vn ns).length = ns.length := List.length_map _
theorem vn_at {ns : List Nat} {i : Nat} {x : Nat} (h : ns[i]? = some x) : (vn ns)[i]? = some (.int (x : Int)) := map_at h
theorem at_vn {ns : List Nat} {i : Nat} {v : V} (h : (vn ns)[i]? = some v) : ∃ x, ns[i]? = some x ∧ v = .int (x : Int) := at_map h
theorem flat_vn (ns : List Nat) : (vn ns).all flatV = true := by
  rw [List.all_eq_true]
  intro x hx
  obtain ⟨y, _, rfl⟩ := List.mem_map.mp hx
  rfl
theorem inV_vn (a : Nat) (ns : List Nat) : inV (.int (a : Int)) (vn ns) = decide (a ∈ ns) := by
  unfold inV vn
  rw [List.any_map]
  induction ns with
  | nil => rfl
  | cons b r ih =>
    rw [List.any_cons, ih]
    have e : (eqV (V.int (b : Int)) (V.int (a : Int))) = decide (a = b) := by
      show ((b : Int) == (a : Int)) = _
      by_cases z : a = b
      · rw [decide_eq_true z, z]; simp
      · rw [decide_eq_false z]
        simp only [beq_eq_false_iff_ne, ne_eq]
        omega
    show (eqV (V.int (b : Int)) (V.int (a : Int)) || _) = _
    rw [e]
    by_cases z : a = b
    · rw [decide_eq_true z, decide_eq_true (show a ∈ b :: r by rw [z]; exact List.mem_cons_self)]; rfl
    · rw [decide_eq_false z, Bool.false_or]
      congr 1
      exact propext ⟨fun h => List.mem_cons_of_mem _ h, fun h => (List.mem_cons.mp h).resolve_left z⟩
/-- house b stands in one tie with c -/
def Jn (ts : Prs) (b c : Nat) : Prop := ∃ p ∈ ts, (b = p.1 ∧ c = p.2) ∨ (b = p.2 ∧ c = p.1)
theorem Jn.sym {ts : Prs} {b c : Nat} (h : Jn ts b c) : Jn ts c b := by
  obtain ⟨p, hp, h | h⟩ := h
  · exact ⟨p, hp, .inr ⟨h.2, h.1⟩⟩
  · exact ⟨p, hp, .inl ⟨h.2, h.1⟩⟩
/-- ties lead from a to b -/
inductive Cn (ts : Prs) (a : Nat) : Nat → Prop
  | refl : Cn ts a a
  | step {b c : Nat} (h : Cn ts a b) (j : Jn ts b c) : Cn ts a c
theorem Cn.trans {ts : Prs} {a b c : Nat} (h : Cn ts a b) (k : Cn ts b c) : Cn ts a c := by
  induction k with
  | refl => exact h
  | step _ j ih => exact ih.step j
theorem Cn.sym {ts : Prs} {a b : Nat} (h : Cn ts a b) : Cn ts b a := by
  induction h with
  | refl => exact .refl
  | step _ j ih => exact (Cn.refl.step j.sym).trans ih
theorem Cn.lt {n : Nat} {ts : Prs} {a b : Nat} (hW : Wv n ts) (ha : a < n) (h : Cn ts a b) : b < n := by
  induction h with
  | refl => exact ha
  | step _ j _ =>
    obtain ⟨p, hp, h | h⟩ := j
    · have := hW.pr p hp; omega
    · have := hW.pr p hp; omega
theorem Jn.tie {n : Nat} {ts : Prs} {b c : Nat} (hW : Wv n ts) (h : Jn ts b c) : ∃ (t : Nat) (p : Nat × Nat), ts[t]? = some p ∧ inc b p = true ∧ c = oth b p := by
  obtain ⟨p, hp, h⟩ := h
  obtain ⟨t, ht⟩ := List.getElem?_of_mem hp
  have := hW.pr p hp
  refine ⟨t, p, ht, ?_, ?_⟩
  · unfold inc
    simp only [Bool.or_eq_true, decide_eq_true_eq]
    omega
  · unfold oth
    omega
theorem Jn.of {n : Nat} {ts : Prs} {b t : Nat} {p : Nat × Nat} (hW : Wv n ts) (ht : ts[t]? = some p) (hi : inc b p = true) : Jn ts b (oth b p) := by
  have := hW.at_ ht
  unfold inc at hi
  simp only [Bool.or_eq_true, decide_eq_true_eq] at hi
  refine ⟨p, List.mem_of_getElem? ht, ?_⟩
  unfold oth
  omega
theorem actW_cn {n : Nat} {ts : Prs} {x t : Int} (hW : Wv n ts) (hx : 0 ≤ x) : Cn ts x.toNat (actW ts none x t).toNat := by
  unfold actW
  cases e : ts[t.toNat]? with
  | none => exact .refl
  | some p =>
    dsimp only
    split
    · rename_i hc
      rw [Int.toNat_natCast]
      exact Cn.refl.step (Jn.of hW e hc.1)
    · exact .refl
theorem path_cn {n : Nat} {ts : Prs} (hW : Wv n ts) : ∀ (r : List Int) (x : Int), 0 ≤ x ∧ x < (n : Int) → Cn ts x.toNat (path (actW ts none) x r).toNat
  | [], _, _ => .refl
  | t :: r, x, h => (actW_cn hW h.1).trans (path_cn hW r (actW ts none x t) (actW_rng hW h))
theorem cn_path {n : Nat} {ts : Prs} (hW : Wv n ts) {a b : Nat} (h : Cn ts a b) : ∃ r : List Int, (∀ e ∈ r, 0 ≤ e ∧ e < (ts.length : Int)) ∧ path (actW ts none) (a : Int) r = (b : Int) := by
  induction h with
  | refl => exact ⟨[], fun e he => (by cases he), rfl⟩
  | step _ j ih =>
    obtain ⟨r, h1, h2⟩ := ih
    obtain ⟨t, p, ht, hi, hc⟩ := j.tie hW
    refine ⟨r ++ [(t : Int)], fun e he => ?_, ?_⟩
    · rcases List.mem_append.mp he with he | he
      · exact h1 e he
      · have := lt_at ht
        rw [List.mem_singleton.mp he]; omega
    · rw [path_snoc, h2]
      unfold actW
      rw [Int.toNat_natCast, ht]
      dsimp only
      rw [Int.toNat_natCast, if_pos ⟨hi, by intro z; cases z⟩, ← hc]
/-- the part of a house, ascending -/
structure PartL (ts : Prs) (h : Nat) (ns : List Nat) : Prop where
  asc : ns.Pairwise (· < ·)
  mem : ∀ x, x ∈ ns ↔ Cn ts h x
theorem PartL.lt {n : Nat} {ts : Prs} {h : Nat} {ns : List Nat} (p : PartL ts h ns) (hW : Wv n ts) (hn : h < n) {x : Nat} (hx : x ∈ ns) : x < n := ((p.mem x).mp hx).lt hW hn
/-- the ties whose first house is among ns -/
def tInK (ts : Prs) (ns : List Nat) (k : Nat) : List Nat := ((ts.take k).zipIdx.filter fun q => decide (q.1.1 ∈ ns)).map (·.2)
def tIn (ts : Prs) (ns : List Nat) : List Nat := tInK ts ns ts.length
theorem tInK_succ {ts : Prs} {ns : List Nat} {k : Nat} {p : Nat × Nat} (e : ts[k]? = some p) : tInK ts ns (k + 1) = tInK ts ns k ++ if p.1 ∈ ns then [k] else [] := by
  have hk := lt_at e
  have hl : (ts.take k).length = k := by rw [List.length_take]; omega
  unfold tInK
  rw [take_succ e, List.zipIdx_append, hl, List.filter_append, List.map_append]
  congr 1
  show List.map _ (List.filter _ (List.zipIdx [p] (0 + k))) = _
  rw [Nat.zero_add]
  show List.map _ (List.filter _ [(p, k)]) = _
  rw [List.filter_cons]
  by_cases e2 : p.1 ∈ ns
  · rw [if_pos e2, if_pos (decide_eq_true e2)]; rfl
  · rw [if_neg e2, if_neg (by simpa using e2)]; rfl
theorem tInK_len (ts : Prs) (ns : List Nat) (k : Nat) : (tInK ts ns k).length ≤ ts.length := by
  unfold tInK
  rw [List.length_map]
  refine Nat.le_trans (List.length_filter_le _ _) ?_
  rw [List.length_zipIdx, List.length_take]; omega
theorem tIn_mem {ts : Prs} {ns : List Nat} {t : Nat} : t ∈ tIn ts ns ↔ ∃ p, ts[t]? = some p ∧ p.1 ∈ ns := by
  unfold tIn tInK
  rw [List.take_length, List.mem_map]
  constructor
  · rintro ⟨x, hx, e⟩
    obtain ⟨hx1, hx2⟩ := List.mem_filter.mp hx
    have hx1 := List.mem_zipIdx' hx1
    subst e
    exact ⟨x.1, by rw [List.getElem?_eq_getElem hx1.1]; exact congrArg some hx1.2.symm, of_decide_eq_true hx2⟩
  · rintro ⟨p, e1, e2⟩
    refine ⟨(p, t), List.mem_filter.mpr ⟨?_, decide_eq_true e2⟩, rfl⟩
    rw [List.mem_zipIdx_iff_getElem?]
    exact e1
def spPart (K : PySem.W.Frag) (W C : Addr) : Sp := fun vs H Q E => ∃ (w : Addr) (v : V) (o : Option (List V)) (n : Nat) (ts : Prs), vs = [.ref w, v] ∧ WebAt W H w n ts ∧ Wv n ts ∧ KV K H v o ∧ (belowB v (n : Int) = false → Rz C "house" v H E) ∧
  (∀ h : Nat, v = .int (h : Int) → h < n → ∀ ns p H', Same H H' → H' p = some (.tup (vn ns)) → PartL ts h ns → Q (.ref p) H')
def spTiesIn (K : PySem.W.Frag) (W : Addr) : Sp := fun vs H Q _ => ∃ (w p : Addr) (n : Nat) (ts : Prs) (ns : List Nat), vs = [.ref w, .ref p] ∧ WebAt W H w n ts ∧ Wv n ts ∧ SeqA H p (vn ns) ∧ ∀ l H', Same H H' → H l = none → H' l = some (.lst (vn (tIn ts ns))) → Q (.ref l) H'
section
variable {P : Program} {w : World} {K : PySem.W.Frag} {mg : Str → Option Value} {base : Heap}
theorem scPa : FnScope ["web", "house"] ["web", "house"] (defScope sPart) := ⟨rfl, rfl, rfl, by decide +kernel, rfl, by decide +kernel, by decide +kernel⟩
theorem ok_part {f fN fF W C : Addr} {fd fdN fdF : FuncData} (D : Df K mg "part_of" sPart ["web", "house"] f fd) (DN : Df K mg "need_house" sNeedH ["web", "house"] fN fdN) (DF : Df K mg "first_ways" sFWays ["web", "house", "barred"] fF fdF) (B : Bt mg)
    (GN : FnOk P w K mg base (L2.CX P w) 3 fN fdN ["web", "house"] (spNeedH K W C)) (GF : FnOk P w K mg base CX0 2 fF fdF ["web", "house", "barred"] (spFWays W)) : FnOk P w K mg base (L2.CX P w) 4 f fd ["web", "house"] (spPart K W C) := by
  refine D.F.okX scPa (fun vs H Q E h => ?_) (fun cdv A outer s H vs Q E hr h => ?_)
  · obtain ⟨w, v, o, n, ts, rfl, _⟩ := h
    rfl
  · obtain ⟨w, v, o, n, ts, rfl, hw, hW, kv, q1, q2⟩ := h
    refine ⟨_, pss_cons (ps_expr (pc DN GN hr (pass1 (takes_of rfl rfl rfl rfl)) (pa_cons (pv 0) (pa_cons (pv 1) pa_nil))))
      (pss_one (ps_ret (pe_callTy call_tuple_of (by rfl) B.tuple PyProof.Rows.boot_tuple (pa_cons (pe_callB (call_sortedDI rfl) (by rfl) B.sorted (by decide +kernel) (pa_cons (pc DF GF (hr.mono (by decide)) pass0 (pa_cons (pv 0) (pa_cons (pv 1) (pa_cons pe_non pa_nil)))) pa_nil)) pa_nil)))), ?_⟩
    refine ⟨_, rfl, _, rfl, w, v, o, n, ts, rfl, hw, kv, fun hb => ?_, fun hb => q1 hb⟩
    obtain ⟨h, rfl, hn⟩ : ∃ h : Nat, v = .int (h : Int) ∧ h < n := by
      cases v <;> first | (cases hb; done) | skip
      rename_i i
      have z : (decide (0 ≤ i) && decide (i < (n : Int))) = true := hb
      simp only [Bool.and_eq_true, decide_eq_true_eq] at z
      exact ⟨i.toNat, by congr 1; omega, by omega⟩
    refine ⟨_, rfl, _, rfl, w, n, ts, h, none, rfl, hw, hW, hn, fun d q0 F ps H1 s1 hd0 b fs fF => ?_⟩
    have n12 := hW.n12
    have hh : 0 ≤ (h : Int) ∧ (h : Int) < (n : Int) := by omega
    refine ⟨d, _, F.map (·.1), rfl, .inl b.hd, by rw [kvW_keys b.ln, List.map_map]; rfl, by rw [List.length_map]; omega, fun ys p hp asc np => ?_⟩
    refine ⟨p, _, rfl, .inl ⟨SqL.of upd_same, fun l hl => ?_⟩⟩
    have mem : ∀ y, y ∈ ys ↔ 0 ≤ y ∧ Cn ts h y.toNat := fun y => by
      rw [hp.mem_iff]
      constructor
      · intro hy
        obtain ⟨⟨x, r⟩, he, rfl⟩ := List.mem_map.mp hy
        obtain ⟨j, hj⟩ := List.getElem?_of_mem he
        obtain ⟨p1, p2, _⟩ := fs.pth j x r hj
        have := pathW_rng (bar := none) hW r _ hh
        have c := path_cn hW r (h : Int) hh
        rw [Int.toNat_natCast] at c
        rw [p1]
        exact ⟨this.1, c⟩
      · rintro ⟨y0, c⟩
        obtain ⟨r, r1, r2⟩ := cn_path hW c
        obtain ⟨j, r', e1, _⟩ := fs.all r r1
        rw [r2, show ((y.toNat : Nat) : Int) = y by omega] at e1
        exact List.mem_map.mpr ⟨_, List.mem_of_getElem? e1, rfl⟩
    have nd : ys.Nodup := hp.nodup_iff.mpr fs.nd
    have eys : ys.map V.int = vn (ys.map Int.toNat) := by
      unfold vn
      rw [List.map_map]
      refine List.map_congr_left fun y hy => ?_
      have := ((mem y).mp hy).1
      show V.int y = V.int ((y.toNat : Nat) : Int)
      congr 1; omega
    refine q2 h rfl hn (ys.map Int.toNat) l _ ((s1.trans (same_new np)).trans (same_new hl)) (by rw [upd_same, eys]) ⟨?_, fun x => ?_⟩
    · rw [List.pairwise_map]
      refine (asc.and nd).imp_of_mem fun {a b} ha hb hab => ?_
      have := ((mem a).mp ha).1
      have := ((mem b).mp hb).1
      have := hab.1
      have := hab.2
      omega
    · rw [List.mem_map]
      constructor
      · rintro ⟨y, hy, rfl⟩
        exact ((mem y).mp hy).2
      · intro c
        exact ⟨(x : Int), (mem _).mpr ⟨by omega, by rw [Int.toNat_natCast]; exact c⟩, Int.toNat_natCast x⟩
end
end K1
/-! set(xs) of a list of whole numbers, sorted(set(xs)); a dict display with one tuple key; the keys of a dict walked and kept -/
namespace K1
open PySem PySem.Spec PyProof.Rows L2
section
variable {P : Program} {w : World} {A : Around} {E : Value → Shared → Prop} {s : Shared}
theorem call_set_lstI {l : Addr} {items : Array Value} (ns : List Int) {Q : Value → Shared → Prop} (hh : A.handled = none) (hl : s.heap.IsList l items) (hit : IntsAre items.toList ns) (hb : ns.length + 1 < scanBound)
    (h : ∀ (h' : Heap) (tk c : Nat), SetR w h' s.heap.objs.size (fun j => decide (j ∈ ns)) c → c ≤ ns.length → (∀ b o, s.heap.get? b = some o → h'.get? b = some o) → Q (.ref s.heap.objs.size) { s with heap := h', toks := tk }) :
    wpAny (model P w) A (call (.type "set") [.ref l]) Q E s := by
  have hisz : items.size = ns.length := by
    have q := IntsAre.length hit
    rw [Array.length_toList] at q
    exact q
  obtain ⟨c, tl, hmro⟩ := F.called_set.mro
  have hmade := F.called_set.made
  have hsub := F.called_set.sub
  refine wpAny_call (codeAny_of_tree ?_)
  show wpAny _ _ (callAny (.type "set") _) _ _ _
  refine wpAny_pure ⟨Code.quiet_builtin _ (by decide +kernel), codeAny_builtin F.entry_type_call ?_⟩
  rw [Around.under_plain (weight_type_call_type "set" [.ref l] []) rfl]
  have h1 := F.called_set.notType
  have h2 := F.called_set.canCreate
  have hct := F.typeCall_set_1 (.ref l)
  repeat (any_goals (first | assumption | wp_step))

  refine codeAny_mono (code_set_led1 (.ref l) (E := E) (Q₁ := fun obj s₁ => obj = .ref s.heap.objs.size ∧ s₁ = { s with heap := s.heap.push { cls := .type "set", dict := none, data := .set #[] 0 (.fresh 0 0 (!w.params.followText "set-order")) } }) ⟨rfl, rfl⟩) fun r s₁ hr => ?_
  cases r with
  | error e => exact hr
  | ok fl =>
    cases fl with
    | ret obj =>
      obtain ⟨rfl, rfl⟩ := hr
      have hS : (s.heap.push { cls := .type "set", dict := none, data := .set #[] 0 (.fresh 0 0 (!w.params.followText "set-order")) }).get? s.heap.objs.size = some { cls := .type "set", dict := none, data := .set #[] 0 (.fresh 0 0 (!w.params.followText "set-order")) } := Heap.get?_push_size _ rfl
      have hT : Shared.TypeIs { s with heap := s.heap.push { cls := .type "set", dict := none, data := .set #[] 0 (.fresh 0 0 (!w.params.followText "set-order")) } } (.ref s.heap.objs.size) "set" := ⟨_, hS, rfl⟩
      have hli := F.called_set.init.lookup
      have hbi := F.called_set.init.bind (.ref s.heap.objs.size)
      repeat (any_goals (first | assumption | wp_step))

      refine codeAny_mono (codeAny_call_builtin (R := wants (fun r s₂ => r = .none ∧ ∃ h' tk c, s₂ = { s with heap := h', toks := tk } ∧ SetR w h' s.heap.objs.size (fun j => decide (j ∈ ns)) c ∧ c ≤ ns.length ∧
          (∀ b o, s.heap.get? b = some o → h'.get? b = some o)) E) F.called_set.init.plain F.entry_set_init (check_set_init_1 hT ?_)) fun r₂ s₂ hr₂ => ?_
      · obtain ⟨ol, hol, hcl, nl, hdl⟩ := hl
        obtain ⟨ocls, odict, odata, oslots⟩ := ol
        simp only at hcl hdl
        subst hcl; subst hdl
        have hol' : (s.heap.push { cls := .type "set", dict := none, data := .set #[] 0 (.fresh 0 0 (!w.params.followText "set-order")) }).get? l = some { cls := .type "list", dict := odict, data := .seq items nl, slots := oslots } := Heap.get?_push_of_some _ hol
        have hsls := F.sub_list_set
        have hslf := F.sub_list_frozenset
        have hne : (Value.type "list" == Value.type "dict") = false := by decide
        have hl1 : (s.heap.push { cls := .type "set", dict := none, data := .set #[] 0 (.fresh 0 0 (!w.params.followText "set-order")) }).IsList l items := ⟨_, hol', rfl, nl, rfl⟩
        unfold Builtin.«set.__init__» noKeywords Builtin.Frozenset.updateFrom
        generalize hPI : pyIter = PI
        wp_walk
        subst hPI

        refine wpAny_pyIter_list hl1 ?_
        refine wpAny_bind (wpAny_runValue ?_)
        have hlS : l < s.heap.objs.size := Heap.lt_size hol
        have hh3 : A.in1.in1.in1.handled = none := by simp [hh]
        have hz1 : (s.heap.push { cls := .type "set", dict := none, data := .set #[] 0 (.fresh 0 0 (!w.params.followText "set-order")) }).objs.size = s.heap.objs.size + 1 := Heap.size_push ..
        have hneI : l ≠ (s.heap.push { cls := .type "set", dict := none, data := .set #[] 0 (.fresh 0 0 (!w.params.followText "set-order")) }).objs.size := by
          rw [Heap.size_push]; exact Nat.ne_of_lt (Nat.lt_succ_of_lt hlS)
        have hSf : s.heap.objs.size ∉ [(s.heap.push { cls := .type "set", dict := none, data := .set #[] 0 (.fresh 0 0 (!w.params.followText "set-order")) }).objs.size, l] := by
          rw [Heap.size_push]; simp only [List.mem_cons, List.mem_singleton, List.not_mem_nil, or_false, not_or]
          exact ⟨Nat.ne_of_lt (Nat.lt_succ_self _), Nat.ne_of_gt hlS⟩
        have hval : ∀ (i : Nat) (v : Value), items[i]? = some v → ∃ k t, ns[i]? = some k ∧ v = .int k t := fun i v hv => by
          have hi : i < ns.length := by rw [← hisz]; exact (Array.getElem?_eq_some_iff.mp hv).1
          obtain ⟨t, e⟩ := PyProof.Rows.IntsAre.int_at hit i v (by rw [Array.getElem?_toList]; exact hv)
          refine ⟨ns[i], t, List.getElem?_eq_getElem hi, ?_⟩
          rw [e, List.getD_eq_getElem?_getD, List.getElem?_eq_getElem hi] <;> rfl
        refine set_update_ints ((Walks.list hh3 _ l hneI items).toS) s.heap.objs.size
          hSf ns hisz hb hval (items.size - 0) 0 _ (by omega) (Nat.zero_le _)
          ⟨⟨_, Heap.get?_push_size _ rfl, rfl, rfl⟩, (hl1.push _)⟩ ?hS0 ?hR
        case hS0 =>
          have hget : ((s.heap.push { cls := .type "set", dict := none, data := .set #[] 0 (.fresh 0 0 (!w.params.followText "set-order")) }).push { cls := .type "list_iterator", data := .fields #[.ref l, .int 0 0] }).get? s.heap.objs.size
              = some { cls := .type "set", dict := none, data := .set #[] 0 (.fresh 0 0 (!w.params.followText "set-order")) } := Heap.get?_push_of_some _ hS
          exact ⟨0, Nat.le_refl 0, setR_new_at hget⟩
        case hR =>
          intro s' c' hm hc' hS'
          obtain ⟨h', g2, d', tk', os'⟩ := s'
          have eg : g2 = s.gens := hm.gens
          have ed : d' = s.drawn := hm.drawn
          have eo : os' = s.os := hm.os
          subst eg; subst ed; subst eo
          show wpAny _ _ _ _ _ _
          refine wpAny_pure ?_
          show wpAny _ _ (ret Value.none) _ _ _
          rw [hisz] at hc'
          refine wpAny_pure ⟨rfl, h', tk', c', rfl, hS', hc', fun b o e => ?_⟩
          have hb0 : b < s.heap.objs.size := Heap.lt_size e
          have hb1 : b ≠ s.heap.objs.size := Nat.ne_of_lt hb0
          have hb2 : b ≠ (s.heap.push { cls := .type "set", dict := none, data := .set #[] 0 (.fresh 0 0 (!w.params.followText "set-order")) }).objs.size := by
            rw [Heap.size_push]; exact Nat.ne_of_lt (Nat.lt_succ_of_lt hb0)
          exact hm.heap b o (by simp only [List.mem_cons, List.mem_singleton, List.not_mem_nil, or_false, not_or]; exact ⟨hb1, hb2⟩) (Heap.get?_push_of_some _ (Heap.get?_push_of_some _ e))

      · cases r₂ with
        | error e => exact hr₂
        | ok fl₂ =>
          cases fl₂ with
          | ret r =>
            obtain ⟨rfl, h', tk, c', rfl, hS', hc', hk'⟩ := hr₂
            repeat (any_goals (first | assumption | wp_step))
            exact h _ _ _ hS' hc' hk'
          | _ => exact hr₂.elim
    | _ => exact hr.elim

end
/-- set(xs), xs a list of whole numbers -/
def rSetI (K : PySem.W.Frag) (w : World) : List V → Hp → VK → Prop := fun xs H Q => ∃ (a : Addr) (ns : List Int), xs = [.ref a] ∧ SqL K H a (ns.map V.int) ∧ ns.length < 60 ∧
  ∀ p c, H p = none → c ≤ ns.length → Q (.ref p) (upd H p (SetO w p (fun j => decide (j ∈ ns)) c))
theorem cr_setI {X : Cx} (hc : X.calm = true) : CallR X (.type "set") (rSetI X.K X.w) := by
  intro pins s σ H xs us Q I r h
  obtain ⟨a, ns, rfl, hs, h60, q⟩ := h
  rw [Vals.ref1 r]
  obtain ⟨its, rv, pl, hz⟩ := I.list hs
  refine call_set_lstI ns (I.ok.hd hc) pl.isList (by simpa using rv.ints) (by unfold scanBound; omega) fun h' tk c R hcn k => ?_
  refine ⟨.ref _, upd H s.heap.objs.size (SetO X.w s.heap.objs.size (fun j => decide (j ∈ ns)) c), I.laid (t' := tk) k (Nat.le_refl _) (setO_new R), rfl, q _ c (I.hok.fresh (Nat.le_refl _)) hcn⟩
end K1
namespace K1
open PySem PySem.Spec PyProof.Rows L2
/-! ### the source of draws -/
def DealO (H : Hp) (b l : Addr) : Prop := l ≠ b ∧ ∃ (ns : List Int) (z : Int), ns.length ≤ 64 ∧ H b = some (.lst [.ref l, .int z]) ∧ H l = some (.lst (vrow ns))
/-- all but the source stands, which is one again -/
def Dl (b l : Addr) (H H' : Hp) : Prop := DealO H' b l ∧ ∀ c o, H c = some o → c ≠ b → c ≠ l → H' c = some o
theorem DealO.same {H H' : Hp} {b l : Addr} (h : DealO H b l) (s : Same H H') : DealO H' b l := let ⟨n, ns, z, h1, h2, h3⟩ := h; ⟨n, ns, z, h1, s _ _ h2, s _ _ h3⟩
theorem Dl.refl {b l : Addr} {H : Hp} (h : DealO H b l) : Dl b l H H := ⟨h, fun _ _ e _ _ => e⟩
theorem Dl.trans {b l : Addr} {H H1 H2 : Hp} (a : Dl b l H H1) (c : Dl b l H1 H2) : Dl b l H H2 := ⟨c.1, fun d o e n1 n2 => c.2 d o (a.2 d o e n1 n2) n1 n2⟩
theorem Dl.same {b l : Addr} {H H1 H2 : Hp} (a : Dl b l H H1) (s : Same H1 H2) : Dl b l H H2 := ⟨a.1.same s, fun d o e n1 n2 => s _ _ (a.2 d o e n1 n2)⟩
theorem Same.dl {b l : Addr} {H H1 H2 : Hp} (s : Same H H1) (a : Dl b l H1 H2) : Dl b l H H2 := ⟨a.1, fun d o e n1 n2 => a.2 d o (s _ _ e) n1 n2⟩
theorem Dl.new {b l c : Addr} {H H1 : Hp} {o : HO} (a : Dl b l H H1) (h : H1 c = none) : Dl b l H (upd H1 c o) := a.same (same_new h)
theorem DealO.nb {H : Hp} {b l c : Addr} (h : DealO H b l) (e : H c = none) : c ≠ b := fun z => by obtain ⟨_, _, _, _, h2, _⟩ := h; rw [z, h2] at e; cases e
theorem DealO.nl {H : Hp} {b l c : Addr} (h : DealO H b l) (e : H c = none) : c ≠ l := fun z => by obtain ⟨_, _, _, _, _, h3⟩ := h; rw [z, h3] at e; cases e
theorem layA_ints : ∀ t : List Int, PyData.canLayAll0 (dI t) = true
  | [] => rfl
  | i :: r => by
    show (PyData.canLay0 (.int i) && PyData.canLayAll0 (dI r)) = true
    rw [layA_ints r]
    rfl
theorem depA_ints : ∀ t : List Int, PyData.depthAll (dI t) = 0
  | [] => rfl
  | i :: r => by
    show max (PyData.depth (.int i)) (PyData.depthAll (dI r)) = 0
    rw [depA_ints r]
    rfl
theorem shL_ints (t : List Int) : SeqAt.shaped (.list (dI t)) = true := by
  unfold SeqAt.shaped
  rw [show PyData.canLay0 (.list (dI t)) = true from layA_ints t, show PyData.depth (.list (dI t)) = 1 from by show PyData.depthAll (dI t) + 1 = 1; rw [depA_ints]]
  rfl
theorem eqv_nil (r : List Int) : PyData.eqv (.list (dI r)) (.list []) = decide (r = []) := by
  cases r with
  | nil => rfl
  | cons i r => rfl
theorem neNil {K : PySem.W.Frag} {H : Hp} {l e : Addr} {ns : List Int} {Q : VK} (hl : H l = some (.lst (vrow ns))) (he : H e = some (.lst [])) (q : Q (.bl (!decide (ns = []))) H) : rNeD K (.ref l) (.ref e) H Q :=
  ⟨.list (dI ns), .list [], .lst (SqL.of hl) (dp_ints ns), .lst (SqL.of he) .nil, shL_ints ns, shL_ints [], qbl (by rw [eqv_nil]) q⟩
def spAny : Sp := fun vs H Q _ => ∃ b l n, vs = [.ref b, .int n] ∧ DealO H b l ∧ 1 ≤ n ∧ n < 1073741824 ∧ ∀ r H', 0 ≤ r → r < n → Dl b l H H' → Q (.int r) H'
def spOf : Sp := fun vs H Q _ => ∃ (b l p : Addr) (xs : List V), vs = [.ref b, .ref p] ∧ DealO H b l ∧ H p = some (.lst xs) ∧ p ≠ b ∧ p ≠ l ∧ 1 ≤ xs.length ∧ xs.length ≤ 1000 ∧ ∀ (i : Nat) v H', xs[i]? = some v → Dl b l H H' → Q v H'
section
variable {P : Program} {w : World} {K : PySem.W.Frag} {mg : Str → Option Value} {base : Heap}
abbrev nAn : List Str := ["_law_deal", "_law_bound", "_law_rest"]
theorem scAn : FnScope nAn ["_law_deal", "_law_bound"] (defScope sLAny) := ⟨rfl, rfl, rfl, by decide +kernel, rfl, by decide +kernel, by decide +kernel⟩
def lenAt (l : Addr) : L2.St → Hp → Nat := fun _ H => match H l with | some (.lst xs) => xs.length | _ => 0
theorem lenAt_of {l : Addr} {σ : L2.St} {H : Hp} {xs : List V} (h : H l = some (.lst xs)) : lenAt l σ H = xs.length := by
  unfold lenAt
  rw [h]
theorem ok_any {f : Addr} {fd : FuncData} (D : Df K mg "_law_any" sLAny ["_law_deal", "_law_bound"] f fd) (B : Bt mg) : FnOk P w K mg base CX0 1 f fd ["_law_deal", "_law_bound"] spAny := by
  refine D.F.ok scAn (fun vs H Q E h => ?_) (fun cdv A outer s H vs Q E hr h => ?_)
  · obtain ⟨b, l, n, rfl, _⟩ := h
    rfl
  · obtain ⟨b, l, n, rfl, hD, h1, h2, q⟩ := h
    have hu := hr.units
    refine ⟨_, pss_cons (ps_while PassesOwn.never (PW.pt (pw_and (pt_cmpR (neD (K := K) rfl hu) (pe_ix ix_list (pv 0) pe_int (fun _ _ => rfl)) (pe_lst pa_nil) (nomark _)) (pw_and1 (pt_cmpR op_eq (pe_ix ix_list (pe_ix ix_list (pv 0) pe_int (fun _ _ => rfl)) (pe_un un_neg pe_int) (fun _ _ => rfl)) pe_int (nomark _)))))
        (pss_one (ps_expr (pe_bm0 PySem.F.plainAttrs_list PySem.F.slot_list_pop PySem.F.type_list_pop mt_pop (pe_ix ix_list (pv 0) pe_int (fun _ _ => rfl))))))
      (pss_cons (ps_if (pt_cmpR (neD (K := K) rfl hu) (pe_ix ix_list (pv 0) pe_int (fun _ _ => rfl)) (pe_lst pa_nil) (nomark _))
        (pss_cons (ps_set (i := 2) scAn.nd rfl (.inl rfl) (pe_callTy call_int1 (by rfl) B.int PyProof.Rows.boot_int (pa_cons (pe_bm0 PySem.F.plainAttrs_list PySem.F.slot_list_pop PySem.F.type_list_pop mt_pop (pe_ix ix_list (pv 0) pe_int (fun _ _ => rfl))) pa_nil)))
        (pss_cons (ps_expr (pe_bm PySem.F.plainAttrs_list PySem.F.slot_list_append PySem.F.type_list_append mt_append (pe_ix ix_list (pv 0) pe_int (fun _ _ => rfl)) (pa_cons (pe_op op_fdiv (pv 2) (pv 1)) pa_nil)))
        (pss_one (ps_ret (pe_op op_mod (pe_callTy call_int1 (by rfl) B.int PyProof.Rows.boot_int (pa_cons (pv 2) pa_nil)) (pv 1)))))) pss_nil)
      (pss_cons (ps_asg (pe_op op_mod (pe_callTy call_int1 (by rfl) B.int PyProof.Rows.boot_int (pa_cons (pe_op op_add (pe_op op_mul (pe_ix ix_list (pv 0) pe_int (fun _ _ => rfl)) pe_int) pe_int) pa_nil)) pe_int) (pg_sub (pv 0) pe_int set_list))
      (pss_one (ps_ret (pe_op op_mod (pe_callTy call_int1 (by rfl) B.int PyProof.Rows.boot_int (pa_cons (pe_op op_fdiv (pe_ix ix_list (pv 0) pe_int (fun _ _ => rfl)) pe_int) pa_nil)) (pv 1)))))), ?_⟩
    have hp : 0 < n := by omega
    have a0 : ∀ {u v : V}, atI [u, v] 0 = some u := fun {u v} => atI_nat (j := 0) rfl
    have a1 : ∀ {u v : V}, atI [u, v] 1 = some v := fun {u v} => atI_nat (j := 1) rfl
    refine seqG (fun σ H' => σ = [some (.ref b), some (.int n), none] ∧ Dl b l H H') ?_ (fun go => while_by (fun σ H' => σ = [some (.ref b), some (.int n), none] ∧ Dl b l H H') (lenAt l) ⟨rfl, .refl hD⟩ ?_ (fun σ H Q Q' hQ h => ?_))
    · rintro σ H1 ⟨rfl, dl⟩
      obtain ⟨nlb, ns, z, hn, hb, hl⟩ := id dl.1
      refine ⟨_, rfl, b, _, 0, .ref l, rfl, rfl, SqL.of hb, a0, (by show 0 ≤ sizeLine; decide), fun e he => neNil ((same_new he) _ _ hl) upd_same ⟨_, rfl, ?_⟩⟩
      have dl2 := dl.new (o := HO.lst []) he
      have hb2 := (same_new (o := HO.lst []) he) _ _ hb
      have hl2 := (same_new (o := HO.lst []) he) _ _ hl
      generalize upd H1 e (.lst []) = H2 at dl2 hb2 hl2 ⊢
      rcases List.eq_nil_or_concat ns with rfl | ⟨ms, y, rfl⟩
      · refine iteF ?_
        refine ⟨_, rfl, b, _, 1, .int z, rfl, rfl, SqL.of hb2, a1, _, _, rfl, rfl, .inr ⟨by decide, by decide⟩, _, _, rfl, rfl, .inl ⟨_, rfl, _, _, rfl, rfl, (by decide : (0 : Int) < 2147483647), _, rfl, b, _, 1, 1, rfl, rfl, hb2, rfl, ?_⟩⟩
        have hb3 : ∃ z', (upd H2 b (.lst [.ref l, .int z'])) b = some (.lst [.ref l, .int z']) := ⟨0, upd_same⟩
        refine ⟨_, rfl, b, _, 1, .int _, rfl, rfl, SqL.of upd_same, a1, _, _, rfl, rfl, ⟨by decide, by decide⟩, .inl ⟨_, rfl, _, rfl, _, _, rfl, rfl, hp, q _ _ (Int.emod_nonneg _ (by omega)) (Int.emod_lt_of_pos _ hp) ⟨⟨nlb, [], _, by decide, upd_same, by rw [upd_ne nlb]; exact hl2⟩, fun c o e n1 n2 => by rw [upd_ne n1]; exact dl2.2 c o e n1 n2⟩⟩⟩
      · rw [List.concat_eq_append] at hl2 hn
        have ev : vrow (ms ++ [y]) = vrow ms ++ [.int y] := by rw [vrow, List.map_append]; rfl
        rw [ev] at hl2
        refine iteE (by rw [List.concat_eq_append]; simp) ?_
        rw [List.length_append] at hn
        refine ⟨_, rfl, b, _, 0, .ref l, rfl, rfl, SqL.of hb2, a0, .inl ⟨rfl, _, SqL.of hl2⟩, l, _, .int y, rfl, rfl, hl2, ?_, .inl ⟨y, rfl, ?_⟩⟩
        · rw [List.length_append]
          show (vrow ms ++ [V.int y])[(vrow ms).length]? = _
          rw [List.getElem?_append_right (Nat.le_refl _), Nat.sub_self]; rfl
        have ed : (vrow ms ++ [V.int y]).dropLast = vrow ms := List.dropLast_concat
        rw [ed]
        have hb3 : (upd H2 l (.lst (vrow ms))) b = some (.lst [.ref l, .int z]) := by rw [upd_ne nlb.symm]; exact hb2
        have hl3 : (upd H2 l (.lst (vrow ms))) l = some (.lst (vrow ms)) := upd_same
        have k3 : ∀ c o, H c = some o → c ≠ b → c ≠ l → (upd H2 l (.lst (vrow ms))) c = some o := fun c o e n1 n2 => by rw [upd_ne n2]; exact dl2.2 c o e n1 n2
        generalize upd H2 l (.lst (vrow ms)) = H3 at hb3 hl3 k3 ⊢
        refine ⟨_, rfl, b, _, 0, .ref l, rfl, rfl, SqL.of hb3, a0, .inl ⟨rfl, _, SqL.of hl3⟩, _, rfl, _, rfl, _, _, rfl, rfl, ⟨by omega, h2⟩, l, _, _, rfl, rfl, hl3, by rw [vrow, List.length_map, sizeLine_eq]; simp only [List.length_cons, List.length_nil] at hn; omega, ?_⟩
        refine ⟨_, rfl, .inl ⟨_, rfl, _, rfl, _, _, rfl, rfl, hp, q _ _ (Int.emod_nonneg _ (by omega)) (Int.emod_lt_of_pos _ hp) ⟨⟨nlb, ms ++ [y / n], z, by rw [List.length_append]; exact hn, by rw [upd_ne nlb.symm]; exact hb3, by rw [upd_same, vrow, vrow, List.map_append]; rfl⟩, fun c o e n1 n2 => by rw [upd_ne n2]; exact k3 c o e n1 n2⟩⟩⟩
    · rintro σ H1 ⟨rfl, dl⟩
      obtain ⟨nlb, ns, z, hn, hb, hl⟩ := id dl.1
      refine ⟨_, rfl, b, _, 0, .ref l, rfl, rfl, SqL.of hb, a0, (by show 0 ≤ sizeLine; decide), fun e he => neNil ((same_new he) _ _ hl) upd_same ⟨_, rfl, ?_⟩⟩
      have dl2 := dl.new (o := HO.lst []) he
      have hb2 := (same_new (o := HO.lst []) he) _ _ hb
      have hl2 := (same_new (o := HO.lst []) he) _ _ hl
      generalize upd H1 e (.lst []) = H2 at dl2 hb2 hl2 ⊢
      rcases List.eq_nil_or_concat ns with rfl | ⟨ms, y, rfl⟩
      · exact iteF (iteF (go _ _ ⟨rfl, dl2⟩))
      · rw [List.concat_eq_append] at hl2 hn hl
        have ev : vrow (ms ++ [y]) = vrow ms ++ [.int y] := by rw [vrow, List.map_append]; rfl
        rw [ev] at hl2 hl
        refine iteE (by rw [List.concat_eq_append]; simp) ?_
        rw [List.length_append] at hn
        refine ⟨_, rfl, b, _, 0, .ref l, rfl, rfl, SqL.of hb2, a0, 1, rfl, l, _, -1, .int y, rfl, rfl, SqL.of hl2, atI_last _ _, rfl, _, rfl, ifD (fun e1 => ?_) fun e1 => go _ _ ⟨rfl, dl2⟩⟩
        refine ⟨_, rfl, b, _, 0, .ref l, rfl, rfl, SqL.of hb2, a0, .inl ⟨rfl, _, SqL.of hl2⟩, l, _, .int y, rfl, rfl, hl2, ?_, ?_⟩
        · rw [List.length_append]
          show (vrow ms ++ [V.int y])[(vrow ms).length]? = _
          rw [List.getElem?_append_right (Nat.le_refl _), Nat.sub_self]; rfl
        have ed : (vrow ms ++ [V.int y]).dropLast = vrow ms := List.dropLast_concat
        rw [ed]
        refine ⟨⟨rfl, ⟨nlb, ms, z, by omega, by rw [upd_ne nlb.symm]; exact hb2, upd_same⟩, fun c o e n1 n2 => by rw [upd_ne n2]; exact dl2.2 c o e n1 n2⟩, ?_⟩
        have q1 : (upd H2 l (.lst (vrow ms))) l = some (.lst (vrow ms)) := upd_same
        rw [lenAt_of q1, lenAt_of hl, List.length_append]
        exact Nat.lt_succ_self _
    · obtain ⟨v0, h0, a, xs, i, y, e1, e2, hS, hat, hlen, hh⟩ := h
      refine ⟨v0, h0, a, xs, i, y, e1, e2, hS, hat, hlen, fun p hp => ?_⟩
      obtain ⟨d1, d2, D1, D2, s1, s2, c, hc, h3⟩ := hh p hp
      refine ⟨d1, d2, D1, D2, s1, s2, c, hc, ?_⟩
      cases c with
      | false => exact hQ _ _ h3
      | true =>
        obtain ⟨v1, k0, a', xs', i', y', k1, k2, kS, kat, j, ej, a2, xs2, i2, y2, m1, m2, mS, mat, hx, c2, hc2, h4⟩ := h3
        exact ⟨v1, k0, a', xs', i', y', k1, k2, kS, kat, j, ej, a2, xs2, i2, y2, m1, m2, mS, mat, hx, c2, hc2, hQ _ _ h4⟩
end
end K1
namespace K1
open PySem PySem.Spec PyProof.Rows L2
def spDealt (K : PySem.W.Frag) : Sp := fun vs H Q _ => ∃ (a : Addr) (ns : List Int), vs = [.ref a] ∧ SqL K H a (ns.map V.int) ∧ ns.length ≤ 63 ∧ ∀ b l H', Same H H' → H b = none → H l = none → DealO H' b l → Q (.ref b) H'
theorem cut_ints (ns : List Int) (lo hi : Option Int) : ∃ ms : List Int, cutV (vrow ns) lo hi = vrow ms ∧ ms.length ≤ ns.length := by
  refine ⟨(ns.drop (HT.sIx (vrow ns).length 0 lo)).take (HT.sIx (vrow ns).length (vrow ns).length hi - HT.sIx (vrow ns).length 0 lo), ?_, ?_⟩
  · unfold cutV
    rw [vrow, vrow, List.map_take, List.map_drop]
  · rw [List.length_take, List.length_drop]
    omega
theorem sqL_same {K : PySem.W.Frag} {H H1 : Hp} {a : Addr} {xs : List V} (h : SqL K H a xs) (s : Same H H1) : SqL K H1 a xs := by
  rcases h with (h | ⟨ob, h⟩) | h
  · exact .inl (.inl (s _ _ h))
  · exact .inl (.inr ⟨ob, s _ _ h⟩)
  · exact .inr h
section
variable {P : Program} {w : World} {K : PySem.W.Frag} {mg : Str → Option Value} {base : Heap}
theorem scOf : FnScope ["_law_deal", "_law_some"] ["_law_deal", "_law_some"] (defScope sLOf) := ⟨rfl, rfl, rfl, by decide +kernel, rfl, by decide +kernel, by decide +kernel⟩
theorem ok_of {f fT : Addr} {fd fdT : FuncData} (D : Df K mg "_law_of" sLOf ["_law_deal", "_law_some"] f fd) (DT : Df K mg "_law_any" sLAny ["_law_deal", "_law_bound"] fT fdT) (B : Bt mg) (GT : FnOk P w K mg base CX0 1 fT fdT ["_law_deal", "_law_bound"] spAny) :
    FnOk P w K mg base CX0 2 f fd ["_law_deal", "_law_some"] spOf := by
  refine D.F.ok scOf (fun vs H Q E h => ?_) (fun cdv A outer s H vs Q E hr h => ?_)
  · obtain ⟨b, l, p, xs, rfl, _⟩ := h
    rfl
  · obtain ⟨b, l, p, xs, rfl, hb, hl, n1, n2, h1, h2, q⟩ := h
    refine ⟨_, pss_one (ps_ret (pe_ix ix_list (pv 1) (pc DT GT hr pass0 (pa_cons (pv 0) (pa_cons (pe_callB call_len_seq (by rfl) B.len PySem.boot_len (pa_cons (pv 1) pa_nil)) pa_nil))) (fun _ _ => rfl))), ?_⟩
    refine ⟨_, rfl, _, rfl, _, rfl, p, xs, rfl, .inl (SqL.of hl), b, l, _, rfl, hb, by omega, by omega, fun r H' r0 r1 bx => ?_⟩
    have hi : r.toNat < xs.length := by omega
    refine ⟨p, xs, r, xs[r.toNat], rfl, rfl, SqL.of (bx.2 _ _ hl n1 n2), at_of (j := r.toNat) (by omega) (List.getElem?_eq_getElem hi), q r.toNat _ H' (List.getElem?_eq_getElem hi) bx⟩
abbrev nDe : List Str := ["_law_script", "_law_cell", "_law_cells", "_law_blend"]
theorem scDe : FnScope nDe ["_law_script"] (defScope sLDealt) := ⟨rfl, rfl, rfl, by decide +kernel, rfl, by decide +kernel, by decide +kernel⟩
theorem ok_dealt {f : Addr} {fd : FuncData} (D : Df K mg "_law_dealt" sLDealt ["_law_script"] f fd) (B : Bt mg) : FnOk P w K mg base CX0 1 f fd ["_law_script"] (spDealt K) := by
  refine D.F.ok scDe (fun vs H Q E h => ?_) (fun cdv A outer s H vs Q E hr h => ?_)
  · obtain ⟨a, ns, rfl, _⟩ := h
    rfl
  · obtain ⟨a, ns, rfl, hS, hl, q⟩ := h
    refine ⟨_, pss_cons (ps_setLc (i := 2) (own := [("_law_cell", 1)]) (g := gName 1) (tt := tYes) rfl scDe.nd rfl rfl (sw_true rfl rfl rfl rfl) (pi_list (pe_slice sl_list (pv 0) po_none (po_some pe_int))) (blkOk_by (N := nDe) (sc := defScope sLDealt) (by decide +kernel)) (fun _ _ _ _ _ => pg_name (i := 1) scDe.nd rfl (Or.inl rfl)) (fun _ _ _ _ _ => pts_nil)
          (fun _ _ _ _ _ => pe_callB call_abs (by rfl) B.abs (by decide +kernel) (pa_cons (pe_callTy call_int1 (by rfl) B.int PyProof.Rows.boot_int (pa_cons (pv 1) pa_nil)) pa_nil)))
      (pss_cons (ps_set (i := 3) scDe.nd rfl (.inl rfl) pe_int)
      (pss_cons (ps_for PassesOwn.never rfl (pi_list (pv 2)) (pg_name (i := 1) scDe.nd rfl (.inl rfl)) (pss_one (ps_set (i := 3) scDe.nd rfl (.inl rfl) (pe_op op_mod (pe_callTy call_int1 (by rfl) B.int PyProof.Rows.boot_int (pa_cons (pe_op op_add (pe_op op_add (pe_op op_mul (pv 3) pe_int) (pe_op op_mod (pv 1) pe_int)) pe_int) pa_nil)) pe_int))))
      (pss_one (ps_ret (pe_lst (pa_cons (pe_revL (pe_lc (own := [("_law_cell", 1)]) (g := gName 1) rfl scDe.nd (pi_list (pv 2)) (blkOk_by (N := nDe) (sc := defScope sLDealt) (by decide +kernel)) (fun _ _ _ _ _ => pg_name (i := 1) scDe.nd rfl (Or.inl rfl)) (fun _ _ _ _ _ => pts_one (pt_cmpR op_ge (pv 1) (pe_op op_pow pe_int pe_int) (nomark _)))
          (fun _ _ _ _ _ => pv 1))) (pa_cons (pv 3) pa_nil))))))), ?_⟩
    refine ⟨_, rfl, 48, rfl, a, _, rfl, hS, fun p hp => ?_⟩
    obtain ⟨ms, em, hm⟩ := cut_ints ns none (some 48)
    have s1 := same_new (o := HO.lst (cutV (ns.map V.int) none (some 48))) hp
    have hp1 : (upd H p (.lst (cutV (ns.map V.int) none (some 48)))) p = some (.lst (vrow ms)) := by rw [upd_same, ← em]; rfl
    generalize upd H p (.lst (cutV (ns.map V.int) none (some 48))) = H1 at s1 hp1 ⊢
    refine ⟨p, rfl, ⟨_, SqL.of hp1⟩, fun D0 hD0 => lc_list (K := K) (a := p) (xs := vrow ms) (fun k H3 => Same H1 H3 ∧ ∃ cs : List Int, cs.length = k ∧ H3 D0 = some (.lst (vrow cs))) ⟨same_new hD0, [], rfl, upd_same⟩ (fun k H3 _ ⟨s3, _⟩ => SqL.of (s3 _ _ hp1)) ?_ ?_⟩
    · rintro k z H3 hz ⟨s3, cs, hk, hD3⟩
      obtain ⟨i, _, rfl⟩ : ∃ i, i ∈ ms ∧ V.int i = z := List.mem_map.mp (List.mem_of_getElem? hz)
      have hkl := (List.getElem?_eq_some_iff.mp hz).1
      rw [vrow, List.length_map] at hkl
      refine ⟨rfl, _, rfl, .inl ⟨_, rfl, _, rfl, _, hD3, by rw [vrow, List.length_map, sizeLine_eq]; omega, fun c o e => by rw [upd_ne (ne_of_none e hD0)]; exact s3 _ _ e, cs ++ [if i < 0 then -i else i], by rw [List.length_append, hk]; rfl, by rw [upd_same, vrow, vrow, List.map_append]; rfl⟩⟩
    · rintro H3 ⟨s3, cs, hk, hD3⟩
      rw [vrow, List.length_map] at hk
      have s13 := s1.trans s3
      refine ⟨_, rfl, D0, rfl, ⟨_, SqL.of hD3⟩, for_list (K := K) (a := D0) (xs := vrow cs) (fun k σ H' => ∃ (v1 : Option V) (z : Int), σ = [some (.ref a), v1, some (.ref D0), some (.int z)] ∧ H' = H3) ⟨_, _, rfl, rfl⟩ (fun k σ H' _ ⟨_, _, _, e⟩ => by rw [e]; exact SqL.of hD3) ?_ ?_⟩
      · rintro k x σ H' hx ⟨v1, z, rfl, rfl⟩
        obtain ⟨i, _, rfl⟩ : ∃ i, i ∈ cs ∧ V.int i = x := List.mem_map.mp (List.mem_of_getElem? hx)
        exact ⟨_, rfl, _, _, rfl, rfl, .inr ⟨by decide, by decide⟩, _, rfl, _, _, rfl, rfl, (by decide : (0 : Int) < 2147483629), _, _, rfl, rfl, _, _, rfl, rfl, .inl ⟨_, rfl, _, _, rfl, rfl, (by decide : (0 : Int) < 2147483647), _, _, rfl, rfl⟩⟩
      · rintro σ H' ⟨v1, z, rfl, rfl⟩
        refine ⟨_, rfl, D0, rfl, ⟨_, SqL.of hD3⟩, fun D1 hD1 => lc_list (K := K) (a := D0) (xs := vrow cs) (fun k H4 => Same H' H4 ∧ ∃ es : List Int, es.length ≤ k ∧ H4 D1 = some (.lst (vrow es))) ⟨same_new hD1, [], Nat.le_refl _, upd_same⟩ (fun k H4 _ ⟨s4, _⟩ => SqL.of (s4 _ _ hD3)) ?_ ?_⟩
        · rintro k x H4 hx ⟨s4, es, he, hD4⟩
          obtain ⟨i, _, rfl⟩ : ∃ i, i ∈ cs ∧ V.int i = x := List.mem_map.mp (List.mem_of_getElem? hx)
          have hkl := (List.getElem?_eq_some_iff.mp hx).1
          rw [vrow, List.length_map] at hkl
          refine ⟨rfl, _, rfl, _, _, rfl, rfl, ⟨by decide, by decide, by decide⟩, _, _, rfl, rfl, _, rfl, ifD (fun e => ?_) fun e => ?_⟩
          · exact ⟨_, rfl, _, hD4, by rw [vrow, List.length_map, sizeLine_eq]; omega, fun c o e => by rw [upd_ne (ne_of_none e hD1)]; exact s4 _ _ e, es ++ [i], by rw [List.length_append]; exact Nat.succ_le_succ he, by rw [upd_same, vrow, vrow, List.map_append]; rfl⟩
          · exact ⟨s4, es, Nat.le_succ_of_le he, hD4⟩
        · rintro H4 ⟨s4, es, he, hD4⟩
          rw [vrow, List.length_map] at he
          refine ⟨D1, _, rfl, SqL.of hD4, fun l hl4 => ⟨_, rfl, (by show 2 ≤ sizeLine; decide), fun b hb => ?_⟩⟩
          have s5 := (s13.trans s4).trans (same_new (o := HO.lst (vrow es).reverse) hl4)
          have nlb : l ≠ b := fun z => by rw [← z, upd_same] at hb; cases hb
          refine q b l _ (s5.trans (same_new hb)) (s5.free hb) ((s13.trans s4).free hl4) ⟨nlb, es.reverse, z, by rw [List.length_reverse]; omega, upd_same, ?_⟩
          rw [upd_ne nlb, upd_same, vrow, vrow, List.map_reverse]
end
end K1
namespace K1
open PySem PySem.Spec PyProof.Rows L2
/-! ### steps -/
inductive Stp where | dd (h d : Nat) | mt (t : Nat)
deriving DecidableEq
def stV : Stp → List V | .dd h d => [.str "do", .int (h : Int), .int (d : Int)] | .mt t => [.str "meet", .int (t : Int)]
def okS (n t d : Nat) : Stp → Prop | .dd h e => h < n ∧ e < d | .mt k => k < t
/-- a step's first item -/
def Fi (H : Hp) (x : V) : Prop := (∃ s, x = .str s ∧ PyData.strOk s = true) ∨ (∃ i, x = .int i) ∨ ∃ a s, x = .ref a ∧ H a = some (.tup [.str s]) ∧ PyData.strOk s = true
theorem Fi.same {H H' : Hp} {x : V} (h : Fi H x) (s : Same H H') : Fi H' x := h.elim .inl fun h => h.elim (fun h => .inr (.inl h)) fun ⟨a, z, e, h, h'⟩ => .inr (.inr ⟨a, z, e, s _ _ h, h'⟩)
theorem shS {s : Str} (h : PyData.strOk s = true) : SeqAt.shaped (.str s) = true := by
  unfold SeqAt.shaped
  rw [show PyData.canLay0 (.str s) = true from h]; rfl
theorem shTS {s : Str} (h : PyData.strOk s = true) : SeqAt.shaped (.tuple [.str s]) = true := by
  unfold SeqAt.shaped
  rw [show PyData.canLay0 (.tuple [.str s]) = true from by show (PyData.strOk s && true) = true; rw [h]; rfl]; rfl
theorem Fi.eq {K : PySem.W.Frag} {H : Hp} {x : V} (h : Fi H x) {s : Str} (hs : PyData.strOk s = true) {Q : VK} (q : Q (.bl (decide (x = .str s))) H) : rEqD K x (.str s) H Q := by
  rcases h with ⟨z, rfl, hz⟩ | ⟨i, rfl⟩ | ⟨a, z, rfl, h, hz⟩
  · refine ⟨.str z, .str s, .str z, .str s, shS hz, shS hs, qbl ?_ q⟩
    by_cases e : z = s
    · subst e
      rw [decide_eq_true rfl]
      exact beq_self_eq_true z
    · rw [decide_eq_false (by intro k; injection k with k; exact e k)]
      exact beq_eq_false_iff_ne.mpr e
  · exact ⟨.int i, .str s, .int i, .str s, rfl, shS hs, qbl (by rw [decide_eq_false (by intro k; cases k)]; rfl) q⟩
  · exact ⟨.tuple [.str z], .str s, .tup (SqT.of h) (.cons (.str z) .nil), .str s, shTS hz, shS hs, qbl (by rw [decide_eq_false (by intro k; cases k)]; rfl) q⟩
/-- a value that may be a step -/
structure Sv (K : PySem.W.Frag) (H : Hp) (x : V) (r : Option (List V)) : Prop where
  rw : Rw K H x r
  fi : ∀ y ys, r = some (y :: ys) → Fi H y
theorem Sv.same {K : PySem.W.Frag} {H H' : Hp} {x : V} {r : Option (List V)} (h : Sv K H x r) (s : Same H H') : Sv K H' x r := ⟨h.rw.same s, fun y ys e => (h.fi y ys e).same s⟩
def stB (n t d : Nat) (r : Option (List V)) : Bool := match r with
  | some [a, b, c] => decide (a = V.str "do") && (belowB b (n : Int) && belowB c (d : Int))
  | some [a, b] => decide (a = V.str "meet") && belowB b (t : Int)
  | _ => false
theorem below_nat {v : V} {n : Nat} (hb : belowB v (n : Int) = true) : ∃ h : Nat, v = .int (h : Int) ∧ h < n := by
  cases v <;> first | (cases hb; done) | skip
  rename_i i
  have z : (decide (0 ≤ i) && decide (i < (n : Int))) = true := hb
  simp only [Bool.and_eq_true, decide_eq_true_eq] at z
  exact ⟨i.toNat, by congr 1; omega, by omega⟩
theorem stB_some {n t d : Nat} {r : Option (List V)} (h : stB n t d r = true) : ∃ s, r = some (stV s) ∧ okS n t d s := by
  unfold stB at h
  split at h
  · simp only [Bool.and_eq_true, decide_eq_true_eq] at h
    obtain ⟨rfl, hb, hc⟩ := h
    obtain ⟨b, rfl, hb2⟩ := below_nat hb
    obtain ⟨c, rfl, hc2⟩ := below_nat hc
    exact ⟨.dd b c, rfl, hb2, hc2⟩
  · simp only [Bool.and_eq_true, decide_eq_true_eq] at h
    obtain ⟨rfl, hb⟩ := h
    obtain ⟨b, rfl, hb2⟩ := below_nat hb
    exact ⟨.mt b, rfl, hb2⟩
  · cases h
theorem belowB_nat {k n : Nat} : belowB (.int (k : Int)) (n : Int) = decide (k < n) := by
  show (decide (0 ≤ (k : Int)) && decide ((k : Int) < (n : Int))) = _
  rw [decide_eq_true (by omega), Bool.true_and]
  by_cases h : k < n
  · rw [decide_eq_true h, decide_eq_true (by omega)]
  · rw [decide_eq_false h, decide_eq_false (by omega)]
theorem stB_ok {n t d : Nat} {s : Stp} (h : okS n t d s) : stB n t d (some (stV s)) = true := by
  cases s with
  | dd a b =>
    show (decide (V.str "do" = V.str "do") && (belowB (.int (a : Int)) (n : Int) && belowB (.int (b : Int)) (d : Int))) = true
    rw [belowB_nat, belowB_nat, decide_eq_true rfl, decide_eq_true h.1, decide_eq_true h.2]; rfl
  | mt a =>
    show (decide (V.str "meet" = V.str "meet") && (belowB (.int (a : Int)) (t : Int))) = true
    rw [belowB_nat, decide_eq_true rfl, decide_eq_true (show a < t from h)]; rfl
def spIsStep (K : PySem.W.Frag) (W : Addr) : Sp := fun vs H Q _ => ∃ (w : Addr) (x : V) (r : Option (List V)) (n d : Nat) (ts : Prs), vs = [.ref w, .int (d : Int), x] ∧ WebAt W H w n ts ∧ Sv K H x r ∧ ∀ H', Same H H' → Q (.bl (stB n ts.length d r)) H'
/-- steps that may be -/
inductive Svs (K : PySem.W.Frag) (H : Hp) : V → Option (List (Option (List V))) → Prop
  | no {v : V} (h : KV K H v none) : Svs K H v none
  | yes {v : V} {xs : List V} {rs : List (Option (List V))} (h : KV K H v (some xs)) (hl : xs.length = rs.length) (r : ∀ (i : Nat) x r, xs[i]? = some x → rs[i]? = some r → Sv K H x r) : Svs K H v (some rs)
theorem Svs.same {K : PySem.W.Frag} {H H' : Hp} {v : V} {o : Option (List (Option (List V)))} (h : Svs K H v o) (s : Same H H') : Svs K H' v o := by
  cases h with
  | no h => exact .no (h.same s)
  | yes h hl r => exact .yes (h.same s) hl fun i x r' e1 e2 => (r i x r' e1 e2).same s
def sfV (n t d : Nat) (o : Option (List (Option (List V)))) : V := match o with
  | none => .int (-1)
  | some rs => if rs.length ≤ 400 then (match rs.findIdx? (fun r => !stB n t d r) with | some i => .int (i : Nat) | none => .non) else .int (-1)
def spSFault (K : PySem.W.Frag) (W : Addr) : Sp := fun vs H Q _ => ∃ (w : Addr) (v : V) (o : Option (List (Option (List V)))) (n d : Nat) (ts : Prs), vs = [.ref w, .int (d : Int), v] ∧ WebAt W H w n ts ∧ Svs K H v o ∧ ∀ H', Same H H' → Q (sfV n ts.length d o) H'
/-- steps as tuples, in a tuple -/
def StpsA (H : Hp) (as : List Addr) (ss : List Stp) : Prop := as.length = ss.length ∧ ∀ (i : Nat) a s, as[i]? = some a → ss[i]? = some s → H a = some (.tup (stV s))
theorem StpsA.same {H H' : Hp} {as : List Addr} {ss : List Stp} (h : StpsA H as ss) (s : Same H H') : StpsA H' as ss := ⟨h.1, fun i a t e1 e2 => s _ _ (h.2 i a t e1 e2)⟩
def StpsT (H : Hp) (p : Addr) (ss : List Stp) : Prop := ∃ as : List Addr, H p = some (.tup (as.map V.ref)) ∧ StpsA H as ss
theorem StpsT.same {H H' : Hp} {p : Addr} {ss : List Stp} (h : StpsT H p ss) (s : Same H H') : StpsT H' p ss := let ⟨as, h1, h2⟩ := h; ⟨as, s _ _ h1, h2.same s⟩
structure Cs (mg : Str → Option Value) : Prop where
  steps : ∃ t, mg "MOST_STEPS" = some (.int 400 t)
  doo : ∃ t, mg "DO" = some (.str "do" t)
  meet : ∃ t, mg "MEET" = some (.str "meet" t)
section
variable {P : Program} {w : World} {K : PySem.W.Frag} {mg : Str → Option Value} {base : Heap}
theorem ix_at {H : Hp} {x : V} {ys : List V} (h : KV K H x (some ys)) {j : Nat} {y : V} {Q : VK} (hj : ys[j]? = some y) (q : Q y H) : rIx K x (.int (j : Int)) H Q := by
  cases h with
  | lst h => exact .inl ⟨_, _, _, y, rfl, rfl, SqL.of h, at_i hj, q⟩
  | tup h => exact .inr (.inl ⟨_, _, _, y, rfl, rfl, SqT.of h, at_i hj, q⟩)
theorem scIS : FnScope ["web", "deeds", "value"] ["web", "deeds", "value"] (defScope sIsStep) := ⟨rfl, rfl, rfl, by decide +kernel, rfl, by decide +kernel, by decide +kernel⟩
theorem seq_len {ys : List V} {k : Nat} (e : seqB (some ys) (k : Int) (k : Int) = true) : ys.length = k := by
  have z : (decide ((k : Int) ≤ (ys.length : Int)) && decide ((ys.length : Int) ≤ (k : Int))) = true := e
  simp only [Bool.and_eq_true, decide_eq_true_eq] at z
  omega
theorem seq_no {ys : List V} {k : Nat} (e : ys.length ≠ k) : seqB (some ys) (k : Int) (k : Int) = false := by
  show (decide ((k : Int) ≤ (ys.length : Int)) && decide ((ys.length : Int) ≤ (k : Int))) = false
  simp only [Bool.and_eq_false_iff, decide_eq_false_iff_not]
  omega
theorem ok_isStep {f fS fB W : Addr} {fd fdS fdB : FuncData} (D : Df K mg "is_step" sIsStep ["web", "deeds", "value"] f fd) (DS : Df K mg "is_sequence" sSeq ["value", "least", "most"] fS fdS) (DB : Df K mg "is_below" sBelow ["value", "limit"] fB fdB) (B : Bt mg) (c : Cs mg) (T : WcT K mg W)
    (GS : FnOk P w K mg base CX0 1 fS fdS ["value", "least", "most"] (spSeq K)) (GB : FnOk P w K mg base CX0 2 fB fdB ["value", "limit"] (spBelow K)) : FnOk P w K mg base CX0 3 f fd ["web", "deeds", "value"] (spIsStep K W) := by
  obtain ⟨t1, hc1⟩ := c.doo
  obtain ⟨t2, hc2⟩ := c.meet
  refine D.F.ok scIS (fun vs H Q E h => ?_) (fun cdv A outer s H vs Q E hr h => ?_)
  · obtain ⟨w, x, r, n, d, ts, rfl, _⟩ := h
    rfl
  · obtain ⟨w, x, r, n, d, ts, rfl, ⟨dx, ta, h1, as, g1, g2⟩, hv, q⟩ := h
    have hu := hr.units
    have hr1 := hr.mono (show 1 ≤ 2 by decide)
    refine ⟨_, pss_cons (ps_if (pt_val (pc DS GS hr1 pass0 (pa_cons (pv 2) (pa_cons pe_int (pa_cons pe_int pa_nil)))))
        (pss_one (ps_ret (pe_and (pe_cmpR (eqD (K := K) rfl hu) (pe_ix ix_seq (pv 2) pe_int (fun _ _ => rfl)) (pe_glob (v := .str "do") (by rfl) hc1 ⟨_, rfl⟩) (nomark _))
          (pe_and (pc DB GB hr pass0 (pa_cons (pe_ix ix_seq (pv 2) pe_int (fun _ _ => rfl)) (pa_cons (pe_fld (pv 0) rfl) pa_nil)))
          (pe_one (pc DB GB hr pass0 (pa_cons (pe_ix ix_seq (pv 2) pe_int (fun _ _ => rfl)) (pa_cons (pv 1) pa_nil)))))))) pss_nil)
      (pss_one (ps_ret (pe_and (pc DS GS hr1 pass0 (pa_cons (pv 2) (pa_cons pe_int (pa_cons pe_int pa_nil))))
        (pe_and (pe_cmpR (eqD (K := K) rfl hu) (pe_ix ix_seq (pv 2) pe_int (fun _ _ => rfl)) (pe_glob (v := .str "meet") (by rfl) hc2 ⟨_, rfl⟩) (nomark _))
          (pe_one (pc DB GB hr pass0 (pa_cons (pe_ix ix_seq (pv 2) pe_int (fun _ _ => rfl)) (pa_cons (pe_callB call_len_seq (by rfl) B.len PySem.boot_len (pa_cons (pe_fld (pv 0) rfl) pa_nil)) pa_nil)))))))), ?_⟩
    have el : ((as.map V.ref).length : Int) = (ts.length : Int) := by rw [List.length_map, g2.1]
    refine ⟨_, rfl, x, r, 3, 3, rfl, hv.rw.kv, fun H1 s1 => ⟨_, rfl, ifD (fun e => ?_) fun e => ?_⟩⟩
    · cases r with
      | none => cases e
      | some ys =>
        have hl : ys.length = 3 := seq_len (k := 3) e
        match ys, hl with
        | [a, b, c], _ =>
          have kv1 := hv.rw.kv.same s1
          have kk := (hv.rw.ks _ rfl).same s1
          obtain ⟨ob, kb⟩ := kk b (by simp)
          obtain ⟨oc, kc⟩ := kk c (by simp)
          refine ⟨_, rfl, ix_at (j := 0) kv1 rfl (cP (Fi.eq ((hv.fi _ _ rfl).same s1) (by decide +kernel) ?_))⟩
          refine ⟨_, rfl, ifD (fun e1 => ?_) fun e1 => ?_⟩
          · refine ⟨_, rfl, ix_at (j := 1) kv1 rfl ⟨_, rfl, w, W, dx, _, _, rfl, s1 _ _ h1, T.cl, T.nH, wf_h _ _, b, ob, (n : Int), rfl, kb, _, rfl, ifD (fun e2 => ?_) fun e2 => ?_⟩⟩
            · refine ⟨_, rfl, ix_at (j := 2) kv1 rfl ⟨_, rfl, c, oc, (d : Int), rfl, kc, qbl ?_ (q _ s1)⟩⟩
              show _ = (_ && (_ && _))
              rw [e1, e2]; rfl
            · refine qbl ?_ (q _ s1)
              show _ = (_ && (_ && _))
              rw [e1, e2]; rfl
          · refine qbl ?_ (q _ s1)
            show _ = (_ && (_ && _))
            rw [e1]; rfl
    · refine nxP ⟨_, rfl, x, r, 2, 2, rfl, hv.rw.kv.same s1, fun H2 s2 => ⟨_, rfl, ifD (fun e2 => ?_) fun e2 => ?_⟩⟩
      · cases r with
        | none => cases e2
        | some ys =>
          have hl : ys.length = 2 := seq_len (k := 2) e2
          match ys, hl with
          | [a, b], _ =>
            have s12 := s1.trans s2
            have kv1 := hv.rw.kv.same s12
            have kk := (hv.rw.ks _ rfl).same s12
            obtain ⟨ob, kb⟩ := kk b (by simp)
            refine ⟨_, rfl, ix_at (j := 0) kv1 rfl (cP (Fi.eq ((hv.fi _ _ rfl).same s12) (by decide +kernel) ?_))⟩
            refine ⟨_, rfl, ifD (fun e1 => ?_) fun e1 => ?_⟩
            · refine ⟨_, rfl, ix_at (j := 1) kv1 rfl ⟨_, rfl, w, W, dx, _, _, rfl, s12 _ _ h1, T.cl, T.nT, wf_t _ _, ta, _, rfl, .inr (SqT.of (s12 _ _ g1)), ?_⟩⟩
              rw [el]
              refine ⟨b, ob, (ts.length : Int), rfl, kb, qbl ?_ (q _ s12)⟩
              show _ = (_ && _)
              rw [e1]; rfl
            · refine qbl ?_ (q _ s12)
              show _ = (_ && _)
              rw [e1]; rfl
      · refine qbl ?_ (q _ (s1.trans s2))
        cases r with
        | none => rfl
        | some ys =>
          have h3 : ys.length ≠ 3 := fun z => by rw [show seqB (some ys) 3 3 = true from by show (decide ((3 : Int) ≤ (ys.length : Int)) && decide ((ys.length : Int) ≤ 3)) = true; rw [z]; rfl] at e; cases e
          have h2 : ys.length ≠ 2 := fun z => by rw [show seqB (some ys) 2 2 = true from by show (decide ((2 : Int) ≤ (ys.length : Int)) && decide ((ys.length : Int) ≤ 2)) = true; rw [z]; rfl] at e2; cases e2
          match ys, h3, h2 with
          | [], _, _ => rfl
          | [_], _, _ => rfl
          | [_, _], _, h => exact (h rfl).elim
          | [_, _, _], h, _ => exact (h rfl).elim
          | _ :: _ :: _ :: _ :: _, _, _ => rfl
end
end K1
namespace K1
open PySem PySem.Spec PyProof.Rows L2
theorem sf_at {n t d : Nat} {rs : List (Option (List V))} {i : Nat} {r : Option (List V)} (hl : rs.length ≤ 400) (hr : rs[i]? = some r) (hn : stB n t d r = false) (hb : ∀ (j : Nat) y, j < i → rs[j]? = some y → stB n t d y = true) : sfV n t d (some rs) = .int (i : Nat) := by
  unfold sfV
  dsimp only
  rw [if_pos hl, find_at (p := fun r => !stB n t d r) hr (by rw [hn]; rfl) fun j y hj hy => by rw [hb j y hj hy]; rfl]
theorem sf_non {n t d : Nat} {rs : List (Option (List V))} (hl : rs.length ≤ 400) (hb : ∀ (j : Nat) y, j < rs.length → rs[j]? = some y → stB n t d y = true) : sfV n t d (some rs) = .non := by
  unfold sfV
  dsimp only
  rw [if_pos hl, find_none (p := fun r => !stB n t d r) fun j y hj hy => by rw [hb j y hj hy]; rfl]
theorem sf_ok {n t d : Nat} {o : Option (List (Option (List V)))} (h : sfV n t d o = .non) : ∃ ss : List Stp, o = some (ss.map fun s => some (stV s)) ∧ (∀ s ∈ ss, okS n t d s) ∧ ss.length ≤ 400 := by
  unfold sfV at h
  cases o with
  | none => cases h
  | some rs =>
    dsimp only at h
    by_cases hl : rs.length ≤ 400
    · rw [if_pos hl] at h
      cases e : rs.findIdx? (fun r => !stB n t d r) with
      | some i => rw [e] at h; cases h
      | none =>
        rw [List.findIdx?_eq_none_iff] at e
        have key : ∀ qs : List (Option (List V)), (∀ r ∈ qs, stB n t d r = true) → ∃ ss : List Stp, qs = ss.map (fun s => some (stV s)) ∧ ∀ s ∈ ss, okS n t d s := fun qs => by
          induction qs with
          | nil => intro _; exact ⟨[], rfl, fun s hs => nomatch hs⟩
          | cons r qs ih =>
            intro hq
            obtain ⟨s, rfl, h1⟩ := stB_some (hq r List.mem_cons_self)
            obtain ⟨ss, rfl, h2⟩ := ih fun r hr => hq r (List.mem_cons_of_mem _ hr)
            exact ⟨s :: ss, rfl, fun x hx => (List.mem_cons.mp hx).elim (fun e => e ▸ h1) (h2 x)⟩
        obtain ⟨ss, rfl, h2⟩ := key rs fun r hr => by simpa using e r hr
        rw [List.length_map] at hl
        exact ⟨ss, rfl, h2, hl⟩
    · rw [if_neg hl] at h; cases h
theorem sf_int {n t d : Nat} {o : Option (List (Option (List V)))} : sfV n t d o = .non ∨ ∃ z, sfV n t d o = .int z := by
  unfold sfV
  cases o with
  | none => exact .inr ⟨_, rfl⟩
  | some rs =>
    dsimp only
    split
    · split
      · exact .inr ⟨_, rfl⟩
      · exact .inl rfl
    · exact .inr ⟨_, rfl⟩
def spStepsOf (K : PySem.W.Frag) (W C : Addr) : Sp := fun vs H Q E => ∃ (w : Addr) (v : V) (o : Option (List (Option (List V)))) (n d : Nat) (ts : Prs), vs = [.ref w, .int (d : Int), v] ∧ WebAt W H w n ts ∧ Svs K H v o ∧ (∀ z, sfV n ts.length d o = .int z → Rz C "at" (.int z) H E) ∧
  ∀ ss : List Stp, o = some (ss.map fun s => some (stV s)) → (∀ s ∈ ss, okS n ts.length d s) → ss.length ≤ 400 → ∀ p H', Same H H' → StpsT H' p ss → Q (.ref p) H'
def spCkSteps (K : PySem.W.Frag) (M W C : Addr) : Sp := fun vs H Q E => ∃ (m ta w : Addr) (tb : Ts) (v : V) (o : Option (List (Option (List V)))) (n : Nat) (ts : Prs), vs = [.ref m, .ref w, v] ∧ MachAt M H m ta (vts tb) ∧ WebAt W H w n ts ∧ Svs K H v o ∧ (∀ z, sfV n ts.length tb.length o = .int z → Rz C "at" (.int z) H E) ∧
  ∀ ss : List Stp, o = some (ss.map fun s => some (stV s)) → (∀ s ∈ ss, okS n ts.length tb.length s) → ss.length ≤ 400 → ∀ p H', Same H H' → StpsT H' p ss → Q (.ref p) H'
section
variable {P : Program} {w : World} {K : PySem.W.Frag} {mg : Str → Option Value} {base : Heap}
theorem scSF : FnScope ["web", "deeds", "value", "at", "step"] ["web", "deeds", "value"] (defScope sStepsFault) := ⟨rfl, rfl, rfl, by decide +kernel, rfl, by decide +kernel, by decide +kernel⟩
theorem ok_sfault {f fS fI W : Addr} {fd fdS fdI : FuncData} (D : Df K mg "steps_fault" sStepsFault ["web", "deeds", "value"] f fd) (DS : Df K mg "is_sequence" sSeq ["value", "least", "most"] fS fdS) (DI : Df K mg "is_step" sIsStep ["web", "deeds", "value"] fI fdI) (B : Bt mg) (c : Cs mg)
    (GS : FnOk P w K mg base CX0 1 fS fdS ["value", "least", "most"] (spSeq K)) (GI : FnOk P w K mg base CX0 3 fI fdI ["web", "deeds", "value"] (spIsStep K W)) : FnOk P w K mg base CX0 4 f fd ["web", "deeds", "value"] (spSFault K W) := by
  obtain ⟨t1, hc1⟩ := c.steps
  refine D.F.ok scSF (fun vs H Q E h => ?_) (fun cdv A outer s H vs Q E hr h => ?_)
  · obtain ⟨w, v, o, n, d, ts, rfl, _⟩ := h
    rfl
  · obtain ⟨w, v, o, n, d, ts, rfl, hw, hv, q⟩ := h
    have hr1 := hr.mono (show 1 ≤ 3 by decide)
    refine ⟨_, pss_cons (ps_if (pt_not (pt_val (pc DS GS hr1 pass0 (pa_cons (pv 2) (pa_cons pe_int (pa_cons (pe_glob (v := .int 400) (by rfl) hc1 ⟨_, rfl⟩) pa_nil)))))) (pss_one (ps_ret (pe_un un_neg pe_int))) pss_nil)
      (pss_cons (ps_for PassesOwn.never rfl (pi_enumA (by rfl) B.enumerate (pa_cons (pv 2) pa_nil)) (pg_tup rfl (pgs_cons (pg_name (i := 3) scSF.nd rfl (.inl rfl)) (pgs_cons (pg_name (i := 4) scSF.nd rfl (.inl rfl)) pgs_nil)))
        (pss_one (ps_if (pt_not (pt_val (pc DI GI hr pass0 (pa_cons (pv 0) (pa_cons (pv 1) (pa_cons (pv 4) pa_nil)))))) (pss_one (ps_ret (pv 3))) pss_nil)))
      (pss_one (ps_ret pe_non))), ?_⟩
    cases hv with
    | no kv =>
      exact ⟨_, rfl, v, none, 0, 400, rfl, kv, fun H1 s1 => ⟨_, rfl, iteT ⟨_, rfl, q _ s1⟩⟩⟩
    | yes kv hl R =>
      rename_i xs rs
      refine ⟨_, rfl, v, some xs, 0, 400, rfl, kv, fun H1 s1 => ⟨_, rfl, ifD (fun e => ?_) fun e => ?_⟩⟩
      · have e' : seqB (some xs) 0 400 = false := by simpa using e
        have h4 : ¬ rs.length ≤ 400 := fun z => by
          rw [show seqB (some xs) 0 400 = true from by show (decide ((0 : Int) ≤ (xs.length : Int)) && decide ((xs.length : Int) ≤ 400)) = true; rw [decide_eq_true (by omega), decide_eq_true (by omega)]; rfl] at e'
          cases e'
        refine ⟨_, rfl, eqv (P := fun v => Q v H1) ?_ (q _ s1)⟩
        unfold sfV
        dsimp only
        rw [if_neg h4]
      · have e' : seqB (some xs) 0 400 = true := by simpa using e
        have h4 : rs.length ≤ 400 := by
          have z : (decide ((0 : Int) ≤ (xs.length : Int)) && decide ((xs.length : Int) ≤ 400)) = true := e'
          simp only [Bool.and_eq_true, decide_eq_true_eq] at z
          omega
        obtain ⟨a, rfl, hS⟩ := kv.seqA
        let Pv : Nat → L2.St → Hp → Prop := fun i σ H' => ∃ v3 v4 : Option V, σ = [some (.ref w), some (.int (d : Int)), some (.ref a), v3, v4] ∧ Same H H' ∧ ∀ (j : Nat) r, j < i → rs[j]? = some r → stB n ts.length d r = true
        have P0 : Pv 0 [some (.ref w), some (.int (d : Int)), some (.ref a), none, none] H1 := ⟨none, none, rfl, s1, fun j r hj => absurd hj (Nat.not_lt_zero _)⟩
        have stp : ∀ (i : Nat) x T (σ : L2.St) H' (Qn : L2.St → Hp → Prop), xs[i]? = some x → H' T = none → Pv i σ H' → (∀ v3 v4 H2, Same (L2.upd H' T (.tup [.int (i : Nat), x])) H2 → (∃ r, rs[i]? = some r ∧ stB n ts.length d r = true) → Pv (i + 1) [some (.ref w), some (.int (d : Int)), some (.ref a), v3, v4] H2) → True := fun _ _ _ _ _ _ _ _ _ _ => trivial
        have nxt : ∀ (i : Nat) x, xs[i]? = some x → ∃ r, rs[i]? = some r ∧ Sv K H x r := fun i x hx => by
          obtain ⟨r, hr'⟩ := ex_at (l := rs) (i := i) (by rw [← hl]; exact lt_at hx)
          exact ⟨r, hr', R i x r hx hr'⟩
        have gr : ∀ {i : Nat} {r}, rs[i]? = some r → stB n ts.length d r = true → (∀ (j : Nat) r, j < i → rs[j]? = some r → stB n ts.length d r = true) → ∀ (j : Nat) r, j < i + 1 → rs[j]? = some r → stB n ts.length d r = true := fun {i r} h1 h2 hb j y hj hy => by
          rcases Nat.lt_succ_iff_lt_or_eq.mp hj with z | z
          · exact hb j y z hy
          · subst z
            rw [h1] at hy
            rw [← Option.some.inj hy]
            exact h2
        refine nxP ⟨_, rfl, a, rfl, ?_⟩
        rcases hS with hS | hS
        · refine .inl ⟨xs, SqL.of (s1 _ _ hS), for_enumL (K := K) Pv P0 (fun i σ H' _ ⟨_, _, _, sm, _⟩ => SqL.of (sm _ _ hS)) ?_ ?_⟩
          · rintro i x T σ H' hx hT ⟨v3, v4, rfl, sm, hb⟩
            have sm2 : Same H (L2.upd H' T (.tup [.int (i : Nat), x])) := sm.trans (same_new hT)
            obtain ⟨r, hr', W'⟩ := nxt i x hx
            refine ⟨T, _, rfl, SqT.of upd_same, rfl, _, _, rfl, _, _, rfl, rfl, ?_⟩
            refine ⟨_, rfl, _, rfl, _, rfl, w, x, r, n, d, ts, rfl, hw.same sm2, W'.same sm2, fun H3 s3 => ⟨_, rfl, ifD (fun e => ?_) fun e => ?_⟩⟩
            · have e' : stB n ts.length d r = false := by simpa using e
              exact ⟨_, rfl, eqv (P := fun v => Q v H3) (sf_at h4 hr' e' hb).symm (q _ (sm2.trans s3))⟩
            · exact ⟨_, _, rfl, sm2.trans s3, gr hr' (by simpa using e) hb⟩
          · rintro σ H' ⟨v3, v4, rfl, sm, hb⟩
            refine eqv (P := fun v => Q v H') (sf_non (n := n) (t := ts.length) (d := d) h4 fun j y hj hy => hb j y (by rw [hl]; exact hj) hy).symm (q _ sm)
        · refine .inr ⟨xs, SqT.of (s1 _ _ hS), for_enumT (K := K) Pv P0 (fun i σ H' _ ⟨_, _, _, sm, _⟩ => SqT.of (sm _ _ hS)) ?_ ?_⟩
          · rintro i x T σ H' hx hT ⟨v3, v4, rfl, sm, hb⟩
            have sm2 : Same H (L2.upd H' T (.tup [.int (i : Nat), x])) := sm.trans (same_new hT)
            obtain ⟨r, hr', W'⟩ := nxt i x hx
            refine ⟨T, _, rfl, SqT.of upd_same, rfl, _, _, rfl, _, _, rfl, rfl, ?_⟩
            refine ⟨_, rfl, _, rfl, _, rfl, w, x, r, n, d, ts, rfl, hw.same sm2, W'.same sm2, fun H3 s3 => ⟨_, rfl, ifD (fun e => ?_) fun e => ?_⟩⟩
            · have e' : stB n ts.length d r = false := by simpa using e
              exact ⟨_, rfl, eqv (P := fun v => Q v H3) (sf_at h4 hr' e' hb).symm (q _ (sm2.trans s3))⟩
            · exact ⟨_, _, rfl, sm2.trans s3, gr hr' (by simpa using e) hb⟩
          · rintro σ H' ⟨v3, v4, rfl, sm, hb⟩
            refine eqv (P := fun v => Q v H') (sf_non (n := n) (t := ts.length) (d := d) h4 fun j y hj hy => hb j y (by rw [hl]; exact hj) hy).symm (q _ sm)
theorem scSO : FnScope ["web", "deeds", "value", "at", "step"] ["web", "deeds", "value"] (defScope sStepsOf) := ⟨rfl, rfl, rfl, by decide +kernel, rfl, by decide +kernel, by decide +kernel⟩
theorem ok_stepsOf {f fF W C cI : Addr} {fd fdF : FuncData} {bm : List Value} {ql : Str} (D : Df K mg "steps_of" sStepsOf ["web", "deeds", "value"] f fd) (DF : Df K mg "steps_fault" sStepsFault ["web", "deeds", "value"] fF fdF) (B : Bt mg) (T : LAt.Txt K mg "BadSteps" ql bm C cI)
    (GF : FnOk P w K mg base CX0 4 fF fdF ["web", "deeds", "value"] (spSFault K W)) : FnOk P w K mg base (L2.CX P w) 5 f fd ["web", "deeds", "value"] (spStepsOf K W C) := by
  refine D.F.okX scSO (fun vs H Q E h => ?_) (fun cdv A outer s H vs Q E hr h => ?_)
  · obtain ⟨w, v, o, n, d, ts, rfl, _⟩ := h
    rfl
  · obtain ⟨w, v, o, n, d, ts, rfl, hw, hv, qE, q⟩ := h
    refine ⟨_, pss_cons (ps_set (i := 3) scSO.nd rfl (.inl rfl) (pc DF GF hr pass0 (pa_cons (pv 0) (pa_cons (pv 1) (pa_cons (pv 2) pa_nil)))))
      (pss_cons (ps_if (pt_cmp (pc_notN (pv 3))) (pss_one (ps_raise_LAt rfl T hr (takes_of rfl rfl rfl rfl) (pa_cons (pv 3) pa_nil))) pss_nil)
      (pss_one (ps_ret (pe_callTy call_tuple_of (by rfl) B.tuple (by decide +kernel) (pa_cons
        (pe_lc (own := [("step", 4)]) (g := gName 4) (tt := tYes) rfl scSO.nd (pi_seqA (pv 2)) (blkOk_by (N := ["web", "deeds", "value", "at", "step"]) (sc := defScope sStepsOf) (by decide +kernel)) (fun _ _ _ _ _ => pg_name (i := 4) scSO.nd rfl (Or.inl rfl)) (fun _ _ _ _ _ => pts_nil)
          (fun _ _ _ _ _ => pe_callTy (ctup (K := K) rfl) (by rfl) B.tuple PyProof.Rows.boot_tuple (pa_cons (pv 4) pa_nil))) pa_nil))))), ?_⟩
    refine ⟨_, rfl, _, rfl, _, rfl, w, v, o, n, d, ts, rfl, hw, hv, fun H1 s1 => ?_⟩
    dsimp only [List.set]
    rcases sf_int (n := n) (t := ts.length) (d := d) (o := o) with e | ⟨z, e⟩
    · rw [e]
      refine ⟨_, rfl, _, rfl, iteF (nxP ?_)⟩
      obtain ⟨ss, rfl, h1, h2⟩ := sf_ok e
      have qq := q ss rfl h1 h2
      have hv1 := hv.same s1
      cases hv1 with
      | yes kv hl R =>
        rename_i xs
        rw [List.length_map] at hl
        have gett : ∀ (i : Nat) x, xs[i]? = some x → ∃ b s, x = .ref b ∧ ss[i]? = some s ∧ SeqA H1 b (stV s) := fun i x hx => by
          obtain ⟨s, hs⟩ := ex_at (l := ss) (i := i) (by rw [← hl]; exact lt_at hx)
          have S := R i x (some (stV s)) hx (by rw [List.getElem?_map, hs]; rfl)
          obtain ⟨b, rfl, h2⟩ := S.rw.kv.seqA
          exact ⟨b, s, rfl, hs, h2⟩
        obtain ⟨a, rfl, hS⟩ := kv.seqA
        let Lv : Addr → Nat → Hp → Prop := fun D i H2 => ∃ as : List Addr, as.length = i ∧ Same H1 H2 ∧ H2 D = some (.lst (as.map V.ref)) ∧ ∀ (j : Nat) b s, as[j]? = some b → ss[j]? = some s → H2 b = some (.tup (stV s))
        have fin : ∀ (D : Addr), H1 D = none → ∀ (i : Nat) (as : List Addr) (H2 H3 : Hp) (l : Addr) (s : Stp), i < xs.length → as.length = i → Same H1 H2 → H2 D = some (.lst (as.map V.ref)) → (∀ (j : Nat) b s, as[j]? = some b → ss[j]? = some s → H2 b = some (.tup (stV s))) → ss[i]? = some s → Same H2 H3 → H3 l = some (.tup (stV s)) →
            (∃ acc, H3 D = some (.lst acc) ∧ acc.length < sizeLine ∧ Lv D (i + 1) (upd H3 D (.lst (acc ++ [.ref l])))) := fun D hD i as H2 H3 l s hi ha s2 hD2 hA hs s3 hl3 => by
          have hD3 := s3 _ _ hD2
          have nl : l ≠ D := fun z => by rw [z, hD3] at hl3; cases hl3
          refine ⟨_, hD3, szl (by rw [List.length_map]; omega), as ++ [l], by rw [List.length_append, ha]; rfl, fun c o e => by rw [upd_ne (ne_of_none e hD)]; exact s3 _ _ (s2 _ _ e), by rw [upd_same, List.map_append]; rfl, fun j b t hb ht => ?_⟩
          by_cases hj : j < as.length
          · rw [List.getElem?_append_left hj] at hb
            have hb2 := hA j b t hb ht
            rw [upd_ne (fun z => by rw [z, hD2] at hb2; cases hb2)]
            exact s3 _ _ hb2
          · have hjl := lt_at hb
            rw [List.length_append] at hjl
            have : j = as.length := by simp only [List.length_cons, List.length_nil] at hjl; omega
            subst this
            rw [List.getElem?_append_right (Nat.le_refl _), Nat.sub_self] at hb
            obtain rfl : l = b := Option.some.inj hb
            rw [ha, hs] at ht
            obtain rfl := Option.some.inj ht
            rw [upd_ne nl]; exact hl3
        have dn : ∀ (D : Addr) (H2 : Hp), Lv D xs.length H2 → ∀ (Qx : VK), (∀ p H', Same H1 H' → StpsT H' p ss → Qx (.ref p) H') → ∃ as : List Addr, H2 D = some (.lst (as.map V.ref)) ∧ ∀ p, H2 p = none → Qx (.ref p) (upd H2 p (.tup (as.map V.ref))) := fun D H2 ⟨as, ha, s2, hD2, hA⟩ Qx hq =>
          ⟨as, hD2, fun p hp => hq p _ (s2.trans (same_new hp)) ⟨as, upd_same, ⟨by rw [ha, hl], fun i a s e1 e2 => same_new hp _ _ (hA i a s e1 e2)⟩⟩⟩
        refine ⟨_, rfl, a, rfl, ?_⟩
        rcases hS with hS | hS
        · refine .inl ⟨xs, SqL.of hS, fun D hD => lc_list (K := K) (a := a) (xs := xs) (Lv D) ⟨[], rfl, same_new hD, upd_same, fun j b t z => nomatch z⟩ (fun i H2 _ ⟨as, _, s5, _⟩ => SqL.of (s5 _ _ hS)) ?_ ?_⟩
          · rintro i x H2 hx ⟨as, ha, s2, hD2, hA⟩
            obtain ⟨b, s, e, hs, hb⟩ := gett i x hx
            subst e
            refine ⟨rfl, _, rfl, b, stV s, rfl, ?_⟩
            rcases hb with hb | hb
            · exact .inl ⟨SqL.of (s2 _ _ hb), fun l hl' => fin D hD i as H2 _ l s (lt_at hx) ha s2 hD2 hA hs (same_new hl') upd_same⟩
            · exact .inr ⟨SqT.of (s2 _ _ hb), fin D hD i as H2 _ b s (lt_at hx) ha s2 hD2 hA hs (fun _ _ e => e) (s2 _ _ hb)⟩
          · rintro H2 h2
            obtain ⟨as, hD2, k⟩ := dn D H2 h2 Q fun p H' s3 => qq p H' (s1.trans s3)
            exact ⟨D, _, rfl, .inl ⟨SqL.of hD2, k⟩⟩
        · refine .inr ⟨xs, SqT.of hS, fun D hD => lc_tup (K := K) (a := a) (xs := xs) (Lv D) ⟨[], rfl, same_new hD, upd_same, fun j b t z => nomatch z⟩ (fun i H2 _ ⟨as, _, s5, _⟩ => SqT.of (s5 _ _ hS)) ?_ ?_⟩
          · rintro i x H2 hx ⟨as, ha, s2, hD2, hA⟩
            obtain ⟨b, s, e, hs, hb⟩ := gett i x hx
            subst e
            refine ⟨rfl, _, rfl, b, stV s, rfl, ?_⟩
            rcases hb with hb | hb
            · exact .inl ⟨SqL.of (s2 _ _ hb), fun l hl' => fin D hD i as H2 _ l s (lt_at hx) ha s2 hD2 hA hs (same_new hl') upd_same⟩
            · exact .inr ⟨SqT.of (s2 _ _ hb), fin D hD i as H2 _ b s (lt_at hx) ha s2 hD2 hA hs (fun _ _ e => e) (s2 _ _ hb)⟩
          · rintro H2 h2
            obtain ⟨as, hD2, k⟩ := dn D H2 h2 Q fun p H' s3 => qq p H' (s1.trans s3)
            exact ⟨D, _, rfl, .inl ⟨SqL.of hD2, k⟩⟩
    · rw [e]
      exact ⟨_, rfl, _, rfl, iteT ⟨_, rfl, _, rfl, fun d' hd => qE z e d' _ (s1.trans (same_new hd)) (s1.free hd) upd_same⟩⟩
theorem scCkS : FnScope ["machine", "web", "value"] ["machine", "web", "value"] (defScope sCheckSteps) := ⟨rfl, rfl, rfl, by decide +kernel, rfl, by decide +kernel, by decide +kernel⟩
theorem ok_ckSteps {f fF M W C : Addr} {fd fdF : FuncData} (D : Df K mg "check_steps" sCheckSteps ["machine", "web", "value"] f fd) (DF : Df K mg "steps_of" sStepsOf ["web", "deeds", "value"] fF fdF) (T : McT K mg M)
    (GF : FnOk P w K mg base (L2.CX P w) 5 fF fdF ["web", "deeds", "value"] (spStepsOf K W C)) : FnOk P w K mg base (L2.CX P w) 6 f fd ["machine", "web", "value"] (spCkSteps K M W C) := by
  refine D.F.okX scCkS (fun vs H Q E h => ?_) (fun cdv A outer s H vs Q E hr h => ?_)
  · obtain ⟨m, ta, w, tb, v, o, n, ts, rfl, _⟩ := h
    rfl
  · obtain ⟨m, ta, w, tb, v, o, n, ts, rfl, hM, hw, hv, qE, q⟩ := h
    refine ⟨_, pss_one (ps_ret (pc DF GF hr (pass1 (takes_of rfl rfl rfl rfl)) (pa_cons (pv 1) (pa_cons (pe_fld (pv 0) rfl) (pa_cons (pv 2) pa_nil))))), ?_⟩
    obtain ⟨dx, h1⟩ := hM.fs
    exact ⟨_, rfl, _, rfl, m, M, dx, _, _, rfl, h1, T.cl, T.nD, mf_d _ _ _, _, rfl, w, v, o, n, tb.length, ts, rfl, hw, hv, qE, q⟩
end
end K1
/-! ### tuple * int, also 0 and 1 -/
namespace TM
open PySem PySem.Spec PyProof.Rows L2
theorem mul1 (l : Addr) (items : Array Value) (n : Nat) (dd : Option Addr) (sl : Array (Option Value)) (u : Tok) :
    Meets (Builtin.«tuple.__mul__» ⟨[.ref l, .int 1 u], []⟩) (fun _ R s => s.heap.get? l = some { cls := .type "tuple", dict := dd, data := .seq items n, slots := sl } ∧ R (.ok (.ret (Value.ref l))) s) :=
  .of_wp fun prog w A R s h => by
    obtain ⟨hp, g, d, tk, os⟩ := s
    obtain ⟨hl, h⟩ := h
    have f1 := AutoSeq1.idx_int
    have c0 : (decide ((1 : Int) < -(2 ^ 63)) || decide ((1 : Int) ≥ 2 ^ 63)) = false := by decide
    have c1 : (items.isEmpty || (1 : Int) == 1) = true := by rw [show ((1 : Int) == 1) = true by decide, Bool.or_true]
    wp_walk using wpAny_loadPart' hl
    repeat (first
      | (refine wpAny_ite_false (decide_eq_false (by rw [c0]; exact Bool.false_ne_true)) ?_; wp_walk using wpAny_loadPart' hl)
      | (refine wpAny_ite_true (decide_eq_true (by rw [c1])) ?_; wp_walk using wpAny_loadPart' hl))
    exact ⟨_, rfl, h⟩
theorem mul0 (l : Addr) (items : Array Value) (n : Nat) (dd : Option Addr) (sl : Array (Option Value)) (u : Tok) (c1 : (items.isEmpty || (0 : Int) == 1) = false) :
    Meets (Builtin.«tuple.__mul__» ⟨[.ref l, .int 0 u], []⟩) (fun _ R s => s.heap.get? l = some { cls := .type "tuple", dict := dd, data := .seq items n, slots := sl } ∧
      R (.ok (.ret (Value.ref s.heap.objs.size))) { s with heap := s.heap.push { cls := Value.type "tuple", data := Data.seq #[] }, toks := s.toks }) :=
  .of_wp fun prog w A R s h => by
    obtain ⟨hp, g, d, tk, os⟩ := s
    obtain ⟨hl, h⟩ := h
    have f1 := AutoSeq1.idx_int
    have c0 : (decide ((0 : Int) < -(2 ^ 63)) || decide ((0 : Int) ≥ 2 ^ 63)) = false := by decide
    have c2 : (decide ((0 : Int) ≤ 0) || items.isEmpty) = true := by rw [decide_eq_true (by decide)]; rfl
    wp_walk using wpAny_loadPart' hl
    repeat (first
      | (refine wpAny_ite_false (decide_eq_false (by rw [c0]; exact Bool.false_ne_true)) ?_; wp_walk using wpAny_loadPart' hl)
      | (refine wpAny_ite_false (decide_eq_false (by rw [c1]; exact Bool.false_ne_true)) ?_; wp_walk using wpAny_loadPart' hl)
      | (refine wpAny_ite_true (decide_eq_true (by rw [c2])) ?_; wp_walk using wpAny_loadPart' hl))
    exact ⟨_, rfl, h⟩
def rRepG (K : PySem.W.Frag) : R2 := fun x y H Q => ∃ l k xs, x = .ref l ∧ y = .int k ∧ H l = some (.tup xs) ∧ xs ≠ [] ∧ 0 ≤ k ∧ k ≤ 1000 ∧ xs.length ≤ 1000 ∧ ∀ p H', Same H H' → H' p = some (.tup (List.replicate k.toNat xs).flatten) → Q (.ref p) H'
theorem op_repG {X : Cx} {K : PySem.W.Frag} (hK : X.K = K) : OpR X (binaryOp .Mult) (rRepG K) := by
  subst hK
  intro pins s σ H x y v u Q I rx ry h
  obtain ⟨l, k, xs, rfl, rfl, hT, hne, h1, h2, hz, q⟩ := h
  by_cases k2 : 2 ≤ k
  · exact op_repT pins s σ H _ _ v u Q I rx ry ⟨l, k, xs, rfl, rfl, SqT.of hT, hne, k2, h2, hz, fun p hp => q p _ (K1.same_new hp) upd_same⟩
  cases rx
  obtain ⟨t, rfl⟩ := ry
  obtain ⟨its, r, ⟨⟨cls, dd, data, sl⟩, ho, hc, n, hd⟩, hs⟩ := I.tuple (SqT.of hT)
  simp only at hc hd
  subst hc hd
  have hle : its.length = xs.length := r.length.symm
  have hn : its ≠ [] := fun e => hne (by
    rw [e] at hle
    exact List.eq_nil_of_length_eq_zero hle.symm)
  have hi : its.toArray.isEmpty = false := by
    cases its with
    | nil => exact absurd rfl hn
    | cons a b => rfl
  have k01 : k = 0 ∨ k = 1 := by omega
  rcases k01 with rfl | rfl
  · have c1 : (its.toArray.isEmpty || (0 : Int) == 1) = false := by rw [hi]; rfl
    refine wpAny_binaryOp_repeat_ref (T := "tuple") (U := "int") (by decide) ⟨_, ho, rfl⟩ (fun s' => typeIs_int s' 0 t) noFill_tuple_mul F.fills_int_mul F.slot_int_rmul repeat_tuple F.slot_int_index.lookup
      (call_meets F.slot_int_rmul (typeIs_int s 0 t) F.entry_int_rmul (F.args_int_rmul_2 _ _) (int_rmul_tuple 0 t l its.toArray n dd sl)
        ⟨ho, rfl, ⟨_, ho, rfl⟩, call_meets F.slot_tuple_mul ⟨_, ho, rfl⟩ F.entry_tuple_mul (F.args_tuple_mul_2 _ _) (mul0 l its.toArray n dd sl t c1) ⟨ho, ?_⟩⟩)
    have hf := I.hok.fresh (Nat.le_refl s.heap.objs.size)
    refine ⟨.ref s.heap.objs.size, _, I.laid (t' := s.toks) (o := .tup []) (fun b ob q => Heap.get?_push_of_some _ q) (Nat.le_refl _) ?_, rfl, q _ _ (K1.same_new hf) upd_same⟩
    exact ⟨by show 0 ≤ sizeLine; decide, [], .nil, IsTup.new _ _⟩
  · refine wpAny_binaryOp_repeat_ref (T := "tuple") (U := "int") (by decide) ⟨_, ho, rfl⟩ (fun s' => typeIs_int s' 1 t) noFill_tuple_mul F.fills_int_mul F.slot_int_rmul repeat_tuple F.slot_int_index.lookup
      (call_meets F.slot_int_rmul (typeIs_int s 1 t) F.entry_int_rmul (F.args_int_rmul_2 _ _) (int_rmul_tuple 1 t l its.toArray n dd sl)
        ⟨ho, rfl, ⟨_, ho, rfl⟩, call_meets F.slot_tuple_mul ⟨_, ho, rfl⟩ F.entry_tuple_mul (F.args_tuple_mul_2 _ _) (mul1 l its.toArray n dd sl t) ⟨ho, ?_⟩⟩)
    refine ⟨.ref l, H, I, rfl, q l H (fun _ _ e => e) ?_⟩
    rw [hT]
    simp
end TM
namespace K1
open PySem PySem.Spec PyProof.Rows L2
/-! ### nets -/
theorem tt_in {T : TA} {σ : L2.St} {H : Hp} {Q : VK} (h : tTup T σ H fun x H1 => 1 ≤ sizeLine ∧ ∀ q, H1 q = none → Q (.ref q) (upd H1 q (.tup [x]))) : tTup (tCons (tTup T) tNil) σ H Q := h
theorem tt_c {v : V} {t : TA} {σ : L2.St} {H : Hp} {Q : VK} (h : t σ H fun vs H1 => (v :: vs).length ≤ sizeLine ∧ ∀ p, H1 p = none → Q (.ref p) (upd H1 p (.tup (v :: vs)))) : tTup (tCons (tC v) t) σ H Q := h
/-- all stands but c -/
def But (c : Addr) (H H' : Hp) : Prop := ∀ b u, H b = some u → b ≠ c → H' b = some u
theorem But.refl {c : Addr} {H : Hp} : But c H H := fun _ _ e _ => e
theorem But.trans {c : Addr} {H H1 H2 : Hp} (a : But c H H1) (b : But c H1 H2) : But c H H2 := fun d u e n => b d u (a d u e n) n
theorem But.same {c : Addr} {H H1 H2 : Hp} (a : But c H H1) (s : Same H1 H2) : But c H H2 := fun d u e n => s _ _ (a d u e n)
theorem Same.but {c : Addr} {H H1 : Hp} (s : Same H H1) : But c H H1 := fun d u e _ => s _ _ e
theorem But.upd {c : Addr} {H : Hp} {o : HO} : But c H (upd H c o) := fun d u e n => by rw [upd_ne n]; exact e
theorem But.put {c : Addr} {H H' : Hp} {o : HO} (s : Same H H') : But c H (L2.upd H' c o) := fun d u e n => by rw [upd_ne n]; exact s _ _ e
def nf (fi : Int) (m w sa aa pa : Addr) : List (Str × V) := [("first", .int fi), ("machine", .ref m), ("web", .ref w), ("states", .ref sa), ("archives", .ref aa), ("steps", .ref pa)]
def f3 (fi : Int) (m w : Addr) : List (Str × V) := [("first", .int fi), ("machine", .ref m), ("web", .ref w)]
def f5 (fi : Int) (m w sa aa : Addr) : List (Str × V) := [("first", .int fi), ("machine", .ref m), ("web", .ref w), ("states", .ref sa), ("archives", .ref aa)]
section
variable (fi : Int) (m w sa aa pa x : Addr)
theorem f3_eq : putF ("web" : Str) (.ref w) (putF ("machine" : Str) (.ref m) (putF ("first" : Str) (.int fi) [])) = f3 fi m w := by rfl
theorem f5_eq : putF ("archives" : Str) (.ref aa) (putF ("states" : Str) (.ref sa) (f3 fi m w)) = f5 fi m w sa aa := by rfl
theorem f6_eq : putF ("steps" : Str) (.ref pa) (f5 fi m w sa aa) = nf fi m w sa aa pa := by rfl
theorem nf_f : (nf fi m w sa aa pa).lookup ("first" : Str) = some (.int fi) := by rfl
theorem nf_m : (nf fi m w sa aa pa).lookup ("machine" : Str) = some (.ref m) := by rfl
theorem nf_w : (nf fi m w sa aa pa).lookup ("web" : Str) = some (.ref w) := by rfl
theorem nf_s : (nf fi m w sa aa pa).lookup ("states" : Str) = some (.ref sa) := by rfl
theorem nf_a : (nf fi m w sa aa pa).lookup ("archives" : Str) = some (.ref aa) := by rfl
theorem nf_p : (nf fi m w sa aa pa).lookup ("steps" : Str) = some (.ref pa) := by rfl
theorem nf_ps : putF ("states" : Str) (.ref x) (nf fi m w sa aa pa) = nf fi m w x aa pa := by rfl
theorem nf_pa : putF ("archives" : Str) (.ref x) (nf fi m w sa aa pa) = nf fi m w sa x pa := by rfl
theorem nf_pp : putF ("steps" : Str) (.ref x) (nf fi m w sa aa pa) = nf fi m w sa aa x := by rfl
end
structure Ev where
  m : Addr
  ta : Addr
  w : Addr
  tb : Ts
  n : Nat
  ts : Prs
  fi : Int
structure Sn where
  ss : List Int
  ar : List Int
  ds : List Stp
/-- the machine and the web of a net -/
structure EvAt (M W : Addr) (H : Hp) (e : Ev) : Prop where
  mc : MachAt M H e.m e.ta (vts e.tb)
  wb : WebAt W H e.w e.n e.ts
  wf : Wf e.tb
  wv : Wv e.n e.ts
theorem EvAt.same {M W : Addr} {H H' : Hp} {e : Ev} (h : EvAt M W H e) (s : Same H H') : EvAt M W H' e := ⟨h.mc.same s, h.wb.same s, h.wf, h.wv⟩
/-- a machine's things are no net -/
theorem MachAt.but {N M : Addr} {H H' : Hp} {c m ta : Addr} {ts : List (List V)} {dx : Addr} {fs : List (Str × V)} (h : MachAt M H m ta ts) (hc : H c = some (.ins N dx fs)) (nm : m ≠ c) (b : But c H H') : MachAt M H' m ta ts := by
  obtain ⟨⟨dx', t0, h0, h1⟩, as, h2, h3, h4⟩ := h
  have nt : ∀ {a : Addr} {xs : List V}, H a = some (.tup xs) → a ≠ c := fun e z => by rw [z, hc] at e; cases e
  exact ⟨⟨dx', t0, h0, b _ _ h1 nm⟩, as, b _ _ h2 (nt h2), h3, fun i a t e1 e2 => b _ _ (h4 i a t e1 e2) (nt (h4 i a t e1 e2))⟩
theorem WebAt.but {N W : Addr} {H H' : Hp} {c w : Addr} {n : Nat} {ts : Prs} {dx : Addr} {fs : List (Str × V)} (h : WebAt W H w n ts) (hc : H c = some (.ins N dx fs)) (nw : w ≠ c) (b : But c H H') : WebAt W H' w n ts := by
  obtain ⟨dx', ta, h1, as, h2, h3⟩ := h
  have nt : ∀ {a : Addr} {xs : List V}, H a = some (.tup xs) → a ≠ c := fun e z => by rw [z, hc] at e; cases e
  exact ⟨dx', ta, b _ _ h1 nw, as, b _ _ h2 (nt h2), h3.1, fun i a t e1 e2 => b _ _ (h3.2 i a t e1 e2) (nt (h3.2 i a t e1 e2))⟩
theorem EvAt.but {N M W : Addr} {H H' : Hp} {c : Addr} {e : Ev} {dx : Addr} {fs : List (Str × V)} (h : EvAt M W H e) (hc : H c = some (.ins N dx fs)) (nm : e.m ≠ c) (nw : e.w ≠ c) (b : But c H H') : EvAt M W H' e := ⟨h.mc.but hc nm b, h.wb.but hc nw b, h.wf, h.wv⟩
theorem StpsT.but {N : Addr} {H H' : Hp} {c p : Addr} {ss : List Stp} {dx : Addr} {fs : List (Str × V)} (h : StpsT H p ss) (hc : H c = some (.ins N dx fs)) (b : But c H H') : StpsT H' p ss := by
  obtain ⟨as, h1, h2, h3⟩ := h
  have nt : ∀ {a : Addr} {xs : List V}, H a = some (.tup xs) → a ≠ c := fun e z => by rw [z, hc] at e; cases e
  exact ⟨as, b _ _ h1 (nt h1), h2, fun i a t e1 e2 => b _ _ (h3 i a t e1 e2) (nt (h3 i a t e1 e2))⟩
def rngL (k : Nat) (xs : List Int) : Prop := ∀ x ∈ xs, 0 ≤ x ∧ x < (k : Int)
theorem rngL.get {k : Nat} {xs : List Int} (h : rngL k xs) {i : Nat} (hi : i < xs.length) : 0 ≤ xs.getD i 0 ∧ xs.getD i 0 < (k : Int) := by
  rw [List.getD_eq_getElem?_getD, List.getElem?_eq_getElem hi]
  exact h _ (List.getElem_mem hi)
theorem rngL.set {k : Nat} {xs : List Int} (h : rngL k xs) {i : Nat} {x : Int} (hx : 0 ≤ x ∧ x < (k : Int)) : rngL k (xs.set i x) := fun y hy => by
  rcases List.mem_or_eq_of_mem_set hy with z | z
  · exact h y z
  · rw [z]; exact hx
structure NetAt (N M W : Addr) (H : Hp) (c : Addr) (e : Ev) (s : Sn) : Prop where
  ob : ∃ dx sa aa pa, H c = some (.ins N dx (nf e.fi e.m e.w sa aa pa)) ∧ H sa = some (.tup (vrow s.ss)) ∧ H aa = some (.tup (vrow s.ar)) ∧ StpsT H pa s.ds
  ev : EvAt M W H e
  nm : e.m ≠ c
  nw : e.w ≠ c
  ls : s.ss.length = e.n
  la : s.ar.length = e.ts.length
  bs : rngL (nS e.tb) s.ss
  ba : rngL (nS e.tb) s.ar
  ld : s.ds.length ≤ 1000
theorem NetAt.same {N M W : Addr} {H H' : Hp} {c : Addr} {e : Ev} {s : Sn} (h : NetAt N M W H c e s) (q : Same H H') : NetAt N M W H' c e s :=
  ⟨let ⟨dx, sa, aa, pa, h1, h2, h3, h4⟩ := h.ob; ⟨dx, sa, aa, pa, q _ _ h1, q _ _ h2, q _ _ h3, h4.same q⟩, h.ev.same q, h.nm, h.nw, h.ls, h.la, h.bs, h.ba, h.ld⟩
structure NtT (K : PySem.W.Frag) (mg : Str → Option Value) (N : Addr) : Prop where
  cl : Cls K N
  nF : NoAttr K N "first"
  nM : NoAttr K N "machine"
  nW : NoAttr K N "web"
  nS : NoAttr K N "states"
  nA : NoAttr K N "archives"
  nP : NoAttr K N "steps"
  g : mg "Net" = some (.ref N)
/-- the net's object anew, with what it holds told -/
theorem NetAt.put {N M W : Addr} {H H' : Hp} {c dx sa aa pa : Addr} {e : Ev} {s s' : Sn} (h : NetAt N M W H c e s) (q : Same H H') (h1 : H' sa = some (.tup (vrow s'.ss))) (h2 : H' aa = some (.tup (vrow s'.ar))) (h3 : StpsT H' pa s'.ds)
    (l1 : s'.ss.length = e.n) (l2 : s'.ar.length = e.ts.length) (b1 : rngL (nS e.tb) s'.ss) (b2 : rngL (nS e.tb) s'.ar) (l3 : s'.ds.length ≤ 1000) : NetAt N M W (L2.upd H' c (.ins N dx (nf e.fi e.m e.w sa aa pa))) c e s' := by
  obtain ⟨dx0, sa0, aa0, pa0, g1, g2, g3, g4⟩ := h.ob
  have g1' := q _ _ g1
  have nt : ∀ {a : Addr} {xs : List V}, H' a = some (.tup xs) → a ≠ c := fun e z => by rw [z, g1'] at e; cases e
  exact ⟨⟨dx, sa, aa, pa, upd_same, by rw [upd_ne (nt h1)]; exact h1, by rw [upd_ne (nt h2)]; exact h2, h3.but g1' But.upd⟩, (h.ev.same q).but g1' h.nm h.nw But.upd, h.nm, h.nw, l1, l2, b1, b2, l3⟩
def Sn.doo (e : Ev) (s : Sn) (h d : Nat) : Sn := ⟨s.ss.set h (stp e.tb (s.ss.getD h 0) (d : Int)), s.ar, s.ds ++ [.dd h d]⟩
def Sn.met (s : Sn) (p : Nat × Nat) (t : Nat) (x : Int) : Sn := ⟨(s.ss.set p.1 x).set p.2 x, s.ar.set t x, s.ds ++ [.mt t]⟩
def sn0 (e : Ev) : Sn := ⟨List.replicate e.n e.fi, List.replicate e.ts.length e.fi, []⟩
def spStand (K : PySem.W.Frag) (N M W CS : Addr) : Sp := fun vs H Q E => ∃ (c dx : Addr) (e : Ev) (v : V) (o : Option (List V)), vs = [.ref c, .ref e.m, .ref e.w, v] ∧ H c = some (.ins N dx []) ∧ EvAt M W H e ∧ e.m ≠ c ∧ e.w ≠ c ∧ KV K H v o ∧
  (belowB v (nS e.tb : Int) = false → Rz CS "state" v H E) ∧ (∀ i, v = .int i → e.fi = i) ∧ (v = .int e.fi → (0 ≤ e.fi ∧ e.fi < (nS e.tb : Int)) → ∀ H', But c H H' → NetAt N M W H' c e (sn0 e) → Q .non H')
def spDoneAt (K : PySem.W.Frag) (N M W CH CD : Addr) : Sp := fun vs H Q E => ∃ (c : Addr) (e : Ev) (s : Sn) (v a : V) (o1 o2 : Option (List V)), vs = [.ref c, v, a] ∧ NetAt N M W H c e s ∧ KV K H v o1 ∧ KV K H a o2 ∧ s.ds.length < 1000 ∧
  (belowB v (e.n : Int) = false → Rz CH "house" v H E) ∧ (belowB v (e.n : Int) = true → belowB a (e.tb.length : Int) = false → Rz CD "deed" a H E) ∧
  (∀ h d : Nat, v = .int (h : Int) → a = .int (d : Int) → h < e.n → d < e.tb.length → ∀ H', But c H H' → NetAt N M W H' c e (s.doo e h d) → Q (.int (stp e.tb (s.ss.getD h 0) (d : Int))) H')
def JoinP (CU : Addr) (e : Ev) (s : Sn) (t : Nat) (p : Nat × Nat) (H : Hp) (E : XK) (Q : Int → Hp → Prop) : Prop := ∀ F H', Same H H' → Fst (actL e.tb) e.tb.length [s.ar.getD t 0, s.ss.getD p.1 0] F →
  (∀ x, endsOf F (s.ss.getD p.2 0) = [x] → Q x H') ∧ ((endsOf F (s.ss.getD p.2 0)).length ≠ 1 → RzU CU (s.ar.getD t 0) (s.ss.getD p.1 0) (s.ss.getD p.2 0) H' E)
def spJoinO (K : PySem.W.Frag) (N M W CT CU : Addr) : Sp := fun vs H Q E => ∃ (c : Addr) (e : Ev) (s : Sn) (v : V) (o : Option (List V)), vs = [.ref c, v] ∧ NetAt N M W H c e s ∧ KV K H v o ∧ (belowB v (e.ts.length : Int) = false → Rz CT "tie" v H E) ∧
  (∀ (t : Nat) p, v = .int (t : Int) → e.ts[t]? = some p → JoinP CU e s t p H E fun x H' => Q (.int x) H')
def spPutJ (N M W : Addr) : Sp := fun vs H Q _ => ∃ (c : Addr) (e : Ev) (s : Sn) (t : Nat) (p : Nat × Nat) (x : Int), vs = [.ref c, .int (t : Int), .int x] ∧ NetAt N M W H c e s ∧ e.ts[t]? = some p ∧ (0 ≤ x ∧ x < (nS e.tb : Int)) ∧ s.ds.length < 1000 ∧
  ∀ H', But c H H' → NetAt N M W H' c e (s.met p t x) → Q .non H'
def spMeet (K : PySem.W.Frag) (N M W CT CU : Addr) : Sp := fun vs H Q E => ∃ (c : Addr) (e : Ev) (s : Sn) (v : V) (o : Option (List V)), vs = [.ref c, v] ∧ NetAt N M W H c e s ∧ KV K H v o ∧ s.ds.length < 1000 ∧ (belowB v (e.ts.length : Int) = false → Rz CT "tie" v H E) ∧
  (∀ (t : Nat) p, v = .int (t : Int) → e.ts[t]? = some p → JoinP CU e s t p H E fun x H1 => ∀ H', But c H1 H' → NetAt N M W H' c e (s.met p t x) → Q (.int x) H')
theorem ends_rng {tb : Ts} (hw : Wf tb) {a h t x : Int} {F : List KR} (ha : 0 ≤ a ∧ a < (nS tb : Int)) (hh : 0 ≤ h ∧ h < (nS tb : Int)) (f : Fst (actL tb) tb.length [a, h] F) (hx : x ∈ endsOf F t) : 0 ≤ x ∧ x < (nS tb : Int) := by
  obtain ⟨e, he, rfl⟩ := List.mem_map.mp hx
  have he' := (List.mem_filter.mp he).1
  obtain ⟨j, hj⟩ := List.getElem?_of_mem he'
  obtain ⟨h1, h2, _⟩ := f.pth j e.1 e.2 hj
  rw [h1, path_run]
  exact hw.run e.2 h h2 hh
end K1
namespace K1
open PySem PySem.Spec PyProof.Rows L2
section
variable {P : Program} {w : World} {K : PySem.W.Frag} {mg : Str → Option Value} {base : Heap}
theorem scSt : FnScope ["net", "machine", "web", "first"] ["net", "machine", "web", "first"] (defScope sStandFirst) := ⟨rfl, rfl, rfl, by decide +kernel, rfl, by decide +kernel, by decide +kernel⟩
theorem rep_v (k : Nat) (i : Int) : (List.replicate k [V.int i]).flatten = vrow (List.replicate k i) := by
  unfold vrow
  rw [List.map_replicate]
  induction k with
  | zero => rfl
  | succ k ih => rw [List.replicate_succ, List.replicate_succ, List.flatten_cons, ih]; rfl
theorem ok_stand {f fN CS M N W : Addr} {fd fdN : FuncData} (D : Df K mg "stand_first" sStandFirst ["net", "machine", "web", "first"] f fd) (DN : Df K mg "need_state" sNeedS ["machine", "state"] fN fdN) (B : Bt mg) (T : NtT K mg N) (TW : WcT K mg W)
    (GN : FnOk P w K mg base (L2.CX P w) 3 fN fdN ["machine", "state"] (spNeed M CS "state" nS)) : FnOk P w K mg base (L2.CX P w) 4 f fd ["net", "machine", "web", "first"] (spStand K N M W CS) := by
  refine D.F.okX scSt (fun vs H Q E h => ?_) (fun cdv A outer s H vs Q E hr h => ?_)
  · obtain ⟨c, dx, e, v, o, rfl, _⟩ := h
    rfl
  · obtain ⟨c, dx, e, v, o, rfl, hc, hE, nm, nw, kv, qb, qi, qg⟩ := h
    refine ⟨_, pss_cons (ps_fld (pv 0) (pc DN GN hr (pass1 (takes_of rfl rfl rfl rfl)) (pa_cons (pv 1) (pa_cons (pv 3) pa_nil))) rfl)
      (pss_cons (ps_fld (pv 0) (pv 1) rfl)
      (pss_cons (ps_fld (pv 0) (pv 2) rfl)
      (pss_cons (ps_fld (pv 0) (pe_op (TM.op_repG (K := K) rfl) (pe_tup (pa_cons (pv 3) pa_nil)) (pe_fld (pv 2) rfl)) rfl)
      (pss_cons (ps_fld (pv 0) (pe_op (TM.op_repG (K := K) rfl) (pe_tup (pa_cons (pv 3) pa_nil)) (pe_callB call_len_seq (by rfl) B.len PySem.boot_len (pa_cons (pe_fld (pv 2) rfl) pa_nil))) rfl)
      (pss_one (ps_fld (pv 0) (pe_tup pa_nil) rfl)))))), ?_⟩
    have n1 := hE.wv.n1
    have n12 := hE.wv.n12
    have t20 := hE.wv.t20
    refine ⟨_, rfl, _, rfl, e.m, e.ta, e.tb, v, rfl, hE.mc, ⟨K, o, kv⟩, fun hb => ?_, fun hb => qb hb⟩
    obtain ⟨i, rfl, h0, h1⟩ : ∃ i, v = .int i ∧ 0 ≤ i ∧ i < (nS e.tb : Int) := by
      cases v <;> first | (cases hb; done) | skip
      rename_i i
      have z : (decide (0 ≤ i) && decide (i < (nS e.tb : Int))) = true := hb
      simp only [Bool.and_eq_true, decide_eq_true_eq] at z
      exact ⟨i, rfl, z⟩
    obtain rfl := qi i rfl
    refine ⟨_, rfl, c, N, dx, [], rfl, hc, T.cl, T.nF, (by show 0 < 1000; decide), ?_⟩
    refine ⟨_, rfl, _, rfl, c, N, dx, _, rfl, upd_same, T.cl, T.nM, (by show 1 < 1000; decide), ?_⟩
    rw [upd_upd]
    refine ⟨_, rfl, _, rfl, c, N, dx, _, rfl, upd_same, T.cl, T.nW, (by show 2 < 1000; decide), ?_⟩
    rw [upd_upd]
    rw [f3_eq]
    have b3 : But c H (upd H c (.ins N dx (f3 e.fi e.m e.w))) := But.upd
    have hc3 : (upd H c (.ins N dx (f3 e.fi e.m e.w))) c = some (.ins N dx (f3 e.fi e.m e.w)) := upd_same
    generalize upd H c (.ins N dx (f3 e.fi e.m e.w)) = H3 at b3 hc3 ⊢
    have hE3 := hE.but hc nm nw b3
    obtain ⟨dxw, ta, w1, tas, w2, w3⟩ := id hE3.wb
    refine ⟨_, rfl, (by show 1 ≤ sizeLine; decide), fun p hp => ?_⟩
    have s4 := same_new (o := HO.tup [V.int e.fi]) hp
    refine ⟨_, rfl, e.w, W, dxw, _, _, rfl, s4 _ _ w1, TW.cl, TW.nH, wf_h _ _, p, (e.n : Int), [.int e.fi], rfl, rfl, upd_same, by simp, by omega, by omega, by simp, fun sa H5 s5 hsa => ?_⟩
    have s35 := s4.trans s5
    rw [Int.toNat_natCast, rep_v] at hsa
    refine ⟨_, rfl, c, N, dx, _, rfl, s35 _ _ hc3, T.cl, T.nS, (by show 3 < 1000; decide), ?_⟩
    have nsa : sa ≠ c := fun z => by rw [z, s35 _ _ hc3] at hsa; cases hsa
    generalize hH6 : upd H5 c (.ins N dx (putF "states" (.ref sa) (f3 e.fi e.m e.w))) = H6
    have hc6 : H6 c = some (.ins N dx (putF "states" (.ref sa) (f3 e.fi e.m e.w))) := by rw [← hH6]; exact upd_same
    have b6 : But c H3 H6 := by rw [← hH6]; exact But.put s35
    have hsa6 : H6 sa = some (.tup (vrow (List.replicate e.n e.fi))) := by rw [← hH6, upd_ne nsa]; exact hsa
    have hE6 := hE3.but hc3 nm nw b6
    obtain ⟨dxw6, ta6, w61, tas6, w62, w63⟩ := id hE6.wb
    have el : ((tas6.map V.ref).length : Int) = (e.ts.length : Int) := by rw [List.length_map, w63.1]
    refine ⟨_, rfl, (by show 1 ≤ sizeLine; decide), fun p2 hp2 => ?_⟩
    have s7 := same_new (o := HO.tup [V.int e.fi]) hp2
    refine ⟨_, rfl, e.w, W, dxw6, _, _, rfl, s7 _ _ w61, TW.cl, TW.nT, wf_t _ _, ta6, _, rfl, .inr (SqT.of (s7 _ _ w62)), ?_⟩
    rw [el]
    refine ⟨p2, (e.ts.length : Int), [.int e.fi], rfl, rfl, upd_same, by simp, by omega, by omega, by simp, fun aa H8 s8 haa => ?_⟩
    have s68 := s7.trans s8
    rw [Int.toNat_natCast, rep_v] at haa
    refine ⟨_, rfl, c, N, dx, _, rfl, s68 _ _ hc6, T.cl, T.nA, (by show 4 < 1000; decide), ?_⟩
    have naa : aa ≠ c := fun z => by rw [z, s68 _ _ hc6] at haa; cases haa
    rw [f5_eq]
    generalize hH9 : upd H8 c (.ins N dx (f5 e.fi e.m e.w sa aa)) = H9
    have hc9 : H9 c = some (.ins N dx (f5 e.fi e.m e.w sa aa)) := by rw [← hH9]; exact upd_same
    have b9 : But c H6 H9 := by rw [← hH9]; exact But.put s68
    have haa9 : H9 aa = some (.tup (vrow (List.replicate e.ts.length e.fi))) := by rw [← hH9, upd_ne naa]; exact haa
    have hsa9 : H9 sa = some (.tup (vrow (List.replicate e.n e.fi))) := b9 _ _ hsa6 nsa
    refine ⟨(by show 0 ≤ sizeLine; decide), fun pa hpa => ?_⟩
    have s10 := same_new (o := HO.tup []) hpa
    refine ⟨_, rfl, c, N, dx, _, rfl, s10 _ _ hc9, T.cl, T.nP, (by show 5 < 1000; decide), ?_⟩
    rw [f6_eq]
    have npa : pa ≠ c := fun z => by rw [z, hc9] at hpa; cases hpa
    have rr : ∀ k, rngL (nS e.tb) (List.replicate k e.fi) := fun k x hx => by rw [List.eq_of_mem_replicate hx]; exact ⟨h0, h1⟩
    refine qg rfl ⟨h0, h1⟩ _ ((b3.trans b6).trans (b9.trans (But.put s10))) ⟨⟨dx, sa, aa, pa, upd_same, by rw [upd_ne nsa]; exact s10 _ _ hsa9, by rw [upd_ne naa]; exact s10 _ _ haa9, [], by rw [upd_ne npa]; exact upd_same, rfl, fun i a t z => nomatch z⟩, ?_, nm, nw, List.length_replicate, List.length_replicate, rr _, rr _, Nat.zero_le _⟩
    exact ((hE6.but hc6 nm nw b9).same s10).but (s10 _ _ hc9) nm nw But.upd
theorem scDA : FnScope ["net", "house", "deed", "table"] ["net", "house", "deed"] (defScope sDoneAt) := ⟨rfl, rfl, rfl, by decide +kernel, rfl, by decide +kernel, by decide +kernel⟩
theorem ok_doneAt {f fH fD fR CH CD M N W : Addr} {fd fdH fdD fdR : FuncData} (D : Df K mg "done_at" sDoneAt ["net", "house", "deed"] f fd) (DH : Df K mg "need_house" sNeedH ["web", "house"] fH fdH) (DD : Df K mg "need_deed" sNeedD ["machine", "deed"] fD fdD) (DR : Df K mg "replaced" sRepl ["items", "at", "item"] fR fdR)
    (T : NtT K mg N) (TM' : McT K mg M) (TW : WcT K mg W) (c : Cs mg) (GH : FnOk P w K mg base (L2.CX P w) 3 fH fdH ["web", "house"] (spNeedH K W CH)) (GD : FnOk P w K mg base (L2.CX P w) 3 fD fdD ["machine", "deed"] (spNeed M CD "deed" List.length)) (GR : FnOk P w K mg base CX0 1 fR fdR ["items", "at", "item"] spRepl) :
    FnOk P w K mg base (L2.CX P w) 4 f fd ["net", "house", "deed"] (spDoneAt K N M W CH CD) := by
  obtain ⟨t1, hc1⟩ := c.doo
  refine D.F.okX scDA (fun vs H Q E h => ?_) (fun cdv A outer s H vs Q E hr h => ?_)
  · obtain ⟨c, e, s, v, a, o1, o2, rfl, _⟩ := h
    rfl
  · obtain ⟨c, e, s, v, a, o1, o2, rfl, hN, kv, ka, hld, q1, q2, q3⟩ := h
    have hr1 := hr.mono (show 1 ≤ 3 by decide)
    refine ⟨_, pss_cons (ps_expr (pc DH GH hr (pass1 (takes_of rfl rfl rfl rfl)) (pa_cons (pe_fld (pv 0) rfl) (pa_cons (pv 1) pa_nil))))
      (pss_cons (ps_set (i := 3) scDA.nd rfl (.inl rfl) (pe_ix ix_tup (pe_fld (pe_fld (pv 0) rfl) rfl) (pc DD GD hr (pass1 (takes_of rfl rfl rfl rfl)) (pa_cons (pe_fld (pv 0) rfl) (pa_cons (pv 2) pa_nil))) (fun _ _ => rfl)))
      (pss_cons (ps_fld (pv 0) (pc DR GR hr1 pass0 (pa_cons (pe_fld (pv 0) rfl) (pa_cons (pv 1) (pa_cons (pe_ix ix_tup (pv 3) (pe_ix ix_tup (pe_fld (pv 0) rfl) (pv 1) (fun _ _ => rfl)) (fun _ _ => rfl)) pa_nil)))) rfl)
      (pss_cons (ps_fld (pv 0) (pe_op op_catA (pe_fld (pv 0) rfl) (pe_tup (pa_cons (pe_tup (pa_cons (pe_glob (v := .str "do") (by rfl) hc1 ⟨_, rfl⟩) (pa_cons (pv 1) (pa_cons (pv 2) pa_nil)))) pa_nil))) rfl)
      (pss_one (ps_ret (pe_ix ix_tup (pe_fld (pv 0) rfl) (pv 1) (fun _ _ => rfl))))))), ?_⟩
    obtain ⟨dx, sa, aa, pa, h1, h2, h3, h4⟩ := hN.ob
    have n12 := hN.ev.wv.n12
    have ls := hN.ls
    have hwf := hN.ev.wf
    refine ⟨_, rfl, c, N, dx, _, _, rfl, h1, T.cl, T.nW, nf_w _ _ _ _ _ _, _, rfl, e.w, v, o1, e.n, e.ts, rfl, hN.ev.wb, kv, fun hb => ?_, fun hb => q1 hb⟩
    obtain ⟨h, rfl, hn⟩ := below_nat hb
    obtain ⟨dxm, hm⟩ := hN.ev.mc.fs
    obtain ⟨as, ha1, ha2, ha3⟩ := hN.ev.mc.2
    refine ⟨_, rfl, c, N, dx, _, _, rfl, h1, T.cl, T.nM, nf_m _ _ _ _ _ _, e.m, M, dxm, _, _, rfl, hm, TM'.cl, TM'.nT, mf_t _ _ _, ?_⟩
    refine ⟨_, rfl, c, N, dx, _, _, rfl, h1, T.cl, T.nM, nf_m _ _ _ _ _ _, _, rfl, e.m, e.ta, e.tb, a, rfl, hN.ev.mc, ⟨K, o2, ka⟩, fun hb2 => ?_, fun hb2 => q2 hb hb2⟩
    obtain ⟨d, rfl, hd⟩ := below_nat hb2
    have hs := hN.bs.get (i := h) (by omega)
    obtain ⟨t, ht1, ht2, ht3⟩ := hwf.at_ (s := s.ss.getD h 0) (d := (d : Int)) ⟨by omega, by omega⟩ hs
    rw [Int.toNat_natCast] at ht1
    have hla : d < as.length := by rw [ha2, vts, List.length_map]; omega
    obtain ⟨tA, hA⟩ := ex_at hla
    have hT := ha3 d _ (vrow t) hA (by rw [vts, List.getElem?_map, ht1]; rfl)
    refine ⟨e.ta, _, (d : Int), .ref tA, rfl, rfl, SqT.of ha1, at_i (map_at hA), ?_⟩
    dsimp only [List.set]
    refine ⟨_, rfl, c, N, dx, _, _, rfl, h1, T.cl, T.nS, nf_s _ _ _ _ _ _, _, rfl, _, rfl, _, rfl, c, N, dx, _, _, rfl, h1, T.cl, T.nS, nf_s _ _ _ _ _ _, _, rfl, sa, _, (h : Int), .int (s.ss.getD h 0), rfl, rfl, SqT.of h2, at_i (vrow_get (by omega)), ?_⟩
    generalize hx : stp e.tb (s.ss.getD h 0) (d : Int) = x at ht2 ht3 q3
    refine ⟨tA, _, s.ss.getD h 0, .int x, rfl, rfl, SqT.of hT, at_of (j := (s.ss.getD h 0).toNat) (by omega) (by rw [vrow, List.getElem?_map, ht2]; rfl), ?_⟩
    refine ⟨sa, _, h, .int x, rfl, h2, by rw [vrow_len]; omega, by rw [vrow_len]; omega, fun y1 H1 s1 hy1 => ?_⟩
    rw [← vrow_set] at hy1
    refine ⟨_, rfl, c, N, dx, _, rfl, s1 _ _ h1, T.cl, T.nS, (by show 6 < 1000; decide), ?_⟩
    rw [nf_ps]
    have N1 : NetAt N M W (upd H1 c (.ins N dx (nf e.fi e.m e.w y1 aa pa))) c e ⟨s.ss.set h x, s.ar, s.ds⟩ := hN.put s1 hy1 (s1 _ _ h3) (h4.same s1) (by show (s.ss.set h x).length = _; rw [List.length_set]; exact ls) hN.la (hN.bs.set ht3) hN.ba hN.ld
    have b1 : But c H (upd H1 c (.ins N dx (nf e.fi e.m e.w y1 aa pa))) := But.put s1
    have hc1' : (upd H1 c (.ins N dx (nf e.fi e.m e.w y1 aa pa))) c = some (.ins N dx (nf e.fi e.m e.w y1 aa pa)) := upd_same
    have nc : ∀ {a : Addr} {xs : List V}, H1 a = some (.tup xs) → a ≠ c := fun e z => by rw [z, s1 _ _ h1] at e; cases e
    have hy1' : (upd H1 c (.ins N dx (nf e.fi e.m e.w y1 aa pa))) y1 = some (.tup (vrow (s.ss.set h x))) := by rw [upd_ne (nc hy1)]; exact hy1
    have h3' : (upd H1 c (.ins N dx (nf e.fi e.m e.w y1 aa pa))) aa = some (.tup (vrow s.ar)) := by rw [upd_ne (nc (s1 _ _ h3))]; exact s1 _ _ h3
    have h4' : StpsT (upd H1 c (.ins N dx (nf e.fi e.m e.w y1 aa pa))) pa s.ds := (h4.same s1).but (s1 _ _ h1) But.upd
    generalize upd H1 c (.ins N dx (nf e.fi e.m e.w y1 aa pa)) = H2 at N1 b1 hc1' hy1' h3' h4' ⊢
    obtain ⟨ps, hp1, hp2⟩ := id h4'
    have lp : ps.length < 1000 := by rw [hp2.1]; exact hld
    refine ⟨_, rfl, c, N, dx, _, _, rfl, hc1', T.cl, T.nP, nf_p _ _ _ _ _ _, ?_⟩
    refine tt_in (tt_c ⟨_, rfl, _, rfl, (by show 3 ≤ sizeLine; decide), fun sp hsp => ⟨(by show 1 ≤ sizeLine; decide), fun sq hsq => ?_⟩⟩)
    have s2 := same_new (o := HO.tup [.str "do", .int (h : Int), .int (d : Int)]) hsp
    have s3 := same_new (o := HO.tup [.ref sp]) hsq
    have s23 := s2.trans s3
    refine catA_by (s23 _ _ hp1) upd_same (sz (by rw [List.length_map]; simp only [List.length_cons, List.length_nil]; omega)) fun pb H4 s4 hpb => ?_
    have s24 := s23.trans s4
    refine ⟨_, rfl, c, N, dx, _, rfl, s24 _ _ hc1', T.cl, T.nP, (by show 6 < 1000; decide), ?_⟩
    rw [nf_pp]
    have hds : StpsT H4 pb (s.ds ++ [.dd h d]) := ⟨ps ++ [sp], by rw [hpb, List.map_append]; rfl, by rw [List.length_append, List.length_append, hp2.1]; rfl, fun i a z ei ez => ?_⟩
    rotate_left
    · by_cases hi : i < ps.length
      · rw [List.getElem?_append_left hi] at ei
        rw [List.getElem?_append_left (by rw [← hp2.1]; exact hi)] at ez
        exact s24 _ _ (hp2.2 i a z ei ez)
      · have hil := lt_at ei
        rw [List.length_append] at hil
        have : i = ps.length := by simp only [List.length_cons, List.length_nil] at hil; omega
        subst this
        rw [List.getElem?_append_right (Nat.le_refl _), Nat.sub_self] at ei
        rw [hp2.1, List.getElem?_append_right (Nat.le_refl _), Nat.sub_self] at ez
        obtain rfl : sp = a := Option.some.inj ei
        obtain rfl : Stp.dd h d = z := Option.some.inj ez
        exact (s3.trans s4) _ _ upd_same
    have N4 : NetAt N M W (upd H4 c (.ins N dx (nf e.fi e.m e.w y1 aa pb))) c e ⟨s.ss.set h x, s.ar, s.ds ++ [.dd h d]⟩ := N1.put s24 (s24 _ _ hy1') (s24 _ _ h3') hds (by show (s.ss.set h x).length = _; rw [List.length_set]; exact ls) hN.la (hN.bs.set ht3) hN.ba (by show (s.ds ++ [Stp.dd h d]).length ≤ _; rw [List.length_append]; simp only [List.length_cons, List.length_nil]; omega)
    have nc4 : y1 ≠ c := fun z => by rw [z, hc1'] at hy1'; cases hy1'
    refine ⟨_, rfl, c, N, dx, _, _, rfl, upd_same, T.cl, T.nS, nf_s _ _ _ _ _ _, _, rfl, y1, _, (h : Int), .int x, rfl, rfl, SqT.of (by rw [upd_ne nc4]; exact s24 _ _ hy1'), at_i (by rw [vrow_get (by rw [List.length_set]; omega), List.getD_eq_getElem?_getD, List.getElem?_set_self (by omega)]; rfl), ?_⟩
    have z := q3 h d rfl rfl hn hd _ (b1.trans (But.put s24)) (by unfold Sn.doo; rw [hx]; exact N4)
    rw [hx] at z
    exact z
theorem scJO : FnScope ["net", "tie", "one", "other"] ["net", "tie"] (defScope sJoinedOver) := ⟨rfl, rfl, rfl, by decide +kernel, rfl, by decide +kernel, by decide +kernel⟩
theorem ok_joinO {f fT fJ CS CT CU M N W : Addr} {fd fdT fdJ : FuncData} (D : Df K mg "joined_over" sJoinedOver ["net", "tie"] f fd) (DT : Df K mg "need_tie" sNeedT ["web", "tie"] fT fdT) (DJ : Df K mg "join" sJoin ["machine", "archive", "here", "there"] fJ fdJ)
    (T : NtT K mg N) (TW : WcT K mg W) (GT : FnOk P w K mg base (L2.CX P w) 3 fT fdT ["web", "tie"] (spNeedT K W CT)) (GJ : FnOk P w K mg base (L2.CX P w) 5 fJ fdJ ["machine", "archive", "here", "there"] (spJoin M CS CU)) :
    FnOk P w K mg base (L2.CX P w) 6 f fd ["net", "tie"] (spJoinO K N M W CT CU) := by
  refine D.F.okX scJO (fun vs H Q E h => ?_) (fun cdv A outer s H vs Q E hr h => ?_)
  · obtain ⟨c, e, s, v, o, rfl, _⟩ := h
    rfl
  · obtain ⟨c, e, s, v, o, rfl, hN, kv, q1, q2⟩ := h
    refine ⟨_, pss_cons (ps_asg (pe_ix ix_tup (pe_fld (pe_fld (pv 0) rfl) rfl) (pc DT GT (hr.mono (by decide)) (pass1 (takes_of rfl rfl rfl rfl)) (pa_cons (pe_fld (pv 0) rfl) (pa_cons (pv 1) pa_nil))) (fun _ _ => rfl)) (pg_tup rfl (pgs_cons (pg_name (i := 2) scJO.nd rfl (.inl rfl)) (pgs_cons (pg_name (i := 3) scJO.nd rfl (.inl rfl)) pgs_nil))))
      (pss_one (ps_ret (pc DJ GJ hr (pass1 (takes_of rfl rfl rfl rfl)) (pa_cons (pe_fld (pv 0) rfl) (pa_cons (pe_ix ix_tup (pe_fld (pv 0) rfl) (pv 1) (fun _ _ => rfl)) (pa_cons (pe_ix ix_tup (pe_fld (pv 0) rfl) (pv 2) (fun _ _ => rfl)) (pa_cons (pe_ix ix_tup (pe_fld (pv 0) rfl) (pv 3) (fun _ _ => rfl)) pa_nil))))))), ?_⟩
    obtain ⟨dx, sa, aa, pa, h1, h2, h3, h4⟩ := hN.ob
    have hwf := hN.ev.wf
    have ls := hN.ls
    have la := hN.la
    obtain ⟨dxw, ta, w1, tas, w2, w3⟩ := id hN.ev.wb
    refine ⟨_, rfl, c, N, dx, _, _, rfl, h1, T.cl, T.nW, nf_w _ _ _ _ _ _, e.w, W, dxw, _, _, rfl, w1, TW.cl, TW.nT, wf_t _ _, _, rfl, c, N, dx, _, _, rfl, h1, T.cl, T.nW, nf_w _ _ _ _ _ _, _, rfl, e.w, v, o, e.n, e.ts, rfl, hN.ev.wb, kv, fun hb => ?_, fun hb => q1 hb⟩
    obtain ⟨t, rfl, tn⟩ := below_nat hb
    obtain ⟨p, hp⟩ := ex_at tn
    obtain ⟨p1, p2, p3⟩ := hN.ev.wv.at_ hp
    obtain ⟨pa', ha, hpa⟩ := w3.get hp
    have hpa' : H pa' = some (.tup [.int (p.1 : Int), .int (p.2 : Int)]) := hpa
    refine ⟨ta, _, (t : Int), .ref pa', rfl, rfl, SqT.of w2, at_i (map_at ha), pa', _, rfl, SqT.of hpa', rfl, _, _, rfl, _, _, rfl, rfl, ?_⟩
    have rdS : ∀ {j : Nat}, j < e.n → atI (vrow s.ss) (j : Int) = some (.int (s.ss.getD j 0)) := fun hj => at_i (vrow_get (by omega))
    have rdA : atI (vrow s.ar) (t : Int) = some (.int (s.ar.getD t 0)) := at_i (vrow_get (by omega))
    refine ⟨_, rfl, c, N, dx, _, _, rfl, h1, T.cl, T.nM, nf_m _ _ _ _ _ _, _, rfl, c, N, dx, _, _, rfl, h1, T.cl, T.nA, nf_a _ _ _ _ _ _, _, rfl, aa, _, (t : Int), _, rfl, rfl, SqT.of h3, rdA,
      _, rfl, c, N, dx, _, _, rfl, h1, T.cl, T.nS, nf_s _ _ _ _ _ _, _, rfl, sa, _, (p.1 : Int), _, rfl, rfl, SqT.of h2, rdS p1, _, rfl, c, N, dx, _, _, rfl, h1, T.cl, T.nS, nf_s _ _ _ _ _ _, _, rfl, sa, _, (p.2 : Int), _, rfl, rfl, SqT.of h2, rdS p2, ?_⟩
    have ga := hN.ba.get (i := t) (by omega)
    have g1 := hN.bs.get (i := p.1) (by omega)
    have g2 := hN.bs.get (i := p.2) (by omega)
    refine ⟨e.m, e.ta, e.tb, _, _, _, rfl, hN.ev.mc, hwf, fun x hx => ?_, fun x H' sm hf => ?_, fun a h t' ea eh et _ _ _ F H' sm hF => ?_⟩
    · simp only [List.mem_cons, List.mem_nil_iff, or_false] at hx
      rcases hx with rfl | rfl | rfl <;> exact ⟨K, none, .int _⟩
    · obtain ⟨i, h1, h2, _⟩ := hf
      exfalso
      have bb : ∀ {z : Int}, 0 ≤ z ∧ z < (nS e.tb : Int) → belowB (.int z) (nS e.tb : Int) = true := fun {z} h => by
        show (decide (0 ≤ z) && decide (z < (nS e.tb : Int))) = true
        rw [decide_eq_true h.1, decide_eq_true h.2]; rfl
      match i, h1 with
      | 0, h1 => rw [← Option.some.inj h1, bb ga] at h2; cases h2
      | 1, h1 => rw [← Option.some.inj h1, bb g1] at h2; cases h2
      | 2, h1 => rw [← Option.some.inj h1, bb g2] at h2; cases h2
      | (i + 3), h1 => cases h1
    · injection ea with ea
      injection eh with eh
      injection et with et
      subst ea eh et
      exact q2 t p rfl hp F H' sm hF
theorem scPJ : FnScope ["net", "tie", "joined", "one", "other"] ["net", "tie", "joined"] (defScope sPutJoined) := ⟨rfl, rfl, rfl, by decide +kernel, rfl, by decide +kernel, by decide +kernel⟩
theorem ok_putJ {f fR M N W : Addr} {fd fdR : FuncData} (D : Df K mg "put_joined" sPutJoined ["net", "tie", "joined"] f fd) (DR : Df K mg "replaced" sRepl ["items", "at", "item"] fR fdR) (T : NtT K mg N) (TW : WcT K mg W) (c : Cs mg)
    (GR : FnOk P w K mg base CX0 1 fR fdR ["items", "at", "item"] spRepl) : FnOk P w K mg base CX0 2 f fd ["net", "tie", "joined"] (spPutJ N M W) := by
  obtain ⟨t1, hc1⟩ := c.meet
  refine D.F.ok scPJ (fun vs H Q E h => ?_) (fun cdv A outer s H vs Q E hr h => ?_)
  · obtain ⟨c, e, s, t, p, x, rfl, _⟩ := h
    rfl
  · obtain ⟨c, e, s, t, p, x, rfl, hN, hp, hx, hld, q⟩ := h
    refine ⟨_, pss_cons (ps_asg (pe_ix ix_tup (pe_fld (pe_fld (pv 0) rfl) rfl) (pv 1) (fun _ _ => rfl)) (pg_tup rfl (pgs_cons (pg_name (i := 3) scPJ.nd rfl (.inl rfl)) (pgs_cons (pg_name (i := 4) scPJ.nd rfl (.inl rfl)) pgs_nil))))
      (pss_cons (ps_fld (pv 0) (pc DR GR hr pass0 (pa_cons (pc DR GR hr pass0 (pa_cons (pe_fld (pv 0) rfl) (pa_cons (pv 3) (pa_cons (pv 2) pa_nil)))) (pa_cons (pv 4) (pa_cons (pv 2) pa_nil)))) rfl)
      (pss_cons (ps_fld (pv 0) (pc DR GR hr pass0 (pa_cons (pe_fld (pv 0) rfl) (pa_cons (pv 1) (pa_cons (pv 2) pa_nil)))) rfl)
      (pss_one (ps_fld (pv 0) (pe_op op_catA (pe_fld (pv 0) rfl) (pe_tup (pa_cons (pe_tup (pa_cons (pe_glob (v := .str "meet") (by rfl) hc1 ⟨_, rfl⟩) (pa_cons (pv 1) pa_nil))) pa_nil))) rfl)))), ?_⟩
    obtain ⟨dx, sa, aa, pa, h1, h2, h3, h4⟩ := hN.ob
    have n12 := hN.ev.wv.n12
    have t20 := hN.ev.wv.t20
    have ls := hN.ls
    have la := hN.la
    have tn := lt_at hp
    obtain ⟨dxw, ta, w1, tas, w2, w3⟩ := id hN.ev.wb
    obtain ⟨p1, p2, p3⟩ := hN.ev.wv.at_ hp
    obtain ⟨pa', ha, hpa⟩ := w3.get hp
    have hpa' : H pa' = some (.tup [.int (p.1 : Int), .int (p.2 : Int)]) := hpa
    refine ⟨_, rfl, c, N, dx, _, _, rfl, h1, T.cl, T.nW, nf_w _ _ _ _ _ _, e.w, W, dxw, _, _, rfl, w1, TW.cl, TW.nT, wf_t _ _, _, rfl, ta, _, (t : Int), .ref pa', rfl, rfl, SqT.of w2, at_i (map_at ha), pa', _, rfl, SqT.of hpa', rfl, _, _, rfl, _, _, rfl, rfl, ?_⟩
    refine ⟨_, rfl, c, N, dx, _, _, rfl, h1, T.cl, T.nS, nf_s _ _ _ _ _ _, _, rfl, _, rfl, sa, _, p.1, .int x, rfl, h2, by rw [vrow_len]; omega, by rw [vrow_len]; omega, fun y1 H1 s1 hy1 => ?_⟩
    rw [← vrow_set] at hy1
    refine ⟨_, rfl, _, rfl, y1, _, p.2, .int x, rfl, hy1, by rw [vrow_len, List.length_set]; omega, by rw [vrow_len, List.length_set]; omega, fun y2 H2 s2 hy2 => ?_⟩
    rw [← vrow_set] at hy2
    have s12 := s1.trans s2
    refine ⟨_, rfl, c, N, dx, _, rfl, s12 _ _ h1, T.cl, T.nS, (by show 6 < 1000; decide), ?_⟩
    rw [nf_ps]
    have N2 : NetAt N M W (upd H2 c (.ins N dx (nf e.fi e.m e.w y2 aa pa))) c e ⟨(s.ss.set p.1 x).set p.2 x, s.ar, s.ds⟩ := hN.put s12 hy2 (s12 _ _ h3) (h4.same s12) (by show ((s.ss.set p.1 x).set p.2 x).length = _; rw [List.length_set, List.length_set]; exact ls) la ((hN.bs.set hx).set hx) hN.ba hN.ld
    have b2 : But c H (upd H2 c (.ins N dx (nf e.fi e.m e.w y2 aa pa))) := But.put s12
    have hc2 : (upd H2 c (.ins N dx (nf e.fi e.m e.w y2 aa pa))) c = some (.ins N dx (nf e.fi e.m e.w y2 aa pa)) := upd_same
    have nc : ∀ {a : Addr} {xs : List V}, H2 a = some (.tup xs) → a ≠ c := fun e z => by rw [z, s12 _ _ h1] at e; cases e
    have hy2' : (upd H2 c (.ins N dx (nf e.fi e.m e.w y2 aa pa))) y2 = some (.tup (vrow ((s.ss.set p.1 x).set p.2 x))) := by rw [upd_ne (nc hy2)]; exact hy2
    have h3' : (upd H2 c (.ins N dx (nf e.fi e.m e.w y2 aa pa))) aa = some (.tup (vrow s.ar)) := by rw [upd_ne (nc (s12 _ _ h3))]; exact s12 _ _ h3
    have h4' : StpsT (upd H2 c (.ins N dx (nf e.fi e.m e.w y2 aa pa))) pa s.ds := (h4.same s12).but (s12 _ _ h1) But.upd
    generalize upd H2 c (.ins N dx (nf e.fi e.m e.w y2 aa pa)) = H3 at N2 b2 hc2 hy2' h3' h4' ⊢
    refine ⟨_, rfl, c, N, dx, _, _, rfl, hc2, T.cl, T.nA, nf_a _ _ _ _ _ _, _, rfl, _, rfl, aa, _, t, .int x, rfl, h3', by rw [vrow_len]; omega, by rw [vrow_len]; omega, fun y4 H4 s4 hy4 => ?_⟩
    rw [← vrow_set] at hy4
    refine ⟨_, rfl, c, N, dx, _, rfl, s4 _ _ hc2, T.cl, T.nA, (by show 6 < 1000; decide), ?_⟩
    rw [nf_pa]
    have N4 : NetAt N M W (upd H4 c (.ins N dx (nf e.fi e.m e.w y2 y4 pa))) c e ⟨(s.ss.set p.1 x).set p.2 x, s.ar.set t x, s.ds⟩ := N2.put s4 (s4 _ _ hy2') hy4 (h4'.same s4) (by show ((s.ss.set p.1 x).set p.2 x).length = _; rw [List.length_set, List.length_set]; exact ls) (by show (s.ar.set t x).length = _; rw [List.length_set]; exact la) ((hN.bs.set hx).set hx) (hN.ba.set hx) hN.ld
    have b4 : But c H3 (upd H4 c (.ins N dx (nf e.fi e.m e.w y2 y4 pa))) := But.put s4
    have hc4 : (upd H4 c (.ins N dx (nf e.fi e.m e.w y2 y4 pa))) c = some (.ins N dx (nf e.fi e.m e.w y2 y4 pa)) := upd_same
    have nc4 : ∀ {a : Addr} {xs : List V}, H4 a = some (.tup xs) → a ≠ c := fun e z => by rw [z, s4 _ _ hc2] at e; cases e
    have hy5 : (upd H4 c (.ins N dx (nf e.fi e.m e.w y2 y4 pa))) y2 = some (.tup (vrow ((s.ss.set p.1 x).set p.2 x))) := by rw [upd_ne (nc4 (s4 _ _ hy2'))]; exact s4 _ _ hy2'
    have h5 : (upd H4 c (.ins N dx (nf e.fi e.m e.w y2 y4 pa))) y4 = some (.tup (vrow (s.ar.set t x))) := by rw [upd_ne (nc4 hy4)]; exact hy4
    have h6 : StpsT (upd H4 c (.ins N dx (nf e.fi e.m e.w y2 y4 pa))) pa s.ds := (h4'.same s4).but (s4 _ _ hc2) But.upd
    generalize upd H4 c (.ins N dx (nf e.fi e.m e.w y2 y4 pa)) = H5 at N4 b4 hc4 hy5 h5 h6 ⊢
    obtain ⟨ps, hp1, hp2⟩ := id h6
    have lp : ps.length < 1000 := by rw [hp2.1]; exact hld
    refine ⟨_, rfl, c, N, dx, _, _, rfl, hc4, T.cl, T.nP, nf_p _ _ _ _ _ _, ?_⟩
    refine tt_in (tt_c ⟨_, rfl, (by show 2 ≤ sizeLine; decide), fun sp hsp => ⟨(by show 1 ≤ sizeLine; decide), fun sq hsq => ?_⟩⟩)
    have s6 := same_new (o := HO.tup [.str "meet", .int (t : Int)]) hsp
    have s7 := same_new (o := HO.tup [.ref sp]) hsq
    have s67 := s6.trans s7
    refine catA_by (s67 _ _ hp1) upd_same (sz (by rw [List.length_map]; simp only [List.length_cons, List.length_nil]; omega)) fun pb H8 s8 hpb => ?_
    have s68 := s67.trans s8
    refine ⟨_, rfl, c, N, dx, _, rfl, s68 _ _ hc4, T.cl, T.nP, (by show 6 < 1000; decide), ?_⟩
    rw [nf_pp]
    have hds : StpsT H8 pb (s.ds ++ [.mt t]) := ⟨ps ++ [sp], by rw [hpb, List.map_append]; rfl, by rw [List.length_append, List.length_append, hp2.1]; rfl, fun i a z ei ez => ?_⟩
    rotate_left
    · by_cases hi : i < ps.length
      · rw [List.getElem?_append_left hi] at ei
        rw [List.getElem?_append_left (by rw [← hp2.1]; exact hi)] at ez
        exact s68 _ _ (hp2.2 i a z ei ez)
      · have hil := lt_at ei
        rw [List.length_append] at hil
        have : i = ps.length := by simp only [List.length_cons, List.length_nil] at hil; omega
        subst this
        rw [List.getElem?_append_right (Nat.le_refl _), Nat.sub_self] at ei
        rw [hp2.1, List.getElem?_append_right (Nat.le_refl _), Nat.sub_self] at ez
        obtain rfl : sp = a := Option.some.inj ei
        obtain rfl : Stp.mt t = z := Option.some.inj ez
        exact (s7.trans s8) _ _ upd_same
    exact q _ ((b2.trans b4).trans (But.put s68)) (N4.put s68 (s68 _ _ hy5) (s68 _ _ h5) hds (by show ((s.ss.set p.1 x).set p.2 x).length = _; rw [List.length_set, List.length_set]; exact ls) (by show (s.ar.set t x).length = _; rw [List.length_set]; exact la) ((hN.bs.set hx).set hx) (hN.ba.set hx) (by show (s.ds ++ [Stp.mt t]).length ≤ _; rw [List.length_append]; simp only [List.length_cons, List.length_nil]; omega))
end
end K1
namespace K1
open PySem PySem.Spec PyProof.Rows L2
/-! ### what a meeting tells, whoever searched -/
def EndR (tb : Ts) (a h t x : Int) : Prop := ∃ r : List Int, (∀ d ∈ r, 0 ≤ d ∧ d < (tb.length : Int)) ∧ run tb a r = t ∧ run tb h r = x
theorem Fst.ends {tb : Ts} {a h t : Int} {F : List KR} (f : Fst (actL tb) tb.length [a, h] F) (x : Int) : x ∈ endsOf F t ↔ EndR tb a h t x := by
  constructor
  · intro hx
    obtain ⟨e, he, rfl⟩ := List.mem_map.mp hx
    obtain ⟨he1, he2⟩ := List.mem_filter.mp he
    have he2 : e.1.getD 0 0 = t := of_decide_eq_true he2
    obtain ⟨j, hj⟩ := List.getElem?_of_mem he1
    obtain ⟨h1, h2, _⟩ := f.pth j e.1 e.2 hj
    rw [h1, path_run] at he2
    exact ⟨e.2, h2, he2, by rw [h1, path_run]; rfl⟩
  · rintro ⟨r, hr, e1, e2⟩
    obtain ⟨j, r', hj, _⟩ := f.all r hr
    rw [path_run] at hj
    exact List.mem_map.mpr ⟨_, List.mem_filter.mpr ⟨List.mem_of_getElem? hj, decide_eq_true (show run tb a r = t from e1)⟩, e2⟩
theorem Fst.endsNd {tb : Ts} {a h t : Int} {F : List KR} (f : Fst (actL tb) tb.length [a, h] F) : (endsOf F t).Nodup := by
  have h1 : F.Pairwise fun e e' => e.1 ≠ e'.1 := by
    have := f.nd
    rw [List.Nodup, List.pairwise_map] at this
    exact this
  unfold endsOf onT
  rw [List.Nodup, List.pairwise_map]
  refine (h1.filter _).imp_of_mem fun {e e'} he he' hne hx => hne ?_
  obtain ⟨m1, m2⟩ := List.mem_filter.mp he
  obtain ⟨m3, m4⟩ := List.mem_filter.mp he'
  have m2 : e.1.getD 0 0 = t := of_decide_eq_true m2
  have m4 : e'.1.getD 0 0 = t := of_decide_eq_true m4
  obtain ⟨j, hj⟩ := List.getElem?_of_mem m1
  obtain ⟨k1, _, _⟩ := f.pth j e.1 e.2 hj
  obtain ⟨j', hj'⟩ := List.getElem?_of_mem m3
  obtain ⟨k2, _, _⟩ := f.pth j' e'.1 e'.2 hj'
  rw [path_run] at k1 k2
  rw [k1] at m2 hx
  rw [k2] at m4 hx
  have x1 : run tb a e.2 = t := m2
  have x2 : run tb a e'.2 = t := m4
  have x3 : run tb h e.2 = run tb h e'.2 := hx
  rw [k1, k2]
  show [run tb a e.2, run tb h e.2] = [run tb a e'.2, run tb h e'.2]
  rw [x1, x2, x3]
def JR (tb : Ts) (a h t : Int) : Option Int → Prop
  | some x => ∀ y, EndR tb a h t y ↔ y = x
  | none => ¬ ∃ x, ∀ y, EndR tb a h t y ↔ y = x
theorem jr_ex (tb : Ts) (a h t : Int) : ∃ r, JR tb a h t r := by
  by_cases z : ∃ x, ∀ y, EndR tb a h t y ↔ y = x
  · obtain ⟨x, hx⟩ := z
    exact ⟨some x, hx⟩
  · exact ⟨none, z⟩
theorem JR.uniq {tb : Ts} {a h t : Int} : ∀ {r r' : Option Int}, JR tb a h t r → JR tb a h t r' → r = r'
  | some x, some y, h1, h2 => by rw [(h2 x).mp ((h1 x).mpr rfl)]
  | some x, none, h1, h2 => (h2 ⟨x, h1⟩).elim
  | none, some y, h1, h2 => (h1 ⟨y, h2⟩).elim
  | none, none, _, _ => rfl
section
variable {tb : Ts} {a h t : Int} {l : List Int}
theorem JR.one {x : Int} (j : JR tb a h t (some x)) (nd : l.Nodup) (hm : ∀ y, y ∈ l ↔ EndR tb a h t y) : l = [x] := by
  have k : ∀ y, y ∈ l ↔ y = x := fun y => (hm y).trans (j y)
  match l, nd, k with
  | [], _, k => exact absurd ((k x).mpr rfl) (by simp)
  | [y], _, k => rw [(k y).mp (by simp)]
  | y :: z :: r, nd, k =>
    have e1 := (k y).mp (by simp)
    have e2 := (k z).mp (by simp)
    rw [List.nodup_cons] at nd
    exact (nd.1 (by rw [e1, e2]; simp)).elim
theorem JR.of_one {x : Int} (e : l = [x]) (hm : ∀ y, y ∈ l ↔ EndR tb a h t y) : JR tb a h t (some x) := fun y => by
  rw [← hm y, e]; simp
theorem JR.not_one (j : JR tb a h t none) (hm : ∀ y, y ∈ l ↔ EndR tb a h t y) : l.length ≠ 1 := fun e => by
  match l, e with
  | [x], _ => exact j ⟨x, JR.of_one rfl hm⟩
theorem JR.of_not (e : l.length ≠ 1) (nd : l.Nodup) (hm : ∀ y, y ∈ l ↔ EndR tb a h t y) : JR tb a h t none := fun ⟨x, hx⟩ => e (by rw [JR.one (x := x) hx nd hm]; rfl)
end
/-! ### steps taken -/
def StR (e : Ev) (s : Sn) : Stp → Option Sn → Prop
  | .dd h d, o => o = some (s.doo e h d)
  | .mt t, o => ∃ p r, e.ts[t]? = some p ∧ JR e.tb (s.ar.getD t 0) (s.ss.getD p.1 0) (s.ss.getD p.2 0) r ∧ o = r.map (s.met p t)
theorem str_ex {e : Ev} {s : Sn} {st : Stp} (h : okS e.n e.ts.length e.tb.length st) : ∃ o, StR e s st o := by
  cases st with
  | dd a b => exact ⟨_, rfl⟩
  | mt t =>
    obtain ⟨p, hp⟩ := ex_at (l := e.ts) (i := t) h
    obtain ⟨r, hr⟩ := jr_ex e.tb (s.ar.getD t 0) (s.ss.getD p.1 0) (s.ss.getD p.2 0)
    exact ⟨_, p, r, hp, hr, rfl⟩
theorem StR.uniq {e : Ev} {s : Sn} {st : Stp} {o o' : Option Sn} (h : StR e s st o) (h' : StR e s st o') : o = o' := by
  cases st with
  | dd a b => rw [show o = _ from h, show o' = _ from h']
  | mt t =>
    obtain ⟨p, r, h1, h2, rfl⟩ := h
    obtain ⟨p', r', k1, k2, rfl⟩ := h'
    rw [h1] at k1
    obtain rfl := Option.some.inj k1
    rw [h2.uniq k2]
def dueT (e : Ev) (s : Sn) (st : Stp) (a h t : Int) : Prop := ∃ (k : Nat) (p : Nat × Nat), st = .mt k ∧ e.ts[k]? = some p ∧ a = s.ar.getD k 0 ∧ h = s.ss.getD p.1 0 ∧ t = s.ss.getD p.2 0
theorem StR.due {e : Ev} {s : Sn} {st : Stp} (h : StR e s st none) : ∃ a b c, dueT e s st a b c := by
  cases st with
  | dd a b => cases h
  | mt t =>
    obtain ⟨p, r, h1, h2, h3⟩ := h
    exact ⟨_, _, _, t, p, rfl, h1, rfl, rfl, rfl⟩
inductive Run (e : Ev) : Sn → List Stp → Sn → Prop
  | nil (s : Sn) : Run e s [] s
  | cons {s s1 s2 : Sn} {st : Stp} {l : List Stp} : StR e s st (some s1) → Run e s1 l s2 → Run e s (st :: l) s2
inductive Brk (e : Ev) : Sn → List Stp → Int → Int → Int → Prop
  | now {s : Sn} {st : Stp} {l : List Stp} {a h t : Int} : StR e s st none → dueT e s st a h t → Brk e s (st :: l) a h t
  | later {s s1 : Sn} {st : Stp} {l : List Stp} {a h t : Int} : StR e s st (some s1) → Brk e s1 l a h t → Brk e s (st :: l) a h t
theorem Run.snoc {e : Ev} {s s1 s2 : Sn} {l : List Stp} {st : Stp} (h : Run e s l s1) (k : StR e s1 st (some s2)) : Run e s (l ++ [st]) s2 := by
  induction h with
  | nil s => exact .cons k (.nil _)
  | cons a _ ih => exact .cons a (ih k)
theorem Run.brk {e : Ev} {s s1 : Sn} {l : List Stp} {st : Stp} {r : List Stp} {a h t : Int} (hr : Run e s l s1) (k : StR e s1 st none) (d : dueT e s1 st a h t) : Brk e s (l ++ st :: r) a h t := by
  induction hr with
  | nil s => exact .now k d
  | cons a _ ih => exact .later a (ih k d)
theorem StR.ds {e : Ev} {s s' : Sn} {st : Stp} (h : StR e s st (some s')) : s'.ds = s.ds ++ [st] := by
  cases st with
  | dd a b => rw [Option.some.inj (show some s' = _ from h)]; rfl
  | mt t =>
    obtain ⟨p, r, h1, h2, h3⟩ := h
    cases r with
    | none => cases h3
    | some x => rw [Option.some.inj h3]; rfl
theorem Run.ds {e : Ev} {s s' : Sn} {l : List Stp} (h : Run e s l s') : s'.ds = s.ds ++ l := by
  induction h with
  | nil s => rw [List.append_nil]
  | cons a _ ih => rw [ih, a.ds, List.append_assoc]; rfl
theorem Run.uniq {e : Ev} {s s1 s2 : Sn} {l : List Stp} (h : Run e s l s1) (k : Run e s l s2) : s1 = s2 := by
  induction h with
  | nil s => cases k; rfl
  | cons a _ ih =>
    cases k with
    | cons b k =>
      have := a.uniq b
      obtain rfl := Option.some.inj this
      exact ih k
theorem Run.no_brk {e : Ev} {s s1 : Sn} {l : List Stp} {a h t : Int} (hr : Run e s l s1) (b : Brk e s l a h t) : False := by
  induction hr with
  | nil s => cases b
  | cons x _ ih =>
    cases b with
    | now y _ => cases x.uniq y
    | later y b =>
      have := x.uniq y
      obtain rfl := Option.some.inj this
      exact ih b
theorem RzU.same {CU : Addr} {x a b : Int} {H H' : Hp} {E : XK} (h : RzU CU x a b H E) (s : Same H H') : RzU CU x a b H' E := fun d H2 s2 hd he => h d H2 (s.trans s2) (s.free hd) he
def spMovedL (M : Addr) : Sp := fun vs H Q _ => ∃ m ta ts s p row, vs = [.ref m, .int s, .ref p] ∧ MachAt M H m ta (vts ts) ∧ Wf ts ∧ (0 ≤ s ∧ s < (nS ts : Int)) ∧ H p = some (.lst (vrow row)) ∧ (∀ d ∈ row, 0 ≤ d ∧ d < (ts.length : Int)) ∧ Q (.int (run ts s row)) H
def spMeetJ (K : PySem.W.Frag) (N M W CT CU : Addr) : Sp := fun vs H Q E => ∃ (c : Addr) (e : Ev) (s : Sn) (v : V) (o : Option (List V)), vs = [.ref c, v] ∧ NetAt N M W H c e s ∧ KV K H v o ∧ s.ds.length < 1000 ∧ (belowB v (e.ts.length : Int) = false → Rz CT "tie" v H E) ∧
  (∀ (t : Nat) p, v = .int (t : Int) → e.ts[t]? = some p → (∀ x, JR e.tb (s.ar.getD t 0) (s.ss.getD p.1 0) (s.ss.getD p.2 0) (some x) → ∀ H', But c H H' → NetAt N M W H' c e (s.met p t x) → Q (.int x) H') ∧
    (JR e.tb (s.ar.getD t 0) (s.ss.getD p.1 0) (s.ss.getD p.2 0) none → RzU CU (s.ar.getD t 0) (s.ss.getD p.1 0) (s.ss.getD p.2 0) H E))
def spPTake (N M W CU : Addr) : Sp := fun vs H Q E => ∃ (c p : Addr) (e : Ev) (s : Sn) (st : Stp), vs = [.ref c, .ref p] ∧ NetAt N M W H c e s ∧ H p = some (.tup (stV st)) ∧ okS e.n e.ts.length e.tb.length st ∧ s.ds.length < 1000 ∧
  (∀ s', StR e s st (some s') → ∀ H', But c H H' → NetAt N M W H' c e s' → Q .non H') ∧ (∀ a h t, StR e s st none → dueT e s st a h t → RzU CU a h t H E)
section
variable {P : Program} {w : World} {K : PySem.W.Frag} {mg : Str → Option Value} {base : Heap}
theorem ok_movedL {f M : Addr} {fd : FuncData} (D : Df K mg "moved" sMoved ["machine", "state", "row"] f fd) (T : McT K mg M) : FnOk P w K mg base CX0 1 f fd ["machine", "state", "row"] (spMovedL M) := by
  refine D.F.ok scMv (fun vs H Q E h => ?_) (fun cdv A outer s H vs Q E hr h => ?_)
  · obtain ⟨m, ta, ts, v, p, row, rfl, _⟩ := h
    rfl
  · obtain ⟨m, ta, ts, s0, p, row, rfl, hM, hW, hs, hp, hd, q⟩ := h
    refine ⟨_, pss_cons (ps_for PassesOwn.never rfl (pi_list (pv 2)) (pg_name (i := 3) scMv.nd rfl (.inl rfl)) (pss_one (ps_set (i := 1) scMv.nd rfl (.inl rfl) (pe_ix ix_tup (pe_ix ix_tup (pe_fld (pv 0) rfl) (pv 3) (fun _ _ => rfl)) (pv 1) (fun _ _ => rfl)))))
      (pss_one (ps_ret (pv 1))), ?_⟩
    refine ⟨_, rfl, p, rfl, ⟨_, SqL.of hp⟩, for_list (K := K) (a := p) (xs := vrow row) (fun i σ H' => ∃ v3 : Option V, σ = [some (.ref m), some (.int (run ts s0 (row.take i))), some (.ref p), v3] ∧ H' = H)
      ⟨none, rfl, rfl⟩ (fun i σ H' _ ⟨_, _, e⟩ => by rw [e]; exact SqL.of hp) ?_ ?_⟩
    · rintro i y σ H' hi ⟨v3, rfl, rfl⟩
      obtain ⟨d, ed, rfl⟩ : ∃ d, row[i]? = some d ∧ y = V.int d := by
        rw [vrow, List.getElem?_map] at hi
        cases e : row[i]? with
        | none => rw [e] at hi; cases hi
        | some z =>
          rw [e] at hi
          exact ⟨z, rfl, (Option.some.inj hi).symm⟩
      have hb := hd d (List.mem_of_getElem? ed)
      have hr' := hW.run (row.take i) s0 (fun e he => hd e (List.mem_of_mem_take he)) hs
      obtain ⟨t, h1, h2, h3⟩ := hW.at_ hb hr'
      obtain ⟨dx, hm⟩ := hM.fs
      obtain ⟨as, ha1, ha2, ha3⟩ := hM.2
      have hla : d.toNat < as.length := by rw [ha2, vts, List.length_map]; omega
      have hA : as[d.toNat]? = some as[d.toNat] := by simp [hla]
      have hT := ha3 d.toNat _ (vrow t) hA (by rw [vts, List.getElem?_map, h1]; rfl)
      refine ⟨_, rfl, m, M, dx, _, _, rfl, hm, T.cl, T.nT, mf_t _ _ _, _, rfl, ta, _, d, _, rfl, rfl, SqT.of ha1, at_of (j := d.toNat) (by omega) (by rw [List.getElem?_map, hA]; rfl), ?_⟩
      refine ⟨_, rfl, _, _, _, .int (stp ts (run ts s0 (row.take i)) d), rfl, rfl, SqT.of hT, at_of (j := (run ts s0 (row.take i)).toNat) (by omega) (by rw [vrow, List.getElem?_map, h2]; rfl), ?_⟩
      refine ⟨some (.int d), ?_, rfl⟩
      rw [take_succ ed, run_snoc]
      rfl
    · rintro σ H' ⟨v3, rfl, rfl⟩
      have e : row.take (vrow row).length = row := by rw [vrow, List.length_map, List.take_length]
      rw [e]
      exact ⟨_, rfl, q⟩
theorem scNI : FnScope ["self", "machine", "web", "first"] ["self", "machine", "web", "first"] (defScope sNetInit) := ⟨rfl, rfl, rfl, by decide +kernel, rfl, by decide +kernel, by decide +kernel⟩
theorem ok_ninit {f fS CS M N W : Addr} {fd fdS : FuncData} (F : Fun K "__init__" "Net.__init__" sNetInit f fd) (DS : Df K mg "stand_first" sStandFirst ["net", "machine", "web", "first"] fS fdS)
    (GS : FnOk P w K mg base (L2.CX P w) 4 fS fdS ["net", "machine", "web", "first"] (spStand K N M W CS)) : FnOk P w K mg base (L2.CX P w) 5 f fd ["self", "machine", "web", "first"] (spStand K N M W CS) := by
  refine F.okX scNI (fun vs H Q E h => ?_) (fun cdv A outer s H vs Q E hr h => ?_)
  · obtain ⟨c, dx, e, v, o, rfl, _⟩ := h
    rfl
  · obtain ⟨c, dx, e, v, o, rfl, q⟩ := h
    refine ⟨_, pss_one (ps_expr (pc DS GS hr (pass1 (takes_of rfl rfl rfl rfl)) (pa_cons (pv 0) (pa_cons (pv 1) (pa_cons (pv 2) (pa_cons (pv 3) pa_nil)))))), ?_⟩
    exact ⟨_, rfl, _, rfl, _, rfl, _, rfl, c, dx, e, v, o, rfl, q⟩
theorem scND' : FnScope ["self", "house", "deed"] ["self", "house", "deed"] (defScope sNetDo) := ⟨rfl, rfl, rfl, by decide +kernel, rfl, by decide +kernel, by decide +kernel⟩
theorem ok_ndo {f fS CH CD M N W : Addr} {fd fdS : FuncData} (F : Fun K "do" "Net.do" sNetDo f fd) (DS : Df K mg "done_at" sDoneAt ["net", "house", "deed"] fS fdS)
    (GS : FnOk P w K mg base (L2.CX P w) 4 fS fdS ["net", "house", "deed"] (spDoneAt K N M W CH CD)) : FnOk P w K mg base (L2.CX P w) 5 f fd ["self", "house", "deed"] (spDoneAt K N M W CH CD) := by
  refine F.okX scND' (fun vs H Q E h => ?_) (fun cdv A outer s H vs Q E hr h => ?_)
  · obtain ⟨c, e, s, v, a, o1, o2, rfl, _⟩ := h
    rfl
  · obtain ⟨c, e, s, v, a, o1, o2, rfl, q⟩ := h
    refine ⟨_, pss_one (ps_ret (pc DS GS hr (pass1 (takes_of rfl rfl rfl rfl)) (pa_cons (pv 0) (pa_cons (pv 1) (pa_cons (pv 2) pa_nil))))), ?_⟩
    exact ⟨_, rfl, _, rfl, _, rfl, c, e, s, v, a, o1, o2, rfl, q⟩
theorem scNM : FnScope ["self", "tie", "joined"] ["self", "tie"] (defScope sNetMeet) := ⟨rfl, rfl, rfl, by decide +kernel, rfl, by decide +kernel, by decide +kernel⟩
theorem ok_nmeet {f fJ fP CT CU M N W : Addr} {fd fdJ fdP : FuncData} (F : Fun K "meet" "Net.meet" sNetMeet f fd) (DJ : Df K mg "joined_over" sJoinedOver ["net", "tie"] fJ fdJ) (DP : Df K mg "put_joined" sPutJoined ["net", "tie", "joined"] fP fdP)
    (GJ : FnOk P w K mg base (L2.CX P w) 6 fJ fdJ ["net", "tie"] (spJoinO K N M W CT CU)) (GP : FnOk P w K mg base CX0 2 fP fdP ["net", "tie", "joined"] (spPutJ N M W)) : FnOk P w K mg base (L2.CX P w) 7 f fd ["self", "tie"] (spMeetJ K N M W CT CU) := by
  refine F.okX scNM (fun vs H Q E h => ?_) (fun cdv A outer s H vs Q E hr h => ?_)
  · obtain ⟨c, e, s, v, o, rfl, _⟩ := h
    rfl
  · obtain ⟨c, e, s, v, o, rfl, hN, kv, hld, q1, q2⟩ := h
    refine ⟨_, pss_cons (ps_set (i := 2) scNM.nd rfl (.inl rfl) (pc DJ GJ hr (pass1 (takes_of rfl rfl rfl rfl)) (pa_cons (pv 0) (pa_cons (pv 1) pa_nil))))
      (pss_cons (ps_expr (pc DP GP (hr.mono (by decide)) pass0 (pa_cons (pv 0) (pa_cons (pv 1) (pa_cons (pv 2) pa_nil)))))
      (pss_one (ps_ret (pv 2)))), ?_⟩
    refine ⟨_, rfl, _, rfl, c, e, s, v, o, rfl, hN, kv, q1, fun t p ev hp F H1 s1 hF => ?_⟩
    obtain ⟨qa, qb⟩ := q2 t p ev hp
    subst ev
    have tn := lt_at hp
    obtain ⟨p1, p2, p3⟩ := hN.ev.wv.at_ hp
    have ga := hN.ba.get (i := t) (by rw [hN.la]; exact tn)
    have g1 := hN.bs.get (i := p.1) (by rw [hN.ls]; exact p1)
    refine ⟨fun x hx => ?_, fun hx => (qb (JR.of_not hx hF.endsNd hF.ends)).same s1⟩
    have hr' := ends_rng hN.ev.wf ga g1 hF (x := x) (by rw [hx]; simp)
    dsimp only [List.set]
    refine ⟨_, rfl, _, rfl, _, rfl, c, e, s, t, p, x, rfl, hN.same s1, hp, hr', hld, fun H' b hN' => ?_⟩
    exact ⟨_, rfl, qa x (JR.of_one hx hF.ends) H' ((Same.but s1).trans b) hN'⟩
/-- a net's methods -/
structure NMs (P : Program) (w : World) (K : PySem.W.Frag) (mg : Str → Option Value) (base : Heap) (N M W CH CD CT CU : Addr) : Prop where
  T : NtT K mg N
  do_ : ∃ f fd, Meth K N "do" f ∧ Binds K fd ["self", "house", "deed"] [] ∧ FnOk P w K mg base (L2.CX P w) 5 f fd ["self", "house", "deed"] (spDoneAt K N M W CH CD)
  meet : ∃ f fd, Meth K N "meet" f ∧ Binds K fd ["self", "tie"] [] ∧ FnOk P w K mg base (L2.CX P w) 7 f fd ["self", "tie"] (spMeetJ K N M W CT CU)
theorem nf_do (fi : Int) (m w sa aa pa : Addr) : (nf fi m w sa aa pa).lookup ("do" : Str) = none := by rfl
theorem nf_meet (fi : Int) (m w sa aa pa : Addr) : (nf fi m w sa aa pa).lookup ("meet" : Str) = none := by rfl
theorem scPT : FnScope ["books", "step"] ["books", "step"] (defScope sPTake) := ⟨rfl, rfl, rfl, by decide +kernel, rfl, by decide +kernel, by decide +kernel⟩
theorem ok_ptake {f CH CD CT CU M N W : Addr} {fd : FuncData} (D : Df K mg "take" sPTake ["books", "step"] f fd) (nm : NMs P w K mg base N M W CH CD CT CU) (c : Cs mg) : FnOk P w K mg base (L2.CX P w) 8 f fd ["books", "step"] (spPTake N M W CU) := by
  obtain ⟨t1, hc1⟩ := c.doo
  obtain ⟨fD, fdD, mD, bD, GD⟩ := nm.do_
  obtain ⟨fM, fdM, mM, bM, GM⟩ := nm.meet
  have NT := nm.T
  refine D.F.okX scPT (fun vs H Q E h => ?_) (fun cdv A outer s H vs Q E hr h => ?_)
  · obtain ⟨c, p, e, s, st, rfl, _⟩ := h
    rfl
  · obtain ⟨c, p, e, s, st, rfl, hN, hp, hok, hld, q1, q2⟩ := h
    refine ⟨_, pss_one (ps_if (pt_cmpR op_eq (pe_ix ix_tup (pv 1) pe_int (fun _ _ => rfl)) (pe_glob (v := .str "do") (by rfl) hc1 ⟨_, rfl⟩) (nomark _))
      (pss_one (ps_expr (pe_meth (pv 0) NT.cl mD GD (hr.mono (by decide)) bD .nil (pass1 (takes_of rfl rfl rfl rfl)) (pa_cons (pe_ix ix_tup (pv 1) pe_int (fun _ _ => rfl)) (pa_cons (pe_ix ix_tup (pv 1) pe_int (fun _ _ => rfl)) pa_nil)))))
      (pss_one (ps_expr (pe_meth (pv 0) NT.cl mM GM hr bM .nil (pass1 (takes_of rfl rfl rfl rfl)) (pa_cons (pe_ix ix_tup (pv 1) pe_int (fun _ _ => rfl)) pa_nil))))), ?_⟩
    obtain ⟨dx, sa, aa, pa, h1, h2, h3, h4⟩ := hN.ob
    cases st with
    | dd h d =>
      have rd : ∀ (j : Nat) v, (stV (.dd h d))[j]? = some v → atI (stV (.dd h d)) (j : Int) = some v := fun j v hv => at_i hv
      refine ⟨_, rfl, p, _, (0 : Int), .str "do", rfl, rfl, SqT.of hp, rd 0 _ rfl, ⟨rfl, true, congrArg V.bl (decide_eq_true rfl), iteT ?_⟩⟩
      refine ⟨_, rfl, c, dx, _, rfl, h1, nf_do _ _ _ _ _ _, ?_⟩
      refine ⟨_, rfl, p, _, (1 : Int), .int (h : Int), rfl, rfl, SqT.of hp, rd 1 _ rfl, _, rfl, p, _, (2 : Int), .int (d : Int), rfl, rfl, SqT.of hp, rd 2 _ rfl, ?_⟩
      refine ⟨c, e, s, _, _, none, none, rfl, hN, .int _, .int _, hld, fun hb => ?_, fun _ hb => ?_, fun h' d' eh ed _ _ H' b hN' => ?_⟩
      · rw [belowB_nat, decide_eq_true hok.1] at hb; cases hb
      · rw [belowB_nat, decide_eq_true hok.2] at hb; cases hb
      · injection eh with eh
        injection ed with ed
        obtain rfl : h' = h := by omega
        obtain rfl : d' = d := by omega
        exact q1 _ rfl H' b hN'
    | mt t =>
      have rd : ∀ (j : Nat) v, (stV (.mt t))[j]? = some v → atI (stV (.mt t)) (j : Int) = some v := fun j v hv => at_i hv
      refine ⟨_, rfl, p, _, (0 : Int), .str "meet", rfl, rfl, SqT.of hp, rd 0 _ rfl, ⟨rfl, false, congrArg V.bl (decide_eq_false (by decide +kernel)), iteF ?_⟩⟩
      refine ⟨_, rfl, c, dx, _, rfl, h1, nf_meet _ _ _ _ _ _, ?_⟩
      refine ⟨_, rfl, p, _, (1 : Int), .int (t : Int), rfl, rfl, SqT.of hp, rd 1 _ rfl, ?_⟩
      refine ⟨c, e, s, _, none, rfl, hN, .int _, hld, fun hb => ?_, fun t' p' et hp' => ⟨fun x hx H' b hN' => ?_, fun hx => ?_⟩⟩
      · rw [belowB_nat, decide_eq_true (show t < e.ts.length from hok)] at hb; cases hb
      · injection et with et
        obtain rfl : t' = t := by omega
        exact q1 _ ⟨p', some x, hp', hx, rfl⟩ H' b hN'
      · injection et with et
        obtain rfl : t' = t := by omega
        exact q2 _ _ _ ⟨p', none, hp', hx, rfl⟩ ⟨t', p', rfl, hp', rfl, rfl, rfl⟩
end
end K1
namespace K1
open PySem PySem.Spec PyProof.Rows L2
theorem But.fresh {c : Addr} {H H1 : Hp} (x : But c H H1) (hc : H c = none) : Same H H1 := fun d u e => x d u e (ne_of_none e hc)
theorem mkSameN {G : Hp} {c dx : Addr} {o1 o2 : HO} (hc : G c = none) (hd : G dx = none) (ne : dx ≠ c) : Same G (upd (upd G dx o1) c o2) := (same_new hd).trans (same_new (by rw [upd_ne ne.symm]; exact hc))
theorem StpsA.get {H : Hp} {as : List Addr} {ss : List Stp} (h : StpsA H as ss) {i : Nat} {x : V} (e : (as.map V.ref)[i]? = some x) : ∃ a s, x = .ref a ∧ as[i]? = some a ∧ ss[i]? = some s ∧ H a = some (.tup (stV s)) := by
  obtain ⟨a, ha, rfl⟩ := at_map e
  obtain ⟨s, hs⟩ := ex_at (l := ss) (i := i) (by rw [← h.1]; exact lt_at ha)
  exact ⟨a, s, rfl, ha, hs, h.2 i a s ha hs⟩
def spStandA (K : PySem.W.Frag) (M W CB CU : Addr) : Sp := fun vs H Q E => ∃ (e : Ev) (v : V) (o : Option (List (Option (List V)))), vs = [.ref e.m, .ref e.w, .int e.fi, v] ∧ EvAt M W H e ∧ (0 ≤ e.fi ∧ e.fi < (nS e.tb : Int)) ∧ Svs K H v o ∧ (∀ z, sfV e.n e.ts.length e.tb.length o = .int z → Rz CB "at" (.int z) H E) ∧
  ∀ ss : List Stp, o = some (ss.map fun s => some (stV s)) → (∀ s ∈ ss, okS e.n e.ts.length e.tb.length s) → ss.length ≤ 400 →
    (∀ s' p sa aa H', Run e (sn0 e) ss s' → Same H H' → H' p = some (.tup [.ref sa, .ref aa]) → H' sa = some (.tup (vrow s'.ss)) → H' aa = some (.tup (vrow s'.ar)) → Q (.ref p) H') ∧ (∀ a h t, Brk e (sn0 e) ss a h t → RzU CU a h t H E)
def dOf (ns : List Nat) : List Stp → List Int
  | [] => []
  | .dd h d :: l => if h ∈ ns then (d : Int) :: dOf ns l else dOf ns l
  | .mt _ :: l => dOf ns l
theorem dOf_app (ns : List Nat) : ∀ a b : List Stp, dOf ns (a ++ b) = dOf ns a ++ dOf ns b
  | [], b => rfl
  | .dd h d :: l, b => by
    rw [List.cons_append]
    show (if h ∈ ns then (d : Int) :: dOf ns (l ++ b) else dOf ns (l ++ b)) = (if h ∈ ns then (d : Int) :: dOf ns l else dOf ns l) ++ dOf ns b
    rw [dOf_app ns l b]
    by_cases z : h ∈ ns
    · rw [if_pos z, if_pos z]; rfl
    · rw [if_neg z, if_neg z]
  | .mt _ :: l, b => dOf_app ns l b
theorem dOf_len (ns : List Nat) : ∀ l : List Stp, (dOf ns l).length ≤ l.length
  | [] => Nat.le_refl _
  | .dd h d :: l => by
    have := dOf_len ns l
    show (if h ∈ ns then (d : Int) :: dOf ns l else dOf ns l).length ≤ l.length + 1
    by_cases z : h ∈ ns
    · rw [if_pos z]; exact Nat.succ_le_succ this
    · rw [if_neg z]; omega
  | .mt _ :: l => Nat.le_trans (dOf_len ns l) (Nat.le_succ _)
theorem dOf_rng {n t d : Nat} (ns : List Nat) : ∀ l : List Stp, (∀ s ∈ l, okS n t d s) → ∀ x ∈ dOf ns l, 0 ≤ x ∧ x < (d : Int)
  | [], _ => fun x hx => nomatch hx
  | .dd h e :: l, hl => by
    have ih := dOf_rng ns l fun s hs => hl s (List.mem_cons_of_mem _ hs)
    have h1 : okS n t d (.dd h e) := hl _ List.mem_cons_self
    show ∀ x ∈ (if h ∈ ns then (e : Int) :: dOf ns l else dOf ns l), 0 ≤ x ∧ x < (d : Int)
    by_cases z : h ∈ ns
    · rw [if_pos z]
      intro x hx
      rcases List.mem_cons.mp hx with hx | hx
      · rw [hx]; exact ⟨by omega, by have := h1.2; omega⟩
      · exact ih x hx
    · rw [if_neg z]; exact ih
  | .mt _ :: l, hl => dOf_rng ns l fun s hs => hl s (List.mem_cons_of_mem _ hs)
def spTruth (K : PySem.W.Frag) (M W CB CH : Addr) : Sp := fun vs H Q E => ∃ (e : Ev) (v hv : V) (o : Option (List (Option (List V)))) (oh : Option (List V)), vs = [.ref e.m, .ref e.w, .int e.fi, v, hv] ∧ EvAt M W H e ∧ (0 ≤ e.fi ∧ e.fi < (nS e.tb : Int)) ∧ Svs K H v o ∧ KV K H hv oh ∧ (∀ z, sfV e.n e.ts.length e.tb.length o = .int z → Rz CB "at" (.int z) H E) ∧
  ∀ ss : List Stp, o = some (ss.map fun s => some (stV s)) → (∀ s ∈ ss, okS e.n e.ts.length e.tb.length s) → ss.length ≤ 400 →
    (belowB hv (e.n : Int) = false → Rz CH "house" hv H E) ∧ (∀ (h : Nat) ns H', hv = .int (h : Int) → h < e.n → PartL e.ts h ns → Same H H' → Q (.int (run e.tb e.fi (dOf ns ss))) H')
section
variable {P : Program} {w : World} {K : PySem.W.Frag} {mg : Str → Option Value} {base : Heap}
theorem Rz.mono {C : Addr} {f : Str} {v : V} {H H' : Hp} {E : XK} (h : Rz C f v H E) (s : Same H H') : Rz C f v H' E := fun d H2 s2 hd he => h d H2 (s.trans s2) (s.free hd) he
theorem scSA : FnScope ["machine", "web", "first", "steps", "net", "step"] ["machine", "web", "first", "steps"] (defScope sStandingAfter) := ⟨rfl, rfl, rfl, by decide +kernel, rfl, by decide +kernel, by decide +kernel⟩
theorem ok_standA {f fI fC fT CB CS CH CD CT CU M N W : Addr} {fd fdI fdC fdT : FuncData} (D : Df K mg "standing_after" sStandingAfter ["machine", "web", "first", "steps"] f fd) (DC : Df K mg "check_steps" sCheckSteps ["machine", "web", "value"] fC fdC) (DT : Df K mg "take" sPTake ["books", "step"] fT fdT) (NT : NtT K mg N)
    (MI : Mk K N fI) (BI : Binds K fdI ["self", "machine", "web", "first"] []) (GI : FnOk P w K mg base (L2.CX P w) 5 fI fdI ["self", "machine", "web", "first"] (spStand K N M W CS))
    (GC : FnOk P w K mg base (L2.CX P w) 6 fC fdC ["machine", "web", "value"] (spCkSteps K M W CB)) (GT : FnOk P w K mg base (L2.CX P w) 8 fT fdT ["books", "step"] (spPTake N M W CU)) :
    FnOk P w K mg base (L2.CX P w) 9 f fd ["machine", "web", "first", "steps"] (spStandA K M W CB CU) := by
  refine D.F.okX scSA (fun vs H Q E h => ?_) (fun cdv A outer s H vs Q E hr h => ?_)
  · obtain ⟨e, v, o, rfl, _⟩ := h
    rfl
  · obtain ⟨e, v, o, rfl, hE, hfi, hv, q1, q2⟩ := h
    refine ⟨_, pss_cons (ps_set (i := 4) scSA.nd rfl (.inl rfl) (pe_make MI GI (hr.mono (by decide)) rfl NT.g BI .nil (pass1 (takes_of rfl rfl rfl rfl)) (pa_cons (pv 0) (pa_cons (pv 1) (pa_cons (pv 2) pa_nil)))))
      (pss_cons (ps_for (passes_of rfl) rfl (pi_tup (pc DC GC (hr.mono (by decide)) (pass1 (takes_of rfl rfl rfl rfl)) (pa_cons (pv 0) (pa_cons (pv 1) (pa_cons (pv 3) pa_nil))))) (pg_name (i := 5) scSA.nd rfl (.inl rfl))
        (pss_one (ps_expr (pc DT GT hr (pass1 (takes_of rfl rfl rfl rfl)) (pa_cons (pv 4) (pa_cons (pv 5) pa_nil))))))
      (pss_one (ps_ret (pe_tup (pa_cons (pe_fld (pv 4) rfl) (pa_cons (pe_fld (pv 4) rfl) pa_nil)))))), ?_⟩
    refine ⟨_, rfl, _, rfl, _, rfl, fun c dxc hc0 hdc0 nec => ?_⟩
    have smc := mkSameN (o1 := HO.own c) (o2 := HO.ins N dxc []) hc0 hdc0 nec
    have hc1 : (upd (upd H dxc (.own c)) c (.ins N dxc [])) c = some (.ins N dxc []) := upd_same
    generalize upd (upd H dxc (.own c)) c (.ins N dxc []) = H1 at smc hc1 ⊢
    obtain ⟨dm, hm⟩ := hE.mc.fs
    obtain ⟨dw, tw, hw, _⟩ := id hE.wb
    have nm : e.m ≠ c := ne_of_none hm hc0
    have nw : e.w ≠ c := ne_of_none hw hc0
    refine ⟨c, dxc, e, .int e.fi, none, rfl, hc1, hE.same smc, nm, nw, .int _, fun hb => ?_, fun i ei => ?_, fun _ _ H2 b2 hN => ?_⟩
    · have : belowB (.int e.fi) (nS e.tb : Int) = true := by
        show (decide (0 ≤ e.fi) && decide (e.fi < (nS e.tb : Int))) = true
        rw [decide_eq_true hfi.1, decide_eq_true hfi.2]; rfl
      rw [this] at hb; cases hb
    · injection ei
    refine ⟨rfl, ?_⟩
    have s2 : Same H H2 := fun d u ed => b2 d u (smc d u ed) (ne_of_none ed hc0)
    dsimp only [List.set]
    refine ⟨_, rfl, _, rfl, _, rfl, e.m, e.ta, e.w, e.tb, v, o, e.n, e.ts, rfl, hE.mc.same s2, hE.wb.same s2, hv.same s2, fun z ez => (q1 z ez).mono s2, fun ss eo hok hl p H3 s3 hp => ?_⟩
    obtain ⟨qa, qb⟩ := q2 ss eo hok hl
    obtain ⟨as, hp1, hp2⟩ := hp
    have s23 := s2.trans s3
    have key : ∀ {H' : Hp} {b : Addr} {xs : List V}, But c H3 H' → H3 b = some (.tup xs) → H' b = some (.tup xs) := fun {H' b xs} bb e => bb _ _ e fun z => by
      obtain ⟨dx, sa, aa, pa, h1, _⟩ := hN.ob
      rw [z, s3 _ _ h1] at e
      cases e
    have upto : ∀ {H' : Hp}, But c H3 H' → Same H H' := fun {H'} bb d u ed => bb d u (s23 d u ed) (ne_of_none ed hc0)
    refine ⟨p, rfl, ⟨_, SqT.of hp1⟩, for_tup (K := K) (a := p) (xs := as.map V.ref) (fun i σ H' => ∃ (s : Sn) (v5 : Option V), σ = [some (.ref e.m), some (.ref e.w), some (.int e.fi), some v, some (.ref c), v5] ∧ But c H3 H' ∧ NetAt N M W H' c e s ∧ Run e (sn0 e) (ss.take i) s)
      ⟨_, none, rfl, .refl, hN.same s3, .nil _⟩ (fun i σ H' _ ⟨_, _, _, bb, _⟩ => SqT.of (key bb hp1)) ?_ ?_⟩
    · rintro i x σ H' hx ⟨s, v5, rfl, bb, hN', hR⟩
      obtain ⟨a, st, rfl, ha, hst, hat⟩ := hp2.get hx
      have hld : s.ds.length < 1000 := by
        rw [hR.ds]
        show ((sn0 e).ds ++ ss.take i).length < 1000
        rw [List.length_append, List.length_take]
        show 0 + _ < _
        omega
      refine gn ?_
      dsimp only [List.set]
      refine ⟨_, rfl, _, rfl, c, a, e, s, st, rfl, hN', key bb hat, hok st (List.mem_of_getElem? hst), hld, fun s' hs' H4 b4 N4 => ?_, fun a' h' t' hn hd => ?_⟩
      · exact ⟨s', _, rfl, bb.trans b4, N4, by rw [take_succ hst]; exact hR.snoc hs'⟩
      · have es : ss = ss.take i ++ st :: ss.drop (i + 1) := by
          conv => lhs; rw [← List.take_append_drop i ss]
          rw [List.drop_eq_getElem_cons (lt_at hst)]
          congr 2
          exact (List.getElem?_eq_some_iff.mp hst).2
        have hb : Brk e (sn0 e) ss a' h' t' := by rw [es]; exact hR.brk hn hd
        exact (qb a' h' t' hb).same (upto bb)
    · rintro σ H' ⟨s, v5, rfl, bb, hN', hR⟩
      rw [List.take_of_length_le (by rw [List.length_map, hp2.1]; exact Nat.le_refl _)] at hR
      obtain ⟨dx, sa, aa, pa, h1, h2, h3, h4⟩ := hN'.ob
      refine ⟨_, rfl, c, N, dx, _, _, rfl, h1, NT.cl, NT.nS, nf_s _ _ _ _ _ _, _, rfl, c, N, dx, _, _, rfl, h1, NT.cl, NT.nA, nf_a _ _ _ _ _ _, (by show 2 ≤ sizeLine; decide), fun p' hp' => ?_⟩
      have sn := same_new (o := HO.tup [.ref sa, .ref aa]) hp'
      exact qa s p' sa aa _ hR ((upto bb).trans sn) upd_same (sn _ _ h2) (sn _ _ h3)
abbrev nTr : List Str := ["machine", "web", "first", "steps", "house", "checked", "part", "step"]
theorem scTr : FnScope nTr ["machine", "web", "first", "steps", "house"] (defScope sTruthOf) := ⟨rfl, rfl, rfl, by decide +kernel, rfl, by decide +kernel, by decide +kernel⟩
theorem ok_truth {f fN fC fP fM CB CS CH M W : Addr} {fd fdN fdC fdP fdM : FuncData} (D : Df K mg "truth_of" sTruthOf ["machine", "web", "first", "steps", "house"] f fd) (DN : Df K mg "need_state" sNeedS ["machine", "state"] fN fdN) (DC : Df K mg "check_steps" sCheckSteps ["machine", "web", "value"] fC fdC) (DP : Df K mg "part_of" sPart ["web", "house"] fP fdP) (DM : Df K mg "moved" sMoved ["machine", "state", "row"] fM fdM) (cs : Cs mg)
    (GN : FnOk P w K mg base (L2.CX P w) 3 fN fdN ["machine", "state"] (spNeed M CS "state" nS)) (GC : FnOk P w K mg base (L2.CX P w) 6 fC fdC ["machine", "web", "value"] (spCkSteps K M W CB)) (GP : FnOk P w K mg base (L2.CX P w) 4 fP fdP ["web", "house"] (spPart K W CH)) (GM : FnOk P w K mg base CX0 1 fM fdM ["machine", "state", "row"] (spMovedL M)) :
    FnOk P w K mg base (L2.CX P w) 7 f fd ["machine", "web", "first", "steps", "house"] (spTruth K M W CB CH) := by
  obtain ⟨t1, hc1⟩ := cs.doo
  refine D.F.okX scTr (fun vs H Q E h => ?_) (fun cdv A outer s H vs Q E hr h => ?_)
  · obtain ⟨e, v, hv, o, oh, rfl, _⟩ := h
    rfl
  · obtain ⟨e, v, hv, o, oh, rfl, hE, hfi, hs, kh, q1, q2⟩ := h
    refine ⟨_, pss_cons (ps_expr (pc DN GN (hr.mono (by decide)) (pass1 (takes_of rfl rfl rfl rfl)) (pa_cons (pv 0) (pa_cons (pv 2) pa_nil))))
      (pss_cons (ps_set (i := 5) scTr.nd rfl (.inl rfl) (pc DC GC hr (pass1 (takes_of rfl rfl rfl rfl)) (pa_cons (pv 0) (pa_cons (pv 1) (pa_cons (pv 3) pa_nil)))))
      (pss_cons (ps_set (i := 6) scTr.nd rfl (.inr rfl) (pc DP GP (hr.mono (by decide)) (pass1 (takes_of rfl rfl rfl rfl)) (pa_cons (pv 1) (pa_cons (pv 4) pa_nil))))
      (pss_one (ps_ret (pc DM GM (hr.mono (by decide)) pass0 (pa_cons (pv 0) (pa_cons (pv 2) (pa_cons (pe_lc (own := [("step", 7)]) (g := gName 7) rfl scTr.nd (pi_tup (pv 5)) (blkOk_by (N := nTr) (sc := defScope sTruthOf) (by decide +kernel)) (fun _ _ _ _ _ => pg_name (i := 7) scTr.nd rfl (Or.inl rfl))
          (fun _ _ _ _ _ => pts_one (PW.pt (pw_and (pt_cmpR op_eq (pe_ix (ixTK (K := K) rfl) (pv 7) pe_int (fun _ _ => rfl)) (pe_glob (v := .str "do") (by rfl) hc1 ⟨_, rfl⟩) (nomark _)) (pw_and1 (pt_cmpR (opInK (K := K) rfl) (pe_ix (ixTK (K := K) rfl) (pv 7) pe_int (fun _ _ => rfl)) (pv 6) rfl)))))
          (fun _ _ _ _ _ => pe_ix (ixTK (K := K) rfl) (pv 7) pe_int (fun _ _ => rfl))) pa_nil)))))))), ?_⟩
    have hb0 : belowB (.int e.fi) (nS e.tb : Int) = true := by
      show (decide (0 ≤ e.fi) && decide (e.fi < (nS e.tb : Int))) = true
      rw [decide_eq_true hfi.1, decide_eq_true hfi.2]; rfl
    refine ⟨_, rfl, _, rfl, e.m, e.ta, e.tb, .int e.fi, rfl, hE.mc, ⟨K, none, .int _⟩, fun _ => ?_, fun hb => by rw [hb0] at hb; cases hb⟩
    refine ⟨_, rfl, _, rfl, _, rfl, e.m, e.ta, e.w, e.tb, v, o, e.n, e.ts, rfl, hE.mc, hE.wb, hs, fun z ez => q1 z ez, fun ss eo hok hl p H1 s1 hp => ?_⟩
    obtain ⟨qa, qb⟩ := q2 ss eo hok hl
    dsimp only [List.set]
    refine ⟨_, rfl, _, rfl, e.w, hv, oh, e.n, e.ts, rfl, hE.wb.same s1, hE.wv, kh.same s1, fun hb => (qa hb).mono s1, fun h eh hn ns pp H2 s2 hpp hP => ?_⟩
    dsimp only [List.set]
    obtain ⟨as, hp1, hp2⟩ := hp.same s2
    refine ⟨_, rfl, _, rfl, _, rfl, p, rfl, ⟨_, SqT.of hp1⟩, fun D0 hD0 => lc_tup (K := K) (a := p) (xs := as.map V.ref) (fun i H3 => Same H2 H3 ∧ H3 D0 = some (.lst (vrow (dOf ns (ss.take i))))) ⟨same_new hD0, by rw [upd_same]; rfl⟩ (fun i H3 _ ⟨s3, _⟩ => SqT.of (s3 _ _ hp1)) ?_ ?_⟩
    · rintro i x H3 hx ⟨s3, hD3⟩
      obtain ⟨a, st, rfl, ha, hst, hat⟩ := hp2.get hx
      have ea := take_succ hst
      have hla : (dOf ns (ss.take i)).length ≤ 400 := Nat.le_trans (dOf_len ns _) (by rw [List.length_take]; omega)
      have hat3 := s3 _ _ hat
      refine ⟨rfl, ?_⟩
      cases st with
      | dd h' d =>
        have rd : ∀ (j : Nat) v, (stV (.dd h' d))[j]? = some v → atI (stV (.dd h' d)) (j : Int) = some v := fun j v hv => at_i hv
        refine ⟨_, rfl, a, _, (0 : Int), .str "do", rfl, rfl, SqT.of hat3, rd 0 _ rfl, ⟨rfl, true, congrArg V.bl (decide_eq_true rfl), iteY rfl ?_⟩⟩
        refine ⟨_, rfl, a, _, (1 : Int), .int (h' : Int), rfl, rfl, SqT.of hat3, rd 1 _ rfl, _, rfl, pp, vn ns, rfl, .inr (SqT.of (s3 _ _ hpp)), rfl, flat_vn ns, _, rfl, ?_⟩
        rw [inV_vn]
        refine ifD (fun ez => ?_) fun ez => ?_
        · have hm : h' ∈ ns := by simpa using ez
          refine ⟨_, rfl, a, _, (2 : Int), .int (d : Int), rfl, rfl, SqT.of hat3, rd 2 _ rfl, _, hD3, szl (by rw [vrow_len]; omega), fun c o e => by rw [upd_ne (ne_of_none e hD0)]; exact s3 _ _ e, ?_⟩
          rw [upd_same, ea, dOf_app]
          have : dOf ns [Stp.dd h' d] = [(d : Int)] := by show (if h' ∈ ns then (d : Int) :: [] else []) = _; rw [if_pos hm]
          rw [this, vrow, vrow, List.map_append]; rfl
        · have hm : h' ∉ ns := by simpa using ez
          refine ⟨s3, ?_⟩
          have : dOf ns [Stp.dd h' d] = [] := by show (if h' ∈ ns then (d : Int) :: [] else []) = _; rw [if_neg hm]
          rw [ea, dOf_app, this, List.append_nil]; exact hD3
      | mt t =>
        have rd : ∀ (j : Nat) v, (stV (.mt t))[j]? = some v → atI (stV (.mt t)) (j : Int) = some v := fun j v hv => at_i hv
        refine ⟨_, rfl, a, _, (0 : Int), .str "meet", rfl, rfl, SqT.of hat3, rd 0 _ rfl, ⟨rfl, false, congrArg V.bl (decide_eq_false (by decide +kernel)), ?_⟩⟩
        refine ⟨s3, ?_⟩
        rw [ea, dOf_app, show dOf ns [Stp.mt t] = [] from rfl, List.append_nil]; exact hD3
    · rintro H3 ⟨s3, hD3⟩
      rw [List.take_of_length_le (by rw [List.length_map, hp2.1]; exact Nat.le_refl _)] at hD3
      refine ⟨e.m, e.ta, e.tb, e.fi, D0, dOf ns ss, rfl, ((hE.mc.same s1).same s2).same s3, hE.wf, hfi, hD3, dOf_rng ns ss hok, ?_⟩
      exact qb h ns H3 eh hn hP ((s1.trans s2).trans s3)
end
end K1
/-! several clauses 'except x as n', the same n -/
namespace K1
open PySem PySem.Spec PyProof.Rows L2
/-- what the clauses wish of an exception of the body, one after the other; slot i is the name's -/
def wAll (K : PySem.W.Frag) (i : Nat) (Wout : WX) (D : Ends) : List (Value × (Addr → Value → Option Addr → TS)) → WX
  | [] => Wout
  | (c, ts) :: r => fun cls d σ H => ∃ b, PySem.W.exmOne K cls c = some b ∧ (b = true → ∀ a, H a = none → ts a cls d { nx := fun σ' H' => D.nx (σ'.set i none) H', rt := D.rt, bk := fun σ' H' => D.bk (σ'.set i none) H', ct := fun σ' H' => D.ct (σ'.set i none) H' } (σ.set i (some (.ref a))) H) ∧
      (b = false → wAll K i Wout D r cls d σ H)
inductive HdsA (X : Cx) (n : Str) : List ExceptHandler → List (Value × (Addr → Value → Option Addr → TS)) → Prop
  | nil : HdsA X n [] []
  | cons {x : Str} {c : Value} {ts : Addr → Value → Option Addr → TS} {b₀ : Stmt} {suite : List Stmt} {np pos' : Pos} {hds : List ExceptHandler} {l : List (Value × (Addr → Value → Option Addr → TS))} (hc : Names X x c)
      (hsu : ∀ (a : Addr) (oe : Obj) (cls : Value) (d : Option Addr) (pn : List (Addr × Obj)), Zc cls d oe → (∃ vs, oe.data = .fields vs) → PSs (X.suite a ((a, oe) :: pn)) (b₀ :: suite) (ts a cls d)) (r : HdsA X n hds l) :
      HdsA X n (.ExceptHandler (some (.Name x np)) (some n) (b₀ :: suite) pos' :: hds) ((c, ts) :: l)
section
variable {X : Cx} {n : Str} {i : Nat} {body : List Stmt} {h₀ : ExceptHandler} {hds : List ExceptHandler} {l : List (Value × (Addr → Value → Option Addr → TS))} {pos : Pos} {tb : WX → TS} {Wout : WX}
theorem ps_try_all (hs : X.stack = X.env :: X.outer) (hf : X.env.frame = some X.env.locals) (hN : X.N.Nodup) (hi : X.N[i]? = some n) (hln : X.env.kindOf n = some .local) (tk : Takes X Wout)
    (hb : ∀ (W : WX) (pn : List (Addr × Obj)) (xe : Value → Shared → Prop), Takes (X.tr pn xe) W → PassesOwn (model X.prog X.w) X.A X.env xe → PSs (X.tr pn xe) body (tb W))
    (hh : HdsA X n (h₀ :: hds) l) : PS X (.Try body (h₀ :: hds) [] [] pos) (fun D σ H => tb (wAll X.K i Wout D l) D σ H) := by
  refine ⟨fun pins s σ H D I h => ?_⟩
  have ok := I.ok
  have hfr : X.A.frames = some (X.env :: X.outer) := by rw [ok.frames, hs]
  have hloc : Loc X.env.scope n := .inl hln
  refine wpAny_Try_except ?_
  refine wpAny_mono ((hb (wAll X.K i Wout D l) (X.pn ++ pins) (fun e s₁ => wpAny (model X.prog X.w) X.A (noteFrame e X.env) (fun _ s₂ => wpAny (model X.prog X.w) X.A (setFlight e none) (fun _ s₃ =>
    wpAny (model X.prog X.w) X.A (handleBy e X.env (h₀ :: hds)) (SP X pins D) X.xe s₃) X.xe s₂) X.xe s₁) (fun u s' xx => ?_) PassesOwn.looking).run [] s σ H D (I.toTry _) h) (fun f s1 hsp => ?_) (fun e s1 he => he)
  · -- the catch
    obtain ⟨a, B, sI, pins', σ', H', cls, d, rfl, J', nb, up, sky, na, os, ag, w⟩ := xx
    have J : Inv X pins σ' H' sI := J'.ofTry ok
    have sky' : Sky B (X.env :: X.outer) a (Zc cls d) X.env.locals s'.heap := by rw [← hs]; exact sky
    show wpAny (model X.prog X.w) X.A (noteFrame (.ref a) X.env) _ _ _
    refine Sky.land Zc.steady hfr hf sky' fun h3 fl3 up3 => ?_
    have J3 : Inv X pins σ' H' { s' with heap := h3 } := J.landed nb fl3.1 (up.trans up3) os ag
    obtain ⟨oe3, vs3, he3, hz3, hd3⟩ := fl3.there
    have notFr : ∀ {h : Heap} {o : Obj} {vs : Array Value}, h.FunFrames B (X.env :: X.outer) → h.get? a = some o → o.data = .fields vs → a ∉ frs (X.env :: X.outer) := fun {h o vs} ff e dd hm => by
      obtain ⟨_, o', e', hnf⟩ := ff.mem hm
      rw [e] at e'; cases e'
      exact hnf _ dd
    have nfr := notFr fl3.2.2.1 he3 hd3
    have nL : a ≠ X.env.locals := fun z => nfr (List.mem_filterMap.mpr ⟨X.env, List.mem_cons_self, by rw [hf, z]⟩)
    have nF : a ∉ X.fs := fun hm => by
      obtain ⟨e, he, q⟩ := List.mem_filterMap.mp hm
      exact nfr (List.mem_filterMap.mpr ⟨e, List.mem_cons_of_mem _ he, q⟩)
    have S3 := J3.suite he3 hd3 na nL nF
    have go : ∀ {hds' : List ExceptHandler} {l' : List (Value × (Addr → Value → Option Addr → TS))}, HdsA X n hds' l' → wAll X.K i Wout D l' cls d σ' H' →
        wpAny (model X.prog X.w) X.A (handleBy (.ref a) X.env hds') (SP X pins D) X.xe { s' with heap := h3 } := by
      intro hds' l' hk
      induction hk with
      | nil =>
        intro w
        refine wpAny_handleBy_nil ?_
        obtain ⟨k1, k2, k3, oe, vs, T, oT, ts', he, hz, hd, h1, hr⟩ := id fl3
        unfold PySem.passOn
        refine wpAny_bind (wpAny_field he hd h1 ?_)
        rw [if_neg (show ¬ ((Value.ref T == Value.none) = true) from by simp)]
        have fin : wpAny (model X.prog X.w) X.A (setFlight (.ref a) X.env.frame) (fun _ s4 => wpAny (model X.prog X.w) X.A (throw (.ref a) : Sem Flow) (SP X pins D) X.xe s4) X.xe { s' with heap := h3 } := by
          rw [hf]
          refine HandSPX.setFlight_upZ fl3 fun h4 hh4 up4 => wpAny_throw (tk _ _ ?_)
          exact ⟨a, B, sI, pins, σ', H', cls, d, rfl, J, nb, (up.trans up3).trans up4, .inr (.inr (by rw [hs]; exact hh4)), na, os, ag, w⟩
        first
          | exact wpAny_bind (wpAny_pure (wpAny_bind fin))
          | exact wpAny_bind fin
      | @cons x c ts b₀ suite np pos' hds2 l2 hc hsu r ih =>
        intro w
        obtain ⟨b, hb1, hyes, hno⟩ := w
        refine wpAny_handleBy_cons (codeAny_handlers_test ?_) (by intro q; cases q)
        have LT : PySem.W.Looks (model X.prog X.w) h3 (typeOf (.ref a)) cls := fun A Q E s k q => wpAny_typeOf_ref (k _ _ he3) (by rw [hz3.1]; exact q)
        have LM := PySem.W.exm_one (M := model X.prog X.w) (J3.kIn) LT hb1
        have test : ∀ {Q : Value → Shared → Prop} {E : Value → Shared → Prop}, Q c { s' with heap := h3 } → wpAny (model X.prog X.w) (X.A.mark (some (.ref a))) (eval (.Name x np) X.env) Q E { s' with heap := h3 } := fun {Q E} q => by
          obtain ⟨hg, hdbg, hm | ⟨hm, hv, hnn⟩⟩ := hc
          · exact ld_glob (X := X.suite a ((a, oe3) :: (X.pn ++ pins))) S3 hg hm q hdbg
          · exact ld_blt (X := X.suite a ((a, oe3) :: (X.pn ++ pins))) S3 hg hm hv q hnn hdbg
        refine test (LM.here ?_)
        cases b with
        | true =>
          refine codeAny_handlers_suite_as ?_
          refine HandSPX.lands_againZ fl3 fun h4 fl4 up4 => ?_
          have J4 : Inv X pins σ' H' { s' with heap := h4 } := J.landed nb fl4.1 ((up.trans up3).trans up4) os ag
          obtain ⟨oe4, vs4, he4, hz4, hd4⟩ := fl4.there
          have S4 := J4.suite he4 hd4 na nL nF
          refine store_ok (X := X.suite a ((a, oe4) :: (X.pn ++ pins))) (v := .ref a) S4 hN hi hloc rfl (fun s5 S5 => ?_) (.inr hln)
          refine wpAny_mono ((hsu a oe4 cls d (X.pn ++ pins) hz4 ⟨_, hd4⟩).run [] s5 _ H' _ S5 (hyes rfl a na)) (fun f s6 hsp => ?_) (fun _ _ z => False.elim z)
          have end_ : ∀ {σ6 : L2.St} {H6 : Hp} {Q : Shared → Prop}, Inv (X.suite a ((a, oe4) :: (X.pn ++ pins))) [] σ6 H6 s6 → (∀ s7, Inv X pins (σ6.set i none) H6 s7 → Q s7) →
              wpAny (model X.prog X.w) X.A (do bindName X.env n .none; unbindBehindTheSuite X.env n pos') (fun _ s7 => Q s7) X.xe s6 := fun {σ6 H6 Q} S6 hq => gone_ok (S6.unsuite ok) hN hi hln hq
          cases f with
          | next =>
            obtain ⟨σ6, H6, S6, q6⟩ := hsp
            exact end_ S6 fun s7 J7 => ⟨_, _, J7, q6⟩
          | brk =>
            obtain ⟨σ6, H6, S6, q6⟩ := hsp
            exact end_ S6 fun s7 J7 => ⟨_, _, J7, q6⟩
          | cont =>
            obtain ⟨σ6, H6, S6, q6⟩ := hsp
            exact end_ S6 fun s7 J7 => ⟨_, _, J7, q6⟩
          | ret u =>
            obtain ⟨v6, σ6, H6, S6, r6, q6⟩ := hsp
            exact end_ S6 fun s7 J7 => ⟨_, _, _, J7, r6, q6⟩
        | false =>
          show wpAny _ X.A (handleBy (.ref a) X.env hds2) _ _ _
          exact ih (hno rfl)
    exact go hh w
  · cases f with
    | next =>
      obtain ⟨σ', H', J', q⟩ := hsp
      exact wpAny_execs_nil ⟨σ', H', J'.ofTry ok, q⟩
    | brk =>
      obtain ⟨σ', H', J', q⟩ := hsp
      exact ⟨σ', H', J'.ofTry ok, q⟩
    | cont =>
      obtain ⟨σ', H', J', q⟩ := hsp
      exact ⟨σ', H', J'.ofTry ok, q⟩
    | ret u =>
      obtain ⟨v, σ', H', J', r, q⟩ := hsp
      exact ⟨v, σ', H', J'.ofTry ok, r, q⟩
end
end K1
namespace K1
open PySem PySem.Spec PyProof.Rows L2
/-! ### the law's ear -/
theorem takes_len {X : Cx} {W : WX} (tk : Takes X W) : Takes X (fun cls d σ H => σ.length = X.N.length → W cls d σ H) := fun u s' ⟨a, B, sI, pins', σ', H', cls, d, e, J, nb, up, sky, na, os, ag, w⟩ =>
  tk u s' ⟨a, B, sI, pins', σ', H', cls, d, e, J, nb, up, sky, na, os, ag, w J.len⟩
/-- what tells the classes apart -/
structure Exm (K : PySem.W.Frag) (CB CU CS CD CH CT N : Addr) : Prop where
  e00 : PySem.W.exmOne K (.ref CB) (.ref CB) = some true
  e10 : PySem.W.exmOne K (.ref CU) (.ref CB) = some false
  e11 : PySem.W.exmOne K (.ref CU) (.ref CU) = some true
  e20 : PySem.W.exmOne K (.ref CS) (.ref CB) = some false
  e21 : PySem.W.exmOne K (.ref CS) (.ref CU) = some false
  e22 : PySem.W.exmOne K (.ref CS) (.ref CS) = some true
  e30 : PySem.W.exmOne K (.ref CD) (.ref CB) = some false
  e31 : PySem.W.exmOne K (.ref CD) (.ref CU) = some false
  e32 : PySem.W.exmOne K (.ref CD) (.ref CS) = some false
  e33 : PySem.W.exmOne K (.ref CD) (.ref CD) = some true
  e40 : PySem.W.exmOne K (.ref CH) (.ref CB) = some false
  e41 : PySem.W.exmOne K (.ref CH) (.ref CU) = some false
  e42 : PySem.W.exmOne K (.ref CH) (.ref CS) = some false
  e43 : PySem.W.exmOne K (.ref CH) (.ref CD) = some false
  e44 : PySem.W.exmOne K (.ref CH) (.ref CH) = some true
  e50 : PySem.W.exmOne K (.ref CT) (.ref CB) = some false
  e51 : PySem.W.exmOne K (.ref CT) (.ref CU) = some false
  e52 : PySem.W.exmOne K (.ref CT) (.ref CS) = some false
  e53 : PySem.W.exmOne K (.ref CT) (.ref CD) = some false
  e54 : PySem.W.exmOne K (.ref CT) (.ref CH) = some false
  e55 : PySem.W.exmOne K (.ref CT) (.ref CT) = some true
/-- what the law hears of an error -/
def HE (K : PySem.W.Frag) (CB CU CS CD CH CT : Addr) (Q : VK) : XK := fun cls d H => ∃ dd : Addr, d = some dd ∧
  ((cls = .ref CB ∧ ∃ v, H dd = some (.xd [("at", v)]) ∧ ∀ p H', Same H H' → H p = none → H' p = some (.lst [.str "steps", v]) → Q (.ref p) H') ∨
   (cls = .ref CU ∧ ∃ x a b, H dd = some (.xd (uF x a b)) ∧ ∀ p H', Same H H' → H p = none → H' p = some (.lst [.str "untold", x, a, b]) → Q (.ref p) H') ∨
   (cls = .ref CS ∧ ∃ v, H dd = some (.xd [("state", v)]) ∧ ∀ p H', Same H H' → H p = none → H' p = some (.lst [.str "state", v]) → Q (.ref p) H') ∨
   (cls = .ref CD ∧ ∃ v, H dd = some (.xd [("deed", v)]) ∧ ∀ p H', Same H H' → H p = none → H' p = some (.lst [.str "deed", v]) → Q (.ref p) H') ∨
   (cls = .ref CH ∧ ∃ v, H dd = some (.xd [("house", v)]) ∧ ∀ p H', Same H H' → H p = none → H' p = some (.lst [.str "house", v]) → Q (.ref p) H') ∨
   (cls = .ref CT ∧ ∃ v, H dd = some (.xd [("tie", v)]) ∧ ∀ p H', Same H H' → H p = none → H' p = some (.lst [.str "tie", v]) → Q (.ref p) H'))
def TTh (K : PySem.W.Frag) (CB CU CS CD CH CT : Addr) : (XK → Hp → VK → Prop) → Hp → VK → Prop := fun tl H Q => tl (HE K CB CU CS CD CH CT Q) H fun v H' => 0 ≤ sizeLine ∧ ∀ p, H' p = none → Q (.ref p) (upd H' p (.lst []))
theorem scHe : FnScope ["_law_work", "error"] ["_law_work"] (defScope sLHeard) := ⟨rfl, rfl, rfl, by decide +kernel, rfl, by decide +kernel, by decide +kernel⟩
theorem heard_gives {X : Cx} {CB CU CS CD CH CT N i0 i2 i3 i4 i5 g : Addr} {k : Nat} {b0 b2 b3 b4 b5 : List Value} {q0 q2 q3 q4 q5 : Str} {cdg : Value} {q : Str} (B : Bt X.mg) (U : UnC X.K X.mg CU) (T0 : LAt.Txt X.K X.mg "BadSteps" q0 b0 CB i0) (T2 : LState.Txt X.K X.mg "NoState" q2 b2 CS i2) (T3 : LDeed.Txt X.K X.mg "NoDeed" q3 b3 CD i3) (T4 : LHouse.Txt X.K X.mg "NoHouse" q4 b4 CH i4) (T5 : LTie.Txt X.K X.mg "NoTie" q5 b5 CT i5) (ex : Exm X.K CB CU CS CD CH CT N) (hgd : X.A.guards = some []) (hr : Room (k + 2) X.A) :
    LamX.GivesTo X ["_law_work", "error"] "_law_heard" (defScope sLHeard) g cdg (defBody sLHeard) "_law_work" q (TTh X.K CB CU CS CD CH CT) := by
  intro f c' s H Q tl act hc h
  have hu := (hr.deeper (envOfC "_law_heard" (defScope sLHeard) s.heap.objs.size g cdg)).units
  generalize hZ : (cxOf C8.CX0 X.prog X.w X.K X.mg X.base ["_law_work", "error"] "_law_heard" (defScope sLHeard) g cdg X.A X.stack s H C8.E0) = Z at act ⊢
  subst hZ
  refine ⟨_, pss_cons (ps_try_all (n := "error") (i := 1) (tb := fun W D σ H => ∃ Ech : XK, (∀ cls d (σ' : L2.St) H', σ'.length = 2 → Ech cls d H' → W cls d σ' H') ∧ σ[0]? = some (some (.ref f)) ∧ H c' = some (LamX.CodeO c' q) ∧ tl Ech H fun v H1 => D.nx σ H1)
      rfl rfl scHe.nd rfl rfl LamX.takes0 (fun W pn xe tk _ => ?_)
      (.cons (c := .ref CB) ⟨rfl, by decide, .inl T0.gC⟩ (fun a oe cls d pn hz hf => pss_one (ps_ret (pe_lst (pa_cons pe_str (pa_cons (pe_by_LAt T0 hz hf (pv 1)) pa_nil)))))
      (.cons (c := .ref CU) ⟨rfl, by decide, .inl U.g⟩ (fun a oe cls d pn hz hf => pss_one (ps_ret (pe_lst (pa_cons pe_str (pa_cons (pe_xf U.f U.n1 hz hf (pv 1)) (pa_cons (pe_xf U.f U.n2 hz hf (pv 1)) (pa_cons (pe_xf U.f U.n3 hz hf (pv 1)) pa_nil)))))))
      (.cons (c := .ref CS) ⟨rfl, by decide, .inl T2.gC⟩ (fun a oe cls d pn hz hf => pss_one (ps_ret (pe_lst (pa_cons pe_str (pa_cons (pe_by_LState T2 hz hf (pv 1)) pa_nil)))))
      (.cons (c := .ref CD) ⟨rfl, by decide, .inl T3.gC⟩ (fun a oe cls d pn hz hf => pss_one (ps_ret (pe_lst (pa_cons pe_str (pa_cons (pe_by_LDeed T3 hz hf (pv 1)) pa_nil)))))
      (.cons (c := .ref CH) ⟨rfl, by decide, .inl T4.gC⟩ (fun a oe cls d pn hz hf => pss_one (ps_ret (pe_lst (pa_cons pe_str (pa_cons (pe_by_LHouse T4 hz hf (pv 1)) pa_nil)))))
      (.cons (c := .ref CT) ⟨rfl, by decide, .inl T5.gC⟩ (fun a oe cls d pn hz hf => pss_one (ps_ret (pe_lst (pa_cons pe_str (pa_cons (pe_by_LTie T5 hz hf (pv 1)) pa_nil)))))
      .nil))))))) (pss_one (ps_ret (pe_lst pa_nil))), ?_⟩
  · refine ⟨fun pins s' σ H' D I h' => ?_⟩
    obtain ⟨Ech, hW, h1, h2, h3⟩ := h'
    have hp := fun p1 p2 => act (fun cls d σ H => σ.length = 2 → W cls d σ H) pn xe Ech p1 p2 (takes_len tk) (fun cls d σ' H' e hl => hW cls d σ' H' hl e)
    exact (pss_one (ps_expr (hp _ _))).run pins s' σ H' D I ⟨h1, h2, h3⟩
  · refine ⟨HE X.K CB CU CS CD CH CT Q, fun cls d σ' H' hl he => ?_, rfl, hc, ?_⟩
    rotate_left
    · exact h
    obtain ⟨dd, rfl, k⟩ := he
    obtain ⟨v0, v1, rfl⟩ : ∃ v0 v1, σ' = [v0, v1] := by
      match σ', hl with
      | [v0, v1], _ => exact ⟨v0, v1, rfl⟩
    rcases k with ⟨rfl, v, hx, k⟩ | ⟨rfl, x, a, b, hx, k⟩ | ⟨rfl, v, hx, k⟩ | ⟨rfl, v, hx, k⟩ | ⟨rfl, v, hx, k⟩ | ⟨rfl, v, hx, k⟩
    · refine ⟨true, ex.e00, fun _ a na => ?_, fun z => (by cases z)⟩
      exact ⟨_, rfl, rfl, rfl, dd, v, rfl, hx, (by show 2 ≤ sizeLine; decide), fun p hp => k p _ (same_new hp) hp upd_same⟩
    · refine ⟨false, ex.e10, fun z => (by cases z), fun _ => ⟨true, ex.e11, fun _ e na => ?_, fun z => (by cases z)⟩⟩
      exact ⟨_, rfl, rfl, rfl, dd, _, x, rfl, hx, rfl, _, rfl, rfl, rfl, dd, _, a, rfl, hx, rfl, _, rfl, rfl, rfl, dd, _, b, rfl, hx, rfl, (by show 4 ≤ sizeLine; decide), fun p hp => k p _ (same_new hp) hp upd_same⟩
    · refine ⟨false, ex.e20, fun z => (by cases z), fun _ => ⟨false, ex.e21, fun z => (by cases z), fun _ => ⟨true, ex.e22, fun _ a na => ?_, fun z => (by cases z)⟩⟩⟩
      exact ⟨_, rfl, rfl, rfl, dd, v, rfl, hx, (by show 2 ≤ sizeLine; decide), fun p hp => k p _ (same_new hp) hp upd_same⟩
    · refine ⟨false, ex.e30, fun z => (by cases z), fun _ => ⟨false, ex.e31, fun z => (by cases z), fun _ => ⟨false, ex.e32, fun z => (by cases z), fun _ => ⟨true, ex.e33, fun _ a na => ?_, fun z => (by cases z)⟩⟩⟩⟩
      exact ⟨_, rfl, rfl, rfl, dd, v, rfl, hx, (by show 2 ≤ sizeLine; decide), fun p hp => k p _ (same_new hp) hp upd_same⟩
    · refine ⟨false, ex.e40, fun z => (by cases z), fun _ => ⟨false, ex.e41, fun z => (by cases z), fun _ => ⟨false, ex.e42, fun z => (by cases z), fun _ => ⟨false, ex.e43, fun z => (by cases z), fun _ => ⟨true, ex.e44, fun _ a na => ?_, fun z => (by cases z)⟩⟩⟩⟩⟩
      exact ⟨_, rfl, rfl, rfl, dd, v, rfl, hx, (by show 2 ≤ sizeLine; decide), fun p hp => k p _ (same_new hp) hp upd_same⟩
    · refine ⟨false, ex.e50, fun z => (by cases z), fun _ => ⟨false, ex.e51, fun z => (by cases z), fun _ => ⟨false, ex.e52, fun z => (by cases z), fun _ => ⟨false, ex.e53, fun z => (by cases z), fun _ => ⟨false, ex.e54, fun z => (by cases z), fun _ => ⟨true, ex.e55, fun _ a na => ?_, fun z => (by cases z)⟩⟩⟩⟩⟩⟩
      exact ⟨_, rfl, rfl, rfl, dd, v, rfl, hx, (by show 2 ≤ sizeLine; decide), fun p hp => k p _ (same_new hp) hp upd_same⟩
structure FunC (K : PySem.W.Frag) (x qual : Str) (st : Stmt) (f : Addr) (fd : FuncData) (cdv : Value) : Prop where
  ex : ∃ (oc : Value) (od : Option Addr) (kV doc pm : Value) (an : Option Addr) (ct : Value) (osl : Array (Option Value)),
    fd = PySem.W.fnOf x qual (defArgs st) (defBody st) (defScope st) .none kV doc pm an cdv ct ∧ K.lookup f = some ⟨oc, od, .func fd, osl⟩ ∧ PySem.W.codeIn K cdv qual = true
  kp : PySem.W.keepIn K (.ref f) = true
theorem FunC.fun {K : PySem.W.Frag} {x qual : Str} {st : Stmt} {f : Addr} {fd : FuncData} {cdv : Value} (F : FunC K x qual st f fd cdv) : Fun K x qual st f fd := by
  obtain ⟨⟨oc, od, kV, doc, pm, an, ct, osl, h1, h2, h3⟩, kp⟩ := F
  exact ⟨⟨oc, od, kV, doc, pm, an, cdv, ct, osl, h1, h2, h3⟩, kp⟩
section
variable {P : Program} {w : World} {K : PySem.W.Frag} {mg : Str → Option Value} {base : Heap}
theorem FunC.ok {x qual : Str} {st : Stmt} {f : Addr} {fd : FuncData} {cdv : Value} {N ps : List Str} {k : Nat} {sp : Sp} (F : FunC K x qual st f fd cdv) (S : FnScope N ps (defScope st)) (len : ∀ vs H Q E, sp vs H Q E → vs.length = ps.length)
    (hbody : ∀ (A : Around) (outer : List Env) (s : Shared) (H : Hp) (vs : List V) (Q : VK) (E : XK), Room k (A.deeper (envOfC qual (defScope st) s.heap.objs.size f cdv)) → sp vs H Q E →
      ∃ t, PSs (cxOf CX0 P w K mg base N qual (defScope st) f cdv A outer s H E).nox (defBody st) t ∧ t { nx := fun _ H' => Q .non H', rt := Q } (start N vs) H) : FnOk P w K mg base CX0 (k + 1) f fd ps sp := by
  obtain ⟨oc, od, kV, doc, pm, an, ct, osl, rfl, lk, hcd⟩ := F.ex
  refine fn_of lk hcd S len fun A outer s H vs Q E hr hsp => ?_
  obtain ⟨t, h, q⟩ := hbody A outer s H vs Q E hr hsp
  exact ⟨t, h.nox, q⟩
theorem FunC.okG {x qual : Str} {st : Stmt} {f : Addr} {fd : FuncData} {cdv : Value} {N ps : List Str} {k : Nat} {sp : Sp} (F : FunC K x qual st f fd cdv) (S : FnScope N ps (defScope st)) (len : ∀ vs H Q E, sp vs H Q E → vs.length = ps.length)
    (hbody : ∀ (A : Around) (outer : List Env) (s : Shared) (H : Hp) (vs : List V) (Q : VK) (E : XK), Room k (A.deeper (envOfC qual (defScope st) s.heap.objs.size f cdv)) → (A.deeper (envOfC qual (defScope st) s.heap.objs.size f cdv)).guards = some [] → sp vs H Q E →
      ∃ t, PSs (cxOf CX0 P w K mg base N qual (defScope st) f cdv A outer s H E).nox (defBody st) t ∧ t { nx := fun _ H' => Q .non H', rt := Q } (start N vs) H) : FnG P w K mg base (k + 1) f fd ps sp := by
  obtain ⟨oc, od, kV, doc, pm, an, ct, osl, rfl, lk, hcd⟩ := F.ex
  refine ⟨len, fun A outer s H args us vs Q E hr hgd e0 hb r hsp => ?_⟩
  refine LamX.run_ofS lk hcd S hr e0 hb r (len _ _ _ _ hsp) fun hr' => ?_
  obtain ⟨t, h, q⟩ := hbody A outer s H vs Q E hr' hgd hsp
  exact ⟨t, h.nox, q⟩
end
structure Hd (K : PySem.W.Frag) (mg : Str → Option Value) (base : Heap) (CB CU CS CD CH CT : Addr) : Prop where
  B : Bt mg
  df : ∃ g fd, Df K mg "_law_heard" sLHeard ["_law_work"] g fd
  u : UnC K mg CU
  t0 : ∃ q b i, LAt.Txt K mg "BadSteps" q b CB i
  t2 : ∃ q b i, LState.Txt K mg "NoState" q b CS i
  t3 : ∃ q b i, LDeed.Txt K mg "NoDeed" q b CD i
  t4 : ∃ q b i, LHouse.Txt K mg "NoHouse" q b CH i
  t5 : ∃ q b i, LTie.Txt K mg "NoTie" q b CT i
  ex : ∃ N, mg "NetError" = some (.ref N) ∧ Exm K CB CU CS CD CH CT N
theorem pHeard {X : Cx} {c P CB CU CS CD CH CT : Addr} {k : Nat} {qn : Str} {T : List (Addr × Str)} {params : Arguments} {body : Expr} {scope : Scope} {t : XK → TE} {p lpos pos : Pos} (hd : Hd X.K X.mg X.base CB CU CS CD CH CT) (TB : LamX.TabB X.base X.mg c P) (hgd : X.A.guards = some []) (hr : Room (k + 2) X.A) (hcode : X.env.code = .ref c)
    (hq : X.env.qual ++ "<lambda>" = qn) (hm : (P, qn) ∈ T) (hun : ∀ p ∈ T, p.1 = P → p.2 = qn) (hg : Gl X "_law_heard") (L : LamX.LamS X.env.scope scope) (hdef : defaultsOf params X.env = ([], []))
    (hbind : ∀ (q : Str) (cl : List (Str × Addr)) (pm cv ctv : Value), bindArgs (PySem.W.kla_fn "<lambda>" q params body scope cl pm cv ctv) ⟨[], []⟩ = pure [])
    (hbody : ∀ (A : Around) (outer : List Env) (s : Shared) (H : Hp) (E : XK) (f c' : Addr), Room k (A.deeper (LamX.lamEnv X scope s.heap.objs.size f c')) → PE (LamX.lamCx X A outer s H E scope f c') body (t E)) :
    PE X (.Call (.Name "_law_heard" p) [.Lambda params body scope lpos] [] pos) (LamX.tLam T (TTh X.K CB CU CS CD CH CT) t) := by
  obtain ⟨g, fd, D⟩ := hd.df
  obtain ⟨q0, b0, i0, T0⟩ := hd.t0
  obtain ⟨q2, b2, i2, T2⟩ := hd.t2
  obtain ⟨q3, b3, i3, T3⟩ := hd.t3
  obtain ⟨q4, b4, i4, T4⟩ := hd.t4
  obtain ⟨q5, b5, i5, T5⟩ := hd.t5
  obtain ⟨N, hN, ex⟩ := hd.ex
  have hb := D.b
  obtain ⟨oc, od, kV, doc, pm, an, cdv, ct, osl, rfl, lk, hcd⟩ := D.F.ex
  exact LamX.pe_lamcall (a := "_law_work") hg D.g D.F.kp lk hcd hb scHe rfl (.inl rfl) (heard_gives hd.B hd.u T0 T2 T3 T4 T5 ex hgd hr) TB hcode (by rw [hq]; exact hm) (fun p hp e => by rw [hq]; exact hun p hp e) hr L hdef hbind hbody
/-! ### defs told where nothing is being shown -/
section
variable {P : Program} {w : World} {K : PySem.W.Frag} {mg : Str → Option Value} {base : Heap}
theorem okG {x qual : Str} {st : Stmt} {f : Addr} {fd : FuncData} {N ps : List Str} {k : Nat} {sp : Sp} (F : Fun K x qual st f fd) (S : FnScope N ps (defScope st)) (len : ∀ vs H Q E, sp vs H Q E → vs.length = ps.length)
    (hbody : ∀ (cdv : Value) (A : Around) (outer : List Env) (s : Shared) (H : Hp) (vs : List V) (Q : VK) (E : XK), Room k (A.deeper (envOfC qual (defScope st) s.heap.objs.size f cdv)) → (A.deeper (envOfC qual (defScope st) s.heap.objs.size f cdv)).guards = some [] → sp vs H Q E →
      ∃ t, PSs (cxOf CX0 P w K mg base N qual (defScope st) f cdv A outer s H E).nox (defBody st) t ∧ t { nx := fun _ H' => Q .non H', rt := Q } (start N vs) H) : FnG P w K mg base (k + 1) f fd ps sp := by
  obtain ⟨oc, od, kV, doc, pm, an, cdv, ct, osl, rfl, lk, hcd⟩ := F.ex
  refine ⟨len, fun A outer s H args us vs Q E hr hgd e0 hb r hsp => ?_⟩
  refine LamX.run_ofS lk hcd S hr e0 hb r (len _ _ _ _ hsp) fun hr' => ?_
  obtain ⟨t, h, q⟩ := hbody cdv A outer s H vs Q E hr' hgd hsp
  exact ⟨t, h.nox, q⟩
end
section
variable {X : Cx} {k : Nat} {f : Addr} {fd : FuncData} {ps ks : List Str} {sp : Sp} {x : Str} {st : Stmt} {p pos : Pos} {e : Expr} {es : List Expr} {kws : List Keyword} {t tk : TA}
theorem pe_callG (D : Df X.K X.mg x st ps f fd) (G : FnG X.prog X.w X.K X.mg X.base k f fd ps sp) (hr : Room k X.A) (hgd : X.A.guards = some []) (ha : PA X (e :: es) t) (hg : Gl X x := by rfl)
    (hdb : (x == ("__debug__" : Str)) = false := by decide) (he : starEach (e :: es) X.env = (false, eval e X.env) :: starEach es X.env := by rfl) (hpl : (backTo pos (starEach es X.env)).any (·.1) = false := by rfl) :
    PE X (.Call (.Name x p) (e :: es) [] pos) (fun σ H Q => t σ H fun vs H1 => sp vs H1 Q fun _ _ _ => False) := by
  refine ⟨fun pins s σ H Q I h => ?_⟩
  refine wpAny_Call_Name_kw (ld_glob I hg D.g ?_ hdb)
  refine PySem.W.callWith_K (h₀ := X.base) I.ok.mod.kin D.F.kp (thn (ha.run pos pins s σ H _ I h) fun us s1 ⟨vs, H1, I1, r, q⟩ => ⟨I1.kIn, ?_⟩) he hpl
  have hl : us.length = ps.length := by rw [← r.length]; exact G.len _ _ _ _ q
  refine wpAny_call (codeAny_mono (G.run X.A X.stack s1 H1 ⟨us, []⟩ us vs Q (fun _ _ _ => False) hr hgd I1.env0 (by
    have z := D.b s1 us I1.kIn (by rw [List.append_nil]; exact hl)
    rw [List.append_nil] at z
    exact z) r q) fun r s' hq => ?_)
  cases r with
  | error e => exact (show False from hq).elim
  | ok fl =>
    cases fl with
    | ret u => exact I1.after hq
    | next => exact False.elim hq
    | brk => exact False.elim hq
    | cont => exact False.elim hq
/-! ### f(k = v, ..), every argument by its name -/
theorem pe_callW {CX : CXT} {E : XK} {g : List Value → List Value → List Value} {gV : List V → List V → List V} (D : Df X.K X.mg x st ps f fd) (G : FnOk X.prog X.w X.K X.mg X.base CX k f fd ps sp) (hr : Room k X.A) (hb : KBn X.K fd ps 0 ks g gV) (hx : Passes CX X E) (hkw : PK X kws tk) (hg : Gl X x := by rfl)
    (hall : (backToKw pos (keywordEach kws X.env)).all (·.1.isSome) = true := by rfl) (hks : (backToKw pos (keywordEach kws X.env)).filterMap (·.1) = ks := by rfl) (hdb : (x == ("__debug__" : Str)) = false := by decide)
    (hpl : ((backTo pos (starEach [] X.env)).any (·.1) || (backToKw pos (keywordEach kws X.env)).any (·.1.isNone)) = false := by rfl) :
    PE X (.Call (.Name x p) [] kws pos) (fun σ H Q => tk σ H fun zs H1 => zs.length = ks.length ∧ sp (gV [] zs) H1 Q E) := by
  refine ⟨fun pins s σ H Q I h => ?_⟩
  refine wpAny_Call_Name_kw (ld_glob I hg D.g ?_ hdb)
  refine PySem.W.callWith_KW0 (h₀ := X.base) I.ok.mod.kin D.F.kp hall ?_ hpl
  refine thn (hkw.run pos pins s σ H _ I h) fun ws s2 ⟨zs, H2, I2, rz, l2, q2⟩ => ⟨I2.kIn, ?_⟩
  rw [hks]
  exact run_fnN (us := []) (vs := []) G hr hb hx I2 .nil rz rfl l2 q2
end
end K1
namespace K1
open PySem PySem.Spec PyProof.Rows L2
/-! ### a web out of a list of lists -/
def PrsL (H : Hp) (as : List Addr) (ts : Prs) : Prop := as.length = ts.length ∧ ∀ (i : Nat) a t, as[i]? = some a → ts[i]? = some t → H a = some (.lst (pV t))
theorem PrsL.same {H H' : Hp} {as : List Addr} {ts : Prs} (h : PrsL H as ts) (s : Same H H') : PrsL H' as ts := ⟨h.1, fun i a t e1 e2 => s _ _ (h.2 i a t e1 e2)⟩
theorem PrsL.get' {H : Hp} {as : List Addr} {ts : Prs} (h : PrsL H as ts) {i : Nat} {x : V} (e : (as.map V.ref)[i]? = some x) : ∃ a t, x = .ref a ∧ as[i]? = some a ∧ ts[i]? = some t ∧ H a = some (.lst (pV t)) := by
  obtain ⟨a, ha, rfl⟩ := at_map e
  obtain ⟨t, ht⟩ := ex_at (l := ts) (i := i) (by rw [← h.1]; exact lt_at ha)
  exact ⟨a, t, rfl, ha, ht, h.2 i a t ha ht⟩
theorem PrsL.get {H : Hp} {as : List Addr} {ts : Prs} (h : PrsL H as ts) {i : Nat} {t : Nat × Nat} (e : ts[i]? = some t) : ∃ a, as[i]? = some a ∧ H a = some (.lst (pV t)) := by
  obtain ⟨a, ha⟩ := ex_at (l := as) (i := i) (by rw [h.1]; exact lt_at e)
  exact ⟨a, ha, h.2 i a t ha e⟩
def spCTiesL : Sp := fun vs H Q _ => ∃ (n : Nat) (p : Addr) (as : List Addr) (ts : Prs), vs = [.int (n : Int), .ref p] ∧ H p = some (.lst (as.map V.ref)) ∧ PrsL H as ts ∧ Wv n ts ∧ ∀ ta H', Same H H' → TiesT H' ta ts → Q (.ref ta) H'
def spWInitL (W : Addr) : Sp := fun vs H Q _ => ∃ (w dx : Addr) (n : Nat) (p : Addr) (as : List Addr) (ts : Prs), vs = [.ref w, .int (n : Int), .ref p] ∧ H w = some (.ins W dx []) ∧ H p = some (.lst (as.map V.ref)) ∧ PrsL H as ts ∧ Wv n ts ∧
  ∀ H', (∀ b u, H b = some u → b ≠ w → H' b = some u) → WebAt W H' w n ts → Q .non H'
section
variable {P : Program} {w : World} {K : PySem.W.Frag} {mg : Str → Option Value} {base : Heap}
theorem rw_pL {H : Hp} {a : Addr} {t : Nat × Nat} (h : H a = some (.lst (pV t))) : Rw K H (.ref a) (some (pV t)) := ⟨.lst h, fun ys e => by obtain rfl := Option.some.inj e; exact kinds_pV t⟩
theorem ok_ctiesL {f fW fS fP C cI : Addr} {fd fdW fdS fdP : FuncData} {bm : List Value} {ql : Str} (D : Df K mg "checked_ties" sCTies ["houses", "ties"] f fd) (DW : Df K mg "is_whole" sWhole ["value"] fW fdW) (DS : Df K mg "is_sequence" sSeq ["value", "least", "most"] fS fdS) (DP : Df K mg "is_pair" sPair ["value", "houses"] fP fdP)
    (B : Bt mg) (c : Cw mg) (T : LAt.Txt K mg "BadWeb" ql bm C cI) (GW : FnOk P w K mg base CX0 1 fW fdW ["value"] (spWhole K)) (GS : FnOk P w K mg base CX0 1 fS fdS ["value", "least", "most"] (spSeq K)) (GP : FnOk P w K mg base CX0 4 fP fdP ["value", "houses"] (spPair K)) :
    FnOk P w K mg base (L2.CX P w) 5 f fd ["houses", "ties"] spCTiesL := by
  obtain ⟨t1, hc1⟩ := c.houses
  obtain ⟨t2, hc2⟩ := c.ties
  refine D.F.okX scCT (fun vs H Q E h => ?_) (fun cdv A outer s H vs Q E hr h => ?_)
  · obtain ⟨n, p, as, ts, rfl, _⟩ := h
    rfl
  · obtain ⟨n, p, as, ts, rfl, hS, hA, hW, q⟩ := h
    have hr1 : Room 1 _ := hr.mono (by decide)
    refine ⟨_, pss_cons (ps_if (PW.pt (pw_or (pt_not (pt_val (pc DW GW hr1 pass0 (pa_cons (pv 0) pa_nil)))) (pw_or (pt_not (pt_chain op_le op_le pe_int (pv 0) (pe_glob (v := .int 12) (by rfl) hc1 ⟨_, rfl⟩))) (pw_or1 (pt_not (pt_val (pc DS GS hr1 pass0 (pa_cons (pv 1) (pa_cons pe_int (pa_cons (pe_glob (v := .int 20) (by rfl) hc2 ⟨_, rfl⟩) pa_nil)))))))))) (pss_one (ps_raise_LAt rfl T hr (takes_of rfl rfl rfl rfl) (pa_cons (pe_un un_neg pe_int) pa_nil))) pss_nil)
      (pss_cons (ps_for (passes_of rfl) rfl (pi_enumA (by rfl) B.enumerate (pa_cons (pv 1) pa_nil)) (pg_tup rfl (pgs_cons (pg_name (i := 2) scCT.nd rfl (.inl rfl)) (pgs_cons (pg_name (i := 3) scCT.nd rfl (.inl rfl)) pgs_nil)))
        (pss_one (ps_if (pt_not (pt_val (pc DP GP hr pass0 (pa_cons (pv 3) (pa_cons (pv 0) pa_nil))))) (pss_one (ps_raise_LAt rfl T hr (takes_of rfl rfl rfl rfl) (pa_cons (pv 2) pa_nil))) pss_nil)))
      (pss_one (ps_ret (pe_callTy call_tuple_of (by rfl) B.tuple (by decide +kernel) (pa_cons
        (pe_lc (own := [("pair", 3)]) (g := gName 3) (tt := tYes) rfl scCT.nd (pi_seqA (pv 1)) (blkOk_by (N := ["houses", "ties", "at", "pair"]) (sc := defScope sCTies) (by decide +kernel)) (fun _ _ _ _ _ => pg_name (i := 3) scCT.nd rfl (Or.inl rfl)) (fun _ _ _ _ _ => pts_nil)
          (fun _ _ _ _ _ => pe_callTy (ctup (K := K) rfl) (by rfl) B.tuple PyProof.Rows.boot_tuple (pa_cons (pv 3) pa_nil))) pa_nil))))), ?_⟩
    have n1 := hW.n1
    have n12 := hW.n12
    have t20 := hW.t20
    have la : (as.map V.ref).length = ts.length := by rw [List.length_map, hA.1]
    have lt20 : (as.map V.ref).length ≤ 20 := by omega
    have sq : seqB (some (as.map V.ref)) 0 20 = true := by
      show (decide ((0 : Int) ≤ ((as.map V.ref).length : Int)) && decide (((as.map V.ref).length : Int) ≤ 20)) = true
      rw [decide_eq_true (by omega), decide_eq_true (by omega)]; rfl
    refine ⟨_, rfl, _, none, rfl, .int _, true, rfl, iteF ?_⟩
    refine ⟨_, rfl, _, _, rfl, rfl, _, rfl, iteY (decide_eq_true (by omega)) ⟨_, _, rfl, rfl, true, congrArg V.bl (decide_eq_true (show (n : Int) ≤ 12 by omega)), iteF ?_⟩⟩
    refine ⟨_, rfl, _, some (as.map V.ref), 0, 20, rfl, .lst hS, fun H1 s1 => ⟨_, rfl, ?_⟩⟩
    rw [sq]
    refine iteF (nxP ?_)
    refine ⟨_, rfl, p, rfl, ?_⟩
    refine .inl ⟨_, SqL.of (s1 _ _ hS), for_enumL (K := K) (fun (_ : Nat) (σ : L2.St) (H' : Hp) => ∃ v2 v3 : Option V, σ = [some (.int (n : Int)), some (.ref p), v2, v3] ∧ Same H H') ⟨none, none, rfl, s1⟩ (fun i σ H' _ ⟨_, _, _, sm⟩ => SqL.of (sm _ _ hS)) ?_ ?_⟩
    · rintro i x T σ H' hx hT ⟨v2, v3, rfl, sm⟩
      obtain ⟨a, t, rfl, ha, ht, hat⟩ := hA.get' hx
      have sm2 := sm.trans (same_new (o := HO.tup [.int (i : Nat), .ref a]) hT)
      refine ⟨T, _, rfl, SqT.of upd_same, rfl, _, _, rfl, _, _, rfl, rfl, ?_⟩
      refine ⟨_, rfl, _, rfl, .ref a, some (pV t), (n : Int), rfl, rw_pL (sm2 _ _ hat), fun H3 s3 => ⟨_, rfl, ?_⟩⟩
      rw [pair_ok hW ht]
      exact iteF ⟨_, _, rfl, sm2.trans s3⟩
    · rintro σ H' ⟨v2, v3, rfl, sm⟩
      refine ⟨_, rfl, p, rfl, .inl ⟨_, SqL.of (sm _ _ hS), fun D hD => lc_list (K := K) (a := p) (xs := as.map V.ref) (fun i H2 => ∃ cs : List Addr, cs.length = i ∧ Same H' H2 ∧ H2 D = some (.lst (cs.map V.ref)) ∧ ∀ (j : Nat) b t, cs[j]? = some b → ts[j]? = some t → H2 b = some (.tup (pV t))) ⟨[], rfl, same_new hD, upd_same, fun j b t z => nomatch z⟩ (fun i H2 _ ⟨_, _, s5, _⟩ => SqL.of (s5 _ _ (sm _ _ hS))) ?_ ?_⟩⟩
      · rintro i x H2 hx ⟨cs, hc, s5, hD2, hC⟩
        obtain ⟨a, t, e, ha, ht, hat⟩ := hA.get' hx
        subst e
        have hi := lt_at hx
        refine ⟨rfl, _, rfl, a, pV t, rfl, .inl ⟨SqL.of (s5 _ _ (sm _ _ hat)), fun l hl => ?_⟩⟩
        have s6 := same_new (o := HO.tup (pV t)) hl
        have nl : l ≠ D := fun z => by rw [z, hD2] at hl; cases hl
        refine ⟨_, s6 _ _ hD2, szl (by rw [List.length_map]; omega), cs ++ [l], by rw [List.length_append, hc]; rfl, fun c o e => by rw [upd_ne (ne_of_none e hD)]; exact s6 _ _ (s5 _ _ e), by rw [upd_same, List.map_append]; rfl, fun j b t' hb ht' => ?_⟩
        by_cases hj : j < cs.length
        · rw [List.getElem?_append_left hj] at hb
          have hb2 := hC j b t' hb ht'
          rw [upd_ne (fun z => by rw [z, hD2] at hb2; cases hb2)]
          exact s6 _ _ hb2
        · have hjl := lt_at hb
          rw [List.length_append] at hjl
          have : j = cs.length := by simp only [List.length_cons, List.length_nil] at hjl; omega
          subst this
          rw [List.getElem?_append_right (Nat.le_refl _), Nat.sub_self] at hb
          obtain rfl : l = b := Option.some.inj hb
          rw [hc, ht] at ht'
          obtain rfl := Option.some.inj ht'
          rw [upd_ne nl]; exact upd_same
      · rintro H2 ⟨cs, hc, s5, hD2, hC⟩
        refine ⟨D, _, rfl, .inl ⟨SqL.of hD2, fun ta hta => ?_⟩⟩
        have s6 := same_new (o := HO.tup (cs.map V.ref)) hta
        exact q ta _ ((sm.trans s5).trans s6) ⟨cs, upd_same, by rw [hc, la], fun i a t e1 e2 => s6 _ _ (hC i a t e1 e2)⟩
theorem ok_winitL {f fC W : Addr} {fd fdC : FuncData} (F : Fun K "__init__" "Web.__init__" sWInit f fd) (DC : Df K mg "checked_ties" sCTies ["houses", "ties"] fC fdC) (T : WcT K mg W)
    (GC : FnOk P w K mg base (L2.CX P w) 5 fC fdC ["houses", "ties"] spCTiesL) : FnOk P w K mg base (L2.CX P w) 6 f fd ["self", "houses", "ties"] (spWInitL W) := by
  refine F.okX scWI (fun vs H Q E h => ?_) (fun cdv A outer s H vs Q E hr h => ?_)
  · obtain ⟨w, dx, n, p, as, ts, rfl, _⟩ := h
    rfl
  · obtain ⟨w, dx, n, p, as, ts, rfl, hw, hS, hA, hW, q⟩ := h
    refine ⟨_, pss_cons (ps_fld (pv 0) (pc DC GC hr (pass1 (takes_of rfl rfl rfl rfl)) (pa_cons (pv 1) (pa_cons (pv 2) pa_nil))) rfl) (pss_one (ps_fld (pv 0) (pv 1) rfl)), ?_⟩
    refine ⟨_, rfl, _, rfl, n, p, as, ts, rfl, hS, hA, hW, fun ta H' sm hT => ?_⟩
    have hw1 := sm _ _ hw
    refine ⟨_, rfl, w, W, dx, [], rfl, hw1, T.cl, T.nT, (by show 0 < 1000; decide), ?_⟩
    refine ⟨_, rfl, _, rfl, w, W, dx, _, rfl, upd_same, T.cl, T.nH, (by show 1 < 1000; decide), ?_⟩
    rw [upd_upd]
    obtain ⟨bs, k1, k2⟩ := hT
    have kp : ∀ b u, H' b = some u → b ≠ w → (upd H' w (.ins W dx (wf ta (n : Int)))) b = some u := fun b u e nb => by rw [upd_ne nb]; exact e
    have nw : ∀ {c : Addr} {xs : List V}, H' c = some (.tup xs) → c ≠ w := fun h e => by rw [e, hw1] at h; cases h
    exact q _ (fun b u e nb => kp b u (sm _ _ e) nb) ⟨dx, ta, upd_same, bs, kp _ _ k1 (nw k1), k2.1, fun i a t e1 e2 => kp _ _ (k2.2 i a t e1 e2) (nw (k2.2 i a t e1 e2))⟩
end
end K1
namespace K1
open PySem PySem.Spec PyProof.Rows L2
theorem Dl.free {b l c : Addr} {H H' : Hp} (hb : DealO H b l) (d : Dl b l H H') (e : H' c = none) : H c = none := by
  cases h : H c with
  | none => rfl
  | some o =>
    by_cases z1 : c = b
    · obtain ⟨_, ns, z, _, h1, _⟩ := d.1
      rw [z1, h1] at e; cases e
    · by_cases z2 : c = l
      · obtain ⟨_, ns, z, _, _, h1⟩ := d.1
        rw [z2, h1] at e; cases e
      · rw [d.2 c o h z1 z2] at e; cases e
/-- a list of pairs, each a list -/
structure TL (b l tl : Addr) (H : Hp) (as : List Addr) (ts : Prs) : Prop where
  h : H tl = some (.lst (as.map V.ref))
  ps : PrsL H as ts
  nb : tl ≠ b
  nl : tl ≠ l
  na : ∀ a ∈ as, a ≠ l
theorem TL.dl {b l tl : Addr} {H H' : Hp} {as : List Addr} {ts : Prs} (t : TL b l tl H as ts) (hb : DealO H b l) (d : Dl b l H H') : TL b l tl H' as ts := by
  refine ⟨d.2 _ _ t.h t.nb t.nl, ⟨t.ps.1, fun i a p e1 e2 => d.2 _ _ (t.ps.2 i a p e1 e2) (fun z => ?_) (t.na a (List.mem_of_getElem? e1))⟩, t.nb, t.nl, t.na⟩
  have h1 := t.ps.2 i a p e1 e2
  obtain ⟨_, ns, w, _, h2, _⟩ := hb
  rw [z, h2] at h1
  cases h1
theorem TL.same {b l tl : Addr} {H H' : Hp} {as : List Addr} {ts : Prs} (t : TL b l tl H as ts) (s : Same H H') : TL b l tl H' as ts := ⟨s _ _ t.h, t.ps.same s, t.nb, t.nl, t.na⟩
theorem TL.snoc {b l tl a : Addr} {H : Hp} {as : List Addr} {ts : Prs} {p : Nat × Nat} (t : TL b l tl H as ts) (ha : H a = some (.lst (pV p))) (nl : a ≠ l) : TL b l tl (upd H tl (.lst (as.map V.ref ++ [.ref a]))) (as ++ [a]) (ts ++ [p]) := by
  have key : ∀ {c : Addr} {q : Nat × Nat}, H c = some (.lst (pV q)) → c ≠ tl := fun {c q} e z => by
    rw [z, t.h] at e
    have e2 : as.map V.ref = pV q := by
      have := Option.some.inj e
      injection this
    cases as with
    | nil => cases e2
    | cons x r => injection e2 with e2 _; cases e2
  refine ⟨by rw [upd_same, List.map_append]; rfl, ⟨by rw [List.length_append, List.length_append, t.ps.1]; rfl, fun i c q e1 e2 => ?_⟩, t.nb, t.nl, fun c hc => ?_⟩
  · by_cases hi : i < as.length
    · rw [List.getElem?_append_left hi] at e1
      rw [List.getElem?_append_left (by rw [← t.ps.1]; exact hi)] at e2
      have h1 := t.ps.2 i c q e1 e2
      rw [upd_ne (key h1)]; exact h1
    · have hil := lt_at e1
      rw [List.length_append] at hil
      have : i = as.length := by simp only [List.length_cons, List.length_nil] at hil; omega
      subst this
      rw [List.getElem?_append_right (Nat.le_refl _), Nat.sub_self] at e1
      rw [t.ps.1, List.getElem?_append_right (Nat.le_refl _), Nat.sub_self] at e2
      obtain rfl : a = c := Option.some.inj e1
      obtain rfl : p = q := Option.some.inj e2
      rw [upd_ne (key ha)]; exact ha
  · rcases List.mem_append.mp hc with z | z
    · exact t.na c z
    · rw [List.mem_singleton.mp z]; exact nl
theorem DealO.put {b l c : Addr} {H : Hp} {o : HO} (h : DealO H b l) (nb : c ≠ b) (nl : c ≠ l) : DealO (upd H c o) b l := let ⟨n, ns, z, h1, h2, h3⟩ := h; ⟨n, ns, z, h1, by rw [upd_ne nb.symm]; exact h2, by rw [upd_ne nl.symm]; exact h3⟩
/-- a thing that is new since H changes -/
theorem Dl.put {b l c : Addr} {H H1 : Hp} {o : HO} (d : Dl b l H H1) (hc : H c = none) (nb : c ≠ b) (nl : c ≠ l) : Dl b l H (upd H1 c o) := ⟨d.1.put nb nl, fun e u h n1 n2 => by rw [upd_ne (ne_of_none h hc)]; exact d.2 e u h n1 n2⟩
theorem cnP {v : V} {t : TA} {σ : L2.St} {H : Hp} {Q : List V → Hp → Prop} (h : t σ H fun vs H2 => Q (v :: vs) H2) : tCons (tC v) t σ H Q := h
theorem ifG {t : TT} {A B : TS} {D : Ends} {σ : L2.St} {H : Hp} (G : Bool → Hp → Prop) (hq : ∀ c H1, G c H1 → if c = true then A D σ H1 else B D σ H1) (ht : (∀ c H1, G c H1 → if c = true then A D σ H1 else B D σ H1) → t σ H fun c H1 => if c = true then A D σ H1 else B D σ H1) : tIfS t A B D σ H := ht hq
def spWeb : Sp := fun vs H Q _ => ∃ (b l : Addr) (k : Nat), vs = [.ref b, .int (k : Int)] ∧ DealO H b l ∧ 1 ≤ k ∧ k ≤ 12 ∧ ∀ (q tl : Addr) (as : List Addr) (ts : Prs) (n : Nat) H', Dl b l H H' → H' q = some (.tup [.int (n : Int), .ref tl]) → TL b l tl H' as ts → H tl = none → Wv n ts → n ≤ k → ts.length ≤ 15 → Q (.ref q) H'
/-- how the ties stand -/
structure Wb (b l tl : Addr) (n m : Nat) (H H' : Hp) (as : List Addr) (ts : Prs) : Prop where
  d : Dl b l H H'
  t : TL b l tl H' as ts
  f : H tl = none
  pr : ∀ p ∈ ts, p.1 < n ∧ p.2 < n ∧ p.1 ≠ p.2
  m : ts.length ≤ m
theorem Wb.dl {b l tl : Addr} {n m : Nat} {H H1 H2 : Hp} {as : List Addr} {ts : Prs} (w : Wb b l tl n m H H1 as ts) (d : Dl b l H1 H2) : Wb b l tl n m H H2 as ts := ⟨w.d.trans d, w.t.dl w.d.1 d, w.f, w.pr, w.m⟩
theorem Wb.same {b l tl : Addr} {n m : Nat} {H H1 H2 : Hp} {as : List Addr} {ts : Prs} (w : Wb b l tl n m H H1 as ts) (s : Same H1 H2) : Wb b l tl n m H H2 as ts := ⟨w.d.same s, w.t.same s, w.f, w.pr, w.m⟩
theorem Wb.snoc {b l tl a : Addr} {n m : Nat} {H H1 : Hp} {as : List Addr} {ts : Prs} {p : Nat × Nat} (w : Wb b l tl n m H H1 as ts) (ha : H1 a = some (.lst (pV p))) (nl : a ≠ l) (hp : p.1 < n ∧ p.2 < n ∧ p.1 ≠ p.2) : Wb b l tl n (m + 1) H (upd H1 tl (.lst (as.map V.ref ++ [.ref a]))) (as ++ [a]) (ts ++ [p]) :=
  ⟨w.d.put w.f w.t.nb w.t.nl, w.t.snoc ha nl, w.f, fun q hq => by
    rcases List.mem_append.mp hq with z | z
    · exact w.pr q z
    · rw [List.mem_singleton.mp z]; exact hp, by rw [List.length_append]; have := w.m; simp only [List.length_cons, List.length_nil]; omega⟩
theorem Wb.up {b l tl : Addr} {n m : Nat} {H H1 : Hp} {as : List Addr} {ts : Prs} (w : Wb b l tl n m H H1 as ts) : Wb b l tl n (m + 1) H H1 as ts := ⟨w.d, w.t, w.f, w.pr, Nat.le_succ_of_le w.m⟩
section
variable {P : Program} {w : World} {K : PySem.W.Frag} {mg : Str → Option Value} {base : Heap}
abbrev nWb : List Str := ["_law_deal", "_law_most", "_law_many", "_law_ties", "_law_full", "_law_house", "_law_pair", "_law_turn", "_law_here"]
theorem scWb : FnScope nWb ["_law_deal", "_law_most"] (defScope sLWeb) := ⟨rfl, rfl, rfl, by decide +kernel, rfl, by decide +kernel, by decide +kernel⟩
theorem ok_web {f fA fO : Addr} {fd fdA fdO : FuncData} (D : Df K mg "_law_web" sLWeb ["_law_deal", "_law_most"] f fd) (DA : Df K mg "_law_any" sLAny ["_law_deal", "_law_bound"] fA fdA) (DO : Df K mg "_law_of" sLOf ["_law_deal", "_law_some"] fO fdO) (B : Bt mg)
    (GA : FnOk P w K mg base CX0 1 fA fdA ["_law_deal", "_law_bound"] spAny) (GO : FnOk P w K mg base CX0 2 fO fdO ["_law_deal", "_law_some"] spOf) : FnOk P w K mg base CX0 3 f fd ["_law_deal", "_law_most"] spWeb := by
  refine D.F.ok scWb (fun vs H Q E h => ?_) (fun cdv A outer s H vs Q E hr h => ?_)
  · obtain ⟨b, l, k, rfl, _⟩ := h
    rfl
  · obtain ⟨b, l, k, rfl, hb, k1, k12, q⟩ := h
    have r1 := hr.mono (show 1 ≤ 2 by decide)
    refine ⟨_, pss_cons (ps_par (i := 2) (j := 3) rfl scWb.nd rfl rfl (by decide) rfl rfl (pa_cons (pe_op op_add pe_int (pc DA GA r1 pass0 (pa_cons (pv 0) (pa_cons (pv 1) pa_nil)))) (pa_cons (pe_lst pa_nil) pa_nil)) rfl)
      (pss_cons (ps_set (i := 4) scWb.nd rfl (.inl rfl) (pe_cmpR op_gt (pc DA GA r1 pass0 (pa_cons (pv 0) (pa_cons pe_int pa_nil))) pe_int (nomark _)))
      (pss_cons (ps_for PassesOwn.never rfl (pi_range2 (by rfl) B.range (pa_cons pe_int (pa_cons (pv 2) pa_nil))) (pg_name (i := 5) scWb.nd rfl (.inl rfl))
        (pss_one (ps_if (PW.pt (pw_or (pt_val (pv 4)) (pw_or1 (pt_cmpR op_eq (pc DA GA r1 pass0 (pa_cons (pv 0) (pa_cons pe_int pa_nil))) pe_int (nomark _)))))
          (pss_cons (ps_set (i := 6) scWb.nd rfl (.inl rfl) (pe_lst (pa_cons (pc DO GO hr pass0 (pa_cons (pv 0) (pa_cons (pe_lst (pa_cons (pe_op op_sub (pv 5) pe_int) (pa_cons (pc DA GA r1 pass0 (pa_cons (pv 0) (pa_cons (pv 5) pa_nil))) pa_nil))) pa_nil))) (pa_cons (pv 5) pa_nil))))
          (pss_one (ps_expr (pe_bm PySem.F.plainAttrs_list PySem.F.slot_list_append PySem.F.type_list_append mt_append (pv 3) (pa_cons (pe_ifExp (pt_cmpR op_eq (pc DA GA r1 pass0 (pa_cons (pv 0) (pa_cons pe_int pa_nil))) pe_int (nomark _)) (pv 6) (pe_revL (pv 6))) pa_nil))))) pss_nil)))
      (pss_cons (ps_if (pt_cmpR op_gt (pv 2) pe_int (nomark _))
        (pss_one (ps_for PassesOwn.never rfl (pi_range1 (by rfl) B.range (pa_cons (pc DO GO hr pass0 (pa_cons (pv 0) (pa_cons (pe_lst (pa_cons pe_int (pa_cons pe_int (pa_cons pe_int (pa_cons pe_int (pa_cons pe_int (pa_cons pe_int pa_nil))))))) pa_nil))) pa_nil)) (pg_name (i := 7) scWb.nd rfl (.inl rfl))
          (pss_cons (ps_set (i := 8) scWb.nd rfl (.inl rfl) (pc DA GA r1 pass0 (pa_cons (pv 0) (pa_cons (pv 2) pa_nil))))
          (pss_one (ps_expr (pe_bm PySem.F.plainAttrs_list PySem.F.slot_list_append PySem.F.type_list_append mt_append (pv 3) (pa_cons (pe_lst (pa_cons (pv 8) (pa_cons (pe_op op_mod (pe_callTy call_int1 (by rfl) B.int PyProof.Rows.boot_int (pa_cons (pe_op op_add (pe_op op_add (pv 8) pe_int) (pc DA GA r1 pass0 (pa_cons (pv 0) (pa_cons (pe_op op_sub (pv 2) pe_int) pa_nil)))) pa_nil)) (pv 2)) pa_nil))) pa_nil))))))) pss_nil)
      (pss_one (ps_ret (pe_tup (pa_cons (pv 2) (pa_cons (pv 3) pa_nil)))))))), ?_⟩
    refine ⟨_, rfl, _, rfl, b, l, (k : Int), rfl, hb, by omega, by omega, fun r H1 r0 rn d1 => ?_⟩
    refine ⟨_, _, rfl, rfl, (by show 0 ≤ sizeLine; decide), fun tl htl => ?_⟩
    obtain ⟨n, en, hn1, hnk⟩ : ∃ n : Nat, 1 + r = (n : Int) ∧ 1 ≤ n ∧ n ≤ k := ⟨(1 + r).toNat, by omega, by omega, by omega⟩
    have W0 : Wb b l tl n 0 H (upd H1 tl (.lst [])) [] [] := ⟨d1.new htl, ⟨upd_same, ⟨rfl, fun i a t e => by cases e⟩, d1.1.nb htl, d1.1.nl htl, (fun a ha => nomatch ha)⟩, d1.free hb htl, (fun p hp => nomatch hp), Nat.le_refl _⟩
    generalize upd H1 tl (.lst []) = H2 at W0 ⊢
    refine nilP ⟨_, _, rfl, ?_⟩
    dsimp only [List.set]
    rw [en]
    refine ⟨_, rfl, b, l, 3, rfl, W0.d.1, by decide, by decide, fun f H3 f0 f1 d3 => ⟨_, _, rfl, rfl, ?_⟩⟩
    have W3 := W0.dl d3
    dsimp only [List.set]
    generalize decide (0 < f) = fb
    refine ⟨_, rfl, 1, (n : Int), rfl, ⟨by decide, by decide, by omega, by omega⟩, for_range (fun i σ H' => ∃ (as : List Addr) (ts : Prs) (v5 v6 v7 v8 : Option V), σ = [some (.ref b), some (.int (k : Int)), some (.int (n : Int)), some (.ref tl), some (.bl fb), v5, v6, v7, v8] ∧ Wb b l tl n i H H' as ts)
      ⟨[], [], none, none, none, none, rfl, W3⟩ ?_ ?_⟩
    · rintro i σ H4 hi ⟨as, ts, v5, v6, v7, v8, rfl, W4⟩
      refine gn ?_
      dsimp only [List.set]
      have hin : i + 1 < n := by omega
      have ei : (1 : Int) + (i : Int) = ((i + 1 : Nat) : Int) := by omega
      rw [ei]
      refine ifG (fun _ H5 => Dl b l H4 H5) (fun c H5 d5 => ?_) fun go => ⟨_, rfl, fb, rfl, ifD (fun _ => go true _ (.refl W4.d.1)) fun _ => ⟨_, rfl, b, l, 2, rfl, W4.d.1, by decide, by decide, fun r' H5 _ _ d5 => ⟨rfl, _, rfl, go _ _ d5⟩⟩⟩
      have W5 := W4.dl d5
      refine ifD (fun _ => ?_) fun _ => nxP ⟨as, ts, _, _, _, _, rfl, W5.up⟩
      refine ⟨_, rfl, _, rfl, _, _, rfl, rfl, _, rfl, _, rfl, b, l, ((i + 1 : Nat) : Int), rfl, W5.d.1, by omega, by omega, fun g H6 g0 g1 d6 => ?_⟩
      have W6 := W5.dl d6
      refine nilP ⟨(by show 2 ≤ sizeLine; decide), fun p2 hp2 => ?_⟩
      have W7 := W6.same (same_new (o := HO.lst [.int (((i + 1 : Nat) : Int) - 1), .int g]) hp2)
      have h2 : (upd H6 p2 (.lst [.int (((i + 1 : Nat) : Int) - 1), .int g])) p2 = some (.lst [.int (((i + 1 : Nat) : Int) - 1), .int g]) := upd_same
      have n2b := W6.d.1.nb hp2
      have n2l := W6.d.1.nl hp2
      generalize upd H6 p2 (.lst [.int (((i + 1 : Nat) : Int) - 1), .int g]) = H7 at W7 h2 ⊢
      refine nilP ⟨b, l, p2, _, rfl, W7.d.1, h2, n2b, n2l, (by simp), (by simp), fun j v H8 hj d8 => ?_⟩
      have W8 := W7.dl d8
      obtain ⟨rr, rfl, rr1⟩ : ∃ rr : Nat, v = .int (rr : Int) ∧ rr < i + 1 := by
        match j, hj with
        | 0, hj => exact ⟨i, by rw [← Option.some.inj hj]; congr 1; omega, by omega⟩
        | 1, hj => exact ⟨g.toNat, by rw [← Option.some.inj hj]; congr 1; omega, by omega⟩
        | (j + 2), hj => cases hj
      refine ⟨_, rfl, nilP ⟨(by show 2 ≤ sizeLine; decide), fun p6 hp6 => ?_⟩⟩
      have W9 := W8.same (same_new (o := HO.lst (pV (rr, i + 1))) hp6)
      have h6 : (upd H8 p6 (.lst (pV (rr, i + 1)))) p6 = some (.lst (pV (rr, i + 1))) := upd_same
      have n6l := W8.d.1.nl hp6
      have e6 : (HO.lst [V.int (rr : Int), .int ((i + 1 : Nat) : Int)]) = .lst (pV (rr, i + 1)) := rfl
      rw [e6]
      generalize upd H8 p6 (.lst (pV (rr, i + 1))) = H9 at W9 h6 ⊢
      dsimp only [List.set]
      refine ⟨_, rfl, .inl ⟨rfl, _, SqL.of W9.t.h⟩, _, rfl, b, l, 2, rfl, W9.d.1, by decide, by decide, fun y H10 _ _ d10 => ⟨rfl, _, rfl, ?_⟩⟩
      have W10 := W9.dl d10
      have h6' : H10 p6 = some (.lst (pV (rr, i + 1))) := d10.2 _ _ h6 (fun z => by
        obtain ⟨_, ns, w, _, e1, _⟩ := W9.d.1
        rw [z, e1] at h6; cases h6) n6l
      have lt : (as.map V.ref).length < sizeLine := by rw [List.length_map, W10.t.ps.1]; exact szl (by have := W10.m; omega)
      refine ifD (fun _ => ?_) fun _ => ?_
      · exact ⟨_, rfl, tl, _, .ref p6, rfl, rfl, W10.t.h, lt, as ++ [p6], ts ++ [(rr, i + 1)], _, _, _, _, rfl, W10.snoc h6' n6l ⟨by show rr < n; omega, by show i + 1 < n; omega, by show rr ≠ i + 1; omega⟩⟩
      · refine ⟨_, rfl, p6, _, rfl, SqL.of h6', fun p9 hp9 => ?_⟩
        have W11 := W10.same (same_new (o := HO.lst (pV (i + 1, rr))) hp9)
        have h9 : (upd H10 p9 (.lst (pV (i + 1, rr)))) p9 = some (.lst (pV (i + 1, rr))) := upd_same
        exact ⟨tl, _, .ref p9, rfl, rfl, W11.t.h, lt, as ++ [p9], ts ++ [(i + 1, rr)], _, _, _, _, rfl, W11.snoc h9 (W10.d.1.nl hp9) ⟨by show i + 1 < n; omega, by show rr < n; omega, by show i + 1 ≠ rr; omega⟩⟩
    · rintro σ H4 ⟨as, ts, v5, v6, v7, v8, rfl, W4⟩
      have fin : ∀ (as : List Addr) (ts : Prs) (m : Nat) (v5 v6 v7 v8 : Option V) (H5 : Hp), m ≤ 15 → Wb b l tl n m H H5 as ts → (tRet (tTup (tCons (tVar 2) (tCons (tVar 3) tNil)))) { nx := fun _ H' => Q .non H', rt := Q } [some (.ref b), some (.int (k : Int)), some (.int (n : Int)), some (.ref tl), some (.bl fb), v5, v6, v7, v8] H5 := fun as ts m v5 v6 v7 v8 H5 hm W5 => by
        refine ⟨_, rfl, _, rfl, (by show 2 ≤ sizeLine; decide), fun p hp => ?_⟩
        have W6 := W5.same (same_new (o := HO.tup [.int (n : Int), .ref tl]) hp)
        exact q p tl as ts n _ W6.d upd_same W6.t W6.f ⟨by omega, by omega, by have := W6.m; omega, W6.pr⟩ hnk (Nat.le_trans W6.m hm)
      refine ⟨_, rfl, _, _, rfl, rfl, _, rfl, ifD (fun e => ?_) fun e => nxP (fin _ _ _ _ _ _ _ _ (by omega) W4)⟩
      have hn : 1 < (n : Int) := by simpa using e
      refine ⟨_, rfl, (by show 6 ≤ sizeLine; decide), fun p2 hp2 => ?_⟩
      have W5 := W4.same (same_new (o := HO.lst [.int 0, .int 0, .int 1, .int 1, .int 2, .int 3]) hp2)
      have h2 : (upd H4 p2 (.lst [.int 0, .int 0, .int 1, .int 1, .int 2, .int 3])) p2 = some (.lst [.int 0, .int 0, .int 1, .int 1, .int 2, .int 3]) := upd_same
      have n2b := W4.d.1.nb hp2
      have n2l := W4.d.1.nl hp2
      generalize upd H4 p2 (.lst [.int 0, .int 0, .int 1, .int 1, .int 2, .int 3]) = H5 at W5 h2 ⊢
      refine nilP ⟨b, l, p2, _, rfl, W5.d.1, h2, n2b, n2l, (by simp), (by simp), fun j v H6 hj d6 => ?_⟩
      have W6 := W5.dl d6
      obtain ⟨x, rfl, x3⟩ : ∃ x : Nat, v = .int (x : Int) ∧ x ≤ 3 := by
        match j, hj with
        | 0, hj => exact ⟨0, (Option.some.inj hj).symm, by decide⟩
        | 1, hj => exact ⟨0, (Option.some.inj hj).symm, by decide⟩
        | 2, hj => exact ⟨1, (Option.some.inj hj).symm, by decide⟩
        | 3, hj => exact ⟨1, (Option.some.inj hj).symm, by decide⟩
        | 4, hj => exact ⟨2, (Option.some.inj hj).symm, by decide⟩
        | 5, hj => exact ⟨3, (Option.some.inj hj).symm, by decide⟩
        | (j + 6), hj => cases hj
      refine nilP ⟨_, rfl, by omega, by omega, for_range (fun i σ H' => ∃ (as : List Addr) (ts : Prs) (v5 v6 v7 v8 : Option V), σ = [some (.ref b), some (.int (k : Int)), some (.int (n : Int)), some (.ref tl), some (.bl fb), v5, v6, v7, v8] ∧ Wb b l tl n (n + i) H H' as ts)
        ⟨as, ts, _, _, _, _, rfl, W6.d, W6.t, W6.f, W6.pr, by have := W6.m; omega⟩ ?_ ?_⟩
      · rintro i σ H7 hi ⟨as, ts, v5, v6, v7, v8, rfl, W7⟩
        refine gn ?_
        dsimp only [List.set]
        refine ⟨_, rfl, _, rfl, b, l, (n : Int), rfl, W7.d.1, by omega, by omega, fun h H8 h0 h1 d8 => ?_⟩
        have W8 := W7.dl d8
        dsimp only [List.set]
        refine ⟨_, rfl, .inl ⟨rfl, _, SqL.of W8.t.h⟩, _, rfl, _, rfl, _, _, rfl, rfl, _, rfl, _, rfl, _, _, rfl, rfl, b, l, (n : Int) - 1, rfl, W8.d.1, by omega, by omega, fun g H9 g0 g1 d9 => ?_⟩
        have W9 := W8.dl d9
        refine ⟨_, _, rfl, rfl, .inl ⟨_, rfl, _, rfl, _, _, rfl, rfl, by omega, (by show 2 ≤ sizeLine; decide), fun p hp => ?_⟩⟩
        obtain ⟨hh, eh⟩ : ∃ hh : Nat, h = (hh : Int) := ⟨h.toNat, by omega⟩
        obtain ⟨oo, eo, ol, on⟩ : ∃ oo : Nat, (h + 1 + g) % (n : Int) = (oo : Int) ∧ oo < n ∧ oo ≠ hh := by
          have m0 := Int.emod_nonneg (h + 1 + g) (show (n : Int) ≠ 0 by omega)
          have m1 := Int.emod_lt_of_pos (h + 1 + g) (show (0 : Int) < n by omega)
          refine ⟨((h + 1 + g) % (n : Int)).toNat, by omega, by omega, fun z => ?_⟩
          have z' : (h + 1 + g) % (n : Int) = h := by omega
          have : (1 + g) % (n : Int) = 0 := by
            have e1 : (h + 1 + g) = h + (1 + g) := by omega
            rw [e1] at z'
            have e2 : ((h + (1 + g)) - h) % (n : Int) = 0 := by
              rw [Int.sub_emod, z', Int.emod_eq_of_lt h0 h1, Int.sub_self]; rfl
            rwa [show (h + (1 + g)) - h = 1 + g by omega] at e2
          rw [Int.emod_eq_of_lt (by omega) (by omega)] at this
          omega
        have ee : (HO.lst [V.int h, .int ((h + 1 + g) % (n : Int))]) = .lst (pV (hh, oo)) := by rw [eo, eh]; rfl
        show tNil _ (upd H9 p (HO.lst [V.int h, .int ((h + 1 + g) % (n : Int))])) _
        rw [ee]
        have W10 := W9.same (same_new (o := HO.lst (pV (hh, oo))) hp)
        have hpp : (upd H9 p (.lst (pV (hh, oo)))) p = some (.lst (pV (hh, oo))) := upd_same
        have npl := W9.d.1.nl hp
        generalize upd H9 p (.lst (pV (hh, oo))) = H10 at W10 hpp ⊢
        refine nilP ⟨tl, _, .ref p, rfl, rfl, W10.t.h, by rw [List.length_map, W10.t.ps.1]; exact szl (by have := W10.m; omega), as ++ [p], ts ++ [(hh, oo)], _, _, _, _, rfl, W10.snoc hpp npl ⟨by show hh < n; omega, ol, fun z => on z.symm⟩⟩
      · rintro σ H7 ⟨as, ts, v5, v6, v7, v8, rfl, W7⟩
        exact fin _ _ _ _ _ _ _ _ (by omega) W7
end
end K1
namespace K1
open PySem PySem.Spec PyProof.Rows L2
def dPr (t : Nat × Nat) : List PyData := [.int (t.1 : Int), .int (t.2 : Int)]
theorem PrsL.dp {K : PySem.W.Frag} {H : Hp} : ∀ {as : List Addr} {ts : Prs}, PrsL H as ts → DpAll K H (as.map V.ref) (ts.map fun t => .list (dPr t))
  | [], [], _ => .nil
  | a :: as, t :: ts, h => .cons (.lst (SqL.of (h.2 0 a t rfl rfl)) (.cons (.int _) (.cons (.int _) .nil))) (PrsL.dp (as := as) (ts := ts) ⟨by have := h.1; simpa using this, fun i a t e1 e2 => h.2 (i + 1) a t e1 e2⟩)
  | [], _ :: _, h => by cases h.1
  | _ :: _, [], h => by cases h.1
theorem layPr : ∀ ts : Prs, PyData.canLayAll0 (ts.map fun t => .list (dPr t)) = true
  | [] => rfl
  | t :: r => by
    show (PyData.canLay0 (.list (dPr t)) && PyData.canLayAll0 (r.map fun t => .list (dPr t))) = true
    rw [layPr r]; rfl
theorem depPr : ∀ ts : Prs, PyData.depthAll (ts.map fun t => .list (dPr t)) ≤ 1
  | [] => Nat.zero_le _
  | t :: r => by
    show max (PyData.depth (.list (dPr t))) (PyData.depthAll (r.map fun t => .list (dPr t))) ≤ 1
    have := depPr r
    have h1 : PyData.depth (.list (dPr t)) = 1 := by
      show max 0 (max 0 0) + 1 = 1
      rfl
    rw [h1]
    omega
theorem shPr (ts : Prs) : SeqAt.shaped (.list (ts.map fun t => .list (dPr t))) = true := by
  unfold SeqAt.shaped
  rw [show PyData.canLay0 (.list (ts.map fun t => .list (dPr t))) = true from layPr ts]
  have : PyData.depth (.list (ts.map fun t => .list (dPr t))) ≤ 64 := by
    show PyData.depthAll (ts.map fun t => .list (dPr t)) + 1 ≤ 64
    have := depPr ts
    omega
  rw [decide_eq_true this]; rfl
theorem eqPr (ts : Prs) : PyData.eqv (.list (ts.map fun t => .list (dPr t))) (.list []) = decide (ts = []) := by
  cases ts with
  | nil => rfl
  | cons t r => rfl
theorem eqNil {K : PySem.W.Frag} {H : Hp} {tl e : Addr} {as : List Addr} {ts : Prs} {Q : VK} (h : H tl = some (.lst (as.map V.ref))) (hp : PrsL H as ts) (he : H e = some (.lst [])) (q : Q (.bl (decide (ts = []))) H) : rEqD K (.ref tl) (.ref e) H Q :=
  ⟨_, .list [], .lst (SqL.of h) hp.dp, .lst (SqL.of he) .nil, shPr ts, rfl, qbl (eqPr ts) q⟩
/-- a list of steps -/
structure SL (b l p : Addr) (H : Hp) (cs : List Addr) (ss : List Stp) : Prop where
  h : H p = some (.lst (cs.map V.ref))
  ps : StpsA H cs ss
  nb : p ≠ b
  nl : p ≠ l
theorem SL.dl {b l p : Addr} {H H' : Hp} {cs : List Addr} {ss : List Stp} (t : SL b l p H cs ss) (hb : DealO H b l) (d : Dl b l H H') : SL b l p H' cs ss := by
  obtain ⟨_, ns, w, _, h2, h3⟩ := hb
  exact ⟨d.2 _ _ t.h t.nb t.nl, ⟨t.ps.1, fun i a s e1 e2 => d.2 _ _ (t.ps.2 i a s e1 e2) (fun z => by have := t.ps.2 i a s e1 e2; rw [z, h2] at this; cases this) (fun z => by have := t.ps.2 i a s e1 e2; rw [z, h3] at this; cases this)⟩, t.nb, t.nl⟩
theorem SL.same {b l p : Addr} {H H' : Hp} {cs : List Addr} {ss : List Stp} (t : SL b l p H cs ss) (s : Same H H') : SL b l p H' cs ss := ⟨s _ _ t.h, t.ps.same s, t.nb, t.nl⟩
theorem StpsA.snoc {H H' : Hp} {cs : List Addr} {ss : List Stp} {a : Addr} {s : Stp} (t : StpsA H cs ss) (k : ∀ (c : Addr) xs, H c = some (.tup xs) → H' c = some (.tup xs)) (ha : H a = some (.tup (stV s))) : StpsA H' (cs ++ [a]) (ss ++ [s]) := by
  refine ⟨by rw [List.length_append, List.length_append, t.1]; rfl, fun i c q e1 e2 => ?_⟩
  by_cases hi : i < cs.length
  · rw [List.getElem?_append_left hi] at e1
    rw [List.getElem?_append_left (by rw [← t.1]; exact hi)] at e2
    exact k _ _ (t.2 i c q e1 e2)
  · have hil := lt_at e1
    rw [List.length_append] at hil
    have : i = cs.length := by simp only [List.length_cons, List.length_nil] at hil; omega
    subst this
    rw [List.getElem?_append_right (Nat.le_refl _), Nat.sub_self] at e1
    rw [t.1, List.getElem?_append_right (Nat.le_refl _), Nat.sub_self] at e2
    obtain rfl : a = c := Option.some.inj e1
    obtain rfl : s = q := Option.some.inj e2
    exact k _ _ ha
theorem keepT {H : Hp} {p : Addr} {xs ys : List V} (h : H p = some (.lst xs)) (c : Addr) (zs : List V) (e : H c = some (.tup zs)) : (upd H p (.lst ys)) c = some (.tup zs) := by
  rw [upd_ne (fun z => by rw [z, h] at e; cases e)]; exact e
theorem SL.snoc {b l p a : Addr} {H : Hp} {cs : List Addr} {ss : List Stp} {s : Stp} (t : SL b l p H cs ss) (ha : H a = some (.tup (stV s))) : SL b l p (upd H p (.lst (cs.map V.ref ++ [.ref a]))) (cs ++ [a]) (ss ++ [s]) :=
  ⟨by rw [upd_same, List.map_append]; rfl, t.ps.snoc (keepT t.h) ha, t.nb, t.nl⟩
theorem tp1 {v : V} {t : TA} {σ : L2.St} {H : Hp} {Q : List V → Hp → Prop} (h : t σ H fun vs H1 => (v :: vs).length ≤ sizeLine ∧ ∀ p, H1 p = none → tNil σ (upd H1 p (.tup (v :: vs))) fun xs H2 => Q (.ref p :: xs) H2) : tCons (tTup (tCons (tC v) t)) tNil σ H Q := h
def spLSteps : Sp := fun vs H Q _ => ∃ (b l tl : Addr) (as : List Addr) (ts : Prs) (n d m : Nat), vs = [.ref b, .int (n : Int), .ref tl, .int (d : Int), .int (m : Int)] ∧ DealO H b l ∧ TL b l tl H as ts ∧ 1 ≤ n ∧ n ≤ 1000 ∧ 1 ≤ d ∧ d ≤ 1000 ∧ m ≤ 100 ∧
  ∀ p cs ss H', Dl b l H H' → H p = none → SL b l p H' cs ss → (∀ s ∈ ss, okS n ts.length d s) → ss.length ≤ m → Q (.ref p) H'
section
variable {P : Program} {w : World} {K : PySem.W.Frag} {mg : Str → Option Value} {base : Heap}
abbrev nLS : List Str := ["_law_deal", "_law_many", "_law_ties", "_law_deeds", "_law_length", "_law_found", "_law_at", "_law_turn"]
theorem scLS : FnScope nLS ["_law_deal", "_law_many", "_law_ties", "_law_deeds", "_law_length"] (defScope sLSteps) := ⟨rfl, rfl, rfl, by decide +kernel, rfl, by decide +kernel, by decide +kernel⟩
theorem ok_lsteps {f fA : Addr} {fd fdA : FuncData} (D : Df K mg "_law_steps" sLSteps ["_law_deal", "_law_many", "_law_ties", "_law_deeds", "_law_length"] f fd) (DA : Df K mg "_law_any" sLAny ["_law_deal", "_law_bound"] fA fdA) (B : Bt mg)
    (GA : FnOk P w K mg base CX0 1 fA fdA ["_law_deal", "_law_bound"] spAny) : FnOk P w K mg base CX0 2 f fd ["_law_deal", "_law_many", "_law_ties", "_law_deeds", "_law_length"] spLSteps := by
  refine D.F.ok scLS (fun vs H Q E h => ?_) (fun cdv A outer s H vs Q E hr h => ?_)
  · obtain ⟨b, l, tl, as, ts, n, d, m, rfl, _⟩ := h
    rfl
  · obtain ⟨b, l, tl, as, ts, n, d, m, rfl, hb, hT, n1, nb, d1, db, hm, q⟩ := h
    have hu := hr.units
    refine ⟨_, pss_cons (ps_par (i := 5) (j := 6) rfl scLS.nd rfl rfl (by decide) rfl rfl (pa_cons (pe_lst pa_nil) (pa_cons (pc DA GA hr pass0 (pa_cons (pv 0) (pa_cons pe_int pa_nil))) pa_nil)) rfl)
      (pss_cons (ps_for PassesOwn.never rfl (pi_range1 (by rfl) B.range (pa_cons (pv 4) pa_nil)) (pg_name (i := 7) scLS.nd rfl (.inl rfl))
        (pss_one (ps_if (PW.pt (pw_or (pt_cmpR (eqD (K := K) rfl hu) (pv 2) (pe_lst pa_nil) (nomark _)) (pw_or1 (pt_cmpR op_eq (pc DA GA hr pass0 (pa_cons (pv 0) (pa_cons pe_int pa_nil))) pe_int (nomark _)))))
          (pss_one (ps_expr (pe_bm PySem.F.plainAttrs_list PySem.F.slot_list_append PySem.F.type_list_append mt_append (pv 5) (pa_cons (pe_tup (pa_cons pe_str (pa_cons (pc DA GA hr pass0 (pa_cons (pv 0) (pa_cons (pv 1) pa_nil))) (pa_cons (pc DA GA hr pass0 (pa_cons (pv 0) (pa_cons (pv 3) pa_nil))) pa_nil)))) pa_nil))))
          (pss_cons (ps_set (i := 6) scLS.nd rfl (.inl rfl) (pe_ifExp (pt_cmpR op_gt (pc DA GA hr pass0 (pa_cons (pv 0) (pa_cons pe_int pa_nil))) pe_int (nomark _)) (pe_op op_add (pv 6) pe_int) (pc DA GA hr pass0 (pa_cons (pv 0) (pa_cons pe_int pa_nil)))))
          (pss_one (ps_expr (pe_bm PySem.F.plainAttrs_list PySem.F.slot_list_append PySem.F.type_list_append mt_append (pv 5) (pa_cons (pe_tup (pa_cons pe_str (pa_cons (pe_op op_mod (pe_callTy call_int1 (by rfl) B.int PyProof.Rows.boot_int (pa_cons (pv 6) pa_nil)) (pe_callB call_len_seq (by rfl) B.len PySem.boot_len (pa_cons (pv 2) pa_nil))) pa_nil))) pa_nil))))))))
      (pss_one (ps_ret (pv 5)))), ?_⟩
    refine ⟨(by show 0 ≤ sizeLine; decide), fun p hp => ?_⟩
    have s1 := same_new (o := HO.lst []) hp
    refine ⟨_, rfl, b, l, 20, rfl, hb.same s1, by decide, by decide, fun a H2 a0 a1 d2 => ⟨_, _, rfl, ?_⟩⟩
    dsimp only [List.set]
    have S0 : Dl b l H H2 ∧ SL b l p H2 [] [] := ⟨Same.dl s1 d2, SL.dl ⟨upd_same, ⟨rfl, fun i a s e => by cases e⟩, hb.nb hp, hb.nl hp⟩ (hb.same s1) d2⟩
    refine ⟨_, rfl, (m : Int), rfl, by omega, by omega, for_range (fun i σ H' => ∃ (cs : List Addr) (ss : List Stp) (at_ : Int) (v7 : Option V), σ = [some (.ref b), some (.int (n : Int)), some (.ref tl), some (.int (d : Int)), some (.int (m : Int)), some (.ref p), some (.int at_), v7] ∧ (Dl b l H H' ∧ SL b l p H' cs ss) ∧ (∀ s ∈ ss, okS n ts.length d s) ∧ ss.length ≤ i)
      ⟨[], [], a, none, rfl, S0, (fun s hs => nomatch hs), Nat.le_refl _⟩ ?_ ?_⟩
    · rintro i σ H3 hi ⟨cs, ss, at_, v7, rfl, ⟨d3, S3⟩, ok3, l3⟩
      refine gn ?_
      dsimp only [List.set]
      have T3 := hT.dl hb d3
      have lt : ∀ {cs : List Addr} {ss : List Stp} {H' : Hp}, SL b l p H' cs ss → ss.length ≤ i → (cs.map V.ref).length < sizeLine := fun {cs ss H'} S h => by rw [List.length_map, S.ps.1]; exact szl (by omega)
      refine ifG (fun c H5 => (c = false → ts ≠ []) ∧ Dl b l H3 H5) (fun c H5 d5 => ?_) fun go => ⟨_, rfl, (by show 0 ≤ sizeLine; decide), fun e he => eqNil (same_new he _ _ T3.h) (T3.ps.same (same_new he)) upd_same ⟨_, rfl, ?_⟩⟩
      · obtain ⟨cn, d5⟩ := d5
        have S5 := S3.dl d3.1 d5
        have D5 := d3.trans d5
        have T5 := T3.dl d3.1 d5
        refine ifD (fun _ => ?_) fun e => ?_
        · refine ⟨_, rfl, .inl ⟨rfl, _, SqL.of S5.h⟩, ?_⟩
          refine tp1 ⟨_, rfl, _, rfl, b, l, (n : Int), rfl, D5.1, by omega, by omega, fun h H6 h0 h1 d6 => ?_⟩
          refine ⟨_, rfl, _, rfl, b, l, (d : Int), rfl, d6.1, by omega, by omega, fun g H7 g0 g1 d7 => ⟨(by show 3 ≤ sizeLine; decide), fun a7 ha7 => ?_⟩⟩
          obtain ⟨h, rfl⟩ : ∃ k : Nat, h = (k : Int) := ⟨h.toNat, by omega⟩
          obtain ⟨g, rfl⟩ : ∃ k : Nat, g = (k : Int) := ⟨g.toNat, by omega⟩
          have D7 := (D5.trans d6).trans d7
          have S7 := (S5.dl D5.1 d6).dl d6.1 d7
          have S8 := S7.same (same_new (o := HO.tup (stV (.dd h g))) ha7)
          have h8 : (upd H7 a7 (.tup (stV (.dd h g)))) a7 = some (.tup (stV (.dd h g))) := upd_same
          have D8 := D7.new (o := HO.tup (stV (.dd h g))) ha7
          change tNil _ (upd H7 a7 (.tup (stV (.dd h g)))) _
          generalize upd H7 a7 (.tup (stV (.dd h g))) = H8 at S8 h8 D8 ⊢
          exact nilP ⟨p, _, .ref a7, rfl, rfl, S8.h, lt S8 l3, cs ++ [a7], ss ++ [.dd h g], at_, _, rfl, ⟨D8.put hp S8.nb S8.nl, S8.snoc h8⟩, fun s hs => (List.mem_append.mp hs).elim (ok3 s) (fun z => by rw [List.mem_singleton.mp z]; exact ⟨by omega, by omega⟩), by rw [List.length_append]; simp only [List.length_cons, List.length_nil]; omega⟩
        · have hne := cn e
          have tl0 : 0 < ts.length := by
            cases ts with
            | nil => exact (hne rfl).elim
            | cons t r => simp
          have fin : ∀ (z : Int) (H6 : Hp), Dl b l H5 H6 → (tDrop (tBM K "list" rAppend (tVar 5) (tCons (tTup (tCons (tC (.str "meet")) (tCons (tOp (rI (fun _ j => 0 < j) fun i j => V.int (i % j)) (tCB (fun xs H Q => (∃ i, xs = [V.int i] ∧ Q (V.int i) H) ∨ ∃ k, xs = [V.bl k] ∧ Q (V.int (if k = true then 1 else 0)) H) (tCons (tVar 6) tNil)) (tCB (rLenK K) (tCons (tVar 2) tNil))) tNil))) tNil)))
              { nx := (fun σ H' => ∃ (cs : List Addr) (ss : List Stp) (at_ : Int) (v7 : Option V), σ = [some (.ref b), some (.int (n : Int)), some (.ref tl), some (.int (d : Int)), some (.int (m : Int)), some (.ref p), some (.int at_), v7] ∧ (Dl b l H H' ∧ SL b l p H' cs ss) ∧ (∀ s ∈ ss, okS n ts.length d s) ∧ ss.length ≤ i + 1), rt := Q }
              [some (.ref b), some (.int (n : Int)), some (.ref tl), some (.int (d : Int)), some (.int (m : Int)), some (.ref p), some (.int z), some (.int (0 + (i : Int)))] H6 := fun z H6 d6 => by
            have S6 := S5.dl D5.1 d6
            have D6 := D5.trans d6
            have T6 := T5.dl D5.1 d6
            refine ⟨_, rfl, .inl ⟨rfl, _, SqL.of S6.h⟩, ?_⟩
            have z0 := Int.emod_nonneg z (show (ts.length : Int) ≠ 0 by omega)
            have z1 := Int.emod_lt_of_pos z (show (0 : Int) < (ts.length : Int) by omega)
            have el : ((as.map V.ref).length : Int) = (ts.length : Int) := by rw [List.length_map, T6.ps.1]
            refine tp1 ⟨_, rfl, .inl ⟨_, rfl, _, rfl, tl, _, rfl, .inl (SqL.of T6.h), _, _, rfl, rfl, by rw [el]; omega, (by show 2 ≤ sizeLine; decide), fun a7 ha7 => ?_⟩⟩
            obtain ⟨k, ek, kl⟩ : ∃ k : Nat, z % (ts.length : Int) = (k : Int) ∧ k < ts.length := ⟨(z % (ts.length : Int)).toNat, by omega, by omega⟩
            have ee : (HO.tup [V.str "meet", .int (z % ((as.map V.ref).length : Int))]) = .tup (stV (.mt k)) := by rw [el, ek]; rfl
            show tNil _ (upd H6 a7 (HO.tup [V.str "meet", .int (z % ((as.map V.ref).length : Int))])) _
            rw [ee]
            have S8 := S6.same (same_new (o := HO.tup (stV (.mt k))) ha7)
            have h8 : (upd H6 a7 (.tup (stV (.mt k)))) a7 = some (.tup (stV (.mt k))) := upd_same
            have D8 := D6.new (o := HO.tup (stV (.mt k))) ha7
            generalize upd H6 a7 (.tup (stV (.mt k))) = H8 at S8 h8 D8 ⊢
            exact nilP ⟨p, _, .ref a7, rfl, rfl, S8.h, lt S8 l3, cs ++ [a7], ss ++ [.mt k], z, _, rfl, ⟨D8.put hp S8.nb S8.nl, S8.snoc h8⟩, fun s hs => (List.mem_append.mp hs).elim (ok3 s) (fun z => by rw [List.mem_singleton.mp z]; exact kl), by rw [List.length_append]; simp only [List.length_cons, List.length_nil]; omega⟩
          refine ⟨_, rfl, b, l, 3, rfl, D5.1, by decide, by decide, fun f H6 _ _ d6 => ⟨_, _, rfl, rfl, _, rfl, ifD (fun _ => ?_) fun _ => ?_⟩⟩
          · refine ⟨_, rfl, _, _, rfl, rfl, ?_⟩
            refine gn ?_
            dsimp only [List.set]
            exact fin _ _ d6
          · refine ⟨_, rfl, b, l, 20, rfl, d6.1, by decide, by decide, fun g H7 _ _ d7 => ?_⟩
            refine gn ?_
            dsimp only [List.set]
            exact fin _ _ (d6.trans d7)
      · have dn : Dl b l H3 (upd H3 e (.lst [])) := (Dl.refl d3.1).new he
        refine ifD (fun _ => go true _ ⟨fun z => (by cases z), dn⟩) fun e2 => ?_
        have hne : ts ≠ [] := by simpa using e2
        exact ⟨_, rfl, b, l, 3, rfl, dn.1, by decide, by decide, fun r' H5 _ _ d5 => ⟨rfl, _, rfl, go _ _ ⟨fun _ => hne, dn.trans d5⟩⟩⟩
    · rintro σ H3 ⟨cs, ss, at_, v7, rfl, ⟨d3, S3⟩, ok3, l3⟩
      exact ⟨_, rfl, q p cs ss H3 d3 hp S3 ok3 (by simpa using l3)⟩
end
end K1
namespace K1
open PySem PySem.Spec PyProof.Rows L2
abbrev IP : Type := Int × Int
def pI (q : IP) : List V := [.int q.1, .int q.2]
def dQ (q : IP) : PyData := .tuple [.int q.1, .int q.2]
def PrA (H : Hp) (cs : List Addr) (ps : List IP) : Prop := cs.length = ps.length ∧ ∀ (i : Nat) c q, cs[i]? = some c → ps[i]? = some q → H c = some (.tup (pI q))
theorem PrA.same {H H' : Hp} {cs : List Addr} {ps : List IP} (h : PrA H cs ps) (s : Same H H') : PrA H' cs ps := ⟨h.1, fun i c q e1 e2 => s _ _ (h.2 i c q e1 e2)⟩
theorem PrA.get {H : Hp} {cs : List Addr} {ps : List IP} (h : PrA H cs ps) {i : Nat} {q : IP} (e : ps[i]? = some q) : ∃ c, cs[i]? = some c ∧ H c = some (.tup (pI q)) := by
  obtain ⟨a, ha⟩ := ex_at (l := cs) (i := i) (by rw [h.1]; exact lt_at e)
  exact ⟨a, ha, h.2 i a q ha e⟩
theorem PrA.get' {H : Hp} {cs : List Addr} {ps : List IP} (h : PrA H cs ps) {i : Nat} {x : V} (e : (cs.map V.ref)[i]? = some x) : ∃ c q, x = .ref c ∧ cs[i]? = some c ∧ ps[i]? = some q ∧ H c = some (.tup (pI q)) := by
  obtain ⟨a, ha, rfl⟩ := at_map e
  obtain ⟨q, hq⟩ := ex_at (l := ps) (i := i) (by rw [← h.1]; exact lt_at ha)
  exact ⟨a, q, rfl, ha, hq, h.2 i a q ha hq⟩
theorem PrA.snoc {H H' : Hp} {cs : List Addr} {ss : List IP} {a : Addr} {s : IP} (t : PrA H cs ss) (k : ∀ (c : Addr) xs, H c = some (.tup xs) → H' c = some (.tup xs)) (ha : H a = some (.tup (pI s))) : PrA H' (cs ++ [a]) (ss ++ [s]) := by
  refine ⟨by rw [List.length_append, List.length_append, t.1]; rfl, fun i c q e1 e2 => ?_⟩
  by_cases hi : i < cs.length
  · rw [List.getElem?_append_left hi] at e1
    rw [List.getElem?_append_left (by rw [← t.1]; exact hi)] at e2
    exact k _ _ (t.2 i c q e1 e2)
  · have hil := lt_at e1
    rw [List.length_append] at hil
    have : i = cs.length := by simp only [List.length_cons, List.length_nil] at hil; omega
    subst this
    rw [List.getElem?_append_right (Nat.le_refl _), Nat.sub_self] at e1
    rw [t.1, List.getElem?_append_right (Nat.le_refl _), Nat.sub_self] at e2
    obtain rfl : a = c := Option.some.inj e1
    obtain rfl : s = q := Option.some.inj e2
    exact k _ _ ha
theorem PrA.dp {K : PySem.W.Frag} {H : Hp} : ∀ {cs : List Addr} {ps : List IP}, PrA H cs ps → DpAll K H (cs.map V.ref) (ps.map dQ)
  | [], [], _ => .nil
  | a :: as, t :: ts, h => .cons (.tup (SqT.of (h.2 0 a t rfl rfl)) (.cons (.int _) (.cons (.int _) .nil))) (PrA.dp (cs := as) (ps := ts) ⟨by have := h.1; simpa using this, fun i a t e1 e2 => h.2 (i + 1) a t e1 e2⟩)
  | [], _ :: _, h => by cases h.1
  | _ :: _, [], h => by cases h.1
theorem layQ : ∀ ts : List IP, PyData.canLayAll0 (ts.map dQ) = true
  | [] => rfl
  | t :: r => by
    show (PyData.canLay0 (dQ t) && PyData.canLayAll0 (r.map dQ)) = true
    rw [layQ r]; rfl
theorem depQ : ∀ ts : List IP, PyData.depthAll (ts.map dQ) ≤ 1
  | [] => Nat.zero_le _
  | t :: r => by
    show max (PyData.depth (dQ t)) (PyData.depthAll (r.map dQ)) ≤ 1
    have := depQ r
    have h1 : PyData.depth (dQ t) = 1 := by
      show max 0 (max 0 0) + 1 = 1
      rfl
    rw [h1]
    omega
theorem shQ (ts : List IP) : SeqAt.shaped (.list (ts.map dQ)) = true := by
  unfold SeqAt.shaped
  rw [show PyData.canLay0 (.list (ts.map dQ)) = true from layQ ts]
  have : PyData.depth (.list (ts.map dQ)) ≤ 64 := by
    show PyData.depthAll (ts.map dQ) + 1 ≤ 64
    have := depQ ts
    omega
  rw [decide_eq_true this]; rfl
theorem eqQ (p q : IP) : PyData.eqv (dQ p) (dQ q) = decide (p = q) := by
  show ((p.1 == q.1) && ((p.2 == q.2) && true)) = _
  by_cases e : p = q
  · subst e
    rw [decide_eq_true rfl, beq_self_eq_true, beq_self_eq_true]; rfl
  · rw [decide_eq_false e, Bool.and_true, Bool.and_eq_false_iff]
    by_cases e1 : p.1 = q.1
    · refine .inr (beq_eq_false_iff_ne.mpr fun e2 => e (Prod.ext e1 e2))
    · exact .inl (beq_eq_false_iff_ne.mpr e1)
theorem anyQ (q : IP) (ps : List IP) : (ps.map dQ).any (fun z => PyData.eqv z (dQ q)) = decide (q ∈ ps) := by
  induction ps with
  | nil => rfl
  | cons p r ih =>
    rw [List.map_cons, List.any_cons, ih, eqQ]
    by_cases e : p = q
    · subst e; rw [decide_eq_true rfl, decide_eq_true List.mem_cons_self]; rfl
    · rw [decide_eq_false e, Bool.false_or]
      congr 1
      exact propext ⟨fun h => List.mem_cons_of_mem _ h, fun h => (List.mem_cons.mp h).resolve_left fun z => e z.symm⟩
theorem notQ {K : PySem.W.Frag} {H : Hp} {a p : Addr} {q : IP} {cs : List Addr} {ps : List IP} {Q : VK} (ha : H a = some (.tup (pI q))) (hp : H p = some (.lst (cs.map V.ref))) (hA : PrA H cs ps) (k : Q (.bl (!decide (q ∈ ps))) H) : rNotInD K (.ref a) (.ref p) H Q :=
  ⟨dQ q, ps.map dQ, .tup (SqT.of ha) (.cons (.int _) (.cons (.int _) .nil)), .lst (SqL.of hp) hA.dp, rfl, shQ ps, qbl (by rw [anyQ]) k⟩
/-! ### the law's own search -/
def qst (tb : Ts) (q : IP) (d : Nat) : IP := (stp tb q.1 (d : Int), stp tb q.2 (d : Int))
structure Sq (tb : Ts) (a h : Int) (ps : List IP) (i m : Nat) : Prop where
  nd : ps.Nodup
  h0 : ps[0]? = some (a, h)
  rg : ∀ q ∈ ps, (0 ≤ q.1 ∧ q.1 < (nS tb : Int)) ∧ (0 ≤ q.2 ∧ q.2 < (nS tb : Int))
  rc : ∀ q ∈ ps, ∃ r : List Int, (∀ d ∈ r, 0 ≤ d ∧ d < (tb.length : Int)) ∧ run tb a r = q.1 ∧ run tb h r = q.2
  dn : ∀ (j : Nat) q, ps[j]? = some q → ∀ d, d < tb.length → (j < i ∨ (j = i ∧ d < m)) → qst tb q d ∈ ps
theorem Sq.up {tb : Ts} {a h : Int} {ps : List IP} {i m : Nat} (s : Sq tb a h ps i m) (e : tb.length ≤ m) : Sq tb a h ps (i + 1) 0 := ⟨s.nd, s.h0, s.rg, s.rc, fun j q hj d hd z => s.dn j q hj d hd (by rcases z with z | ⟨z, z2⟩ <;> omega)⟩
theorem Sq.skip {tb : Ts} {a h : Int} {ps : List IP} {i : Nat} (s : Sq tb a h ps i 0) (e : ps.length ≤ i) : Sq tb a h ps (i + 1) 0 := ⟨s.nd, s.h0, s.rg, s.rc, fun j q hj d hd _ => s.dn j q hj d hd (by have := lt_at hj; omega)⟩
theorem Sq.have_ {tb : Ts} {a h : Int} {ps : List IP} {i m : Nat} {q : IP} (s : Sq tb a h ps i m) (hq : ps[i]? = some q) (e : qst tb q m ∈ ps) : Sq tb a h ps i (m + 1) := ⟨s.nd, s.h0, s.rg, s.rc, fun j q' hj d hd z => by
  by_cases z2 : j < i ∨ (j = i ∧ d < m)
  · exact s.dn j q' hj d hd z2
  · obtain ⟨rfl, rfl⟩ : j = i ∧ d = m := by omega
    rw [hq] at hj
    rw [← Option.some.inj hj]; exact e⟩
theorem Sq.put {tb : Ts} {a h : Int} {ps : List IP} {i m : Nat} {q : IP} (hw : Wf tb) (s : Sq tb a h ps i m) (hq : ps[i]? = some q) (hm : m < tb.length) (e : qst tb q m ∉ ps) : Sq tb a h (ps ++ [qst tb q m]) i (m + 1) := by
  have hqm := List.mem_of_getElem? hq
  obtain ⟨g1, g2⟩ := s.rg q hqm
  have dm : 0 ≤ (m : Int) ∧ (m : Int) < (tb.length : Int) := ⟨by omega, by omega⟩
  obtain ⟨_, _, _, b1⟩ := hw.at_ dm g1
  obtain ⟨_, _, _, b2⟩ := hw.at_ dm g2
  obtain ⟨r, r1, r2, r3⟩ := s.rc q hqm
  refine ⟨?_, ?_, fun x hx => ?_, fun x hx => ?_, fun j q' hj d hd z => ?_⟩
  · rw [List.nodup_append]
    exact ⟨s.nd, by simp, fun x hx y hy => by rw [List.mem_singleton.mp hy]; exact fun z => e (z ▸ hx)⟩
  · rw [List.getElem?_append_left (lt_at s.h0)]; exact s.h0
  · rcases List.mem_append.mp hx with z | z
    · exact s.rg x z
    · rw [List.mem_singleton.mp z]; exact ⟨b1, b2⟩
  · rcases List.mem_append.mp hx with z | z
    · exact s.rc x z
    · rw [List.mem_singleton.mp z]
      exact ⟨r ++ [(m : Int)], fun d hd => (List.mem_append.mp hd).elim (r1 d) (fun z => by rw [List.mem_singleton.mp z]; exact dm), by rw [run_snoc, r2]; rfl, by rw [run_snoc, r3]; rfl⟩
  · have hi := lt_at hq
    have hjl : j < ps.length := by omega
    rw [List.getElem?_append_left hjl] at hj
    by_cases z2 : j < i ∨ (j = i ∧ d < m)
    · exact List.mem_append_left _ (s.dn j q' hj d hd z2)
    · obtain ⟨rfl, rfl⟩ : j = i ∧ d = m := by omega
      rw [hq] at hj
      rw [← Option.some.inj hj]
      exact List.mem_append_right _ (List.mem_singleton.mpr rfl)
theorem Sq.few {tb : Ts} {a h : Int} {ps : List IP} {i m : Nat} (s : Sq tb a h ps i m) (h5 : nS tb ≤ 5) : ps.length ≤ 25 := by
  have nd2 : (ps.map fun q => q.1 * 5 + q.2).Nodup := by
    rw [List.Nodup, List.pairwise_map]
    refine List.Pairwise.imp_of_mem (fun {x y} hx hy hne e => hne ?_) s.nd
    obtain ⟨x1, x2⟩ := s.rg x hx
    obtain ⟨y1, y2⟩ := s.rg y hy
    exact Prod.ext (by omega) (by omega)
  have := nodup_le 25 _ nd2 fun z hz => by
    obtain ⟨q, hq, rfl⟩ := List.mem_map.mp hz
    obtain ⟨x1, x2⟩ := s.rg q hq
    show 0 ≤ q.1 * 5 + q.2 ∧ q.1 * 5 + q.2 < ((25 : Nat) : Int)
    omega
  rw [List.length_map] at this
  omega
def fnd (ps : List IP) (t : Int) : List Int := (ps.filter fun q => decide (q.1 = t)).map (·.2)
theorem Sq.all {tb : Ts} {a h : Int} {ps : List IP} (s : Sq tb a h ps 25 0) (h5 : nS tb ≤ 5) : ∀ r : List Int, (∀ d ∈ r, 0 ≤ d ∧ d < (tb.length : Int)) → (run tb a r, run tb h r) ∈ ps := by
  intro r
  generalize hm : r.length = m
  induction m generalizing r with
  | zero =>
    intro _
    obtain rfl : r = [] := List.eq_nil_of_length_eq_zero hm
    exact List.mem_of_getElem? s.h0
  | succ m ih =>
    intro hr
    rcases List.eq_nil_or_concat r with rfl | ⟨q, e, rfl⟩
    · cases hm
    · rw [List.concat_eq_append] at hr hm ⊢
      have hq : q.length = m := by
        rw [List.length_append] at hm
        simp only [List.length_cons, List.length_nil] at hm
        omega
      have h1 := ih q hq fun x hx => hr x (List.mem_append_left _ hx)
      have he := hr e (List.mem_append_right _ (List.mem_singleton.mpr rfl))
      obtain ⟨j, hj⟩ := List.getElem?_of_mem h1
      have hl := s.few h5
      have := s.dn j _ hj e.toNat (by omega) (.inl (by have := lt_at hj; omega))
      rw [run_snoc, run_snoc]
      have ee : ((e.toNat : Nat) : Int) = e := by omega
      unfold qst at this
      rw [ee] at this
      exact this
theorem Sq.ends {tb : Ts} {a h : Int} {ps : List IP} (s : Sq tb a h ps 25 0) (h5 : nS tb ≤ 5) (t x : Int) : x ∈ fnd ps t ↔ EndR tb a h t x := by
  constructor
  · intro hx
    obtain ⟨q, hq, rfl⟩ := List.mem_map.mp hx
    obtain ⟨q1, q2⟩ := List.mem_filter.mp hq
    have q2 : q.1 = t := of_decide_eq_true q2
    obtain ⟨r, r1, r2, r3⟩ := s.rc q q1
    exact ⟨r, r1, by rw [r2, q2], r3⟩
  · rintro ⟨r, r1, rfl, rfl⟩
    exact List.mem_map.mpr ⟨_, List.mem_filter.mpr ⟨s.all h5 r r1, decide_eq_true rfl⟩, rfl⟩
theorem Sq.fnd_nd {tb : Ts} {a h : Int} {ps : List IP} {i m : Nat} (s : Sq tb a h ps i m) (t : Int) : (fnd ps t).Nodup := by
  unfold fnd
  rw [List.Nodup, List.pairwise_map]
  refine List.Pairwise.imp_of_mem (fun {x y} hx hy hne e => hne ?_) (List.Pairwise.filter _ s.nd)
  have x1 : x.1 = t := of_decide_eq_true (List.mem_filter.mp hx).2
  have y1 : y.1 = t := of_decide_eq_true (List.mem_filter.mp hy).2
  exact Prod.ext (by rw [x1, y1]) e
end K1
namespace K1
open PySem PySem.Spec PyProof.Rows L2
/-- a list of lists -/
def TbL (H : Hp) (p : Addr) (as : List Addr) (ts : Ts) : Prop := H p = some (.lst (as.map V.ref)) ∧ as.length = ts.length ∧ ∀ (i : Nat) a t, as[i]? = some a → ts[i]? = some t → H a = some (.lst (vrow t))
theorem TbL.same {H H' : Hp} {p : Addr} {as : List Addr} {ts : Ts} (h : TbL H p as ts) (s : Same H H') : TbL H' p as ts := ⟨s _ _ h.1, h.2.1, fun i a t e1 e2 => s _ _ (h.2.2 i a t e1 e2)⟩
theorem notInDK {X : Cx} {K : PySem.W.Frag} (h : X.K = K) (hu : X.A.units + 65 < cLine) : OpR X (compareOp .NotIn) (rNotInD K) := by subst h; exact op_notInD hu
def spLJoins : Sp := fun vs H Q _ => ∃ (p : Addr) (as : List Addr) (tb : Ts) (a h t : Int), vs = [.ref p, .int a, .int h, .int t] ∧ TbL H p as tb ∧ Wf tb ∧ nS tb ≤ 5 ∧ (0 ≤ a ∧ a < (nS tb : Int)) ∧ (0 ≤ h ∧ h < (nS tb : Int)) ∧
  ∀ q l H', Same H H' → H q = none → H' q = some (.lst (vrow l)) → l.Nodup → (∀ x, x ∈ l ↔ EndR tb a h t x) → Q (.ref q) H'
theorem fnd_snoc (ps : List IP) (q : IP) (t : Int) : fnd (ps ++ [q]) t = fnd ps t ++ (if q.1 = t then [q.2] else []) := by
  unfold fnd
  rw [List.filter_append, List.map_append]
  by_cases z : q.1 = t
  · rw [if_pos z, List.filter_cons, if_pos (decide_eq_true z), List.filter_nil]; rfl
  · rw [if_neg z, List.filter_cons, if_neg (by simpa using z), List.filter_nil]; rfl
theorem fnd_len (ps : List IP) (t : Int) : (fnd ps t).length ≤ ps.length := by
  unfold fnd
  rw [List.length_map]
  exact List.length_filter_le _ _
section
variable {P : Program} {w : World} {K : PySem.W.Frag} {mg : Str → Option Value} {base : Heap}
abbrev nLJ : List Str := ["_law_tables", "_law_archive", "_law_here", "_law_there", "_law_pairs", "_law_at", "_law_table", "_law_after", "_law_pair"]
theorem scLJ : FnScope nLJ ["_law_tables", "_law_archive", "_law_here", "_law_there"] (defScope sLJoins) := ⟨rfl, rfl, rfl, by decide +kernel, rfl, by decide +kernel, by decide +kernel⟩
theorem ok_ljoins {f : Addr} {fd : FuncData} (D : Df K mg "_law_joins" sLJoins ["_law_tables", "_law_archive", "_law_here", "_law_there"] f fd) (B : Bt mg) : FnOk P w K mg base CX0 1 f fd ["_law_tables", "_law_archive", "_law_here", "_law_there"] spLJoins := by
  refine D.F.ok scLJ (fun vs H Q E h => ?_) (fun cdv A outer s H vs Q E hr h => ?_)
  · obtain ⟨p, as, tb, a, h, t, rfl, _⟩ := h
    rfl
  · obtain ⟨p, as, tb, a, h, t, rfl, hL, hW, h5, ha, hh, q⟩ := h
    have hu : (A.deeper (envOfC "_law_joins" (defScope sLJoins) s.heap.objs.size f cdv)).units + 65 < cLine := by have := hr.un; omega
    refine ⟨_, pss_cons (ps_set (i := 4) scLJ.nd rfl (.inl rfl) (pe_lst (pa_cons (pe_tup (pa_cons (pv 1) (pa_cons (pv 2) pa_nil))) pa_nil)))
      (pss_cons (ps_for PassesOwn.never rfl (pi_range1 (by rfl) B.range (pa_cons pe_int pa_nil)) (pg_name (i := 5) scLJ.nd rfl (.inl rfl))
        (pss_one (ps_if (pt_cmpR op_lt (pv 5) (pe_callB call_len_seq (by rfl) B.len PySem.boot_len (pa_cons (pv 4) pa_nil)) (nomark _))
          (pss_one (ps_for PassesOwn.never rfl (pi_list (pv 0)) (pg_name (i := 6) scLJ.nd rfl (.inl rfl))
            (pss_cons (ps_set (i := 7) scLJ.nd rfl (.inl rfl) (pe_tup (pa_cons (pe_ix ix_list (pv 6) (pe_ix ix_tup (pe_ix ix_list (pv 4) (pv 5) (fun _ _ => rfl)) pe_int (fun _ _ => rfl)) (fun _ _ => rfl)) (pa_cons (pe_ix ix_list (pv 6) (pe_ix ix_tup (pe_ix ix_list (pv 4) (pv 5) (fun _ _ => rfl)) pe_int (fun _ _ => rfl)) (fun _ _ => rfl)) pa_nil))))
            (pss_one (ps_if (pt_cmpR (notInDK (K := K) rfl hu) (pv 7) (pv 4) rfl) (pss_one (ps_expr (pe_bm PySem.F.plainAttrs_list PySem.F.slot_list_append PySem.F.type_list_append mt_append (pv 4) (pa_cons (pv 7) pa_nil)))) pss_nil)))))
          pss_nil)))
      (pss_one (ps_ret (pe_lc (own := [("_law_pair", 8)]) (g := gName 8) rfl scLJ.nd (pi_list (pv 4)) (blkOk_by (N := nLJ) (sc := defScope sLJoins) (by decide +kernel)) (fun _ _ _ _ _ => pg_name (i := 8) scLJ.nd rfl (Or.inl rfl))
        (fun _ _ _ _ _ => pts_one (pt_cmpR op_eq (pe_ix (ixTK (K := K) rfl) (pv 8) pe_int (fun _ _ => rfl)) (pv 3) (nomark _)))
        (fun _ _ _ _ _ => pe_ix (ixTK (K := K) rfl) (pv 8) pe_int (fun _ _ => rfl)))))), ?_⟩
    have hp5 : ∀ {ps : List IP} {i m : Nat}, Sq tb a h ps i m → ps.length ≤ 25 := fun s => s.few h5
    refine ⟨_, rfl, _, rfl, (by show 2 ≤ sizeLine; decide), fun c0 hc0 => ?_⟩
    have s0 := same_new (o := HO.tup [V.int a, .int h]) hc0
    have e0 : (upd H c0 (.tup [V.int a, .int h])) c0 = some (.tup (pI (a, h))) := upd_same
    generalize upd H c0 (.tup [V.int a, .int h]) = H1 at s0 e0 ⊢
    refine ⟨(by show 1 ≤ sizeLine; decide), fun pl hpl => ?_⟩
    have s1 := same_new (o := HO.lst [V.ref c0]) hpl
    have hpl0 : H pl = none := s0.free hpl
    dsimp only [List.set]
    let Inv : Nat → Nat → Hp → Prop := fun i m H' => ∃ (cs : List Addr) (ps : List IP), Same H H' ∧ H' pl = some (.lst (cs.map V.ref)) ∧ PrA H' cs ps ∧ Sq tb a h ps i m
    have I0 : Inv 0 0 (upd H1 pl (.lst [V.ref c0])) := ⟨[c0], [(a, h)], s0.trans s1, upd_same, ⟨rfl, fun i c q e1 e2 => by
      match i, e1, e2 with
      | 0, e1, e2 =>
        obtain rfl := Option.some.inj e1
        obtain rfl := Option.some.inj e2
        exact s1 _ _ e0
      | (i + 1), e1, _ => cases e1⟩, by simp, rfl, fun q hq => by rw [List.mem_singleton.mp hq]; exact ⟨ha, hh⟩, fun q hq => by rw [List.mem_singleton.mp hq]; exact ⟨[], (fun d hd => nomatch hd), rfl, rfl⟩, fun j q hj d hd z => by rcases z with z | ⟨_, z⟩ <;> exact absurd z (Nat.not_lt_zero _)⟩
    generalize upd H1 pl (.lst [V.ref c0]) = H2 at I0 ⊢
    refine ⟨25, rfl, by decide, by decide, for_range (fun i σ H' => ∃ v5 v6 v7 : Option V, σ = [some (.ref p), some (.int a), some (.int h), some (.int t), some (.ref pl), v5, v6, v7, none] ∧ Inv i 0 H') ⟨none, none, none, rfl, I0⟩ ?_ ?_⟩
    · rintro i σ H3 hi ⟨v5, v6, v7, rfl, cs, ps, s3, hpl3, hA, hS⟩
      refine gn ?_
      dsimp only [List.set]
      have ei : (0 : Int) + (i : Int) = (i : Int) := by omega
      rw [ei]
      have ll : ((cs.map V.ref).length : Int) = (ps.length : Int) := by rw [List.length_map, hA.1]
      refine ⟨_, rfl, _, rfl, pl, _, rfl, .inl (SqL.of hpl3), ?_⟩
      rw [ll]
      refine ⟨_, _, rfl, rfl, _, rfl, ifD (fun e => ?_) fun e => nxP ⟨_, _, _, rfl, cs, ps, s3, hpl3, hA, hS.skip (Nat.le_of_not_lt fun z => by rw [decide_eq_true (show (i : Int) < (ps.length : Int) by omega)] at e; cases e)⟩⟩
      have hil : i < ps.length := by
        have z : (i : Int) < (ps.length : Int) := by simpa using e
        omega
      refine ⟨_, rfl, p, rfl, ⟨_, SqL.of (s3 _ _ hL.1)⟩, for_list (K := K) (a := p) (xs := as.map V.ref) (fun m σ H' => ∃ v6 v7 : Option V, σ = [some (.ref p), some (.int a), some (.int h), some (.int t), some (.ref pl), some (.int (i : Int)), v6, v7, none] ∧ ∃ (cs : List Addr) (ps : List IP), Same H H' ∧ H' pl = some (.lst (cs.map V.ref)) ∧ PrA H' cs ps ∧ Sq tb a h ps i m ∧ i < ps.length)
        ⟨_, _, rfl, cs, ps, s3, hpl3, hA, hS, hil⟩ (fun m σ H' _ ⟨_, _, _, _, _, s4, _⟩ => SqL.of (s4 _ _ hL.1)) ?_ ?_⟩
      · rintro m x σ H4 hx ⟨v6, v7, rfl, cs, ps, s4, hpl4, hA, hS, hil⟩
        obtain ⟨aT, haT, rfl⟩ := at_map hx
        have hml : m < tb.length := by rw [← hL.2.1]; exact lt_at haT
        obtain ⟨q, hq⟩ := ex_at hil
        obtain ⟨c, hc, hcq⟩ := hA.get hq
        obtain ⟨g1, g2⟩ := hS.rg q (List.mem_of_getElem? hq)
        have dm : 0 ≤ (m : Int) ∧ (m : Int) < (tb.length : Int) := ⟨by omega, by omega⟩
        obtain ⟨T, T1, T2, T3⟩ := hW.at_ dm g1
        obtain ⟨T', T1', T2', T3'⟩ := hW.at_ dm g2
        rw [Int.toNat_natCast] at T1 T1'
        rw [T1] at T1'
        obtain rfl := Option.some.inj T1'
        have hTt := s4 _ _ (hL.2.2 m aT T haT T1)
        refine gn ?_
        dsimp only [List.set]
        have rdc : ∀ {j : Nat} {v : V}, (pI q)[j]? = some v → atI (pI q) (j : Int) = some v := fun h => at_i h
        have rdT : ∀ {s : Int}, 0 ≤ s → T[s.toNat]? = some (stp tb s (m : Int)) → atI (vrow T) s = some (.int (stp tb s (m : Int))) := fun {s} h0 hs => at_of (j := s.toNat) (by omega) (by rw [vrow, List.getElem?_map, hs]; rfl)
        refine ⟨_, rfl, _, rfl, _, rfl, pl, _, (i : Int), .ref c, rfl, rfl, SqL.of hpl4, at_i (map_at hc), c, _, (0 : Int), .int q.1, rfl, rfl, SqT.of hcq, rdc (j := 0) rfl, aT, _, q.1, .int (stp tb q.1 (m : Int)), rfl, rfl, SqL.of hTt, rdT g1.1 T2, ?_⟩
        refine ⟨_, rfl, _, rfl, _, rfl, pl, _, (i : Int), .ref c, rfl, rfl, SqL.of hpl4, at_i (map_at hc), c, _, (1 : Int), .int q.2, rfl, rfl, SqT.of hcq, rdc (j := 1) rfl, aT, _, q.2, .int (stp tb q.2 (m : Int)), rfl, rfl, SqL.of hTt, rdT g2.1 T2', (by show 2 ≤ sizeLine; decide), fun c7 hc7 => ?_⟩
        have s7 := same_new (o := HO.tup (pI (qst tb q m))) hc7
        have h7 : (upd H4 c7 (.tup (pI (qst tb q m)))) c7 = some (.tup (pI (qst tb q m))) := upd_same
        have ee : (HO.tup [V.int (stp tb q.1 (m : Int)), .int (stp tb q.2 (m : Int))]) = .tup (pI (qst tb q m)) := rfl
        rw [ee]
        generalize upd H4 c7 (.tup (pI (qst tb q m))) = H7 at s7 h7 ⊢
        dsimp only [List.set]
        have hpl7 := s7 _ _ hpl4
        refine ⟨_, rfl, _, rfl, notQ h7 hpl7 (hA.same s7) ⟨_, rfl, ifD (fun e => ?_) fun e => nxP ⟨_, _, rfl, cs, ps, s4.trans s7, hpl7, hA.same s7, hS.have_ hq (by simpa using e), hil⟩⟩⟩
        have hn : qst tb q m ∉ ps := by simpa using e
        have h25 := hp5 hS
        refine ⟨_, rfl, .inl ⟨rfl, _, SqL.of hpl7⟩, _, rfl, pl, _, .ref c7, rfl, rfl, hpl7, by rw [List.length_map, hA.1]; exact szl (by omega), ?_⟩
        refine ⟨_, _, rfl, cs ++ [c7], ps ++ [qst tb q m], fun d u e => ?_, by rw [upd_same, List.map_append]; rfl, (hA.same s7).snoc (keepT hpl7) h7, hS.put hW hq hml hn, by rw [List.length_append]; omega⟩
        rw [upd_ne (ne_of_none e hpl0)]
        exact s7 _ _ (s4 _ _ e)
      · rintro σ H4 ⟨v6, v7, rfl, cs, ps, s4, hpl4, hA, hS, hil⟩
        exact ⟨_, _, _, rfl, cs, ps, s4, hpl4, hA, hS.up (by rw [List.length_map, hL.2.1]; exact Nat.le_refl _)⟩
    · rintro σ H3 ⟨v5, v6, v7, rfl, cs, ps, s3, hpl3, hA, hS⟩
      refine ⟨_, rfl, pl, rfl, ⟨_, SqL.of hpl3⟩, fun D0 hD0 => lc_list (K := K) (a := pl) (xs := cs.map V.ref) (fun i H4 => Same H3 H4 ∧ H4 D0 = some (.lst (vrow (fnd (ps.take i) t)))) ⟨same_new hD0, by rw [upd_same]; rfl⟩ (fun i H4 _ ⟨s4, _⟩ => SqL.of (s4 _ _ hpl3)) ?_ ?_⟩
      · rintro i x H4 hx ⟨s4, hD4⟩
        obtain ⟨c, q, rfl, hc, hq, hcq⟩ := hA.get' hx
        have hcq4 := s4 _ _ hcq
        have ea := take_succ hq
        have h25 := hp5 hS
        have lf : (vrow (fnd (ps.take i) t)).length < sizeLine := by
          rw [vrow_len]
          have := fnd_len (ps.take i) t
          rw [List.length_take] at this
          exact szl (by omega)
        refine ⟨rfl, _, rfl, c, _, (0 : Int), .int q.1, rfl, rfl, SqT.of hcq4, at_i (i := 0) rfl, _, rfl, rfl, _, rfl, ?_⟩
        rw [ea, fnd_snoc]
        refine ifD (fun e => ?_) fun e => ?_
        · have hqt : q.1 = t := by simpa using e
          rw [if_pos hqt]
          refine ⟨_, rfl, c, _, (1 : Int), .int q.2, rfl, rfl, SqT.of hcq4, at_i (i := 1) rfl, _, hD4, lf, fun d u e => by rw [upd_ne (ne_of_none e hD0)]; exact s4 _ _ e, ?_⟩
          rw [upd_same, vrow, vrow, List.map_append]; rfl
        · have hqt : ¬ q.1 = t := fun z => by rw [z] at e; simp at e
          rw [if_neg hqt, List.append_nil]
          exact ⟨s4, hD4⟩
      · rintro H4 ⟨s4, hD4⟩
        rw [List.take_of_length_le (by rw [List.length_map, hA.1]; exact Nat.le_refl _)] at hD4
        exact q D0 (fnd ps t) H4 (s3.trans s4) (s3.free hD0) hD4 (hS.fnd_nd t) (hS.ends h5 t)
end
end K1
namespace K1
open PySem PySem.Spec PyProof.Rows L2
/-- closed under the ties -/
def Clo (ts : Prs) (fs : List Nat) : Prop := ∀ p ∈ ts, (p.1 ∈ fs ↔ p.2 ∈ fs)
theorem Clo.all {ts : Prs} {fs : List Nat} {a b : Nat} (c : Clo ts fs) (ha : a ∈ fs) (h : Cn ts a b) : b ∈ fs := by
  induction h with
  | refl => exact ha
  | step _ j ih =>
    obtain ⟨p, hp, ⟨e1, e2⟩ | ⟨e1, e2⟩⟩ := j
    · rw [e2]; exact (c p hp).mp (e1 ▸ ih)
    · rw [e2]; exact (c p hp).mpr (e1 ▸ ih)
/-- how the law's closing stands: k passes, and j ties of the next one, are done -/
structure Fnd (ts : Prs) (h k j : Nat) (fs : List Nat) : Prop where
  nd : fs.Nodup
  cn : ∀ x ∈ fs, Cn ts h x
  me : h ∈ fs
  gr : Clo ts fs ∨ k + 2 ≤ fs.length ∨ (k + 1 ≤ fs.length ∧ ∀ (i : Nat) p, i < j → ts[i]? = some p → (p.1 ∈ fs ↔ p.2 ∈ fs))
theorem Fnd.init (ts : Prs) (h : Nat) : Fnd ts h 0 0 [h] := ⟨by simp, fun x hx => by rw [List.mem_singleton.mp hx]; exact .refl, List.mem_singleton.mpr rfl, .inr (.inr ⟨Nat.le_refl _, fun i p hi => absurd hi (Nat.not_lt_zero _)⟩)⟩
theorem Fnd.next {ts : Prs} {h k : Nat} {fs : List Nat} (f : Fnd ts h k ts.length fs) : Fnd ts h (k + 1) 0 fs := by
  refine ⟨f.nd, f.cn, f.me, ?_⟩
  rcases f.gr with g | g | ⟨g1, g2⟩
  · exact .inl g
  · exact .inr (.inr ⟨g, fun i p hi => absurd hi (Nat.not_lt_zero _)⟩)
  · exact .inl fun p hp => by
      obtain ⟨i, hi⟩ := List.getElem?_of_mem hp
      exact g2 i p (lt_at hi) hi
theorem Fnd.stay {ts : Prs} {h k j : Nat} {fs : List Nat} {p : Nat × Nat} (f : Fnd ts h k j fs) (hp : ts[j]? = some p) (e : p.1 ∈ fs ↔ p.2 ∈ fs) : Fnd ts h k (j + 1) fs := by
  refine ⟨f.nd, f.cn, f.me, ?_⟩
  rcases f.gr with g | g | ⟨g1, g2⟩
  · exact .inl g
  · exact .inr (.inl g)
  · refine .inr (.inr ⟨g1, fun i q hi hq => ?_⟩)
    by_cases z : i = j
    · rw [z, hp] at hq
      rw [← Option.some.inj hq]; exact e
    · exact g2 i q (by omega) hq
theorem Fnd.grow {ts : Prs} {h k j : Nat} {fs : List Nat} {p : Nat × Nat} (f : Fnd ts h k j fs) (hp : ts[j]? = some p) (e : ¬ (p.1 ∈ fs ↔ p.2 ∈ fs)) : Fnd ts h k (j + 1) (fs ++ [if p.1 ∈ fs then p.2 else p.1]) := by
  have hm := List.mem_of_getElem? hp
  by_cases z : p.1 ∈ fs
  · have z2 : p.2 ∉ fs := fun y => e ⟨fun _ => y, fun _ => z⟩
    rw [if_pos z]
    refine ⟨?_, fun x hx => ?_, List.mem_append_left _ f.me, ?_⟩
    · rw [List.nodup_append]
      exact ⟨f.nd, by simp, fun a ha b hb ab => by rw [List.mem_singleton] at hb; rw [ab, hb] at ha; exact z2 ha⟩
    · rcases List.mem_append.mp hx with y | y
      · exact f.cn x y
      · rw [List.mem_singleton.mp y]
        exact (f.cn _ z).step ⟨p, hm, .inl ⟨rfl, rfl⟩⟩
    · refine .inr (.inl ?_)
      rw [List.length_append]
      rcases f.gr with g | g | ⟨g1, _⟩
      · exact absurd (g p hm) e
      · simp only [List.length_cons, List.length_nil]; omega
      · simp only [List.length_cons, List.length_nil]; omega
  · have z2 : p.2 ∈ fs := by
      by_cases y : p.2 ∈ fs
      · exact y
      · exact absurd ⟨fun w => absurd w z, fun w => absurd w y⟩ e
    rw [if_neg z]
    refine ⟨?_, fun x hx => ?_, List.mem_append_left _ f.me, ?_⟩
    · rw [List.nodup_append]
      exact ⟨f.nd, by simp, fun a ha b hb ab => by rw [List.mem_singleton] at hb; rw [ab, hb] at ha; exact z ha⟩
    · rcases List.mem_append.mp hx with y | y
      · exact f.cn x y
      · rw [List.mem_singleton.mp y]
        exact (f.cn _ z2).step ⟨p, hm, .inr ⟨rfl, rfl⟩⟩
    · refine .inr (.inl ?_)
      rw [List.length_append]
      rcases f.gr with g | g | ⟨g1, _⟩
      · exact absurd (g p hm) e
      · simp only [List.length_cons, List.length_nil]; omega
      · simp only [List.length_cons, List.length_nil]; omega
theorem Fnd.len {n : Nat} {ts : Prs} {h k j : Nat} {fs : List Nat} (hW : Wv n ts) (hn : h < n) (f : Fnd ts h k j fs) : fs.length ≤ n := by
  have := nodup_le n (fs.map fun (x : Nat) => (x : Int)) (by
    rw [List.nodup_iff_pairwise_ne, List.pairwise_map]
    exact f.nd.imp fun {a b} hab => by omega) fun y hy => by
    obtain ⟨x, hx, rfl⟩ := List.mem_map.mp hy
    have := (f.cn x hx).lt hW hn
    omega
  rw [List.length_map] at this
  exact this
theorem Fnd.done {n : Nat} {ts : Prs} {h : Nat} {fs ns : List Nat} (hW : Wv n ts) (hn : h < n) (f : Fnd ts h n 0 fs) (pl : PartL ts h ns) : fs.Perm ns ∧ ∀ x, x ∈ fs ↔ x ∈ ns := by
  have hl := f.len hW hn
  have c : Clo ts fs := by
    rcases f.gr with g | g | ⟨g, _⟩
    · exact g
    · omega
    · omega
  have m : ∀ x, x ∈ fs ↔ x ∈ ns := fun x => by
    rw [pl.mem x]
    exact ⟨f.cn x, fun y => c.all f.me y⟩
  exact ⟨(List.perm_ext_iff_of_nodup f.nd (pl.asc.imp fun {a b} h => by omega)).mpr m, m⟩
/-- the law's list: some houses twice -/
structure Fn2 (ts : Prs) (h k j : Nat) (fs : List Nat) : Prop where
  ex : ∃ gs, Fnd ts h k j gs ∧ (∀ x, x ∈ fs ↔ x ∈ gs) ∧ fs.length ≤ 2 * gs.length
theorem Fn2.grow {ts : Prs} {h k j : Nat} {fs : List Nat} {p : Nat × Nat} (f : Fn2 ts h k j fs) (hp : ts[j]? = some p) (e : ¬ (p.1 ∈ fs ↔ p.2 ∈ fs)) : Fn2 ts h k (j + 1) (fs ++ [p.1, p.2]) := by
  obtain ⟨gs, F, m, l⟩ := f.ex
  have e' : ¬ (p.1 ∈ gs ↔ p.2 ∈ gs) := by rw [← m, ← m]; exact e
  refine ⟨_, F.grow hp e', fun x => ?_, by rw [List.length_append, List.length_append]; simp only [List.length_cons, List.length_nil]; omega⟩
  rw [List.mem_append, List.mem_append, m x, List.mem_singleton]
  simp only [List.mem_cons, List.mem_nil_iff, or_false]
  by_cases z : p.1 ∈ gs
  · rw [if_pos z]
    exact ⟨fun q => q.elim .inl fun q => q.elim (fun q => .inl (q ▸ z)) .inr, fun q => q.elim .inl fun q => .inr (.inr q)⟩
  · have z2 : p.2 ∈ gs := by
      by_cases y : p.2 ∈ gs
      · exact y
      · exact absurd ⟨fun w => absurd w z, fun w => absurd w y⟩ e'
    rw [if_neg z]
    exact ⟨fun q => q.elim .inl fun q => q.elim .inr fun q => .inl (q ▸ z2), fun q => q.elim .inl fun q => .inr (.inl q)⟩
theorem Fn2.stay {ts : Prs} {h k j : Nat} {fs : List Nat} {p : Nat × Nat} (f : Fn2 ts h k j fs) (hp : ts[j]? = some p) (e : p.1 ∈ fs ↔ p.2 ∈ fs) : Fn2 ts h k (j + 1) fs := by
  obtain ⟨gs, F, m, l⟩ := f.ex
  exact ⟨gs, F.stay hp (by rw [← m, ← m]; exact e), m, l⟩
theorem Fn2.next {ts : Prs} {h k : Nat} {fs : List Nat} (f : Fn2 ts h k ts.length fs) : Fn2 ts h (k + 1) 0 fs := let ⟨gs, F, m, l⟩ := f.ex; ⟨gs, F.next, m, l⟩
theorem Fn2.init (ts : Prs) (h : Nat) : Fn2 ts h 0 0 [h] := ⟨[h], Fnd.init ts h, fun _ => Iff.rfl, by simp⟩
theorem Fn2.len {n : Nat} {ts : Prs} {h k j : Nat} {fs : List Nat} (hW : Wv n ts) (hn : h < n) (f : Fn2 ts h k j fs) : fs.length ≤ 2 * n := by
  obtain ⟨gs, F, m, l⟩ := f.ex
  have := F.len hW hn
  omega
theorem Fn2.done {n : Nat} {ts : Prs} {h : Nat} {fs ns : List Nat} (hW : Wv n ts) (hn : h < n) (f : Fn2 ts h n 0 fs) (pl : PartL ts h ns) : ∀ x, x ∈ fs ↔ x ∈ ns := fun x => by
  obtain ⟨gs, F, m, l⟩ := f.ex
  rw [m x]; exact (F.done hW hn pl).2 x
def spLJd : Sp := fun vs H Q _ => ∃ (tl : Addr) (as : List Addr) (n h : Nat) (ts : Prs), vs = [.int (n : Int), .ref tl, .int (h : Int)] ∧ H tl = some (.lst (as.map V.ref)) ∧ PrsL H as ts ∧ Wv n ts ∧ h < n ∧ ∀ q fs H', Same H H' → H q = none → H' q = some (.lst (vn fs)) → (∀ ns, PartL ts h ns → ∀ x, x ∈ fs ↔ x ∈ ns) → Q (.ref q) H'
section
variable {P : Program} {w : World} {K : PySem.W.Frag} {mg : Str → Option Value} {base : Heap}
abbrev nLD : List Str := ["_law_houses", "_law_ties", "_law_house", "_law_found", "_law_turn", "_law_here", "_law_there"]
theorem scLD : FnScope nLD ["_law_houses", "_law_ties", "_law_house"] (defScope sLJoined) := ⟨rfl, rfl, rfl, by decide +kernel, rfl, by decide +kernel, by decide +kernel⟩
theorem ok_ljd {f : Addr} {fd : FuncData} (D : Df K mg "_law_joined" sLJoined ["_law_houses", "_law_ties", "_law_house"] f fd) (B : Bt mg) : FnOk P w K mg base CX0 1 f fd ["_law_houses", "_law_ties", "_law_house"] spLJd := by
  refine D.F.ok scLD (fun vs H Q E h => ?_) (fun cdv A outer s H vs Q E hr h => ?_)
  · obtain ⟨tl, as, n, h, ts, rfl, _⟩ := h
    rfl
  · obtain ⟨tl, as, n, h, ts, rfl, ht, hA, hW, hn, q⟩ := h
    refine ⟨_, pss_cons (ps_set (i := 3) scLD.nd rfl (.inl rfl) (pe_lst (pa_cons (pv 2) pa_nil)))
      (pss_cons (ps_for PassesOwn.never rfl (pi_range1 (by rfl) B.range (pa_cons (pv 0) pa_nil)) (pg_name (i := 4) scLD.nd rfl (.inl rfl))
        (pss_one (ps_for PassesOwn.never rfl (pi_list (pv 1)) (pg_lst rfl (pgs_cons (pg_name (i := 5) scLD.nd rfl (.inl rfl)) (pgs_cons (pg_name (i := 6) scLD.nd rfl (.inl rfl)) pgs_nil)))
          (pss_one (ps_if (pt_cmpR op_ne (pe_cmpR op_in_seq (pv 5) (pv 3) rfl) (pe_cmpR op_in_seq (pv 6) (pv 3) rfl) (nomark _))
            (pss_one (ps_set (i := 3) scLD.nd rfl (.inl rfl) (pe_op op_cat (pv 3) (pe_lst (pa_cons (pv 5) (pa_cons (pv 6) pa_nil)))))) pss_nil)))))
      (pss_one (ps_ret (pv 3)))), ?_⟩
    have n12 := hW.n12
    have t20 := hW.t20
    refine ⟨_, rfl, (by show 1 ≤ sizeLine; decide), fun fl hfl => ?_⟩
    have s1 := same_new (o := HO.lst [V.int (h : Int)]) hfl
    have hf1 : (upd H fl (.lst [V.int (h : Int)])) fl = some (.lst (vn [h])) := upd_same
    generalize upd H fl (.lst [V.int (h : Int)]) = H1 at s1 hf1 ⊢
    dsimp only [List.set]
    refine ⟨_, rfl, (n : Int), rfl, by omega, by omega, for_range (fun k σ H' => ∃ (fl : Addr) (fs : List Nat) (v4 v5 v6 : Option V), σ = [some (.int (n : Int)), some (.ref tl), some (.int (h : Int)), some (.ref fl), v4, v5, v6] ∧ Same H H' ∧ H fl = none ∧ H' fl = some (.lst (vn fs)) ∧ Fn2 ts h k 0 fs)
      ⟨fl, [h], none, none, none, rfl, s1, hfl, hf1, Fn2.init ts h⟩ ?_ ?_⟩
    · rintro k σ H2 hk ⟨fl, fs, v4, v5, v6, rfl, s2, f0, hf, F⟩
      refine gn ?_
      dsimp only [List.set]
      refine ⟨_, rfl, tl, rfl, ⟨_, SqL.of (s2 _ _ ht)⟩, for_list (K := K) (a := tl) (xs := as.map V.ref) (fun j σ H' => ∃ (fl : Addr) (fs : List Nat) (v5 v6 : Option V), σ = [some (.int (n : Int)), some (.ref tl), some (.int (h : Int)), some (.ref fl), some (.int (0 + (k : Int))), v5, v6] ∧ Same H H' ∧ H fl = none ∧ H' fl = some (.lst (vn fs)) ∧ Fn2 ts h k j fs)
        ⟨fl, fs, _, _, rfl, s2, f0, hf, F⟩ (fun j σ H' _ ⟨_, _, _, _, _, s2, _⟩ => SqL.of (s2 _ _ ht)) ?_ ?_⟩
      · rintro j x σ H3 hx ⟨fl, fs, v5, v6, rfl, s3, f0, hf, F⟩
        obtain ⟨a, p, rfl, ha, hp, hap⟩ := hA.get' hx
        have hap' : H3 a = some (.lst [.int (p.1 : Int), .int (p.2 : Int)]) := s3 _ _ hap
        have fl24 := F.len hW hn
        refine ⟨a, _, rfl, SqL.of hap', rfl, _, _, rfl, _, _, rfl, rfl, ?_⟩
        refine ⟨_, rfl, _, rfl, fl, vn fs, rfl, .inl (SqL.of hf), rfl, flat_vn fs, _, rfl, _, rfl, fl, vn fs, rfl, .inl (SqL.of hf), rfl, flat_vn fs, ?_⟩
        simp only [Bool.false_eq_true, if_false]
        rw [inV_vn, inV_vn]
        refine ⟨rfl, _, rfl, ifD (fun e => ?_) fun e => ?_⟩
        · have ne : ¬ (p.1 ∈ fs ↔ p.2 ∈ fs) := fun z => by
            have : decide (p.1 ∈ fs) = decide (p.2 ∈ fs) := decide_eq_decide.mpr z
            rw [this] at e
            simp at e
          refine ⟨_, rfl, _, rfl, _, rfl, (by show 2 ≤ sizeLine; decide), fun g hg => ?_⟩
          have s4 := same_new (o := HO.lst [V.int (p.1 : Int), .int (p.2 : Int)]) hg
          refine ⟨fl, g, _, _, rfl, rfl, s4 _ _ hf, upd_same, sz (by rw [vn_len]; simp only [List.length_cons, List.length_nil]; omega), fun y hy => ?_⟩
          refine ⟨y, fs ++ [p.1, p.2], _, _, rfl, (s3.trans s4).trans (same_new hy), (s3.trans s4).free hy, by rw [upd_same, vn, vn, List.map_append]; rfl, F.grow hp ne⟩
        · have eq : p.1 ∈ fs ↔ p.2 ∈ fs := by
            have z : V.bl (decide (p.1 ∈ fs)) = V.bl (decide (p.2 ∈ fs)) := by simpa using e
            injection z with z
            exact decide_eq_decide.mp z
          exact ⟨fl, fs, _, _, rfl, s3, f0, hf, F.stay hp eq⟩
      · rintro σ H3 ⟨fl, fs, v5, v6, rfl, s3, f0, hf, F⟩
        rw [List.length_map, hA.1] at F
        exact ⟨fl, fs, _, _, _, rfl, s3, f0, hf, F.next⟩
    · rintro σ H2 ⟨fl, fs, v4, v5, v6, rfl, s2, f0, hf, F⟩
      rw [Int.toNat_natCast] at F
      exact ⟨_, rfl, q fl fs H2 s2 f0 hf fun ns pl => F.done hW hn pl⟩
end
end K1
namespace K1
open PySem PySem.Spec PyProof.Rows L2
/-! ### what stays: all but lists and tables of code -/
def Kp (H H' : Hp) : Prop := ∀ a o, H a = some o → (∀ ps, o ≠ .tbl ps) → (∀ xs, o ≠ .lst xs) → H' a = some o
section
variable {H H1 H2 : Hp}
theorem Kp.refl : Kp H H := fun _ _ e _ _ => e
theorem Kp.trans (a : Kp H H1) (b : Kp H1 H2) : Kp H H2 := fun c o e n1 n2 => b c o (a c o e n1 n2) n1 n2
theorem Same.kp (s : Same H H1) : Kp H H1 := fun c o e _ _ => s _ _ e
theorem Kp.ext (e : LamX.ExtN H H1) : Kp H H1 := fun c o h n _ => e c o h n
theorem Kp.put {x : Addr} {xs : List V} {o : HO} (h : H x = some (.lst xs)) : Kp H (upd H x o) := fun c u e _ n => by
  rw [upd_ne (fun z => by rw [z, h] at e; exact n _ (Option.some.inj e).symm)]; exact e
theorem Kp.dl {b l : Addr} (hb : DealO H b l) (d : Dl b l H H1) : Kp H H1 := fun c u e _ n => d.2 c u e (fun z => by
    obtain ⟨_, ns, w, _, h2, _⟩ := hb
    rw [z, h2] at e; exact n _ (Option.some.inj e).symm) (fun z => by
    obtain ⟨_, ns, w, _, _, h3⟩ := hb
    rw [z, h3] at e; exact n _ (Option.some.inj e).symm)
theorem Kp.tup {c : Addr} {xs : List V} (k : Kp H H1) (h : H c = some (.tup xs)) : H1 c = some (.tup xs) := k _ _ h (fun ps z => by cases z) (fun ps z => by cases z)
theorem Kp.ins {c C dx : Addr} {fs : List (Str × V)} (k : Kp H H1) (h : H c = some (.ins C dx fs)) : H1 c = some (.ins C dx fs) := k _ _ h (fun ps z => by cases z) (fun ps z => by cases z)
theorem MachAt.kp {M m ta : Addr} {ts : List (List V)} (h : MachAt M H m ta ts) (k : Kp H H1) : MachAt M H1 m ta ts := by
  obtain ⟨⟨dx, t0, h0, h1⟩, as, h2, h3, h4⟩ := h
  exact ⟨⟨dx, t0, h0, k.ins h1⟩, as, k.tup h2, h3, fun i a t e1 e2 => k.tup (h4 i a t e1 e2)⟩
theorem WebAt.kp {W w : Addr} {n : Nat} {ts : Prs} (h : WebAt W H w n ts) (k : Kp H H1) : WebAt W H1 w n ts := by
  obtain ⟨dx, ta, h1, as, h2, h3⟩ := h
  exact ⟨dx, ta, k.ins h1, as, k.tup h2, h3.1, fun i a t e1 e2 => k.tup (h3.2 i a t e1 e2)⟩
theorem EvAt.kp {M W : Addr} {e : Ev} (h : EvAt M W H e) (k : Kp H H1) : EvAt M W H1 e := ⟨h.mc.kp k, h.wb.kp k, h.wf, h.wv⟩
theorem StpsA.kp {cs : List Addr} {ss : List Stp} (h : StpsA H cs ss) (k : Kp H H1) : StpsA H1 cs ss := ⟨h.1, fun i a s e1 e2 => k.tup (h.2 i a s e1 e2)⟩
theorem StpsT.kp {p : Addr} {ss : List Stp} (h : StpsT H p ss) (k : Kp H H1) : StpsT H1 p ss := let ⟨as, h1, h2⟩ := h; ⟨as, k.tup h1, h2.kp k⟩
theorem NetAt.kp {N M W c : Addr} {e : Ev} {s : Sn} (h : NetAt N M W H c e s) (k : Kp H H1) : NetAt N M W H1 c e s :=
  ⟨let ⟨dx, sa, aa, pa, h1, h2, h3, h4⟩ := h.ob; ⟨dx, sa, aa, pa, k.ins h1, k.tup h2, k.tup h3, h4.kp k⟩, h.ev.kp k, h.nm, h.nw, h.ls, h.la, h.bs, h.ba, h.ld⟩
end
/-! ### the things that change while steps are taken -/
structure Ad where
  b : Addr
  l : Addr
  c : Addr
  sl : Addr
  al : Addr
  dl : Addr
def Ad.xs (A : Ad) : List Addr := [A.b, A.l, A.c, A.sl, A.al, A.dl]
structure Nx (A : Ad) : Prop where
  sb : A.sl ≠ A.b
  sl : A.sl ≠ A.l
  ab : A.al ≠ A.b
  al : A.al ≠ A.l
  db : A.dl ≠ A.b
  dl : A.dl ≠ A.l
  sa : A.sl ≠ A.al
  sd : A.sl ≠ A.dl
  ad : A.al ≠ A.dl
structure Lw (A : Ad) (T : List (Addr × Str)) (H H' : Hp) : Prop where
  dl : DealO H' A.b A.l
  tb : LamX.Tabs T H'
  ks : Ks A.xs H H'
theorem tabs_ne {T : List (Addr × Str)} {H1 H2 : Hp} {x : Addr} (t : LamX.Tabs T H1) (k : ∀ a o, H1 a = some o → a ≠ x → H2 a = some o) (hx : ∃ o, H1 x = some o ∧ (∀ ps, o ≠ .tbl ps) ∧ ∀ f, o ≠ .ext f) : LamX.Tabs T H2 := fun p hp => by
  obtain ⟨o, ho, n1, n2⟩ := hx
  obtain ⟨ps, h1, h2, h3⟩ := t p hp
  refine ⟨ps, k _ _ h1 (fun z => by rw [z, ho] at h1; exact n1 _ (Option.some.inj h1)), h2, fun pos cv hc => ?_⟩
  obtain ⟨c, e1, e2⟩ := h3 pos cv hc
  exact ⟨c, e1, k _ _ e2 (fun z => by rw [z, ho] at e2; unfold LamX.CodeO at e2; exact n2 _ (Option.some.inj e2))⟩
theorem tabs_dl {b l : Addr} {T : List (Addr × Str)} {H1 H2 : Hp} (t : LamX.Tabs T H1) (hb : DealO H1 b l) (x : Dl b l H1 H2) : LamX.Tabs T H2 := fun p hp => by
  obtain ⟨_, ns, w, _, g2, g3⟩ := hb
  obtain ⟨ps, h1, h2, h3⟩ := t p hp
  refine ⟨ps, x.2 _ _ h1 (fun z => by rw [z, g2] at h1; cases h1) (fun z => by rw [z, g3] at h1; cases h1), h2, fun pos cv hc => ?_⟩
  obtain ⟨c, e1, e2⟩ := h3 pos cv hc
  exact ⟨c, e1, x.2 _ _ e2 (fun z => by rw [z, g2] at e2; unfold LamX.CodeO at e2; cases e2) (fun z => by rw [z, g3] at e2; unfold LamX.CodeO at e2; cases e2)⟩
theorem DealO.ext {b l : Addr} {H H1 : Hp} (h : DealO H b l) (e : LamX.ExtN H H1) : DealO H1 b l := let ⟨n, ns, z, w, h2, h3⟩ := h; ⟨n, ns, z, w, e _ _ h2 (fun ps z => by cases z), e _ _ h3 (fun ps z => by cases z)⟩
section
variable {A : Ad} {T : List (Addr × Str)} {H H1 H2 : Hp}
theorem Lw.refl (hb : DealO H A.b A.l) (t : LamX.Tabs T H) : Lw A T H H := ⟨hb, t, Ks.refl⟩
theorem Lw.trans (a : Lw A T H H1) (c : Lw A T H1 H2) : Lw A T H H2 := ⟨c.dl, c.tb, a.ks.trans c.ks⟩
theorem Lw.same (a : Lw A T H H1) (s : Same H1 H2) : Lw A T H H2 := ⟨a.dl.same s, a.tb.ext s, a.ks.same s⟩
theorem Lw.new {p : Addr} {o : HO} (a : Lw A T H H1) (hp : H1 p = none) : Lw A T H (upd H1 p o) := a.same (same_new hp)
theorem Lw.draw (a : Lw A T H H1) (x : Dl A.b A.l H1 H2) : Lw A T H H2 := ⟨x.1, tabs_dl a.tb a.dl x, a.ks.trans fun c o e n _ => x.2 c o e (fun z => n (by rw [z]; simp [Ad.xs])) (fun z => n (by rw [z]; simp [Ad.xs]))⟩
theorem Lw.ext (a : Lw A T H H1) (e : LamX.ExtN H1 H2) (t : LamX.Tabs T H2) : Lw A T H H2 := ⟨a.dl.ext e, t, a.ks.trans fun c o q _ n => e _ _ q n⟩
theorem Lw.putL {x : Addr} {ys : List V} {o : HO} (a : Lw A T H H1) (hx : H1 x = some (.lst ys)) (m : x ∈ A.xs) (nb : x ≠ A.b) (nl : x ≠ A.l) : Lw A T H (upd H1 x o) :=
  ⟨a.dl.put nb nl, tabs_ne a.tb (fun c u e n => by rw [upd_ne n]; exact e) ⟨_, hx, (fun ps z => by cases z), fun f z => by cases z⟩, a.ks.trans fun c u e n _ => by rw [upd_ne (fun z => n (by rw [z]; exact m))]; exact e⟩
theorem Lw.but {C dx : Addr} {fs : List (Str × V)} (a : Lw A T H H1) (hc : H1 A.c = some (.ins C dx fs)) (x : But A.c H1 H2) : Lw A T H H2 := by
  obtain ⟨n, ns, z, w, h2, h3⟩ := a.dl
  refine ⟨⟨n, ns, z, w, x _ _ h2 (fun z => by rw [z, hc] at h2; cases h2), x _ _ h3 (fun z => by rw [z, hc] at h3; cases h3)⟩, tabs_ne a.tb (fun c u e n => x c u e n) ⟨_, hc, (fun ps z => by cases z), fun f z => by cases z⟩, a.ks.trans fun c u e n _ => x c u e (fun z => n (by rw [z]; simp [Ad.xs]))⟩
theorem Lw.free {p : Addr} (a : Lw A T H H1) (hb : ∀ x ∈ A.xs, H1 x ≠ none) (hp : H1 p = none) (ht : ∀ ps, H p ≠ some (.tbl ps)) : H p = none := by
  cases h : H p with
  | none => rfl
  | some o =>
    have n : p ∉ A.xs := fun m => hb p m hp
    have := a.ks p o h n fun ps z => ht ps (by rw [h, z])
    rw [hp] at this; cases this
/-- the net, and the law's own lists -/
structure Dy (N M W : Addr) (A : Ad) (e : Ev) (s : Sn) (ss ar : List Int) (cs : List Addr) (ds : List Stp) (H : Hp) : Prop where
  net : NetAt N M W H A.c e s
  sh : H A.sl = some (.lst (vrow ss))
  ah : H A.al = some (.lst (vrow ar))
  dh : H A.dl = some (.lst (cs.map V.ref))
  ps : StpsA H cs ds
variable {N M W : Addr} {e : Ev} {s s' : Sn} {ss ar : List Int} {cs : List Addr} {ds : List Stp}
theorem Dy.same (d : Dy N M W A e s ss ar cs ds H) (q : Same H H1) : Dy N M W A e s ss ar cs ds H1 := ⟨d.net.same q, q _ _ d.sh, q _ _ d.ah, q _ _ d.dh, d.ps.same q⟩
theorem Dy.new {p : Addr} {o : HO} (d : Dy N M W A e s ss ar cs ds H) (hp : H p = none) : Dy N M W A e s ss ar cs ds (upd H p o) := d.same (same_new hp)
theorem Dy.ext (d : Dy N M W A e s ss ar cs ds H) (q : LamX.ExtN H H1) : Dy N M W A e s ss ar cs ds H1 := ⟨d.net.kp (Kp.ext q), q _ _ d.sh (fun ps z => by cases z), q _ _ d.ah (fun ps z => by cases z), q _ _ d.dh (fun ps z => by cases z), d.ps.kp (Kp.ext q)⟩
theorem Dy.draw (x : Nx A) (hb : DealO H A.b A.l) (d : Dy N M W A e s ss ar cs ds H) (q : Dl A.b A.l H H1) : Dy N M W A e s ss ar cs ds H1 := ⟨d.net.kp (Kp.dl hb q), q.2 _ _ d.sh x.sb x.sl, q.2 _ _ d.ah x.ab x.al, q.2 _ _ d.dh x.db x.dl, d.ps.kp (Kp.dl hb q)⟩
theorem Dy.putS (x : Nx A) (d : Dy N M W A e s ss ar cs ds H) (ss' : List Int) : Dy N M W A e s ss' ar cs ds (upd H A.sl (.lst (vrow ss'))) := ⟨d.net.kp (Kp.put d.sh), upd_same, by rw [upd_ne x.sa.symm]; exact d.ah, by rw [upd_ne x.sd.symm]; exact d.dh, d.ps.kp (Kp.put d.sh)⟩
theorem Dy.putA (x : Nx A) (d : Dy N M W A e s ss ar cs ds H) (ar' : List Int) : Dy N M W A e s ss ar' cs ds (upd H A.al (.lst (vrow ar'))) := ⟨d.net.kp (Kp.put d.ah), by rw [upd_ne x.sa]; exact d.sh, upd_same, by rw [upd_ne x.ad.symm]; exact d.dh, d.ps.kp (Kp.put d.ah)⟩
theorem Dy.putD (x : Nx A) (d : Dy N M W A e s ss ar cs ds H) {a : Addr} {st : Stp} (ha : H a = some (.tup (stV st))) : Dy N M W A e s ss ar (cs ++ [a]) (ds ++ [st]) (upd H A.dl (.lst (cs.map V.ref ++ [.ref a]))) := ⟨d.net.kp (Kp.put d.dh), by rw [upd_ne x.sd]; exact d.sh, by rw [upd_ne x.ad]; exact d.ah, by rw [upd_same, List.map_append]; rfl, d.ps.snoc (keepT d.dh) ha⟩
theorem Dy.but (d : Dy N M W A e s ss ar cs ds H) (q : But A.c H H1) (n : NetAt N M W H1 A.c e s') : Dy N M W A e s' ss ar cs ds H1 := by
  obtain ⟨dx, sa, aa, pa, h1, _⟩ := d.net.ob
  have k : ∀ {x : Addr} {o : HO}, H x = some o → (∀ C dx fs, o ≠ .ins C dx fs) → H1 x = some o := fun {x o} h nn => q _ _ h fun z => by rw [z, h1] at h; exact nn _ _ _ (Option.some.inj h).symm
  exact ⟨n, k d.sh (fun _ _ _ z => by cases z), k d.ah (fun _ _ _ z => by cases z), k d.dh (fun _ _ _ z => by cases z), d.ps.1, fun i a st e1 e2 => k (d.ps.2 i a st e1 e2) (fun _ _ _ z => by cases z)⟩
theorem Lw.netb (a : Lw A T H H1) (d : Dy N M W A e s ss ar cs ds H1) (q : But A.c H1 H2) : Lw A T H H2 := let ⟨_, _, _, _, h1, _⟩ := d.net.ob; a.but h1 q
theorem Lw.putS (x : Nx A) (a : Lw A T H H1) (d : Dy N M W A e s ss ar cs ds H1) {o : HO} : Lw A T H (upd H1 A.sl o) := a.putL d.sh (by simp [Ad.xs]) x.sb x.sl
theorem Lw.putA (x : Nx A) (a : Lw A T H H1) (d : Dy N M W A e s ss ar cs ds H1) {o : HO} : Lw A T H (upd H1 A.al o) := a.putL d.ah (by simp [Ad.xs]) x.ab x.al
theorem Lw.putD (x : Nx A) (a : Lw A T H H1) (d : Dy N M W A e s ss ar cs ds H1) {o : HO} : Lw A T H (upd H1 A.dl o) := a.putL d.dh (by simp [Ad.xs]) x.db x.dl
end
/-- what the law has besides: tables and ties as lists of lists -/
structure Sf (A : Ad) (H : Hp) (p tl : Addr) (tas as : List Addr) (tb : Ts) (ts : Prs) : Prop where
  tab : TbL H p tas tb
  tie : H tl = some (.lst (as.map V.ref))
  prs : PrsL H as ts
  np : p ∉ A.xs
  nt : tl ∉ A.xs
  na : ∀ a ∈ tas, a ∉ A.xs
  ns : ∀ a ∈ as, a ∉ A.xs
theorem Sf.ks {A : Ad} {H H1 : Hp} {p tl : Addr} {tas as : List Addr} {tb : Ts} {ts : Prs} (s : Sf A H p tl tas as tb ts) (k : Ks A.xs H H1) : Sf A H1 p tl tas as tb ts :=
  ⟨⟨k.lst s.tab.1 s.np, s.tab.2.1, fun i a t e1 e2 => k.lst (s.tab.2.2 i a t e1 e2) (s.na a (List.mem_of_getElem? e1))⟩, k.lst s.tie s.nt, ⟨s.prs.1, fun i a t e1 e2 => k.lst (s.prs.2 i a t e1 e2) (s.ns a (List.mem_of_getElem? e1))⟩, s.np, s.nt, s.na, s.ns⟩
end K1
namespace K1
open PySem PySem.Spec PyProof.Rows L2
abbrev gM : List Value → List Value → List Value := fun us ws => us ++ ws.reverse
abbrev gMV : List V → List V → List V := fun us ws => us ++ ws.reverse
theorem kb_ninit {K : PySem.W.Frag} {f : Addr} {fd : FuncData} (F : Fun K "__init__" "Net.__init__" sNetInit f fd) : KBn K fd ["self", "machine", "web", "first"] 1 ["first", "web", "machine"] gM gMV := by
  obtain ⟨oc, od, kV, doc, pm, an, cdv, ct, osl, rfl, lk, hcd⟩ := F.ex
  refine ⟨fun s us ws _ h0 h1 => .of_eq ?_, fun r q => r.append q.reverse⟩
  match us, ws, h0, h1 with
  | [_], [_, _, _], _, _ => rfl
theorem kb_ndo {K : PySem.W.Frag} {f : Addr} {fd : FuncData} (F : Fun K "do" "Net.do" sNetDo f fd) : KBn K fd ["self", "house", "deed"] 1 ["deed", "house"] gM gMV := by
  obtain ⟨oc, od, kV, doc, pm, an, cdv, ct, osl, rfl, lk, hcd⟩ := F.ex
  refine ⟨fun s us ws _ h0 h1 => .of_eq ?_, fun r q => r.append q.reverse⟩
  match us, ws, h0, h1 with
  | [_], [_, _], _, _ => rfl
theorem kb_nmeet {K : PySem.W.Frag} {f : Addr} {fd : FuncData} (F : Fun K "meet" "Net.meet" sNetMeet f fd) : KBn K fd ["self", "tie"] 1 ["tie"] gM gMV := by
  obtain ⟨oc, od, kV, doc, pm, an, cdv, ct, osl, rfl, lk, hcd⟩ := F.ex
  refine ⟨fun s us ws _ h0 h1 => .of_eq ?_, fun r q => r.append q.reverse⟩
  match us, ws, h0, h1 with
  | [_], [_], _, _ => rfl
theorem kb_sa {K : PySem.W.Frag} {f : Addr} {fd : FuncData} (F : Fun K "standing_after" "standing_after" sStandingAfter f fd) : KBn K fd ["machine", "web", "first", "steps"] 0 ["steps", "first", "web", "machine"] gM gMV := by
  obtain ⟨oc, od, kV, doc, pm, an, cdv, ct, osl, rfl, lk, hcd⟩ := F.ex
  refine ⟨fun s us ws _ h0 h1 => .of_eq ?_, fun r q => r.append q.reverse⟩
  match us, ws, h0, h1 with
  | [], [_, _, _, _], _, _ => rfl
theorem kb_to {K : PySem.W.Frag} {f : Addr} {fd : FuncData} (F : Fun K "truth_of" "truth_of" sTruthOf f fd) : KBn K fd ["machine", "web", "first", "steps", "house"] 0 ["house", "steps", "first", "web", "machine"] gM gMV := by
  obtain ⟨oc, od, kV, doc, pm, an, cdv, ct, osl, rfl, lk, hcd⟩ := F.ex
  refine ⟨fun s us ws _ h0 h1 => .of_eq ?_, fun r q => r.append q.reverse⟩
  match us, ws, h0, h1 with
  | [], [_, _, _, _, _], _, _ => rfl
theorem kb_cs {K : PySem.W.Frag} {f : Addr} {fd : FuncData} (F : Fun K "check_steps" "check_steps" sCheckSteps f fd) : KBn K fd ["machine", "web", "value"] 0 ["value", "web", "machine"] gM gMV := by
  obtain ⟨oc, od, kV, doc, pm, an, cdv, ct, osl, rfl, lk, hcd⟩ := F.ex
  refine ⟨fun s us ws _ h0 h1 => .of_eq ?_, fun r q => r.append q.reverse⟩
  match us, ws, h0, h1 with
  | [], [_, _, _], _, _ => rfl
section
variable {X : Cx} {k : Nat} {f C : Addr} {fd : FuncData} {ps ks : List Str} {sp : Sp} {x m : Str} {st : Stmt} {p pos apos : Pos} {o : Expr} {kws : List Keyword} {tk : TA} {ta : TE}
theorem pe_methW {CX : CXT} {E : XK} {g : List Value → List Value → List Value} {gV : List V → List V → List V} {pl : Sem Bool} (ho : PE X o ta) (c : Cls X.K C) (hm : Meth X.K C m f) (G : FnOk X.prog X.w X.K X.mg X.base CX k f fd ps sp) (hr : Room k X.A) (hb : KBn X.K fd ps 1 ks g gV) (hx : Passes CX X E) (hkw : PK X kws tk)
    (hall : (backToKw pos (keywordEach kws X.env)).all (·.1.isSome) = true := by rfl) (hks : (backToKw pos (keywordEach kws X.env)).filterMap (·.1) = ks := by rfl)
    (hpl : ((backTo pos (starEach [] X.env)).any (·.1) || (backToKw pos (keywordEach kws X.env)).any (·.1.isNone)) = false := by rfl)
    (he : eval (.Call (.Attribute o m apos) [] kws pos) X.env = (do
      let ov ← eval o X.env
      standAt apos.atName
      let __x ← holding [ov] (getMethod ov m pl)
      match __x with
      | (f, first) => callWith pos f first (backTo pos (starEach [] X.env)) (backToKw pos (keywordEach kws X.env))) := by rfl) :
    PE X (.Call (.Attribute o m apos) [] kws pos) (fun σ H Q => ta σ H fun x H1 => ∃ (a dx : Addr) (fs : List (Str × V)), x = .ref a ∧ H1 a = some (.ins C dx fs) ∧ fs.lookup m = none ∧ tk σ H1 fun zs H2 => zs.length = ks.length ∧ sp (gV [x] zs) H2 Q E) := by
  refine ⟨fun pins s σ H Q I h => ?_⟩
  refine PySem.W.methodCall_KW (thn (ho.run pins s σ H _ I h) fun v s1 ⟨x, H1, I1, r1, a, dx, fs, ex, ha, hl, q⟩ => ?_) he
  subst ex
  cases r1
  refine getmeth_ok I1 ha c hm hl ?_
  refine PySem.W.callWith_KW0 (h₀ := X.base) I1.ok.mod.kin hm.kp hall ?_ hpl
  refine thn (hkw.run pos pins s1 σ H1 _ I1 q) fun ws s2 ⟨zs, H2, I2, rz, l2, q2⟩ => ⟨I2.kIn, ?_⟩
  rw [hks]
  exact run_fnN (us := [.ref a]) (vs := [.ref a]) G hr hb hx I2 (.cons rfl .nil) rz rfl l2 q2
end
/-- a net's methods, by names too -/
structure NMk (P : Program) (w : World) (K : PySem.W.Frag) (mg : Str → Option Value) (base : Heap) (N M W CH CD CT CU : Addr) : Prop where
  T : NtT K mg N
  do_ : ∃ f fd, Meth K N "do" f ∧ Binds K fd ["self", "house", "deed"] [] ∧ KBn K fd ["self", "house", "deed"] 1 ["deed", "house"] gM gMV ∧ FnOk P w K mg base (L2.CX P w) 5 f fd ["self", "house", "deed"] (spDoneAt K N M W CH CD)
  meet : ∃ f fd, Meth K N "meet" f ∧ Binds K fd ["self", "tie"] [] ∧ KBn K fd ["self", "tie"] 1 ["tie"] gM gMV ∧ FnOk P w K mg base (L2.CX P w) 7 f fd ["self", "tie"] (spMeetJ K N M W CT CU)
theorem log64 {i : Int} (h : i.natAbs < 2 ^ 64) : i.natAbs.log2 < 1920 := by
  by_cases z : i.natAbs = 0
  · rw [z]; decide
  · have : i.natAbs.log2 < 64 := (Nat.log2_lt z).mpr h
    omega
theorem repI {i : Int} {H : Hp} {Q : VK} (h : i.natAbs < 2 ^ 64) (q : Q (.str (toString i)) H) : rReprS [.int i] H Q := ⟨_, rfl, .inr (.inr (.inl ⟨i, rfl, log64 h, q⟩))⟩
theorem ixN_of {i n : Nat} (h : i < n) : ixN n (i : Int) = some i := by unfold ixN; rw [if_pos (by omega), if_pos (by omega)]; simp
theorem strE {K : PySem.W.Frag} {x : Str} {H : Hp} {Q : VK} (q : Q (.bl true) H) : rEq (.str x) (.str x) H Q := ⟨rfl, by rw [decide_eq_true rfl]; exact q⟩
theorem strN {x : Str} {H : Hp} {Q : VK} (q : Q (.bl false) H) : rNe (.str x) (.str x) H Q := ⟨rfl, by rw [decide_eq_true rfl]; exact q⟩
theorem TbL.row {H : Hp} {p : Addr} {as : List Addr} {tb : Ts} (h : TbL H p as tb) {d : Nat} (hd : d < tb.length) : ∃ a t, as[d]? = some a ∧ tb[d]? = some t ∧ H a = some (.lst (vrow t)) := by
  obtain ⟨t, ht⟩ := ex_at hd
  obtain ⟨a, ha⟩ := ex_at (l := as) (i := d) (by rw [h.2.1]; exact hd)
  exact ⟨a, t, ha, ht, h.2.2 d a t ha ht⟩
def unL (a h t : Int) : List V := [.str "untold", .int a, .int h, .int t]
def unD (a h t : Int) : PyData := .list [.str "untold", .int a, .int h, .int t]
theorem un_rep {K : PySem.W.Frag} {a h t : Int} {p : Addr} {H : Hp} {Q : VK} (h1 : a.natAbs < 10 ^ 19) (h2 : h.natAbs < 10 ^ 19) (h3 : t.natAbs < 10 ^ 19) (hp : H p = some (.lst (unL a h t))) (q : Q (.str (unD a h t).shown) H) : rRepr K [.ref p] H Q :=
  reprP (.lst (SqL.of hp) (.cons (.str _) (.cons (.int _) (.cons (.int _) (.cons (.int _) .nil))))) (Pl.list (PlA.cons (pl_str (x := "untold") (by decide +kernel) (by decide +kernel) (by decide +kernel)) (PlA.cons (Pl.int h1) (PlA.cons (Pl.int h2) (PlA.cons (Pl.int h3) PlA.nil))))) (by decide) (by decide) q
def spIsStepped (N M W : Addr) (T : List (Addr × Str)) : Sp := fun vs H Q _ => ∃ (A : Ad) (e : Ev) (s : Sn) (p tl a : Addr) (tas as cs : List Addr) (st : Stp), vs = [.ref A.c, .ref p, .ref tl, .ref a, .ref A.sl, .ref A.al, .ref A.dl] ∧ Nx A ∧ DealO H A.b A.l ∧ LamX.Tabs T H ∧ Dy N M W A e s s.ss s.ar cs s.ds H ∧ Sf A H p tl tas as e.tb e.ts ∧ nS e.tb ≤ 5 ∧ H a = some (.tup (stV st)) ∧ okS e.n e.ts.length e.tb.length st ∧ s.ds.length < 900 ∧
  (∀ s' cs' H', StR e s st (some s') → Lw A T H H' → Dy N M W A e s' s'.ss s'.ar cs' s'.ds H' → Q (.bl true) H') ∧ (∀ H', StR e s st none → Lw A T H H' → Dy N M W A e s s.ss s.ar cs s.ds H' → Q (.bl true) H')
abbrev qIs : Str := "_law_is_stepped.<locals>.<lambda>"
section
variable {P : Program} {w : World} {K : PySem.W.Frag} {mg : Str → Option Value} {base : Heap}
abbrev nIs : List Str := ["_law_net", "_law_tables", "_law_ties", "_law_step", "_law_states", "_law_archives", "_law_done", "_law_here", "_law_there", "_law_found", "_law_due", "_law_tie"]
theorem scIst : FnScope nIs ["_law_net", "_law_tables", "_law_ties", "_law_step", "_law_states", "_law_archives", "_law_done"] (defScope sLIsStepped) := ⟨rfl, rfl, rfl, by decide +kernel, rfl, by decide +kernel, by decide +kernel⟩
theorem ok_isStepped {f fJ N M W CB CU CS CD CH CT c_ Pt : Addr} {fd fdJ : FuncData} {T : List (Addr × Str)} (F : FunC K "_law_is_stepped" "_law_is_stepped" sLIsStepped f fd (.ref c_)) (TB : LamX.TabB base mg c_ Pt) (hmT : (Pt, qIs) ∈ T) (hun : ∀ p ∈ T, p.1 = Pt → p.2 = qIs) (DJ : Df K mg "_law_joins" sLJoins ["_law_tables", "_law_archive", "_law_here", "_law_there"] fJ fdJ) (B : Bt mg)
    (hd : Hd K mg base CB CU CS CD CH CT) (nm : NMk P w K mg base N M W CH CD CT CU) (GJ : FnOk P w K mg base CX0 1 fJ fdJ ["_law_tables", "_law_archive", "_law_here", "_law_there"] spLJoins) : FnG P w K mg base 10 f fd ["_law_net", "_law_tables", "_law_ties", "_law_step", "_law_states", "_law_archives", "_law_done"] (spIsStepped N M W T) := by
  obtain ⟨fD, fdD, mD, bD, _, GD⟩ := nm.do_
  obtain ⟨fM, fdM, mM, bM, kM, GM⟩ := nm.meet
  have NT := nm.T
  refine F.okG scIst (fun vs H Q E h => ?_) (fun A_ outer s_ H vs Q E hr hgd h => ?_)
  · obtain ⟨A, e, s, p, tl, a, tas, as, cs, st, rfl, _⟩ := h
    rfl
  · obtain ⟨A, e, s, p, tl, a, tas, as, cs, st, rfl, nx, hb, hT, dy, sf, h5, ha, hok, hld, q1, q2⟩ := h
    have hu : (A_.deeper (envOfC "_law_is_stepped" (defScope sLIsStepped) s_.heap.objs.size f (.ref c_))).units + 64 < cLine := hr.units
    have r1 := hr.mono (show 1 ≤ 9 by decide)
    have r5 := hr.mono (show 5 ≤ 9 by decide)
    have r7 := hr.mono (show 7 ≤ 9 by decide)
    refine ⟨_, pss_cons (ps_if (pt_cmpR op_eq (pe_ix ix_tup (pv 3) pe_int (fun _ _ => rfl)) pe_str (nomark _))
        (pss_cons (ps_asg (pe_ix ix_list (pe_ix ix_list (pv 1) (pe_ix ix_tup (pv 3) pe_int (fun _ _ => rfl)) (fun _ _ => rfl)) (pe_ix ix_list (pv 4) (pe_ix ix_tup (pv 3) pe_int (fun _ _ => rfl)) (fun _ _ => rfl)) (fun _ _ => rfl)) (pg_sub (pv 4) (pe_ix ix_tup (pv 3) pe_int (fun _ _ => rfl)) set_list))
        (pss_cons (ps_expr (pe_bm PySem.F.plainAttrs_list PySem.F.slot_list_append PySem.F.type_list_append mt_append (pv 6) (pa_cons (pv 3) pa_nil)))
        (pss_one (ps_ret (pe_cmpR op_eq (pe_callB call_reprS (by rfl) B.repr (by decide +kernel) (pa_cons (pe_meth (pv 0) NT.cl mD GD r5 bD .nil passF (pa_cons (pe_ix ix_tup (pv 3) pe_int (fun _ _ => rfl)) (pa_cons (pe_ix ix_tup (pv 3) pe_int (fun _ _ => rfl)) pa_nil))) pa_nil)) (pe_callB call_reprS (by rfl) B.repr (by decide +kernel) (pa_cons (pe_ix ix_list (pv 4) (pe_ix ix_tup (pv 3) pe_int (fun _ _ => rfl)) (fun _ _ => rfl)) pa_nil)) (nomark _)))))) pss_nil)
      (pss_cons (ps_asg (pe_ix ix_list (pv 2) (pe_ix ix_tup (pv 3) pe_int (fun _ _ => rfl)) (fun _ _ => rfl)) (pg_lst rfl (pgs_cons (pg_name (i := 7) scIst.nd rfl (.inl rfl)) (pgs_cons (pg_name (i := 8) scIst.nd rfl (.inl rfl)) pgs_nil))))
      (pss_cons (ps_set (i := 11) scIst.nd rfl (.inr rfl) (pe_ix ix_tup (pv 3) pe_int (fun _ _ => rfl)))
      (pss_cons (ps_set (i := 9) scIst.nd rfl (.inl rfl) (pc DJ GJ r1 pass0 (pa_cons (pv 1) (pa_cons (pe_ix ix_list (pv 5) (pv 11) (fun _ _ => rfl)) (pa_cons (pe_ix ix_list (pv 4) (pv 7) (fun _ _ => rfl)) (pa_cons (pe_ix ix_list (pv 4) (pv 8) (fun _ _ => rfl)) pa_nil))))))
      (pss_cons (ps_if (pt_cmpR op_ne (pe_callB call_len_seq (by rfl) B.len PySem.boot_len (pa_cons (pv 9) pa_nil)) pe_int (nomark _))
        (pss_cons (ps_set (i := 10) scIst.nd rfl (.inl rfl) (pe_lst (pa_cons pe_str (pa_cons (pe_ix ix_list (pv 5) (pv 11) (fun _ _ => rfl)) (pa_cons (pe_ix ix_list (pv 4) (pv 7) (fun _ _ => rfl)) (pa_cons (pe_ix ix_list (pv 4) (pv 8) (fun _ _ => rfl)) pa_nil))))))
        (pss_one (ps_ret (pe_cmpR op_eq (pe_callB (call_repr hgd hu) (by rfl) B.repr (by decide +kernel) (pa_cons (pHeard (k := 7) (qn := qIs) (T := T) hd TB hgd hr rfl rfl hmT hun rfl (LamX.lamS_by (by rfl)) rfl (fun _ _ _ _ _ => rfl)
          (fun A outer s H E f c' hr2 => pe_meth (pv 0) NT.cl mM GM hr2 bM .nil (pass1 (E := E) (takes_of rfl rfl rfl rfl)) (pa_cons (pv 11) pa_nil))) pa_nil)) (pe_callB (call_repr hgd hu) (by rfl) B.repr (by decide +kernel) (pa_cons (pv 10) pa_nil)) (nomark _))))) pss_nil)
      (pss_cons (ps_asg (pe_tup (pa_cons (pe_ix ix_list (pv 9) pe_int (fun _ _ => rfl)) (pa_cons (pe_ix ix_list (pv 9) pe_int (fun _ _ => rfl)) (pa_cons (pe_ix ix_list (pv 9) pe_int (fun _ _ => rfl)) pa_nil)))) (pg_tup rfl (pgs_cons (pg_sub (pv 4) (pv 7) set_list) (pgs_cons (pg_sub (pv 4) (pv 8) set_list) (pgs_cons (pg_sub (pv 5) (pv 11) set_list) pgs_nil)))))
      (pss_cons (ps_expr (pe_bm PySem.F.plainAttrs_list PySem.F.slot_list_append PySem.F.type_list_append mt_append (pv 6) (pa_cons (pv 3) pa_nil)))
      (pss_one (ps_ret (pe_cmpR op_eq (pe_callB call_reprS (by rfl) B.repr (by decide +kernel) (pa_cons (pe_methW (pv 0) NT.cl mM GM r7 kM passF (pk_cons (pv 11) pk_nil)) pa_nil)) (pe_callB call_reprS (by rfl) B.repr (by decide +kernel) (pa_cons (pe_ix ix_list (pv 9) pe_int (fun _ _ => rfl)) pa_nil)) (nomark _)))))))))), ?_⟩
    have hwf := dy.net.ev.wf
    have hwv := dy.net.ev.wv
    have s12 := hwf.s12
    have small : ∀ {i : Int}, 0 ≤ i ∧ i < (nS e.tb : Int) → i.natAbs < 2 ^ 64 := fun {i} h => by omega
    cases st with
    | dd h d =>
      have rd : ∀ (j : Nat) v, (stV (.dd h d))[j]? = some v → atI (stV (.dd h d)) (j : Int) = some v := fun j v hv => at_i hv
      obtain ⟨hn, hdd⟩ := hok
      have hs := dy.net.bs.get (i := h) (by rw [dy.net.ls]; exact hn)
      have hls : h < s.ss.length := by rw [dy.net.ls]; exact hn
      obtain ⟨t, ht1, ht2, ht3⟩ := hwf.at_ (s := s.ss.getD h 0) (d := (d : Int)) ⟨by omega, by omega⟩ hs
      rw [Int.toNat_natCast] at ht1
      obtain ⟨aT, t', hA, hT', hTt⟩ := sf.tab.row hdd
      rw [ht1] at hT'
      obtain rfl := Option.some.inj hT'
      refine ⟨_, rfl, a, _, (0 : Int), .str "do", rfl, rfl, SqT.of ha, rd 0 _ rfl, ⟨rfl, true, congrArg V.bl (decide_eq_true rfl), iteT ?_⟩⟩
      refine ⟨_, rfl, _, rfl, a, _, (2 : Int), .int (d : Int), rfl, rfl, SqT.of ha, rd 2 _ rfl, p, _, (d : Int), .ref aT, rfl, rfl, SqL.of sf.tab.1, at_i (map_at hA), ?_⟩
      refine ⟨_, rfl, _, rfl, a, _, (1 : Int), .int (h : Int), rfl, rfl, SqT.of ha, rd 1 _ rfl, A.sl, _, (h : Int), .int (s.ss.getD h 0), rfl, rfl, SqL.of dy.sh, at_i (vrow_get hls), ?_⟩
      generalize hx : stp e.tb (s.ss.getD h 0) (d : Int) = x at ht2 ht3
      refine ⟨aT, _, s.ss.getD h 0, .int x, rfl, rfl, SqL.of hTt, at_of (j := (s.ss.getD h 0).toNat) (by omega) (by rw [vrow, List.getElem?_map, ht2]; rfl), ?_⟩
      refine ⟨_, rfl, _, rfl, a, _, (1 : Int), .int (h : Int), rfl, rfl, SqT.of ha, rd 1 _ rfl, A.sl, _, (h : Int), h, rfl, rfl, dy.sh, ixN_of (by rw [vrow_len]; exact hls), ?_⟩
      rw [← vrow_set]
      have lw0 : Lw A T H H := .refl hb hT
      have lw1 : Lw A T H (upd H A.sl (.lst (vrow (s.ss.set h x)))) := lw0.putS nx dy
      have dy1 := dy.putS nx (s.ss.set h x)
      have ha1 : (upd H A.sl (.lst (vrow (s.ss.set h x)))) a = some (.tup (stV (.dd h d))) := keepT dy.sh _ _ ha
      generalize upd H A.sl (.lst (vrow (s.ss.set h x))) = H1 at lw1 dy1 ha1 ⊢
      have lcs : (cs.map V.ref).length < sizeLine := by rw [List.length_map, dy1.ps.1]; exact szl (by omega)
      refine ⟨_, rfl, .inl ⟨rfl, _, SqL.of dy1.dh⟩, _, rfl, A.dl, _, .ref a, rfl, rfl, dy1.dh, lcs, ?_⟩
      have lw2 : Lw A T H (upd H1 A.dl (.lst (cs.map V.ref ++ [.ref a]))) := lw1.putD nx dy1
      have dy2 := dy1.putD nx ha1
      have ha2 : (upd H1 A.dl (.lst (cs.map V.ref ++ [.ref a]))) a = some (.tup (stV (.dd h d))) := keepT dy1.dh _ _ ha1
      generalize upd H1 A.dl (.lst (cs.map V.ref ++ [.ref a])) = H2 at lw2 dy2 ha2 ⊢
      obtain ⟨dx, sa, aa, pa, k1, _⟩ := id dy2.net.ob
      refine ⟨_, rfl, A.c, dx, _, rfl, k1, nf_do _ _ _ _ _ _, ?_⟩
      refine ⟨_, rfl, a, _, (1 : Int), .int (h : Int), rfl, rfl, SqT.of ha2, rd 1 _ rfl, _, rfl, a, _, (2 : Int), .int (d : Int), rfl, rfl, SqT.of ha2, rd 2 _ rfl, ?_⟩
      refine ⟨A.c, e, s, _, _, none, none, rfl, dy2.net, .int _, .int _, by omega, fun hb => ?_, fun _ hb => ?_, fun h' d' eh ed _ _ H3 b3 N3 => ?_⟩
      · rw [belowB_nat, decide_eq_true hn] at hb; cases hb
      · rw [belowB_nat, decide_eq_true hdd] at hb; cases hb
      · injection eh with eh
        injection ed with ed
        obtain rfl : h' = h := by omega
        obtain rfl : d' = d := by omega
        have lw3 := lw2.netb dy2 b3
        have dy3 := dy2.but b3 N3
        rw [hx]
        refine nilP (repI (small ht3) ?_)
        refine ⟨_, rfl, _, rfl, a, _, (1 : Int), .int (h' : Int), rfl, rfl, SqT.of (b3 _ _ ha2 (fun z => by rw [z, k1] at ha2; cases ha2)), rd 1 _ rfl, A.sl, _, (h' : Int), .int x, rfl, rfl, SqL.of dy3.sh, at_i (by rw [vrow_get (by rw [List.length_set]; exact hls), List.getD_eq_getElem?_getD, List.getElem?_set_self hls]; rfl), ?_⟩
        refine nilP (repI (small ht3) (strE (K := K) ?_))
        refine q1 _ (cs ++ [a]) H3 rfl lw3 ?_
        unfold Sn.doo
        rw [hx]
        unfold Sn.doo at dy3
        rw [hx] at dy3
        exact dy3
    | mt t =>
      have rd : ∀ (j : Nat) v, (stV (.mt t))[j]? = some v → atI (stV (.mt t)) (j : Int) = some v := fun j v hv => at_i hv
      have tn : t < e.ts.length := hok
      obtain ⟨pr, hp⟩ := ex_at tn
      obtain ⟨p1, p2, p3⟩ := hwv.at_ hp
      obtain ⟨pa', hpa, hpl⟩ := sf.prs.get hp
      have ga := dy.net.ba.get (i := t) (by rw [dy.net.la]; exact tn)
      have g1 := dy.net.bs.get (i := pr.1) (by rw [dy.net.ls]; exact p1)
      have g2 := dy.net.bs.get (i := pr.2) (by rw [dy.net.ls]; exact p2)
      have la : t < s.ar.length := by rw [dy.net.la]; exact tn
      have l1 : pr.1 < s.ss.length := by rw [dy.net.ls]; exact p1
      have l2 : pr.2 < s.ss.length := by rw [dy.net.ls]; exact p2
      refine ⟨_, rfl, a, _, (0 : Int), .str "meet", rfl, rfl, SqT.of ha, rd 0 _ rfl, ⟨rfl, false, congrArg V.bl (decide_eq_false (by decide +kernel)), iteF (nxP ?_)⟩⟩
      refine ⟨_, rfl, _, rfl, a, _, (1 : Int), .int (t : Int), rfl, rfl, SqT.of ha, rd 1 _ rfl, tl, _, (t : Int), .ref pa', rfl, rfl, SqL.of sf.tie, at_i (map_at hpa), pa', _, rfl, SqL.of hpl, rfl, _, _, rfl, _, _, rfl, rfl, ?_⟩
      refine ⟨_, rfl, a, _, (1 : Int), .int (t : Int), rfl, rfl, SqT.of ha, rd 1 _ rfl, ?_⟩
      refine ⟨_, rfl, _, rfl, _, rfl, A.al, _, (t : Int), .int (s.ar.getD t 0), rfl, rfl, SqL.of dy.ah, at_i (vrow_get la), _, rfl, _, rfl, A.sl, _, (pr.1 : Int), .int (s.ss.getD pr.1 0), rfl, rfl, SqL.of dy.sh, at_i (vrow_get l1), _, rfl, _, rfl, A.sl, _, (pr.2 : Int), .int (s.ss.getD pr.2 0), rfl, rfl, SqL.of dy.sh, at_i (vrow_get l2), ?_⟩
      refine ⟨p, tas, e.tb, s.ar.getD t 0, s.ss.getD pr.1 0, s.ss.getD pr.2 0, rfl, sf.tab, hwf, h5, ga, g1, fun q l H1 s1 hq0 hq nd hm => ?_⟩
      have lw1 : Lw A T H H1 := (Lw.refl hb hT).same s1
      have dy1 := dy.same s1
      have ha1 := s1 _ _ ha
      dsimp only [List.set]
      obtain ⟨r, jr⟩ := jr_ex e.tb (s.ar.getD t 0) (s.ss.getD pr.1 0) (s.ss.getD pr.2 0)
      cases r with
      | none =>
        have hl := jr.not_one hm
        refine ⟨_, rfl, q, _, rfl, .inl (SqL.of hq), rfl, true, congrArg V.bl (by rw [decide_eq_false (by intro z; injection z with z; rw [vrow_len] at z; omega)]; rfl), iteT ?_⟩
        refine ⟨_, rfl, _, rfl, A.al, _, (t : Int), .int (s.ar.getD t 0), rfl, rfl, SqL.of dy1.ah, at_i (vrow_get la), _, rfl, _, rfl, A.sl, _, (pr.1 : Int), .int (s.ss.getD pr.1 0), rfl, rfl, SqL.of dy1.sh, at_i (vrow_get l1), _, rfl, _, rfl, A.sl, _, (pr.2 : Int), .int (s.ss.getD pr.2 0), rfl, rfl, SqL.of dy1.sh, at_i (vrow_get l2), (by show 4 ≤ sizeLine; decide), fun dd hdd => ?_⟩
        have s2 := same_new (o := HO.lst [V.str "untold", .int (s.ar.getD t 0), .int (s.ss.getD pr.1 0), .int (s.ss.getD pr.2 0)]) hdd
        have hd2 : (upd H1 dd (HO.lst [V.str "untold", .int (s.ar.getD t 0), .int (s.ss.getD pr.1 0), .int (s.ss.getD pr.2 0)])) dd = some (.lst (unL (s.ar.getD t 0) (s.ss.getD pr.1 0) (s.ss.getD pr.2 0))) := upd_same
        generalize upd H1 dd (HO.lst [V.str "untold", .int (s.ar.getD t 0), .int (s.ss.getD pr.1 0), .int (s.ss.getD pr.2 0)]) = H2 at s2 hd2 ⊢
        have lw2 := lw1.same s2
        have dy2 := dy1.same s2
        dsimp only [List.set]
        refine ⟨lw2.tb, fun H3 ex3 t3 => ?_⟩
        have lw3 := lw2.ext ex3 t3
        have dy3 := dy2.ext ex3
        have hd3 := ex3 _ _ hd2 (fun ps z => by cases z)
        obtain ⟨dx, sa, aa, pa, k1, _⟩ := id dy3.net.ob
        refine ⟨_, rfl, A.c, dx, _, rfl, k1, nf_meet _ _ _ _ _ _, _, rfl, A.c, e, s, .int (t : Int), none, rfl, dy3.net, .int _, by omega, fun hb => ?_, fun t' p' et hp' => ⟨fun x hx H' b hN' => ?_, fun hx => ?_⟩⟩
        · rw [belowB_nat, decide_eq_true tn] at hb; cases hb
        · injection et with et
          obtain rfl : t' = t := by omega
          rw [hp] at hp'
          obtain rfl := Option.some.inj hp'
          exact (nomatch (jr.uniq hx))
        · injection et with et
          obtain rfl : t' = t := by omega
          rw [hp] at hp'
          obtain rfl := Option.some.inj hp'
          refine fun d H4 s4 hd4 hx4 => ⟨d, rfl, .inr (.inl ⟨rfl, _, _, _, hx4, fun p5 H5 s5 hp5 h5 => ?_⟩)⟩
          have lw5 := (lw3.same s4).same s5
          have dy5 := (dy3.same s4).same s5
          have hd5 := s5 _ _ (s4 _ _ hd3)
          refine nilP (un_rep (by omega) (by omega) (by omega) h5 ⟨_, rfl, nilP (un_rep (by omega) (by omega) (by omega) hd5 (strE (K := K) ?_))⟩)
          exact q2 _ ⟨_, none, hp, jr, rfl⟩ lw5 dy5
      | some x =>
        have hl := jr.one nd hm
        subst hl
        have hq' : H1 q = some (.lst [.int x]) := hq
        have hxr : 0 ≤ x ∧ x < (nS e.tb : Int) := by
          obtain ⟨r, r1, _, r3⟩ := (jr x).mpr rfl
          rw [← r3]
          exact hwf.run r _ r1 g1
        refine ⟨_, rfl, q, _, rfl, .inl (SqL.of hq), rfl, false, congrArg V.bl (by rw [decide_eq_true (by rfl)]; rfl), iteF (nxP ?_)⟩
        have r0 : ∀ {v : V}, atI [v] 0 = some v := fun {v} => atI_nat (j := 0) rfl
        refine ⟨_, rfl, q, _, (0 : Int), .int x, rfl, rfl, SqL.of hq', r0, _, rfl, q, _, (0 : Int), .int x, rfl, rfl, SqL.of hq', r0, _, rfl, q, _, (0 : Int), .int x, rfl, rfl, SqL.of hq', r0, (by show 3 ≤ sizeLine; decide), fun tp htp => ?_⟩
        have s2 := same_new (o := HO.tup [V.int x, .int x, .int x]) htp
        have lw2 := lw1.same s2
        have dy2 := dy1.same s2
        have ha2 := s2 _ _ ha1
        have hq2 := s2 _ _ hq'
        have ht2 : (upd H1 tp (HO.tup [V.int x, .int x, .int x])) tp = some (.tup [V.int x, .int x, .int x]) := upd_same
        have hqn : q ≠ A.sl ∧ q ≠ A.al ∧ q ≠ A.dl := ⟨(ne_of_none dy.sh hq0).symm, (ne_of_none dy.ah hq0).symm, (ne_of_none dy.dh hq0).symm⟩
        generalize upd H1 tp (HO.tup [V.int x, .int x, .int x]) = H2 at s2 lw2 dy2 ha2 hq2 ht2 ⊢
        refine ⟨tp, _, rfl, SqT.of ht2, rfl, ?_⟩
        refine ⟨_, _, rfl, _, rfl, _, rfl, A.sl, _, (pr.1 : Int), pr.1, rfl, rfl, dy2.sh, ixN_of (by rw [vrow_len]; exact l1), ?_⟩
        rw [← vrow_set]
        have lw3 : Lw A T H (upd H2 A.sl (.lst (vrow (s.ss.set pr.1 x)))) := lw2.putS nx dy2
        have dy3 := dy2.putS nx (s.ss.set pr.1 x)
        have ha3 : (upd H2 A.sl (.lst (vrow (s.ss.set pr.1 x)))) a = some (.tup (stV (.mt t))) := keepT dy2.sh _ _ ha2
        have hq3 : (upd H2 A.sl (.lst (vrow (s.ss.set pr.1 x)))) q = some (.lst [.int x]) := by rw [upd_ne hqn.1]; exact hq2
        generalize upd H2 A.sl (.lst (vrow (s.ss.set pr.1 x))) = H3 at lw3 dy3 ha3 hq3 ⊢
        refine ⟨_, _, rfl, _, rfl, _, rfl, A.sl, _, (pr.2 : Int), pr.2, rfl, rfl, dy3.sh, ixN_of (by rw [vrow_len, List.length_set]; exact l2), ?_⟩
        rw [← vrow_set]
        have lw4 : Lw A T H (upd H3 A.sl (.lst (vrow ((s.ss.set pr.1 x).set pr.2 x)))) := lw3.putS nx dy3
        have dy4 := dy3.putS nx ((s.ss.set pr.1 x).set pr.2 x)
        have ha4 : (upd H3 A.sl (.lst (vrow ((s.ss.set pr.1 x).set pr.2 x)))) a = some (.tup (stV (.mt t))) := keepT dy3.sh _ _ ha3
        have hq4 : (upd H3 A.sl (.lst (vrow ((s.ss.set pr.1 x).set pr.2 x)))) q = some (.lst [.int x]) := by rw [upd_ne hqn.1]; exact hq3
        generalize upd H3 A.sl (.lst (vrow ((s.ss.set pr.1 x).set pr.2 x))) = H4 at lw4 dy4 ha4 hq4 ⊢
        refine ⟨_, _, rfl, _, rfl, _, rfl, A.al, _, (t : Int), t, rfl, rfl, dy4.ah, ixN_of (by rw [vrow_len]; exact la), ?_⟩
        rw [← vrow_set]
        have lw5 : Lw A T H (upd H4 A.al (.lst (vrow (s.ar.set t x)))) := lw4.putA nx dy4
        have dy5 := dy4.putA nx (s.ar.set t x)
        have ha5 : (upd H4 A.al (.lst (vrow (s.ar.set t x)))) a = some (.tup (stV (.mt t))) := keepT dy4.ah _ _ ha4
        have hq5 : (upd H4 A.al (.lst (vrow (s.ar.set t x)))) q = some (.lst [.int x]) := by rw [upd_ne hqn.2.1]; exact hq4
        generalize upd H4 A.al (.lst (vrow (s.ar.set t x))) = H5 at lw5 dy5 ha5 hq5 ⊢
        refine ⟨rfl, ?_⟩
        have lcs : (cs.map V.ref).length < sizeLine := by rw [List.length_map, dy5.ps.1]; exact szl (by omega)
        refine ⟨_, rfl, .inl ⟨rfl, _, SqL.of dy5.dh⟩, _, rfl, A.dl, _, .ref a, rfl, rfl, dy5.dh, lcs, ?_⟩
        have lw6 : Lw A T H (upd H5 A.dl (.lst (cs.map V.ref ++ [.ref a]))) := lw5.putD nx dy5
        have dy6 := dy5.putD nx ha5
        have hq6 : (upd H5 A.dl (.lst (cs.map V.ref ++ [.ref a]))) q = some (.lst [.int x]) := by rw [upd_ne hqn.2.2]; exact hq5
        generalize upd H5 A.dl (.lst (cs.map V.ref ++ [.ref a])) = H6 at lw6 dy6 hq6 ⊢
        obtain ⟨dx, sa, aa, pa, k1, _⟩ := id dy6.net.ob
        refine ⟨_, rfl, A.c, dx, _, rfl, k1, nf_meet _ _ _ _ _ _, _, rfl, rfl, A.c, e, s, .int (t : Int), none, rfl, dy6.net, .int _, by omega, fun hb => ?_, fun t' p' et hp' => ⟨fun x' hx H' b hN' => ?_, fun hx => ?_⟩⟩
        · rw [belowB_nat, decide_eq_true tn] at hb; cases hb
        · injection et with et
          obtain rfl : t' = t := by omega
          rw [hp] at hp'
          obtain rfl := Option.some.inj hp'
          obtain rfl := Option.some.inj (jr.uniq hx)
          have lw7 := lw6.netb dy6 b
          have dy7 := dy6.but b hN'
          have hq7 := b _ _ hq6 (fun z => by rw [z, k1] at hq6; cases hq6)
          refine nilP (repI (small hxr) ?_)
          refine ⟨_, rfl, q, _, (0 : Int), .int x, rfl, rfl, SqL.of hq7, r0, ?_⟩
          refine nilP (repI (small hxr) (strE (K := K) ?_))
          exact q1 _ (cs ++ [a]) H' ⟨pr, some x, hp, jr, rfl⟩ lw7 dy7
        · injection et with et
          obtain rfl : t' = t := by omega
          rw [hp] at hp'
          obtain rfl := Option.some.inj hp'
          exact (nomatch (jr.uniq hx))
end
end K1
namespace K1
open PySem PySem.Spec PyProof.Rows L2
/-! ### odd values, wrong steps -/
structure Od (K : PySem.W.Frag) (H : Hp) (v : V) (d : PyData) : Prop where
  dp : ∀ H', Kp H H' → Dp K H' v d
  pl : Pl d 1 300
  kv : ∀ H', Kp H H' → ∃ o, KV K H' v o
  nb : ∀ n : Nat, n ≤ 20 → belowB v (n : Int) = false
theorem Od.kp {K : PySem.W.Frag} {H H1 : Hp} {v : V} {d : PyData} (o : Od K H v d) (k : Kp H H1) : Od K H1 v d := ⟨fun H' k' => o.dp H' (k.trans k'), o.pl, fun H' k' => o.kv H' (k.trans k'), o.nb⟩
def odds (p : Addr) : List V := [.int (-1), .int 99, .non, .bl true, .str "0", .ref p]
theorem odds_od {K : PySem.W.Frag} {H : Hp} {p : Addr} (hp : H p = some (.tup [.int 0])) {j : Nat} {v : V} (h : (odds p)[j]? = some v) : ∃ d, Od K H v d := by
  match j, h with
  | 0, h => exact ⟨.int (-1), by rw [← Option.some.inj h]; exact ⟨fun _ _ => .int _, (Pl.int (by decide)).mono (by decide) (by decide), fun _ _ => ⟨_, .int _⟩, fun n _ => rfl⟩⟩
  | 1, h => exact ⟨.int 99, by rw [← Option.some.inj h]; exact ⟨fun _ _ => .int _, (Pl.int (by decide)).mono (by decide) (by decide), fun _ _ => ⟨_, .int _⟩, fun n hn => by
      show (decide ((0 : Int) ≤ 99) && decide ((99 : Int) < (n : Int))) = false
      rw [decide_eq_false (show ¬ ((99 : Int) < (n : Int)) by omega), Bool.and_false]⟩⟩
  | 2, h => exact ⟨.none, by rw [← Option.some.inj h]; exact ⟨fun _ _ => .non, pl_non.mono (by decide) (by decide), fun _ _ => ⟨_, .non⟩, fun n _ => rfl⟩⟩
  | 3, h => exact ⟨.bool true, by rw [← Option.some.inj h]; exact ⟨fun _ _ => .bl _, (Pl.bl true).mono (by decide) (by decide), fun _ _ => ⟨_, .bl _⟩, fun n _ => rfl⟩⟩
  | 4, h => exact ⟨.str "0", by rw [← Option.some.inj h]; exact ⟨fun _ _ => .str _, (pl_str (by decide +kernel) (by decide +kernel) (by decide +kernel)).mono (by decide) (by decide), fun _ _ => ⟨_, .str _⟩, fun n _ => rfl⟩⟩
  | 5, h => exact ⟨.tuple [.int 0], by rw [← Option.some.inj h]; exact ⟨fun _ k => .tup (SqT.of (k.tup hp)) (.cons (.int _) .nil), (Pl.tuple (PlA.cons (Pl.int (i := 0) (by decide)) PlA.nil)).mono (by decide) (by decide), fun _ k => ⟨_, .tup (k.tup hp)⟩, fun n _ => rfl⟩⟩
  | (j + 6), h => cases h
/-- what the ear tells of it, shown -/
theorem od_rep {K : PySem.W.Frag} {H H' : Hp} {v : V} {d : PyData} {y : Str} (hy : PyData.strOk y = true) (hz : y.cps.size ≤ 100) (hz2 : (y.cps.toList.all fun c => decide (c < 16 ^ 8)) = true) (o : Od K H v d) (k : Kp H H') {p : Addr} (hp : H' p = some (.lst [.str y, v])) {Q : VK} (q : Q (.str (PyData.list [.str y, d]).shown) H') : rRepr K [.ref p] H' Q :=
  reprP (.lst (SqL.of hp) (.cons (.str _) (.cons (o.dp H' k) .nil))) (Pl.list (PlA.cons (pl_str hy hz hz2) (PlA.cons o.pl PlA.nil))) (by decide) (by decide) q
/-- a wrong step, as long as all but the source stands -/
def Wr (K : PySem.W.Frag) (b l : Addr) (n t d : Nat) (H : Hp) (v : V) : Prop := ∀ H', Ks [b, l] H H' → ∃ r, Sv K H' v r ∧ stB n t d r = false
def Ws (K : PySem.W.Frag) (b l : Addr) (n t d : Nat) (H : Hp) (vs : List V) : Prop := ∀ v ∈ vs, Wr K b l n t d H v
section
variable {K : PySem.W.Frag} {b l : Addr} {n t d : Nat} {H H1 : Hp}
theorem Wr.ks {v : V} (w : Wr K b l n t d H v) (k : Ks [b, l] H H1) : Wr K b l n t d H1 v := fun H' k' => w H' (k.trans k')
theorem Ws.ks {vs : List V} (w : Ws K b l n t d H vs) (k : Ks [b, l] H H1) : Ws K b l n t d H1 vs := fun v hv => (w v hv).ks k
theorem Ws.same {vs : List V} (w : Ws K b l n t d H vs) (s : Same H H1) : Ws K b l n t d H1 vs := w.ks (fun c o e _ _ => s _ _ e)
theorem Ws.nil : Ws K b l n t d H [] := fun v hv => nomatch hv
theorem Ws.snoc {vs : List V} {v : V} (w : Ws K b l n t d H vs) (x : Wr K b l n t d H v) : Ws K b l n t d H (vs ++ [v]) := fun u hu => (List.mem_append.mp hu).elim (w u) fun z => by rw [List.mem_singleton.mp z]; exact x
theorem Ws.app {vs us : List V} (w : Ws K b l n t d H vs) (x : Ws K b l n t d H us) : Ws K b l n t d H (vs ++ us) := fun u hu => (List.mem_append.mp hu).elim (w u) (x u)
/-- kinds of items that need no heap -/
def fl : V → Bool | .int _ => true | .bl _ => true | .non => true | .str _ => true | _ => false
theorem fl_kv {v : V} (h : fl v = true) : KV K H v none := by
  cases v <;> first | exact .int _ | exact .bl _ | exact .non | exact .str _ | (cases h)
def fi0 : List V → Bool | [] => true | .str s :: _ => PyData.strOk s | .int _ :: _ => true | _ => false
theorem fi0_fi {ys : List V} (h : fi0 ys = true) : ∀ y r, some ys = some (y :: r) → Fi H y := fun y r e => by
  obtain rfl := Option.some.inj e
  cases y <;> first | exact .inl ⟨_, rfl, h⟩ | exact .inr (.inl ⟨_, rfl⟩) | (cases h)
theorem wr_tup {p : Addr} {ys : List V} (hp : H p = some (.tup ys)) (hb : DealO H b l) (h1 : ys.all fl = true) (h2 : fi0 ys = true) (h3 : stB n t d (some ys) = false) : Wr K b l n t d H (.ref p) := fun H' k => by
  have hp' := k.tup hp (by
    obtain ⟨_, ns, z, _, g2, g3⟩ := hb
    intro m
    simp only [List.mem_cons, List.mem_nil_iff, or_false] at m
    rcases m with m | m
    · rw [m, g2] at hp; cases hp
    · rw [m, g3] at hp; cases hp)
  exact ⟨some ys, ⟨⟨.tup hp', fun zs e y hy => by obtain rfl := Option.some.inj e; exact ⟨none, fl_kv (List.all_eq_true.mp h1 y hy)⟩⟩, fi0_fi h2⟩, h3⟩
theorem wr_lst {p : Addr} {ys : List V} (hp : H p = some (.lst ys)) (nb : p ≠ b) (nl : p ≠ l) (h1 : ys.all fl = true) (h2 : fi0 ys = true) (h3 : stB n t d (some ys) = false) : Wr K b l n t d H (.ref p) := fun H' k => by
  have hp' := k.lst hp (by simp [nb, nl])
  exact ⟨some ys, ⟨⟨.lst hp', fun zs e y hy => by obtain rfl := Option.some.inj e; exact ⟨none, fl_kv (List.all_eq_true.mp h1 y hy)⟩⟩, fi0_fi h2⟩, h3⟩
theorem wr_fl {v : V} (h : fl v = true) : Wr K b l n t d H v := fun H' k => ⟨none, ⟨⟨fl_kv h, fun ys e => by cases e⟩, fun y ys e => by cases e⟩, rfl⟩
theorem wr_deep {p q : Addr} (hq : H q = some (.tup [.str "do"])) (hp : H p = some (.tup [.ref q, .int 0, .int 0])) (hb : DealO H b l) : Wr K b l n t d H (.ref p) := fun H' k => by
  have nn : ∀ {a : Addr} {xs : List V}, H a = some (.tup xs) → a ∉ [b, l] := fun {a xs} h m => by
    obtain ⟨_, ns, z, _, g2, g3⟩ := hb
    simp only [List.mem_cons, List.mem_nil_iff, or_false] at m
    rcases m with m | m
    · rw [m, g2] at h; cases h
    · rw [m, g3] at h; cases h
  have hp' := k.tup hp (nn hp)
  have hq' := k.tup hq (nn hq)
  refine ⟨some [.ref q, .int 0, .int 0], ⟨⟨.tup hp', fun zs e y hy => ?_⟩, fun y r e => ?_⟩, by show (decide (V.ref q = V.str "do") && (belowB (.int 0) (n : Int) && belowB (.int 0) (d : Int))) = false; rw [decide_eq_false (by intro z; cases z), Bool.false_and]⟩
  · obtain rfl := Option.some.inj e
    simp only [List.mem_cons, List.mem_nil_iff, or_false] at hy
    rcases hy with rfl | rfl | rfl
    · exact ⟨_, .tup hq'⟩
    · exact ⟨_, .int _⟩
    · exact ⟨_, .int _⟩
  · injection e with e
    injection e with e1 _
    rw [← e1]
    exact .inr (.inr ⟨q, "do", rfl, hq', by decide +kernel⟩)
end
/-- a right step, and a list of right ones with a wrong one in between -/
theorem sv_st {K : PySem.W.Frag} {H : Hp} {a : Addr} {s : Stp} (h : H a = some (.tup (stV s))) : Sv K H (.ref a) (some (stV s)) := by
  refine ⟨⟨.tup h, fun ys e y hy => ?_⟩, fun y r e => ?_⟩
  · obtain rfl := Option.some.inj e
    cases s with
    | dd x y =>
      simp only [stV, List.mem_cons, List.mem_nil_iff, or_false] at hy
      rcases hy with rfl | rfl | rfl
      · exact ⟨_, .str _⟩
      · exact ⟨_, .int _⟩
      · exact ⟨_, .int _⟩
    | mt x =>
      simp only [stV, List.mem_cons, List.mem_nil_iff, or_false] at hy
      rcases hy with rfl | rfl
      · exact ⟨_, .str _⟩
      · exact ⟨_, .int _⟩
  · cases s with
    | dd x y => injection e with e; injection e with e1 _; rw [← e1]; exact .inl ⟨_, rfl, by decide +kernel⟩
    | mt x => injection e with e; injection e with e1 _; rw [← e1]; exact .inl ⟨_, rfl, by decide +kernel⟩
theorem svs_right {K : PySem.W.Frag} {H : Hp} {v : V} {cs : List Addr} {ss : List Stp} (h : KV K H v (some (cs.map V.ref))) (hA : StpsA H cs ss) : Svs K H v (some (ss.map fun s => some (stV s))) := by
  refine .yes h (by rw [List.length_map, List.length_map, hA.1]) fun i x r e1 e2 => ?_
  obtain ⟨a, s, rfl, ha, hs, hat⟩ := hA.get e1
  rw [List.getElem?_map, hs] at e2
  obtain rfl := Option.some.inj e2
  exact sv_st hat
theorem sf_right {n t d : Nat} {ss : List Stp} (h : ∀ s ∈ ss, okS n t d s) (hl : ss.length ≤ 400) : sfV n t d (some (ss.map fun s => some (stV s))) = .non :=
  sf_non (by rw [List.length_map]; exact hl) fun j y _ hy => by
    rw [List.getElem?_map] at hy
    cases e : ss[j]? with
    | none => rw [e] at hy; cases hy
    | some s =>
      rw [e] at hy
      obtain rfl := Option.some.inj hy
      exact stB_ok (h s (List.mem_of_getElem? e))
/-- the bent steps -/
theorem svs_bent {K : PySem.W.Frag} {H : Hp} {p : Addr} {as bs : List Addr} {sa sb : List Stp} {v : V} {r : Option (List V)} (h : H p = some (.lst (as.map V.ref ++ [v] ++ bs.map V.ref))) (hA : StpsA H as sa) (hB : StpsA H bs sb) (hv : Sv K H v r) : Svs K H (.ref p) (some ((sa.map fun s => some (stV s)) ++ [r] ++ (sb.map fun s => some (stV s)))) := by
  refine .yes (.lst h) (by simp only [List.length_append, List.length_map, hA.1, hB.1, List.length_cons, List.length_nil]) fun i x q e1 e2 => ?_
  by_cases h1 : i < as.length
  · rw [List.append_assoc, List.getElem?_append_left (by rw [List.length_map]; exact h1)] at e1
    rw [List.append_assoc, List.getElem?_append_left (by rw [List.length_map, ← hA.1]; exact h1)] at e2
    obtain ⟨a, s, rfl, ha, hs, hat⟩ := hA.get e1
    rw [List.getElem?_map, hs] at e2
    obtain rfl := Option.some.inj e2
    exact sv_st hat
  · by_cases h2 : i = as.length
    · subst h2
      rw [List.append_assoc, List.getElem?_append_right (by rw [List.length_map]; exact Nat.le_refl _), List.length_map, Nat.sub_self] at e1
      rw [hA.1, List.append_assoc, List.getElem?_append_right (by rw [List.length_map]; exact Nat.le_refl _), List.length_map, Nat.sub_self] at e2
      obtain rfl := Option.some.inj e1
      obtain rfl := Option.some.inj e2
      exact hv
    · rw [List.getElem?_append_right (by simp only [List.length_append, List.length_map, List.length_cons, List.length_nil]; omega)] at e1
      rw [List.getElem?_append_right (by simp only [List.length_append, List.length_map, List.length_cons, List.length_nil, ← hA.1]; omega)] at e2
      have el : (as.map V.ref ++ [v]).length = ((sa.map fun s => some (stV s)) ++ [r]).length := by simp only [List.length_append, List.length_map, hA.1, List.length_cons, List.length_nil]
      rw [el] at e1
      obtain ⟨a, s, rfl, ha, hs, hat⟩ := hB.get e1
      rw [List.getElem?_map, hs] at e2
      obtain rfl := Option.some.inj e2
      exact sv_st hat
theorem sf_bent {n t d : Nat} {sa sb : List Stp} {r : Option (List V)} (ha : ∀ s ∈ sa, okS n t d s) (hr : stB n t d r = false) (hl : sa.length + 1 + sb.length ≤ 400) : sfV n t d (some ((sa.map fun s => some (stV s)) ++ [r] ++ (sb.map fun s => some (stV s)))) = .int (sa.length : Nat) := by
  refine sf_at (by simp only [List.length_append, List.length_map, List.length_cons, List.length_nil]; exact hl) (r := r) ?_ hr fun j y hj hy => ?_
  · rw [List.append_assoc, List.getElem?_append_right (by rw [List.length_map]; exact Nat.le_refl _), List.length_map, Nat.sub_self]; rfl
  · rw [List.append_assoc, List.getElem?_append_left (by rw [List.length_map]; exact hj), List.getElem?_map] at hy
    cases e : sa[j]? with
    | none => rw [e] at hy; cases hy
    | some s =>
      rw [e] at hy
      obtain rfl := Option.some.inj hy
      exact stB_ok (ha s (List.mem_of_getElem? e))
end K1
namespace K1
open PySem PySem.Spec PyProof.Rows L2
abbrev qOt : Str := "_law_is_odd_told.<locals>.<lambda>"
def A0 (b l : Addr) : Ad := ⟨b, l, b, b, b, b⟩
def spOdd (N M W : Addr) (T : List (Addr × Str)) : Sp := fun vs H Q _ => ∃ (b l c pp : Addr) (e : Ev) (s : Sn) (scs : List Addr) (sts : List Stp), vs = [.ref b, .ref e.m, .ref e.w, .ref c, .ref pp] ∧ DealO H b l ∧ LamX.Tabs T H ∧ NetAt N M W H c e s ∧ s.ds.length < 900 ∧ H pp = some (.lst (scs.map V.ref)) ∧ StpsA H scs sts ∧ (∀ st ∈ sts, okS e.n e.ts.length e.tb.length st) ∧ sts.length ≤ 100 ∧ pp ≠ b ∧ pp ≠ l ∧ ∀ H', Q (.bl true) H'
theorem rep_map (k : Nat) (p : Addr) : (List.replicate k [V.ref p]).flatten = (List.replicate k p).map V.ref := by
  rw [List.map_replicate]
  induction k with
  | zero => rfl
  | succ k ih => rw [List.replicate_succ, List.replicate_succ, List.flatten_cons, ih]; rfl
theorem stps_rep {H : Hp} {p : Addr} {st : Stp} (h : H p = some (.tup (stV st))) (k : Nat) : StpsA H (List.replicate k p) (List.replicate k st) := by
  refine ⟨by rw [List.length_replicate, List.length_replicate], fun i a s e1 e2 => ?_⟩
  rw [List.eq_of_mem_replicate (List.mem_of_getElem? e1), List.eq_of_mem_replicate (List.mem_of_getElem? e2)]; exact h
theorem StpsA.take {H : Hp} {cs : List Addr} {ss : List Stp} (h : StpsA H cs ss) (k : Nat) : StpsA H (cs.take k) (ss.take k) := by
  refine ⟨by rw [List.length_take, List.length_take, h.1], fun i a s e1 e2 => ?_⟩
  have i1 := lt_at e1
  rw [List.length_take] at i1
  rw [List.getElem?_take_of_lt (by omega)] at e1 e2
  exact h.2 i a s e1 e2
theorem StpsA.drop {H : Hp} {cs : List Addr} {ss : List Stp} (h : StpsA H cs ss) (k : Nat) : StpsA H (cs.drop k) (ss.drop k) := by
  refine ⟨by rw [List.length_drop, List.length_drop, h.1], fun i a s e1 e2 => ?_⟩
  rw [List.getElem?_drop] at e1 e2
  exact h.2 _ a s e1 e2
theorem bent_s {K : PySem.W.Frag} {b l pb : Addr} {n t d k : Nat} {H : Hp} {scs : List Addr} {sts : List Stp} {v : V} (hA : StpsA H scs sts) (hok : ∀ s ∈ sts, okS n t d s) (hl : sts.length ≤ 100) (hk : k ≤ sts.length) (hp : H pb = some (.lst ((scs.take k).map V.ref ++ [v] ++ (scs.drop k).map V.ref))) (w : Wr K b l n t d H v) : ∃ o, Svs K H (.ref pb) o ∧ sfV n t d o = .int (k : Nat) := by
  obtain ⟨r, h1, h2⟩ := w H (fun c o e _ _ => e)
  refine ⟨_, svs_bent hp (hA.take k) (hA.drop k) h1, ?_⟩
  rw [sf_bent (fun s hs => hok s (List.mem_of_mem_take hs)) h2 (by rw [List.length_take, List.length_drop]; omega), List.length_take]
  congr 2
  omega
theorem ear_pl {i : Int} (hi : i.natAbs < 10 ^ 19) : Pl (.list [.str "steps", .int i]) 1 10000 := (Pl.list (PlA.cons (pl_str (x := "steps") (by decide +kernel) (by decide +kernel) (by decide +kernel)) (PlA.cons (Pl.int hi) PlA.nil))).mono (by decide) (by decide)
theorem ear_ne {K : PySem.W.Frag} {i : Int} (hi : i.natAbs < 10 ^ 19) {p q : Addr} {H : Hp} {Q : VK} (h1 : H p = some (.lst [.str "steps", .int i])) (h2 : H q = some (.lst [.str "steps", .int i])) (k : Q (.bl false) H) : rNeD K (.ref p) (.ref q) H Q :=
  neDP (d := .list [.str "steps", .int i]) (.lst (SqL.of h1) (.cons (.str _) (.cons (.int _) .nil))) (.lst (SqL.of h2) (.cons (.str _) (.cons (.int _) .nil))) (ear_pl hi) (by decide) k
theorem ear_eq {K : PySem.W.Frag} {i : Int} (hi : i.natAbs < 10 ^ 19) {p q : Addr} {H : Hp} {Q : VK} (h1 : H p = some (.lst [.str "steps", .int i])) (h2 : H q = some (.lst [.str "steps", .int i])) (k : Q (.bl true) H) : rEqD K (.ref p) (.ref q) H Q :=
  eqDP (d := .list [.str "steps", .int i]) (.lst (SqL.of h1) (.cons (.str _) (.cons (.int _) .nil))) (.lst (SqL.of h2) (.cons (.str _) (.cons (.int _) .nil))) (ear_pl hi) (by decide) k
/-- a value that is no steps at all -/
def Vv (K : PySem.W.Frag) (b l : Addr) (n t d : Nat) (H : Hp) (v : V) : Prop := ∀ H', Ks [b, l] H H' → ∃ o, Svs K H' v o ∧ sfV n t d o = .int (-1)
theorem vv_fl {K : PySem.W.Frag} {b l : Addr} {n t d : Nat} {H : Hp} {v : V} (h : fl v = true) : Vv K b l n t d H v := fun H' k => ⟨none, .no (fl_kv h), rfl⟩
theorem vv_many {K : PySem.W.Frag} {b l p q : Addr} {n t d : Nat} {H : Hp} (hp : H p = some (.lst ((List.replicate 401 q).map V.ref))) (nb : p ≠ b) (nl : p ≠ l) (hq : H q = some (.tup (stV (.dd 0 0)))) (qb : q ≠ b) (ql : q ≠ l) : Vv K b l n t d H (.ref p) := fun H' k => by
  refine ⟨_, svs_right (.lst (k.lst hp (by simp [nb, nl]))) (stps_rep (k.tup hq (by simp [qb, ql])) 401), ?_⟩
  unfold sfV
  dsimp only
  rw [if_neg (by rw [List.length_map, List.length_replicate]; decide)]
theorem Vv.ks {K : PySem.W.Frag} {b l : Addr} {n t d : Nat} {H H1 : Hp} {v : V} (w : Vv K b l n t d H v) (k : Ks [b, l] H H1) : Vv K b l n t d H1 v := fun H' k' => w H' (k.trans k')
theorem ks_dl {b l : Addr} {H H1 : Hp} (d : Dl b l H H1) : Ks [b, l] H H1 := fun c o e n _ => d.2 c o e (fun z => n (by simp [z])) (fun z => n (by simp [z]))
theorem ks_ext {xs : List Addr} {H H1 : Hp} (d : LamX.ExtN H H1) : Ks xs H H1 := fun c o e _ n => d c o e n
theorem stb_do {n t d : Nat} {x y : V} (h : (belowB x (n : Int) && belowB y (d : Int)) = false) : stB n t d (some [.str "do", x, y]) = false := by unfold stB; simp only [h, Bool.and_false]
theorem stb_me {n t d : Nat} {x : V} (h : belowB x (t : Int) = false) : stB n t d (some [.str "meet", x]) = false := by unfold stB; simp only [h, Bool.and_false]
theorem fi_do {r : List V} : fi0 (.str "do" :: r) = true := (by decide +kernel : PyData.strOk "do" = true)
theorem fi_me {r : List V} : fi0 (.str "meet" :: r) = true := (by decide +kernel : PyData.strOk "meet" = true)
theorem fi_st {r : List V} : fi0 (.str "stop" :: r) = true := (by decide +kernel : PyData.strOk "stop" = true)
theorem bl_self {k : Nat} : belowB (.int (k : Int)) (k : Int) = false := by rw [belowB_nat, decide_eq_false (Nat.lt_irrefl _)]
/-- what there is, all along -/
structure Oc (N M W : Addr) (b l c pp : Addr) (T : List (Addr × Str)) (e : Ev) (s : Sn) (scs : List Addr) (sts : List Stp) (H : Hp) : Prop where
  dl : DealO H b l
  tb : LamX.Tabs T H
  net : NetAt N M W H c e s
  pp : H pp = some (.lst (scs.map V.ref))
  st : StpsA H scs sts
section
variable {N M W b l c pp : Addr} {T : List (Addr × Str)} {e : Ev} {s : Sn} {scs : List Addr} {sts : List Stp} {H H1 : Hp}
theorem Oc.same (o : Oc N M W b l c pp T e s scs sts H) (q : Same H H1) : Oc N M W b l c pp T e s scs sts H1 := ⟨o.dl.same q, o.tb.ext q, o.net.same q, q _ _ o.pp, o.st.same q⟩
theorem Oc.draw (o : Oc N M W b l c pp T e s scs sts H) (nb : pp ≠ b) (nl : pp ≠ l) (q : Dl b l H H1) : Oc N M W b l c pp T e s scs sts H1 := ⟨q.1, tabs_dl o.tb o.dl q, o.net.kp (Kp.dl o.dl q), q.2 _ _ o.pp nb nl, o.st.kp (Kp.dl o.dl q)⟩
theorem Oc.ext (o : Oc N M W b l c pp T e s scs sts H) (q : LamX.ExtN H H1) (t : LamX.Tabs T H1) : Oc N M W b l c pp T e s scs sts H1 := ⟨o.dl.ext q, t, o.net.kp (Kp.ext q), q _ _ o.pp (fun ps z => by cases z), o.st.kp (Kp.ext q)⟩
theorem EvAt.at0 (o : EvAt M W H e) : EvAt M W H ⟨e.m, e.ta, e.w, e.tb, e.n, e.ts, 0⟩ := ⟨o.mc, o.wb, o.wf, o.wv⟩
end
section
variable {P : Program} {w : World} {K : PySem.W.Frag} {mg : Str → Option Value} {base : Heap}
abbrev nOt : List Str := ["_law_deal", "_law_machine", "_law_web_here", "_law_net", "_law_steps_here", "_law_at", "_law_wrong", "_law_bent", "_law_odd", "_law_value"]
theorem scOt : FnScope nOt ["_law_deal", "_law_machine", "_law_web_here", "_law_net", "_law_steps_here"] (defScope sLIsOddTold) := ⟨rfl, rfl, rfl, by decide +kernel, rfl, by decide +kernel, by decide +kernel⟩
theorem ok_oddTold {f fA fO fK fS fT fI N M W CB CU CS CD CH CT c_ Pt : Addr} {fd fdA fdO fdK fdS fdT fdI : FuncData} {T : List (Addr × Str)} (F : FunC K "_law_is_odd_told" "_law_is_odd_told" sLIsOddTold f fd (.ref c_)) (TB : LamX.TabB base mg c_ Pt) (hmT : (Pt, qOt) ∈ T) (hun : ∀ p ∈ T, p.1 = Pt → p.2 = qOt) (DA : Df K mg "_law_any" sLAny ["_law_deal", "_law_bound"] fA fdA) (DO : Df K mg "_law_of" sLOf ["_law_deal", "_law_some"] fO fdO)
    (DK : Df K mg "check_steps" sCheckSteps ["machine", "web", "value"] fK fdK) (DS : Df K mg "standing_after" sStandingAfter ["machine", "web", "first", "steps"] fS fdS) (DT : Df K mg "truth_of" sTruthOf ["machine", "web", "first", "steps", "house"] fT fdT) (B : Bt mg)
    (hd : Hd K mg base CB CU CS CD CH CT) (nm : NMk P w K mg base N M W CH CD CT CU) (TM' : McT K mg M) (TW : WcT K mg W) (MI : Mk K N fI) (BI : Binds K fdI ["self", "machine", "web", "first"] []) (GI : FnOk P w K mg base (L2.CX P w) 5 fI fdI ["self", "machine", "web", "first"] (spStand K N M W CS))
    (GA : FnOk P w K mg base CX0 1 fA fdA ["_law_deal", "_law_bound"] spAny) (GO : FnOk P w K mg base CX0 2 fO fdO ["_law_deal", "_law_some"] spOf)
    (GK : FnOk P w K mg base (L2.CX P w) 6 fK fdK ["machine", "web", "value"] (spCkSteps K M W CB)) (GS : FnOk P w K mg base (L2.CX P w) 9 fS fdS ["machine", "web", "first", "steps"] (spStandA K M W CB CU)) (GT : FnOk P w K mg base (L2.CX P w) 7 fT fdT ["machine", "web", "first", "steps", "house"] (spTruth K M W CB CH)) :
    FnG P w K mg base 12 f fd ["_law_deal", "_law_machine", "_law_web_here", "_law_net", "_law_steps_here"] (spOdd N M W T) := by
  obtain ⟨fD, fdD, mD, bD, kD, GD⟩ := nm.do_
  obtain ⟨fM, fdM, mM, bM, kM, GM⟩ := nm.meet
  have NT := nm.T
  refine F.okG scOt (fun vs H Q E h => ?_) (fun A_ outer s_ H vs Q E hr hgd h => ?_)
  · obtain ⟨b, l, c, pp, e, s, scs, sts, rfl, _⟩ := h
    rfl
  · obtain ⟨b, l, c, pp, e, s, scs, sts, rfl, hb, hT, hN, hld, hpp, hA, hok, hsl, npb, npl, q⟩ := h
    have hu : (A_.deeper (envOfC "_law_is_odd_told" (defScope sLIsOddTold) s_.heap.objs.size f (.ref c_))).units + 64 < cLine := hr.units
    have r1 := hr.mono (show 1 ≤ 11 by decide)
    have r2 := hr.mono (show 2 ≤ 11 by decide)
    have r6 := hr.mono (show 6 ≤ 11 by decide)
    refine ⟨_, pss_cons (ps_set (i := 8) scOt.nd rfl (.inr rfl) (pc DO GO r2 pass0 (pa_cons (pv 0) (pa_cons (pe_lst (pa_cons (pe_un un_neg pe_int) (pa_cons pe_int (pa_cons pe_non (pa_cons pe_bl (pa_cons pe_str (pa_cons (pe_tup (pa_cons pe_int pa_nil)) pa_nil))))))) pa_nil))))
      (pss_cons (ps_if (pt_cmpR op_ne (pe_callB (call_repr hgd hu) (by rfl) B.repr (by decide +kernel) (pa_cons (pHeard (k := 9) (qn := qOt) (T := T) hd TB hgd hr rfl rfl hmT hun rfl (LamX.lamS_by (by rfl)) rfl (fun _ _ _ _ _ => rfl)
          (fun A outer s H E f c' hr2 => pe_meth (pv 3) NT.cl mD GD (hr2.mono (show 5 ≤ 9 by decide)) bD .nil (pass1 (E := E) (takes_of rfl rfl rfl rfl)) (pa_cons (pv 8) (pa_cons (pv 8) pa_nil)))) pa_nil))
        (pe_callB (call_repr hgd hu) (by rfl) B.repr (by decide +kernel) (pa_cons (pe_lst (pa_cons pe_str (pa_cons (pv 8) pa_nil))) pa_nil)) (nomark _)) (pss_one (ps_ret pe_bl)) pss_nil)
      (pss_cons (ps_if (pt_cmpR op_ne (pe_callB (call_repr hgd hu) (by rfl) B.repr (by decide +kernel) (pa_cons (pHeard (k := 9) (qn := qOt) (T := T) hd TB hgd hr rfl rfl hmT hun rfl (LamX.lamS_by (by rfl)) rfl (fun _ _ _ _ _ => rfl)
          (fun A outer s H E f c' hr2 => pe_meth (pv 3) NT.cl mD GD (hr2.mono (show 5 ≤ 9 by decide)) bD .nil (pass1 (E := E) (takes_of rfl rfl rfl rfl)) (pa_cons pe_int (pa_cons (pv 8) pa_nil)))) pa_nil))
        (pe_callB (call_repr hgd hu) (by rfl) B.repr (by decide +kernel) (pa_cons (pe_lst (pa_cons pe_str (pa_cons (pv 8) pa_nil))) pa_nil)) (nomark _)) (pss_one (ps_ret pe_bl)) pss_nil)
      (pss_cons (ps_if (pt_cmpR op_ne (pe_callB (call_repr hgd hu) (by rfl) B.repr (by decide +kernel) (pa_cons (pHeard (k := 9) (qn := qOt) (T := T) hd TB hgd hr rfl rfl hmT hun rfl (LamX.lamS_by (by rfl)) rfl (fun _ _ _ _ _ => rfl)
          (fun A outer s H E f c' hr2 => pe_meth (pv 3) NT.cl mM GM (hr2.mono (show 7 ≤ 9 by decide)) bM .nil (pass1 (E := E) (takes_of rfl rfl rfl rfl)) (pa_cons (pv 8) pa_nil))) pa_nil))
        (pe_callB (call_repr hgd hu) (by rfl) B.repr (by decide +kernel) (pa_cons (pe_lst (pa_cons pe_str (pa_cons (pv 8) pa_nil))) pa_nil)) (nomark _)) (pss_one (ps_ret pe_bl)) pss_nil)
      (pss_cons (ps_if (pt_cmpR op_ne (pe_callB (call_repr hgd hu) (by rfl) B.repr (by decide +kernel) (pa_cons (pHeard (k := 9) (qn := qOt) (T := T) hd TB hgd hr rfl rfl hmT hun rfl (LamX.lamS_by (by rfl)) rfl (fun _ _ _ _ _ => rfl)
          (fun A outer s H E f c' hr2 => pe_make MI GI (hr2.mono (show 6 ≤ 9 by decide)) rfl NT.g BI .nil (pass1 (E := E) (takes_of rfl rfl rfl rfl)) (pa_cons (pv 1) (pa_cons (pv 2) (pa_cons (pv 8) pa_nil))))) pa_nil))
        (pe_callB (call_repr hgd hu) (by rfl) B.repr (by decide +kernel) (pa_cons (pe_lst (pa_cons pe_str (pa_cons (pv 8) pa_nil))) pa_nil)) (nomark _)) (pss_one (ps_ret pe_bl)) pss_nil)
      (pss_cons (ps_if (pt_cmpR op_ne (pe_callB (call_repr hgd hu) (by rfl) B.repr (by decide +kernel) (pa_cons (pHeard (k := 9) (qn := qOt) (T := T) hd TB hgd hr rfl rfl hmT hun rfl (LamX.lamS_by (by rfl)) rfl (fun _ _ _ _ _ => rfl)
          (fun A outer s H E f c' hr2 => pc DT GT (hr2.mono (show 7 ≤ 9 by decide)) (pass1 (E := E) (takes_of rfl rfl rfl rfl)) (pa_cons (pv 1) (pa_cons (pv 2) (pa_cons pe_int (pa_cons (pv 4) (pa_cons (pv 8) pa_nil))))))) pa_nil))
        (pe_callB (call_repr hgd hu) (by rfl) B.repr (by decide +kernel) (pa_cons (pe_lst (pa_cons pe_str (pa_cons (pv 8) pa_nil))) pa_nil)) (nomark _)) (pss_one (ps_ret pe_bl)) pss_nil)
      (pss_cons (ps_set (i := 5) scOt.nd rfl (.inl rfl) (pc DA GA r1 pass0 (pa_cons (pv 0) (pa_cons (pe_op op_add (pe_callB call_len_seq (by rfl) B.len PySem.boot_len (pa_cons (pv 4) pa_nil)) pe_int) pa_nil))))
      (pss_cons (ps_set (i := 6) scOt.nd rfl (.inl rfl) (pe_lst (pa_cons (pe_tup (pa_cons pe_str (pa_cons pe_int pa_nil))) (pa_cons (pe_tup (pa_cons pe_str (pa_cons pe_int (pa_cons (pe_fld (pv 1) rfl) pa_nil)))) (pa_cons (pe_tup (pa_cons pe_str (pa_cons (pe_fld (pv 2) rfl) (pa_cons pe_int pa_nil)))) (pa_cons (pe_tup (pa_cons pe_str (pa_cons pe_int (pa_cons pe_bl pa_nil)))) (pa_cons (pe_tup (pa_cons pe_str (pa_cons (pe_callB call_len_seq (by rfl) B.len PySem.boot_len (pa_cons (pe_fld (pv 2) rfl) pa_nil)) pa_nil))) (pa_cons (pe_tup (pa_cons pe_str (pa_cons (pe_un un_neg pe_int) pa_nil))) pa_nil))))))))
      (pss_cons (ps_set (i := 6) scOt.nd rfl (.inl rfl) (pe_op op_cat (pv 6) (pe_lst (pa_cons (pe_tup (pa_cons pe_str (pa_cons pe_int (pa_cons pe_int (pa_cons pe_int pa_nil))))) (pa_cons (pe_tup (pa_cons pe_str pa_nil)) (pa_cons (pe_tup pa_nil) (pa_cons pe_str (pa_cons pe_non (pa_cons pe_int (pa_cons (pe_tup (pa_cons pe_str (pa_cons pe_int pa_nil))) (pa_cons (pe_tup (pa_cons pe_int (pa_cons pe_int (pa_cons pe_int pa_nil)))) (pa_cons (pe_tup (pa_cons pe_str (pa_cons pe_int (pa_cons pe_int pa_nil)))) (pa_cons (pe_lst (pa_cons pe_str (pa_cons pe_non (pa_cons pe_int pa_nil)))) (pa_cons (pe_tup (pa_cons (pe_tup (pa_cons pe_str pa_nil)) (pa_cons pe_int (pa_cons pe_int pa_nil)))) pa_nil))))))))))))))
      (pss_cons (ps_set (i := 7) scOt.nd rfl (.inr rfl) (pe_op op_cat (pe_op op_cat (pe_callTy call_list_of (by rfl) B.list PyProof.Rows.boot_list (pa_cons (pe_slice sl_list (pv 4) po_none (po_some (pv 5))) pa_nil)) (pe_lst (pa_cons (pc DO GO r2 pass0 (pa_cons (pv 0) (pa_cons (pv 6) pa_nil))) pa_nil))) (pe_callTy call_list_of (by rfl) B.list PyProof.Rows.boot_list (pa_cons (pe_slice sl_list (pv 4) (po_some (pv 5)) po_none) pa_nil))))
      (pss_cons (ps_if (pt_cmpR (neD (K := K) rfl hu) (pHeard (k := 9) (qn := qOt) (T := T) hd TB hgd hr rfl rfl hmT hun rfl (LamX.lamS_by (by rfl)) rfl (fun _ _ _ _ _ => rfl)
          (fun A outer s H E f c' hr2 => pc DK GK (hr2.mono (show 6 ≤ 9 by decide)) (pass1 (E := E) (takes_of rfl rfl rfl rfl)) (pa_cons (pv 1) (pa_cons (pv 2) (pa_cons (pv 7) pa_nil)))))
        (pe_lst (pa_cons pe_str (pa_cons (pv 5) pa_nil))) (nomark _)) (pss_one (ps_ret pe_bl)) pss_nil)
      (pss_cons (ps_if (pt_cmpR (neD (K := K) rfl hu) (pHeard (k := 9) (qn := qOt) (T := T) hd TB hgd hr rfl rfl hmT hun rfl (LamX.lamS_by (by rfl)) rfl (fun _ _ _ _ _ => rfl)
          (fun A outer s H E f c' hr2 => pc DS GS hr2 (pass1 (E := E) (takes_of rfl rfl rfl rfl)) (pa_cons (pv 1) (pa_cons (pv 2) (pa_cons pe_int (pa_cons (pv 7) pa_nil))))))
        (pe_lst (pa_cons pe_str (pa_cons (pv 5) pa_nil))) (nomark _)) (pss_one (ps_ret pe_bl)) pss_nil)
      (pss_cons (ps_if (pt_cmpR (neD (K := K) rfl hu) (pHeard (k := 9) (qn := qOt) (T := T) hd TB hgd hr rfl rfl hmT hun rfl (LamX.lamS_by (by rfl)) rfl (fun _ _ _ _ _ => rfl)
          (fun A outer s H E f c' hr2 => pc DT GT (hr2.mono (show 7 ≤ 9 by decide)) (pass1 (E := E) (takes_of rfl rfl rfl rfl)) (pa_cons (pv 1) (pa_cons (pv 2) (pa_cons pe_int (pa_cons (pv 7) (pa_cons pe_non pa_nil)))))))
        (pe_lst (pa_cons pe_str (pa_cons (pv 5) pa_nil))) (nomark _)) (pss_one (ps_ret pe_bl)) pss_nil)
      (pss_cons (ps_if (pt_cmpR op_ne (pe_callB call_len_seq (by rfl) B.len PySem.boot_len (pa_cons (pc DK GK r6 passF (pa_cons (pv 1) (pa_cons (pv 2) (pa_cons (pe_op op_rep (pe_lst (pa_cons (pe_tup (pa_cons pe_str (pa_cons pe_int (pa_cons pe_int pa_nil)))) pa_nil)) pe_int) pa_nil)))) pa_nil)) pe_int (nomark _)) (pss_one (ps_ret pe_bl)) pss_nil)
      (pss_cons (ps_set (i := 9) scOt.nd rfl (.inr rfl) (pc DO GO r2 pass0 (pa_cons (pv 0) (pa_cons (pe_lst (pa_cons pe_non (pa_cons pe_str (pa_cons pe_int (pa_cons (pe_op op_rep (pe_lst (pa_cons (pe_tup (pa_cons pe_str (pa_cons pe_int (pa_cons pe_int pa_nil)))) pa_nil)) pe_int) pa_nil))))) pa_nil))))
      (pss_one (ps_ret (pe_cmpR (eqD (K := K) rfl hu) (pHeard (k := 9) (qn := qOt) (T := T) hd TB hgd hr rfl rfl hmT hun rfl (LamX.lamS_by (by rfl)) rfl (fun _ _ _ _ _ => rfl)
          (fun A outer s H E f c' hr2 => pc DK GK (hr2.mono (show 6 ≤ 9 by decide)) (pass1 (E := E) (takes_of rfl rfl rfl rfl)) (pa_cons (pv 1) (pa_cons (pv 2) (pa_cons (pv 9) pa_nil)))))
        (pe_lst (pa_cons pe_str (pa_cons (pe_un un_neg pe_int) pa_nil))) (nomark _)))))))))))))))))), ?_⟩
    have hwf := hN.ev.wf
    have hwv := hN.ev.wv
    have n12 := hwv.n12
    have n1 := hwv.n1
    have t20 := hwv.t20
    have t8 := hwf.t8
    have t1 := hwf.t1
    have s12 := hwf.s12
    have s1 := hwf.s1
    have O0 : Oc N M W b l c pp T e s scs sts H := ⟨hb, hT, hN, hpp, hA⟩
    clear hb hT hN hpp hA
    refine ⟨_, rfl, _, rfl, (by show 1 ≤ sizeLine; decide), fun pz hpz => ?_⟩
    have O1 := O0.same (same_new (o := HO.tup [V.int 0]) hpz)
    have hz1 : (upd H pz (.tup [V.int 0])) pz = some (.tup [V.int 0]) := upd_same
    generalize upd H pz (.tup [V.int 0]) = H1 at O1 hz1 ⊢
    refine nilP ⟨(by show 6 ≤ sizeLine; decide), fun po hpo => ?_⟩
    have O2 := O1.same (same_new (o := HO.lst (odds pz)) hpo)
    have hz2 := (same_new (o := HO.lst (odds pz)) hpo) _ _ hz1
    have ho2 : (upd H1 po (.lst (odds pz))) po = some (.lst (odds pz)) := upd_same
    have nob := O1.dl.nb hpo
    have nol := O1.dl.nl hpo
    change tNil _ (upd H1 po (.lst (odds pz))) _
    generalize upd H1 po (.lst (odds pz)) = H2 at O2 hz2 ho2 ⊢
    refine nilP ⟨b, l, po, _, rfl, O2.dl, ho2, nob, nol, (by simp [odds]), (by simp [odds]), fun j odd H3 hj d3 => ?_⟩
    obtain ⟨d, od2⟩ := odds_od (K := K) hz2 hj
    have O3 := O2.draw npb npl d3
    have od3 := od2.kp (Kp.dl O2.dl d3)
    clear hj d3 ho2 hz2 hz1 od2
    refine gn ?_
    dsimp only [List.set]
    refine ⟨O3.tb, fun H4 x4 t4 => ?_⟩
    have O4 := O3.ext x4 t4
    have od4 := od3.kp (Kp.ext x4)
    obtain ⟨ok4, kv4⟩ := od4.kv _ .refl
    obtain ⟨dx4, sa4, aa4, pa4, k4, _⟩ := id O4.net.ob
    refine ⟨_, rfl, c, dx4, _, rfl, k4, nf_do _ _ _ _ _ _, _, rfl, _, rfl, c, e, s, odd, odd, ok4, ok4, rfl, O4.net, kv4, kv4, by omega, fun _ => ?_, fun hb4 => (by rw [od4.nb _ (by omega)] at hb4; cases hb4), fun h' d' eh _ hn _ => (by
      have z := od4.nb e.n (by omega)
      rw [eh, belowB_nat, decide_eq_true hn] at z; cases z)⟩
    refine fun d5 H5 s5 hd5 hx5 => ⟨d5, rfl, .inr (.inr (.inr (.inr (.inl ⟨rfl, _, hx5, fun p6 H6 s6 hp6 h6 => ?_⟩))))⟩
    have O6 := (O4.same s5).same s6
    have od6 := od4.kp ((Same.kp s5).trans (Same.kp s6))
    refine nilP (od_rep (y := "house") (by decide +kernel) (by decide +kernel) (by decide +kernel) od6 .refl h6 ⟨_, rfl, (by show 2 ≤ sizeLine; decide), fun p7 hp7 => nilP ?_⟩)
    have sn7 := same_new (o := HO.lst [V.str "house", odd]) hp7
    have hh7 : (upd H6 p7 (.lst [V.str "house", odd])) p7 = some (.lst [V.str "house", odd]) := upd_same
    have O7 := O6.same sn7
    have od7 := od6.kp (Same.kp sn7)
    generalize upd H6 p7 (.lst [V.str "house", odd]) = H7 at hh7 O7 od7 ⊢
    refine od_rep (y := "house") (by decide +kernel) (by decide +kernel) (by decide +kernel) od7 .refl hh7 (strN ⟨_, rfl, iteF (nxP ?_)⟩)
    refine ⟨O7.tb, fun H8 x8 t8 => ?_⟩
    have O8 := O7.ext x8 t8
    have od8 := od7.kp (Kp.ext x8)
    obtain ⟨ok8, kv8⟩ := od8.kv _ .refl
    obtain ⟨dx8, sa8, aa8, pa8, k8, _⟩ := id O8.net.ob
    refine ⟨_, rfl, c, dx8, _, rfl, k8, nf_do _ _ _ _ _ _, ?_⟩
    refine cnP ⟨_, rfl, c, e, s, .int 0, odd, none, ok8, rfl, O8.net, .int 0, kv8, by omega, fun hb8 => (by rw [show (0 : Int) = ((0 : Nat) : Int) from rfl, belowB_nat, decide_eq_true (by omega)] at hb8; cases hb8), fun _ _ => ?_, fun h' d' _ ed _ hn => (by
      have z := od8.nb e.tb.length (by omega)
      rw [ed, belowB_nat, decide_eq_true hn] at z; cases z)⟩
    refine fun d9 H9 s9 hd9 hx9 => ⟨d9, rfl, .inr (.inr (.inr (.inl ⟨rfl, _, hx9, fun p10 H10 s10 hp10 h10 => ?_⟩)))⟩
    have O10 := (O8.same s9).same s10
    have od10 := od8.kp ((Same.kp s9).trans (Same.kp s10))
    refine nilP (od_rep (y := "deed") (by decide +kernel) (by decide +kernel) (by decide +kernel) od10 .refl h10 ⟨_, rfl, (by show 2 ≤ sizeLine; decide), fun p11 hp11 => nilP ?_⟩)
    have sn11 := same_new (o := HO.lst [V.str "deed", odd]) hp11
    have hh11 : (upd H10 p11 (.lst [V.str "deed", odd])) p11 = some (.lst [V.str "deed", odd]) := upd_same
    have O11 := O10.same sn11
    have od11 := od10.kp (Same.kp sn11)
    generalize upd H10 p11 (.lst [V.str "deed", odd]) = H11 at hh11 O11 od11 ⊢
    refine od_rep (y := "deed") (by decide +kernel) (by decide +kernel) (by decide +kernel) od11 .refl hh11 (strN ⟨_, rfl, iteF (nxP ?_)⟩)
    refine ⟨O11.tb, fun H12 x12 t12 => ?_⟩
    have O12 := O11.ext x12 t12
    have od12 := od11.kp (Kp.ext x12)
    obtain ⟨ok12, kv12⟩ := od12.kv _ .refl
    obtain ⟨dx12, sa12, aa12, pa12, k12, _⟩ := id O12.net.ob
    refine ⟨_, rfl, c, dx12, _, rfl, k12, nf_meet _ _ _ _ _ _, _, rfl, c, e, s, odd, ok12, rfl, O12.net, kv12, by omega, fun _ => ?_, fun t' p' et hp' => (by
      have z := od12.nb e.ts.length (by omega)
      rw [et, belowB_nat, decide_eq_true (lt_at hp')] at z; cases z)⟩
    refine fun d13 H13 s13 hd13 hx13 => ⟨d13, rfl, .inr (.inr (.inr (.inr (.inr (⟨rfl, _, hx13, fun p14 H14 s14 hp14 h14 => ?_⟩)))))⟩
    have O14 := (O12.same s13).same s14
    have od14 := od12.kp ((Same.kp s13).trans (Same.kp s14))
    refine nilP (od_rep (y := "tie") (by decide +kernel) (by decide +kernel) (by decide +kernel) od14 .refl h14 ⟨_, rfl, (by show 2 ≤ sizeLine; decide), fun p15 hp15 => nilP ?_⟩)
    have sn15 := same_new (o := HO.lst [V.str "tie", odd]) hp15
    have hh15 : (upd H14 p15 (.lst [V.str "tie", odd])) p15 = some (.lst [V.str "tie", odd]) := upd_same
    have O15 := O14.same sn15
    have od15 := od14.kp (Same.kp sn15)
    generalize upd H14 p15 (.lst [V.str "tie", odd]) = H15 at hh15 O15 od15 ⊢
    refine od_rep (y := "tie") (by decide +kernel) (by decide +kernel) (by decide +kernel) od15 .refl hh15 (strN ⟨_, rfl, iteF (nxP ?_)⟩)
    refine ⟨O15.tb, fun H16 x16 t16 => ?_⟩
    have O16 := O15.ext x16 t16
    have od16 := od15.kp (Kp.ext x16)
    obtain ⟨ok16, kv16⟩ := od16.kv _ .refl
    obtain ⟨dx16, sa16, aa16, pa16, k16, _⟩ := id O16.net.ob
    obtain ⟨dm16, hm16⟩ := O16.net.ev.mc.fs
    obtain ⟨dw16, tw16, hw16, _⟩ := id O16.net.ev.wb
    refine ⟨_, rfl, _, rfl, _, rfl, fun cn dn hcn hdn nec => ?_⟩
    have smc := mkSameN (o1 := HO.own cn) (o2 := HO.ins N dn []) hcn hdn nec
    have hc1 : (upd (upd H16 dn (.own cn)) cn (.ins N dn [])) cn = some (.ins N dn []) := upd_same
    have oz : ∃ z : Int, (∀ i, odd = .int i → z = i) := by
      cases odd with
      | int i => exact ⟨i, fun j ej => by injection ej⟩
      | _ => exact ⟨0, fun j ej => by cases ej⟩
    obtain ⟨z, hz⟩ := oz
    refine ⟨cn, dn, ⟨e.m, e.ta, e.w, e.tb, e.n, e.ts, z⟩, odd, ok16, rfl, hc1, ⟨O16.net.ev.mc.same smc, O16.net.ev.wb.same smc, hwf, hwv⟩, ne_of_none hm16 hcn, ne_of_none hw16 hcn, kv16.same smc, fun _ => ?_, hz, fun eo hz2 => (by
      have z2 := od16.nb (nS e.tb) (by omega)
      have eo' : odd = .int z := eo
      rw [eo'] at z2
      have : (decide (0 ≤ z) && decide (z < (nS e.tb : Int))) = false := z2
      rw [decide_eq_true hz2.1, decide_eq_true hz2.2] at this
      cases this)⟩
    refine fun d17 H17 s17 hd17 hx17 => ⟨d17, rfl, .inr (.inr (.inl ⟨rfl, _, hx17, fun p18 H18 s18 hp18 h18 => ?_⟩))⟩
    have s17a := smc.trans s17
    have O18 := (O16.same s17a).same s18
    have od18 := od16.kp ((Same.kp s17a).trans (Same.kp s18))
    refine nilP (od_rep (y := "state") (by decide +kernel) (by decide +kernel) (by decide +kernel) od18 .refl h18 ⟨_, rfl, (by show 2 ≤ sizeLine; decide), fun p19 hp19 => nilP ?_⟩)
    have sn19 := same_new (o := HO.lst [V.str "state", odd]) hp19
    have hh19 : (upd H18 p19 (.lst [V.str "state", odd])) p19 = some (.lst [V.str "state", odd]) := upd_same
    have O19 := O18.same sn19
    have od19 := od18.kp (Same.kp sn19)
    generalize upd H18 p19 (.lst [V.str "state", odd]) = H19 at hh19 O19 od19 ⊢
    refine od_rep (y := "state") (by decide +kernel) (by decide +kernel) (by decide +kernel) od19 .refl hh19 (strN ⟨_, rfl, iteF (nxP ?_)⟩)
    refine ⟨O19.tb, fun H20 x20 t20 => ?_⟩
    have O20 := O19.ext x20 t20
    have od20 := od19.kp (Kp.ext x20)
    obtain ⟨ok20, kv20⟩ := od20.kv _ .refl
    obtain ⟨dx20, sa20, aa20, pa20, k20, _⟩ := id O20.net.ob
    refine ⟨_, rfl, _, rfl, ?_⟩
    refine cnP ⟨_, rfl, _, rfl, ⟨e.m, e.ta, e.w, e.tb, e.n, e.ts, 0⟩, .ref pp, odd, _, ok20, rfl, O20.net.ev.at0, ⟨by show (0 : Int) ≤ 0; decide, by show (0 : Int) < (nS e.tb : Int); omega⟩, svs_right (.lst O20.pp) O20.st, kv20, fun z ez => (by rw [sf_right hok (by omega)] at ez; cases ez), fun ss es _ _ => ⟨fun _ => ?_, fun h' ns H' eh hn => (by
      have z := od20.nb e.n (by omega)
      have eh' : odd = .int (h' : Int) := eh
      rw [eh', belowB_nat, decide_eq_true (show h' < e.n from hn)] at z; cases z)⟩⟩
    refine fun d21 H21 s21 hd21 hx21 => ⟨d21, rfl, .inr (.inr (.inr (.inr (.inl ⟨rfl, _, hx21, fun p22 H22 s22 hp22 h22 => ?_⟩))))⟩
    have O22 := (O20.same s21).same s22
    have od22 := od20.kp ((Same.kp s21).trans (Same.kp s22))
    refine nilP (od_rep (y := "house") (by decide +kernel) (by decide +kernel) (by decide +kernel) od22 .refl h22 ⟨_, rfl, (by show 2 ≤ sizeLine; decide), fun p23 hp23 => nilP ?_⟩)
    have sn23 := same_new (o := HO.lst [V.str "house", odd]) hp23
    have hh23 : (upd H22 p23 (.lst [V.str "house", odd])) p23 = some (.lst [V.str "house", odd]) := upd_same
    have O23 := O22.same sn23
    have od23 := od22.kp (Same.kp sn23)
    generalize upd H22 p23 (.lst [V.str "house", odd]) = H23 at hh23 O23 od23 ⊢
    refine od_rep (y := "house") (by decide +kernel) (by decide +kernel) (by decide +kernel) od23 .refl hh23 (strN ⟨_, rfl, iteF (nxP ?_)⟩)
    -- part two
    refine ⟨_, rfl, _, rfl, pp, _, rfl, .inl (SqL.of O23.pp), _, _, rfl, rfl, b, l, _, rfl, O23.dl, by omega, by rw [List.length_map, O23.st.1]; omega, fun at_ H24 a0 a1 d24 => ?_⟩
    obtain ⟨k, ek, hk⟩ : ∃ k : Nat, at_ = (k : Int) ∧ k ≤ sts.length := by
      rw [List.length_map, O23.st.1] at a1
      exact ⟨at_.toNat, by omega, by omega⟩
    subst ek
    have O24 := O23.draw npb npl d24
    clear od23
    refine gn ?_
    dsimp only [List.set]
    obtain ⟨dxm, hm0⟩ := O24.net.ev.mc.fs
    obtain ⟨dxw, tw, hw0, twas, htw0, twl⟩ := id O24.net.ev.wb
    have el : ((twas.map V.ref).length : Int) = (e.ts.length : Int) := by rw [List.length_map, twl.1]
    have W24 : Ws K b l e.n e.ts.length e.tb.length H24 [] := .nil
    refine ⟨(by show 2 ≤ sizeLine; decide), fun p25 hp25 => ?_⟩
    have s25 := same_new (o := HO.tup ([.str "do", .int 0] : List V)) hp25
    have O25 := O24.same s25
    have hq25 : (upd H24 p25 (HO.tup ([.str "do", .int 0] : List V))) p25 = some (HO.tup ([.str "do", .int 0] : List V)) := upd_same
    replace hm0 := s25 _ _ hm0
    replace hw0 := s25 _ _ hw0
    replace htw0 := s25 _ _ htw0
    have W25 := (W24.same s25).snoc (wr_tup hq25 O25.dl rfl fi_do rfl)
    generalize upd H24 p25 (HO.tup ([.str "do", .int 0] : List V)) = H25 at O25 W25 hm0 hw0 htw0 ⊢
    refine ⟨_, rfl, e.m, M, dxm, _, _, rfl, hm0, TM'.cl, TM'.nD, mf_d _ _ _, (by show 3 ≤ sizeLine; decide), fun p26 hp26 => ?_⟩
    have s26 := same_new (o := HO.tup ([.str "do", .int 0, .int (e.tb.length : Int)] : List V)) hp26
    have O26 := O25.same s26
    have hq26 : (upd H25 p26 (HO.tup ([.str "do", .int 0, .int (e.tb.length : Int)] : List V))) p26 = some (HO.tup ([.str "do", .int 0, .int (e.tb.length : Int)] : List V)) := upd_same
    replace hm0 := s26 _ _ hm0
    replace hw0 := s26 _ _ hw0
    replace htw0 := s26 _ _ htw0
    have W26 := (W25.same s26).snoc (wr_tup hq26 O26.dl rfl fi_do (stb_do (by rw [bl_self, Bool.and_false])))
    generalize upd H25 p26 (HO.tup ([.str "do", .int 0, .int (e.tb.length : Int)] : List V)) = H26 at O26 W26 hm0 hw0 htw0 ⊢
    refine ⟨_, rfl, e.w, W, dxw, _, _, rfl, hw0, TW.cl, TW.nH, wf_h _ _, (by show 3 ≤ sizeLine; decide), fun p27 hp27 => ?_⟩
    have s27 := same_new (o := HO.tup ([.str "do", .int (e.n : Int), .int 0] : List V)) hp27
    have O27 := O26.same s27
    have hq27 : (upd H26 p27 (HO.tup ([.str "do", .int (e.n : Int), .int 0] : List V))) p27 = some (HO.tup ([.str "do", .int (e.n : Int), .int 0] : List V)) := upd_same
    replace hm0 := s27 _ _ hm0
    replace hw0 := s27 _ _ hw0
    replace htw0 := s27 _ _ htw0
    have W27 := (W26.same s27).snoc (wr_tup hq27 O27.dl rfl fi_do (stb_do (by rw [bl_self, Bool.false_and])))
    generalize upd H26 p27 (HO.tup ([.str "do", .int (e.n : Int), .int 0] : List V)) = H27 at O27 W27 hm0 hw0 htw0 ⊢
    refine ⟨(by show 3 ≤ sizeLine; decide), fun p28 hp28 => ?_⟩
    have s28 := same_new (o := HO.tup ([.str "do", .int 0, .bl true] : List V)) hp28
    have O28 := O27.same s28
    have hq28 : (upd H27 p28 (HO.tup ([.str "do", .int 0, .bl true] : List V))) p28 = some (HO.tup ([.str "do", .int 0, .bl true] : List V)) := upd_same
    replace hm0 := s28 _ _ hm0
    replace hw0 := s28 _ _ hw0
    replace htw0 := s28 _ _ htw0
    have W28 := (W27.same s28).snoc (wr_tup hq28 O28.dl rfl fi_do (stb_do (Bool.and_false _)))
    generalize upd H27 p28 (HO.tup ([.str "do", .int 0, .bl true] : List V)) = H28 at O28 W28 hm0 hw0 htw0 ⊢
    refine ⟨_, rfl, e.w, W, dxw, _, _, rfl, hw0, TW.cl, TW.nT, wf_t _ _, tw, _, rfl, .inr (SqT.of htw0), (by show 2 ≤ sizeLine; decide), fun p29 hp29 => ?_⟩
    have s29 := same_new (o := HO.tup ([.str "meet", .int ((twas.map V.ref).length : Int)] : List V)) hp29
    have O29 := O28.same s29
    have hq29 : (upd H28 p29 (HO.tup ([.str "meet", .int ((twas.map V.ref).length : Int)] : List V))) p29 = some (HO.tup ([.str "meet", .int ((twas.map V.ref).length : Int)] : List V)) := upd_same
    replace hm0 := s29 _ _ hm0
    replace hw0 := s29 _ _ hw0
    replace htw0 := s29 _ _ htw0
    have W29 := (W28.same s29).snoc (wr_tup hq29 O29.dl rfl fi_me (stb_me (by rw [el]; exact bl_self)))
    generalize upd H28 p29 (HO.tup ([.str "meet", .int ((twas.map V.ref).length : Int)] : List V)) = H29 at O29 W29 hm0 hw0 htw0 ⊢
    refine ⟨_, rfl, (by show 2 ≤ sizeLine; decide), fun p30 hp30 => ?_⟩
    have s30 := same_new (o := HO.tup ([.str "meet", .int (-1)] : List V)) hp30
    have O30 := O29.same s30
    have hq30 : (upd H29 p30 (HO.tup ([.str "meet", .int (-1)] : List V))) p30 = some (HO.tup ([.str "meet", .int (-1)] : List V)) := upd_same
    replace hm0 := s30 _ _ hm0
    replace hw0 := s30 _ _ hw0
    replace htw0 := s30 _ _ htw0
    have W30 := (W29.same s30).snoc (wr_tup hq30 O30.dl rfl fi_me rfl)
    generalize upd H29 p30 (HO.tup ([.str "meet", .int (-1)] : List V)) = H30 at O30 W30 hm0 hw0 htw0 ⊢
    refine nilP ⟨(by show 6 ≤ sizeLine; decide), fun p31 hp31 => ?_⟩
    have s31 := same_new (o := HO.lst [V.ref p25, V.ref p26, V.ref p27, V.ref p28, V.ref p29, V.ref p30]) hp31
    have O31 := O30.same s31
    have hw31 : (upd H30 p31 (HO.lst [V.ref p25, V.ref p26, V.ref p27, V.ref p28, V.ref p29, V.ref p30])) p31 = some (.lst [V.ref p25, V.ref p26, V.ref p27, V.ref p28, V.ref p29, V.ref p30]) := upd_same
    have W31 : Ws K b l e.n e.ts.length e.tb.length _ [V.ref p25, V.ref p26, V.ref p27, V.ref p28, V.ref p29, V.ref p30] := W30.same s31
    generalize upd H30 p31 (HO.lst [V.ref p25, V.ref p26, V.ref p27, V.ref p28, V.ref p29, V.ref p30]) = H31 at O31 hw31 W31 ⊢
    dsimp only [List.set]
    refine ⟨_, rfl, (by show 4 ≤ sizeLine; decide), fun p32 hp32 => ?_⟩
    have s32 := same_new (o := HO.tup ([.str "do", .int 0, .int 0, .int 0] : List V)) hp32
    have O32 := O31.same s32
    have hq32 : (upd H31 p32 (HO.tup ([.str "do", .int 0, .int 0, .int 0] : List V))) p32 = some (HO.tup ([.str "do", .int 0, .int 0, .int 0] : List V)) := upd_same
    replace hw31 := s32 _ _ hw31
    have W32 := (W31.same s32).snoc (wr_tup hq32 O32.dl rfl fi_do rfl)
    generalize upd H31 p32 (HO.tup ([.str "do", .int 0, .int 0, .int 0] : List V)) = H32 at O32 W32 hw31 ⊢
    refine ⟨(by show 1 ≤ sizeLine; decide), fun p33 hp33 => ?_⟩
    have s33 := same_new (o := HO.tup ([.str "meet"] : List V)) hp33
    have O33 := O32.same s33
    have hq33 : (upd H32 p33 (HO.tup ([.str "meet"] : List V))) p33 = some (HO.tup ([.str "meet"] : List V)) := upd_same
    replace hw31 := s33 _ _ hw31
    have W33 := (W32.same s33).snoc (wr_tup hq33 O33.dl rfl fi_me rfl)
    generalize upd H32 p33 (HO.tup ([.str "meet"] : List V)) = H33 at O33 W33 hw31 ⊢
    refine ⟨(by show 0 ≤ sizeLine; decide), fun p34 hp34 => ?_⟩
    have s34 := same_new (o := HO.tup ([] : List V)) hp34
    have O34 := O33.same s34
    have hq34 : (upd H33 p34 (HO.tup ([] : List V))) p34 = some (HO.tup ([] : List V)) := upd_same
    replace hw31 := s34 _ _ hw31
    have W34 := (W33.same s34).snoc (wr_tup hq34 O34.dl rfl rfl rfl)
    generalize upd H33 p34 (HO.tup ([] : List V)) = H34 at O34 W34 hw31 ⊢
    replace W34 := ((W34.snoc (v := .str "do") (wr_fl rfl)).snoc (v := .non) (wr_fl rfl)).snoc (v := .int 7) (wr_fl rfl)
    refine ⟨(by show 2 ≤ sizeLine; decide), fun p35 hp35 => ?_⟩
    have s35 := same_new (o := HO.tup ([.str "stop", .int 0] : List V)) hp35
    have O35 := O34.same s35
    have hq35 : (upd H34 p35 (HO.tup ([.str "stop", .int 0] : List V))) p35 = some (HO.tup ([.str "stop", .int 0] : List V)) := upd_same
    replace hw31 := s35 _ _ hw31
    have W35 := (W34.same s35).snoc (wr_tup hq35 O35.dl rfl fi_st rfl)
    generalize upd H34 p35 (HO.tup ([.str "stop", .int 0] : List V)) = H35 at O35 W35 hw31 ⊢
    refine ⟨(by show 3 ≤ sizeLine; decide), fun p36 hp36 => ?_⟩
    have s36 := same_new (o := HO.tup ([.int 0, .int 0, .int 0] : List V)) hp36
    have O36 := O35.same s36
    have hq36 : (upd H35 p36 (HO.tup ([.int 0, .int 0, .int 0] : List V))) p36 = some (HO.tup ([.int 0, .int 0, .int 0] : List V)) := upd_same
    replace hw31 := s36 _ _ hw31
    have W36 := (W35.same s36).snoc (wr_tup hq36 O36.dl rfl rfl rfl)
    generalize upd H35 p36 (HO.tup ([.int 0, .int 0, .int 0] : List V)) = H36 at O36 W36 hw31 ⊢
    refine ⟨(by show 3 ≤ sizeLine; decide), fun p37 hp37 => ?_⟩
    have s37 := same_new (o := HO.tup ([.str "meet", .int 0, .int 0] : List V)) hp37
    have O37 := O36.same s37
    have hq37 : (upd H36 p37 (HO.tup ([.str "meet", .int 0, .int 0] : List V))) p37 = some (HO.tup ([.str "meet", .int 0, .int 0] : List V)) := upd_same
    replace hw31 := s37 _ _ hw31
    have W37 := (W36.same s37).snoc (wr_tup hq37 O37.dl rfl fi_me rfl)
    generalize upd H36 p37 (HO.tup ([.str "meet", .int 0, .int 0] : List V)) = H37 at O37 W37 hw31 ⊢
    refine ⟨(by show 3 ≤ sizeLine; decide), fun p38 hp38 => ?_⟩
    have s38 := same_new (o := HO.lst ([.str "do", .non, .int 0] : List V)) hp38
    have O38 := O37.same s38
    have hq38 : (upd H37 p38 (HO.lst ([.str "do", .non, .int 0] : List V))) p38 = some (HO.lst ([.str "do", .non, .int 0] : List V)) := upd_same
    replace hw31 := s38 _ _ hw31
    have W38 := (W37.same s38).snoc (wr_lst hq38 (O37.dl.nb hp38) (O37.dl.nl hp38) rfl fi_do (stb_do rfl))
    generalize upd H37 p38 (HO.lst ([.str "do", .non, .int 0] : List V)) = H38 at O38 W38 hw31 ⊢
    refine ⟨(by show 1 ≤ sizeLine; decide), fun p39 hp39 => ?_⟩
    have s39 := same_new (o := HO.tup [V.str "do"]) hp39
    have O39 := O38.same s39
    have hq39 : (upd H38 p39 (HO.tup [V.str "do"])) p39 = some (.tup [V.str "do"]) := upd_same
    replace hw31 := s39 _ _ hw31
    have W39 := W38.same s39
    generalize upd H38 p39 (HO.tup [V.str "do"]) = H39 at O39 W39 hq39 hw31 ⊢
    refine ⟨(by show 3 ≤ sizeLine; decide), fun p40 hp40 => ?_⟩
    have s40 := same_new (o := HO.tup [V.ref p39, .int 0, .int 0]) hp40
    have O40 := O39.same s40
    have hq40 : (upd H39 p40 (HO.tup [V.ref p39, .int 0, .int 0])) p40 = some (.tup [V.ref p39, .int 0, .int 0]) := upd_same
    replace hw31 := s40 _ _ hw31
    replace hq39 := s40 _ _ hq39
    have W40 := (W39.same s40).snoc (wr_deep hq39 hq40 O40.dl)
    generalize upd H39 p40 (HO.tup [V.ref p39, .int 0, .int 0]) = H40 at O40 W40 hw31 ⊢
    refine nilP ⟨(by show 11 ≤ sizeLine; decide), fun p41 hp41 => ?_⟩
    have s41 := same_new (o := HO.lst [V.ref p32, V.ref p33, V.ref p34, .str "do", .non, .int 7, V.ref p35, V.ref p36, V.ref p37, V.ref p38, V.ref p40]) hp41
    have h2 : (upd H40 p41 (HO.lst [V.ref p32, V.ref p33, V.ref p34, .str "do", .non, .int 7, V.ref p35, V.ref p36, V.ref p37, V.ref p38, V.ref p40])) p41 = some (.lst [V.ref p32, V.ref p33, V.ref p34, .str "do", .non, .int 7, V.ref p35, V.ref p36, V.ref p37, V.ref p38, V.ref p40]) := upd_same
    refine ⟨p31, p41, _, _, rfl, rfl, s41 _ _ hw31, h2, (by show 17 ≤ sizeLine; decide), fun p42 hp42 => ?_⟩
    have s42 := s41.trans (same_new (o := HO.lst [V.ref p25, V.ref p26, V.ref p27, V.ref p28, V.ref p29, V.ref p30, V.ref p32, V.ref p33, V.ref p34, .str "do", .non, .int 7, V.ref p35, V.ref p36, V.ref p37, V.ref p38, V.ref p40]) hp42)
    have O42 := O40.same s42
    have nb42 := (O40.same s41).dl.nb hp42
    have nl42 := (O40.same s41).dl.nl hp42
    have h3 : (upd (upd H40 p41 (HO.lst [V.ref p32, V.ref p33, V.ref p34, .str "do", .non, .int 7, V.ref p35, V.ref p36, V.ref p37, V.ref p38, V.ref p40])) p42 (HO.lst [V.ref p25, V.ref p26, V.ref p27, V.ref p28, V.ref p29, V.ref p30, V.ref p32, V.ref p33, V.ref p34, .str "do", .non, .int 7, V.ref p35, V.ref p36, V.ref p37, V.ref p38, V.ref p40])) p42 = some (.lst [V.ref p25, V.ref p26, V.ref p27, V.ref p28, V.ref p29, V.ref p30, V.ref p32, V.ref p33, V.ref p34, .str "do", .non, .int 7, V.ref p35, V.ref p36, V.ref p37, V.ref p38, V.ref p40]) := upd_same
    have W42 : Ws K b l e.n e.ts.length e.tb.length _ [V.ref p25, V.ref p26, V.ref p27, V.ref p28, V.ref p29, V.ref p30, V.ref p32, V.ref p33, V.ref p34, .str "do", .non, .int 7, V.ref p35, V.ref p36, V.ref p37, V.ref p38, V.ref p40] := W40.same s42
    simp only [List.cons_append, List.nil_append]
    generalize upd (upd H40 p41 (HO.lst [V.ref p32, V.ref p33, V.ref p34, .str "do", .non, .int 7, V.ref p35, V.ref p36, V.ref p37, V.ref p38, V.ref p40])) p42 (HO.lst [V.ref p25, V.ref p26, V.ref p27, V.ref p28, V.ref p29, V.ref p30, V.ref p32, V.ref p33, V.ref p34, .str "do", .non, .int 7, V.ref p35, V.ref p36, V.ref p37, V.ref p38, V.ref p40]) = H42 at O42 h3 W42 ⊢
    try dsimp only [List.set]
    -- the bent steps
    refine ⟨_, rfl, noP ⟨_, rfl, _, rfl, pp, _, rfl, SqL.of O42.pp, fun p43 hp43 => ?_⟩⟩
    rw [cut_to (by rw [List.length_map, O42.st.1]; exact hk), ← List.map_take]
    have s43 := same_new (o := HO.lst ((scs.take k).map V.ref)) hp43
    have g43 : (upd H42 p43 (HO.lst ((scs.take k).map V.ref))) p43 = some (.lst ((scs.take k).map V.ref)) := upd_same
    have O43 := O42.same s43
    have W43 := W42.same s43
    replace h3 := s43 _ _ h3
    generalize upd H42 p43 (HO.lst ((scs.take k).map V.ref)) = H43 at O43 W43 g43 h3 ⊢
    refine nilP ⟨p43, _, rfl, .inl (SqL.of g43), fun p44 hp44 => ?_⟩
    have s44 := same_new (o := HO.lst ((scs.take k).map V.ref)) hp44
    have g44 : (upd H43 p44 (HO.lst ((scs.take k).map V.ref))) p44 = some (.lst ((scs.take k).map V.ref)) := upd_same
    have O44 := O43.same s44
    have W44 := W43.same s44
    replace h3 := s44 _ _ h3
    have m44 : p44 ≠ b ∧ p44 ≠ l := ⟨O43.dl.nb hp44, O43.dl.nl hp44⟩
    generalize upd H43 p44 (HO.lst ((scs.take k).map V.ref)) = H44 at O44 W44 g44 h3 ⊢
    refine ⟨_, rfl, _, rfl, b, l, p42, _, rfl, O44.dl, h3, nb42, nl42, (by simp), (by simp), fun j v H45 hj d45 => ?_⟩
    have wv := (W44 v (List.mem_of_getElem? hj)).ks (ks_dl d45)
    have O45 := O44.draw npb npl d45
    have g45 := d45.2 _ _ g44 m44.1 m44.2
    clear W44 W43 W42 h3 hj
    refine nilP ⟨(by show 1 ≤ sizeLine; decide), fun p46 hp46 => ?_⟩
    have s46 := same_new (o := HO.lst [v]) hp46
    have e46 : (upd H45 p46 (HO.lst [v])) p46 = some (.lst [v]) := upd_same
    have O46 := O45.same s46
    replace wv := wv.ks (Same.ks s46)
    replace g45 := s46 _ _ g45
    generalize upd H45 p46 (HO.lst [v]) = H46 at O46 wv g45 e46 ⊢
    have lsc : scs.length = sts.length := O46.st.1
    refine ⟨p44, p46, _, _, rfl, rfl, g45, e46, sz (by rw [List.length_map, List.length_take]; simp only [List.length_cons, List.length_nil]; omega), fun p47 hp47 => ?_⟩
    have s47 := same_new (o := HO.lst ((scs.take k).map V.ref ++ [v])) hp47
    have g47 : (upd H46 p47 (HO.lst ((scs.take k).map V.ref ++ [v]))) p47 = some (.lst ((scs.take k).map V.ref ++ [v])) := upd_same
    have O47 := O46.same s47
    replace wv := wv.ks (Same.ks s47)
    generalize upd H46 p47 (HO.lst ((scs.take k).map V.ref ++ [v])) = H47 at O47 wv g47 ⊢
    refine ⟨_, rfl, _, rfl, _, rfl, noP ⟨pp, _, rfl, SqL.of O47.pp, fun p48 hp48 => ?_⟩⟩
    rw [cut_from (by rw [List.length_map, O47.st.1]; exact hk), ← List.map_drop]
    have s48 := same_new (o := HO.lst ((scs.drop k).map V.ref)) hp48
    have q48 : (upd H47 p48 (HO.lst ((scs.drop k).map V.ref))) p48 = some (.lst ((scs.drop k).map V.ref)) := upd_same
    have O48 := O47.same s48
    replace wv := wv.ks (Same.ks s48)
    replace g47 := s48 _ _ g47
    generalize upd H47 p48 (HO.lst ((scs.drop k).map V.ref)) = H48 at O48 wv g47 q48 ⊢
    refine nilP ⟨p48, _, rfl, .inl (SqL.of q48), fun p49 hp49 => ?_⟩
    have s49 := same_new (o := HO.lst ((scs.drop k).map V.ref)) hp49
    have q49 : (upd H48 p49 (HO.lst ((scs.drop k).map V.ref))) p49 = some (.lst ((scs.drop k).map V.ref)) := upd_same
    have O49 := O48.same s49
    replace wv := wv.ks (Same.ks s49)
    replace g47 := s49 _ _ g47
    generalize upd H48 p49 (HO.lst ((scs.drop k).map V.ref)) = H49 at O49 wv g47 q49 ⊢
    refine ⟨p47, p49, _, _, rfl, rfl, g47, q49, sz (by rw [List.length_append, List.length_map, List.length_take, List.length_map, List.length_drop]; simp only [List.length_cons, List.length_nil]; omega), fun pb hpb => ?_⟩
    have s50 := same_new (o := HO.lst ((scs.take k).map V.ref ++ [v] ++ (scs.drop k).map V.ref)) hpb
    have hb3 : (upd H49 pb (HO.lst ((scs.take k).map V.ref ++ [v] ++ (scs.drop k).map V.ref))) pb = some (.lst ((scs.take k).map V.ref ++ [v] ++ (scs.drop k).map V.ref)) := upd_same
    have O50 := O49.same s50
    replace wv := wv.ks (Same.ks s50)
    generalize upd H49 pb (HO.lst ((scs.take k).map V.ref ++ [v] ++ (scs.drop k).map V.ref)) = H50 at O50 wv hb3 ⊢
    refine gn ?_
    dsimp only [List.set]
    refine ⟨O50.tb, fun H51 x51 t51 => ?_⟩
    have O51 := O50.ext x51 t51
    replace wv := wv.ks (ks_ext x51)
    replace hb3 := x51 _ _ hb3 (fun ps z => by cases z)
    obtain ⟨o51, sv51, sf51⟩ := bent_s O51.st hok hsl hk hb3 wv
    refine ⟨_, rfl, _, rfl, _, rfl, e.m, e.ta, e.w, e.tb, .ref pb, o51, e.n, e.ts, rfl, O51.net.ev.mc, O51.net.ev.wb, sv51, fun z ez d52 H52 s52 hd52 hx52 => ⟨d52, rfl, .inl ⟨rfl, _, hx52, fun p53 H53 s53 hp53 h53 => ?_⟩⟩, fun ss eo h1 h2 => (by rw [eo, sf_right h1 h2] at sf51; cases sf51)⟩
    have ez' : z = (k : Int) := by
      have w : V.int z = V.int (k : Int) := ez.symm.trans sf51
      injection w
    subst ez'
    have O53 := (O51.same s52).same s53
    replace wv := (wv.ks (Same.ks s52)).ks (Same.ks s53)
    replace hb3 := s53 _ _ (s52 _ _ hb3)
    refine ⟨_, rfl, (by show 2 ≤ sizeLine; decide), fun p54 hp54 => ?_⟩
    have s54 := same_new (o := HO.lst [V.str "steps", .int (k : Int)]) hp54
    have h54 : (upd H53 p54 (HO.lst [V.str "steps", .int (k : Int)])) p54 = some (.lst [V.str "steps", .int (k : Int)]) := upd_same
    have O54 := O53.same s54
    replace wv := wv.ks (Same.ks s54)
    replace hb3 := s54 _ _ hb3
    replace h53 := s54 _ _ h53
    generalize upd H53 p54 (HO.lst [V.str "steps", .int (k : Int)]) = H54 at O54 wv hb3 h53 h54 ⊢
    refine ear_ne (i := (k : Int)) (by omega) h53 h54 ⟨_, rfl, iteF (nxP ?_)⟩
    refine ⟨O54.tb, fun H55 x55 t55 => ?_⟩
    have O55 := O54.ext x55 t55
    replace wv := wv.ks (ks_ext x55)
    replace hb3 := x55 _ _ hb3 (fun ps z => by cases z)
    obtain ⟨o55, sv55, sf55⟩ := bent_s O55.st hok hsl hk hb3 wv
    refine ⟨_, rfl, _, rfl, ?_⟩
    refine cnP ⟨_, rfl, ⟨e.m, e.ta, e.w, e.tb, e.n, e.ts, 0⟩, .ref pb, o55, rfl, O55.net.ev.at0, ⟨by show (0 : Int) ≤ 0; decide, by show (0 : Int) < (nS e.tb : Int); omega⟩, sv55, fun z ez d56 H56 s56 hd56 hx56 => ⟨d56, rfl, .inl ⟨rfl, _, hx56, fun p57 H57 s57 hp57 h57 => ?_⟩⟩, fun ss eo h1 h2 => (by rw [eo, sf_right h1 h2] at sf55; cases sf55)⟩
    have ez' : z = (k : Int) := by
      have w : V.int z = V.int (k : Int) := ez.symm.trans sf55
      injection w
    subst ez'
    have O57 := (O55.same s56).same s57
    replace wv := (wv.ks (Same.ks s56)).ks (Same.ks s57)
    replace hb3 := s57 _ _ (s56 _ _ hb3)
    refine ⟨_, rfl, (by show 2 ≤ sizeLine; decide), fun p58 hp58 => ?_⟩
    have s58 := same_new (o := HO.lst [V.str "steps", .int (k : Int)]) hp58
    have h58 : (upd H57 p58 (HO.lst [V.str "steps", .int (k : Int)])) p58 = some (.lst [V.str "steps", .int (k : Int)]) := upd_same
    have O58 := O57.same s58
    replace wv := wv.ks (Same.ks s58)
    replace hb3 := s58 _ _ hb3
    replace h57 := s58 _ _ h57
    generalize upd H57 p58 (HO.lst [V.str "steps", .int (k : Int)]) = H58 at O58 wv hb3 h57 h58 ⊢
    refine ear_ne (i := (k : Int)) (by omega) h57 h58 ⟨_, rfl, iteF (nxP ?_)⟩
    refine ⟨O58.tb, fun H59 x59 t59 => ?_⟩
    have O59 := O58.ext x59 t59
    replace wv := wv.ks (ks_ext x59)
    replace hb3 := x59 _ _ hb3 (fun ps z => by cases z)
    obtain ⟨o59, sv59, sf59⟩ := bent_s O59.st hok hsl hk hb3 wv
    refine ⟨_, rfl, _, rfl, ?_⟩
    refine cnP ⟨_, rfl, ?_⟩
    refine cnP (nilP ⟨⟨e.m, e.ta, e.w, e.tb, e.n, e.ts, 0⟩, .ref pb, .non, o59, none, rfl, O59.net.ev.at0, ⟨by show (0 : Int) ≤ 0; decide, by show (0 : Int) < (nS e.tb : Int); omega⟩, sv59, .non, fun z ez d60 H60 s60 hd60 hx60 => ⟨d60, rfl, .inl ⟨rfl, _, hx60, fun p61 H61 s61 hp61 h61 => ?_⟩⟩, fun ss eo h1 h2 => (by rw [eo, sf_right h1 h2] at sf59; cases sf59)⟩)
    have ez' : z = (k : Int) := by
      have w : V.int z = V.int (k : Int) := ez.symm.trans sf59
      injection w
    subst ez'
    have O61 := (O59.same s60).same s61
    replace wv := (wv.ks (Same.ks s60)).ks (Same.ks s61)
    replace hb3 := s61 _ _ (s60 _ _ hb3)
    refine ⟨_, rfl, (by show 2 ≤ sizeLine; decide), fun p62 hp62 => ?_⟩
    have s62 := same_new (o := HO.lst [V.str "steps", .int (k : Int)]) hp62
    have h62 : (upd H61 p62 (HO.lst [V.str "steps", .int (k : Int)])) p62 = some (.lst [V.str "steps", .int (k : Int)]) := upd_same
    have O62 := O61.same s62
    replace wv := wv.ks (Same.ks s62)
    replace hb3 := s62 _ _ hb3
    replace h61 := s62 _ _ h61
    generalize upd H61 p62 (HO.lst [V.str "steps", .int (k : Int)]) = H62 at O62 wv hb3 h61 h62 ⊢
    refine ear_ne (i := (k : Int)) (by omega) h61 h62 ⟨_, rfl, iteF (nxP ?_)⟩
    refine ⟨_, rfl, _, rfl, (by show 3 ≤ sizeLine; decide), fun p63 hp63 => ?_⟩
    have s63 := same_new (o := HO.tup (stV (.dd 0 0))) hp63
    have q63 : (upd H62 p63 (HO.tup (stV (.dd 0 0)))) p63 = some (.tup (stV (.dd 0 0))) := upd_same
    have O63 := O62.same s63
    have m63 : p63 ≠ b ∧ p63 ≠ l := ⟨O62.dl.nb hp63, O62.dl.nl hp63⟩
    have e63 : (HO.tup [V.str "do", .int 0, .int 0]) = .tup (stV (.dd 0 0)) := rfl
    rw [e63]
    generalize upd H62 p63 (HO.tup (stV (.dd 0 0))) = H63 at O63 q63 ⊢
    refine nilP ⟨(by show 1 ≤ sizeLine; decide), fun p64 hp64 => ?_⟩
    have s64 := same_new (o := HO.lst [V.ref p63]) hp64
    refine ⟨p64, 400, [.ref p63], rfl, rfl, upd_same, by decide, by decide, (by rw [sizeLine_eq]; show 1 * 400 ≤ 16777216; decide), fun p65 hp65 => ?_⟩
    have e65 : (List.replicate (Int.toNat 400) [V.ref p63]).flatten = (List.replicate 400 p63).map V.ref := rep_map 400 p63
    rw [e65]
    have s65 := s64.trans (same_new (o := HO.lst ((List.replicate 400 p63).map V.ref)) hp65)
    have h65 : (upd (upd H63 p64 (HO.lst [V.ref p63])) p65 (HO.lst ((List.replicate 400 p63).map V.ref))) p65 = some (.lst ((List.replicate 400 p63).map V.ref)) := upd_same
    have O65 := O63.same s65
    have m65 : p65 ≠ b ∧ p65 ≠ l := ⟨(O63.same s64).dl.nb hp65, (O63.same s64).dl.nl hp65⟩
    replace q63 := s65 _ _ q63
    generalize upd (upd H63 p64 (HO.lst [V.ref p63])) p65 (HO.lst ((List.replicate 400 p63).map V.ref)) = H65 at O65 q63 h65 ⊢
    have ok4 : ∀ s ∈ List.replicate 400 (Stp.dd 0 0), okS e.n e.ts.length e.tb.length s := fun s hs => by
      rw [List.eq_of_mem_replicate hs]
      exact ⟨by omega, by omega⟩
    refine nilP ⟨e.m, e.ta, e.w, e.tb, .ref p65, _, e.n, e.ts, rfl, O65.net.ev.mc, O65.net.ev.wb, svs_right (.lst h65) (stps_rep q63 400), fun z ez => (by
      have w := ez.symm.trans (sf_right ok4 (by rw [List.length_replicate]; decide))
      cases w), fun ss es _ _ p66 H66 s66 hst => ?_⟩
    have ls : ss.length = 400 := by
      have w := congrArg (fun o : Option (List (Option (List V))) => (o.getD []).length) es
      simp only [Option.getD_some, List.length_map, List.length_replicate] at w
      exact w.symm
    obtain ⟨ras, rh, rl, _⟩ := hst
    have O66 := O65.same s66
    have rl4 : (ras.map V.ref).length = 400 := by rw [List.length_map, rl, ls]
    refine nilP ⟨p66, _, rfl, .inr (SqT.of rh), ?_⟩
    rw [rl4]
    refine ⟨rfl, false, congrArg V.bl (by rw [decide_eq_true (show V.int ((400 : Nat) : Int) = V.int 400 from rfl)]; rfl), iteF (nxP ?_)⟩
    refine ⟨_, rfl, (by show 3 ≤ sizeLine; decide), fun p67 hp67 => ?_⟩
    have s67 := same_new (o := HO.tup (stV (.dd 0 0))) hp67
    have q67 : (upd H66 p67 (HO.tup (stV (.dd 0 0)))) p67 = some (.tup (stV (.dd 0 0))) := upd_same
    have O67 := O66.same s67
    have m67 : p67 ≠ b ∧ p67 ≠ l := ⟨O66.dl.nb hp67, O66.dl.nl hp67⟩
    have e67 : (HO.tup [V.str "do", .int 0, .int 0]) = .tup (stV (.dd 0 0)) := rfl
    rw [e67]
    generalize upd H66 p67 (HO.tup (stV (.dd 0 0))) = H67 at O67 q67 ⊢
    refine nilP ⟨(by show 1 ≤ sizeLine; decide), fun p68 hp68 => ?_⟩
    have s68 := same_new (o := HO.lst [V.ref p67]) hp68
    refine ⟨p68, 401, [.ref p67], rfl, rfl, upd_same, by decide, by decide, (by rw [sizeLine_eq]; show 1 * 401 ≤ 16777216; decide), fun p69 hp69 => ?_⟩
    have e69 : (List.replicate (Int.toNat 401) [V.ref p67]).flatten = (List.replicate 401 p67).map V.ref := rep_map 401 p67
    rw [e69]
    have s69 := s68.trans (same_new (o := HO.lst ((List.replicate 401 p67).map V.ref)) hp69)
    have h69 : (upd (upd H67 p68 (HO.lst [V.ref p67])) p69 (HO.lst ((List.replicate 401 p67).map V.ref))) p69 = some (.lst ((List.replicate 401 p67).map V.ref)) := upd_same
    have O69 := O67.same s69
    have m69 : p69 ≠ b ∧ p69 ≠ l := ⟨(O67.same s68).dl.nb hp69, (O67.same s68).dl.nl hp69⟩
    replace q67 := s69 _ _ q67
    generalize upd (upd H67 p68 (HO.lst [V.ref p67])) p69 (HO.lst ((List.replicate 401 p67).map V.ref)) = H69 at O69 q67 h69 ⊢
    have vm := vv_many (K := K) (n := e.n) (t := e.ts.length) (d := e.tb.length) h69 m69.1 m69.2 q67 m67.1 m67.2
    refine nilP ⟨(by show 4 ≤ sizeLine; decide), fun p70 hp70 => ?_⟩
    have s70 := same_new (o := HO.lst [V.non, .str "do", .int 0, .ref p69]) hp70
    have h70 : (upd H69 p70 (HO.lst [V.non, .str "do", .int 0, .ref p69])) p70 = some (.lst [V.non, .str "do", .int 0, .ref p69]) := upd_same
    have O70 := O69.same s70
    have m70 : p70 ≠ b ∧ p70 ≠ l := ⟨O69.dl.nb hp70, O69.dl.nl hp70⟩
    replace vm := vm.ks (Same.ks s70)
    generalize upd H69 p70 (HO.lst [V.non, .str "do", .int 0, .ref p69]) = H70 at O70 vm h70 ⊢
    refine nilP ⟨b, l, p70, _, rfl, O70.dl, h70, m70.1, m70.2, (by simp), (by simp), fun j u H71 hj d71 => ?_⟩
    have vu : Vv K b l e.n e.ts.length e.tb.length H70 u := by
      match j, hj with
      | 0, hj => rw [← Option.some.inj hj]; exact vv_fl rfl
      | 1, hj => rw [← Option.some.inj hj]; exact vv_fl rfl
      | 2, hj => rw [← Option.some.inj hj]; exact vv_fl rfl
      | 3, hj => rw [← Option.some.inj hj]; exact vm
      | (j + 4), hj => cases hj
    replace vu := vu.ks (ks_dl d71)
    have O71 := O70.draw npb npl d71
    refine gn ?_
    dsimp only [List.set]
    refine ⟨O71.tb, fun H72 x72 t72 => ?_⟩
    have O72 := O71.ext x72 t72
    obtain ⟨o72, sv72, sf72⟩ := vu H72 (ks_ext x72)
    refine ⟨_, rfl, _, rfl, _, rfl, e.m, e.ta, e.w, e.tb, u, o72, e.n, e.ts, rfl, O72.net.ev.mc, O72.net.ev.wb, sv72, fun z ez d73 H73 s73 hd73 hx73 => ⟨d73, rfl, .inl ⟨rfl, _, hx73, fun p74 H74 s74 hp74 h74 => ?_⟩⟩, fun ss eo h1 h2 => (by rw [eo, sf_right h1 h2] at sf72; cases sf72)⟩
    have ez' : z = -1 := by
      have w : V.int z = V.int (-1) := ez.symm.trans sf72
      injection w
    subst ez'
    refine ⟨_, rfl, (by show 2 ≤ sizeLine; decide), fun pl hpl => ?_⟩
    exact ear_eq (i := -1) (by decide) (same_new hpl _ _ h74) upd_same (q _)
end
end K1
namespace K1
open PySem PySem.Spec PyProof.Rows L2
/-! ### x != y of instances whose class has an __eq__ of its own and object's __ne__ -/
section
variable {prog : Program} {w : World} {A : Around} {E : Value → Shared → Prop} {s : Shared} {K : PySem.W.Frag} {x C f : Addr} {ox : Obj} {od : Option Obj} {b : Value}
theorem ifBound_ne {M : Model} {args : List Value} {Q : Option Value → Shared → Prop} (X : K.In s.heap) (I : PySem.W.InstAt s.heap x ox C od) (hs : PySem.W.findIn K (.ref C) "__ne__" = some (some (.builtin "object.__ne__")))
    (h : wpAny M A (call (.builtin "object.__ne__") (.ref x :: args)) (fun v => Q (some v)) E s) : wpAny M A (callSpecialIfBound? (.ref x) "__ne__" args) Q E s := by
  simp only [callSpecialIfBound?, bindSpecialIfBound?]
  refine wpAny_holding (wpAny_bind (wpAny_bind (wpAny_bind (I.type.here ((PySem.W.looks_findIn X hs).here ?_)))))
  simp only [F.cmp_object.ne.bind]
  refine wpAny_bind (wpAny_askSetting (wpAny_ite ?_))
  have fin : wpAny M A (call (.builtin "object.__ne__") ([.ref x] ++ args) >>= fun v => pure (some v)) Q E s := wpAny_bind (wpAny_mono h (fun v s' h' => wpAny_pure h') fun _ _ h' => h')
  split
  · exact wpAny_bind (wpAny_pure (wpAny_pure fin))
  · exact wpAny_tryCatch (wpAny_bind (wpAny_pure (wpAny_pure fin)))
theorem check_ne {M : Model} {rest : List Value} {Q : Unit → Shared → Prop} (X : K.In s.heap) (I : PySem.W.InstAt s.heap x ox C od) (hm : PySem.W.mroIn K C (.type "object") = some true) (ha : argsOk "object.__ne__" ⟨.ref x :: rest, []⟩) (hq : Q () s) :
    wpAny M A (checkBuiltinCall "object.__ne__" ⟨.ref x :: rest, []⟩) Q E s := by
  have L0 := I.type (M := M)
  have L1 := PySem.W.looks_mroIn (M := M) X hm
  simp only [checkBuiltinCall, F.cmpKind_ne, F.cmpSplit_ne]
  refine wpAny_bind ?_
  unfold isInstance
  refine wpAny_bind (L0.here (L1.here ?_))
  cases hsig : Manifest.signature? "object.__ne__" with
  | none => exact wpAny_pure hq
  | some sig =>
    simp only [argsOk, hsig] at ha
    have h2 : Bind.checkArgs "object.__ne__" sig ⟨.ref x :: rest, []⟩ = pure () := ha
    show wpAny M A (Bind.checkArgs "object.__ne__" sig ⟨.ref x :: rest, []⟩) Q E _
    rw [h2]; exact wpAny_pure hq
theorem ne_K {Q : Value → Shared → Prop} (hu : A.units + 1 < cLine) (X : K.In s.heap) (I : PySem.W.InstAt s.heap x ox C od) (hb : PySem.W.Looks (model prog w) s.heap (typeOf b) (.ref C))
    (hn : PySem.W.findIn K (.ref C) "__ne__" = some (some (.builtin "object.__ne__"))) (hm : PySem.W.mroIn K C (.type "object") = some true)
    (hs : PySem.W.findIn K (.ref C) "__eq__" = some (some (.ref f))) (hf : PySem.W.isFn K (.ref f) = true)
    (h : wpAny (model prog w) A.in1 (call (.ref f) [.ref x, b]) (fun v s' => ∃ k, v = .bool k ∧ Q (.bool (!k)) s') E s) : wpAny (model prog w) A (richCompare .NotEq (.ref x) b) Q E s := by
  have entry : wpAny (model prog w) A.in1 (Builtin.«object.__ne__» ⟨[.ref x, b], []⟩) (fun r s' => ∃ k, r = .done (.ret (.bool k)) ∧ Q (.bool k) s') E s := by
    have hu1 : A.in1.units < cLine := hu
    unfold Builtin.«object.__ne__»
    repeat (first
      | with_reducible refine wpAny_cRoomFor hu1 ?_
      | (refine wpAny_bind (m := callSpecialIfBound? (.ref x) (Str.ofString "__eq__") [b])
          (PySem.W.ifBound_K X I hs hf (wpAny_mono h (fun r s' hr => by
            obtain ⟨k, rfl, hq⟩ := hr
            repeat (first | exact ⟨_, rfl, hq⟩ | exact wpAny_pure ⟨_, rfl, hq⟩ | exact wpAny_truthy_bool ⟨_, rfl, hq⟩ | (refine wpAny_bind (m := truthy (.bool _)) (wpAny_truthy_bool ?_)) | wp_step)) fun _ _ e => e)))
      | wp_step)
  have one : wpAny (model prog w) A (tryCompare (.ref x) "__ne__" b) (fun r s' => ∃ v, r = some v ∧ Q v s') E s := by
    unfold tryCompare
    refine wpAny_bind (ifBound_ne X I hn (wpAny_call (codeAny_call_builtin F.cmp_object.ne.plain F.cmpEntry_ne (check_ne X I hm (F.cmpArgs_ne _ _) (wpAny_mono entry (fun r s' hr => ?_) fun _ _ e => e)))))
    obtain ⟨k, rfl, hq⟩ := hr
    exact wpAny_pure ⟨_, rfl, hq⟩
  unfold richCompare
  simp only [oneThing_ref]
  refine wpAny_holding (wpAny_bind (wpAny_cRoomFor (Nat.lt_of_succ_lt hu) ?_))
  rw [cmpInfo_NotEq]
  dsimp only
  refine wpAny_bind (I.type.here (wpAny_bind (hb.here ?_)))
  rw [show (Value.ref C != Value.ref C) = false from by simp]
  simp only [Bool.false_eq_true, if_false]
  refine wpAny_bind (wpAny_pure ?_)
  simp only [Bool.false_eq_true, if_false]
  refine wpAny_bind (wpAny_mono one (fun r s' z => ?_) fun _ _ e => e)
  obtain ⟨v, rfl, hq⟩ := z
  exact wpAny_pure hq
end
def rNeOwn (C : Addr) (sp : Sp) : R2 := fun x y H Q => ∃ (a b dx dy : Addr) (fs gs : List (Str × V)), x = .ref a ∧ H a = some (.ins C dx fs) ∧ y = .ref b ∧ H b = some (.ins C dy gs) ∧ sp [x, y] H (fun v H' => ∃ k, v = .bl k ∧ Q (.bl (!k)) H') E0
theorem op_neOwn {X : Cx} {n : Nat} {C f : Addr} {fd : FuncData} {ps : List Str} {sp : Sp} (F : FnOk X.prog X.w X.K X.mg X.base CX0 n f fd ps sp) (hr : Room (n + 1) X.A)
    (hn : PySem.W.findIn X.K (.ref C) "__ne__" = some (some (.builtin "object.__ne__"))) (hm : PySem.W.mroIn X.K C (.type "object") = some true)
    (hs : PySem.W.findIn X.K (.ref C) "__eq__" = some (some (.ref f))) (hf : PySem.W.isFn X.K (.ref f) = true) (hb : Binds X.K fd ps []) : OpR X (compareOp .NotEq) (rNeOwn C sp) := by
  intro pins s σ H x y v u Q I rx ry hq
  obtain ⟨a, b, dx, dy, fs, gs, rfl, ha, rfl, hb', hsp⟩ := hq
  cases rx
  cases ry
  show wpAny (model X.prog X.w) X.A (richCompare .NotEq (.ref a) (.ref b)) (EP X pins σ Q) X.xe s
  obtain ⟨mA, J, _⟩ := ins_get I.hok ha
  obtain ⟨od, J, _⟩ := J.look
  obtain ⟨mB, J', _⟩ := ins_get I.hok hb'
  obtain ⟨od', J', _⟩ := J'.look
  refine ne_K (Nat.lt_of_le_of_lt (Nat.add_le_add_left (by decide : 1 ≤ 64) _) hr.units) I.kIn J J'.type hn hm hs hf ?_
  have hl := F.len _ _ _ _ hsp
  have r2 : Vals [V.ref a, V.ref b] [Value.ref a, Value.ref b] := .cons rfl (.cons rfl .nil)
  refine wpAny_call (codeAny_mono (F.run X.A.in1 X.stack s H ⟨[.ref a, .ref b], []⟩ [.ref a, .ref b] [.ref a, .ref b] _ E0 hr.in1 I.env0.in1 (by
    have := hb s [.ref a, .ref b] I.kIn (by simpa using hl)
    simpa using this) r2 hsp) fun r s' hq => ?_)
  cases r with
  | error e => exact (show False from hq).elim
  | ok fl =>
    cases fl with
    | ret w =>
      obtain ⟨z, H', I', rz, k, ez, q⟩ := I.after hq
      subst ez
      cases rz
      exact ⟨k, rfl, .bl (!k), H', I', rfl, q⟩
    | next => exact False.elim hq
    | brk => exact False.elim hq
    | cont => exact False.elim hq
def dTi (ts : Prs) : PyData := .tuple (ts.map fun p => .tuple [.int (p.1 : Int), .int (p.2 : Int)])
theorem dp_prs {K : PySem.W.Frag} {H : Hp} : ∀ {as : List Addr} {ts : Prs}, PrsA H as ts → DpAll K H (as.map V.ref) (ts.map fun p => .tuple [.int (p.1 : Int), .int (p.2 : Int)])
  | [], [], _ => .nil
  | a :: as, t :: ts, h => .cons (.tup (SqT.of (h.2 0 a t rfl rfl)) (.cons (.int _) (.cons (.int _) .nil))) (dp_prs ⟨Nat.succ.inj h.1, fun i b u e1 e2 => h.2 (i + 1) b u e1 e2⟩)
  | [], _ :: _, h => nomatch h.1
  | _ :: _, [], h => nomatch h.1
theorem TiesT.dp {K : PySem.W.Frag} {H : Hp} {ta : Addr} {ts : Prs} (h : TiesT H ta ts) : Dp K H (.ref ta) (dTi ts) := let ⟨_, h1, h2⟩ := h; .tup (SqT.of h1) (dp_prs h2)
theorem pla_prs {n : Nat} : ∀ ts : Prs, (∀ p ∈ ts, p.1 < 1000 ∧ p.2 < 1000) → PlA (ts.map fun p => PyData.tuple [.int (p.1 : Int), .int (p.2 : Int)]) 1 (ts.length * 131)
  | [], _ => PlA.nil.mono (by decide) (by decide)
  | t :: r, h => by
    have := h t List.mem_cons_self
    refine (PlA.cons (Pl.tuple (PlA.cons (Pl.int (i := (t.1 : Int)) (by omega)) (PlA.cons (Pl.int (i := (t.2 : Int)) (by omega)) PlA.nil))) (pla_prs (n := n) r fun u hu => h u (List.mem_cons_of_mem _ hu))).mono (by omega) ?_
    show (64 + 1 + (64 + 1 + 0)) + 1 + r.length * 131 ≤ (r.length + 1) * 131
    omega
theorem pl_dTi {n : Nat} {ts : Prs} (hW : Wv n ts) : Pl (dTi ts) 2 100000 := (Pl.tuple (pla_prs (n := n) ts fun p hp => by have := hW.pr p hp; have := hW.n12; omega)).mono (by decide) (by have := hW.t20; omega)
structure WcI (K : PySem.W.Frag) (W : Addr) : Prop where
  y : PySem.W.kitOne K (.ref W) (.ref W) = some true
  ca : PySem.W.findIn K (.ref W) "__class__" = some (some (.builtin "object.__class__"))
  sp : PySem.W.specialIn K (.builtin "object.__class__") "__get__" = some (some (.builtin "getset_descriptor.__get__"))
  tk : PySem.W.takesIn K (.builtin "object.__class__") = some true
  mo : PySem.W.mroIn K W (.type "object") = some true
  ne : PySem.W.findIn K (.ref W) "__ne__" = some (some (.builtin "object.__ne__"))
  eq : ∃ f fd, Fun K "__eq__" "Web.__eq__" sWEq f fd ∧ PySem.W.findIn K (.ref W) "__eq__" = some (some (.ref f)) ∧ PySem.W.isFn K (.ref f) = true ∧ Binds K fd ["self", "other"] []
def spWEq (W : Addr) : Sp := fun vs H Q _ => ∃ (w w2 : Addr) (n : Nat) (ts : Prs), vs = [.ref w, .ref w2] ∧ WebAt W H w n ts ∧ WebAt W H w2 n ts ∧ Wv n ts ∧ Q (.bl true) H
theorem isTab_row {t : List Int} {n : Nat} (hl : t.length = n) (h : ∀ i ∈ t, 0 ≤ i ∧ i < (n : Int)) : isTab (some (vrow t)) (n : Int) = true := by
  show (seqB (some (vrow t)) (n : Int) (n : Int) && decide (fnb (vrow t) (n : Int) = V.non)) = true
  have e1 : seqB (some (vrow t)) (n : Int) (n : Int) = true := by
    show (decide ((n : Int) ≤ ((vrow t).length : Int)) && decide (((vrow t).length : Int) ≤ (n : Int))) = true
    rw [vrow, List.length_map, hl]
    simp
  rw [e1, fnb_all fun x hx => ?_]; rfl
  obtain ⟨i, hi, rfl⟩ := List.mem_map.mp hx
  obtain ⟨h1, h2⟩ := h i hi
  show (decide (0 ≤ i) && decide (i < (n : Int))) = true
  rw [decide_eq_true h1, decide_eq_true h2]; rfl
theorem chk_wf {ts : Ts} (w : Wf ts) : chkAt (some ((vts ts).map some)) = none := by
  have h1 := w.t1; have h8 := w.t8; have s1 := w.s1; have s12 := w.s12
  have e0 : ((vts ts).map some)[0]? = some (some (vrow ts[0])) := by
    rw [vts, List.map_map, List.getElem?_map, List.getElem?_eq_getElem (by omega)]; rfl
  have el : (vrow ts[0]).length = nS ts := by
    rw [vrow, List.length_map]
    exact (w.row _ (List.getElem_mem _)).1
  show (if ((vts ts).map some).length < 1 ∨ 8 < ((vts ts).map some).length then some (-1) else _) = _
  rw [if_neg (by simp only [vts, List.length_map]; omega), e0]
  show (if (vrow ts[0]).length < 1 ∨ 12 < (vrow ts[0]).length then some 0 else _) = _
  rw [if_neg (by omega), find_none fun j y _ hy => ?_]; rfl
  rw [vts, List.map_map, List.getElem?_map] at hy
  cases e : ts[j]? with
  | none => rw [e] at hy; cases hy
  | some t =>
    rw [e] at hy
    obtain rfl : some (vrow t) = y := Option.some.inj hy
    obtain ⟨r1, r2⟩ := w.row t (List.mem_of_getElem? e)
    rw [el, isTab_row r1 r2]; rfl
/-- a machine's interface for isinstance and == -/
structure McJ (K : PySem.W.Frag) (M : Addr) : Prop where
  i : McI K M
  ne : PySem.W.findIn K (.ref M) "__ne__" = some (some (.builtin "object.__ne__"))
  eq : ∃ f fd, Fun K "__eq__" "Machine.__eq__" sMEq f fd ∧ PySem.W.findIn K (.ref M) "__eq__" = some (some (.ref f)) ∧ PySem.W.isFn K (.ref f) = true ∧ Binds K fd ["self", "other"] []
section
variable {P : Program} {w : World} {K : PySem.W.Frag} {mg : Str → Option Value} {base : Heap}
theorem scWE : FnScope ["self", "other"] ["self", "other"] (defScope sWEq) := ⟨rfl, rfl, rfl, by decide +kernel, rfl, by decide +kernel, by decide +kernel⟩
theorem ok_weq {f W : Addr} {fd : FuncData} (F : Fun K "__eq__" "Web.__eq__" sWEq f fd) (B : Bt mg) (T : WcT K mg W) (I : WcI K W) : FnOk P w K mg base CX0 1 f fd ["self", "other"] (spWEq W) := by
  refine F.ok scWE (fun vs H Q E h => ?_) (fun cdv A outer s H vs Q E hr h => ?_)
  · obtain ⟨w, w2, n, ts, rfl, _⟩ := h
    rfl
  · obtain ⟨w, w2, n, ts, rfl, ⟨dx, ta, h1, h2⟩, ⟨dx2, ta2, g1, g2⟩, hW, q⟩ := h
    refine ⟨_, pss_one (ps_ret (pe_and (pe_callB call_isi (by rfl) B.isinstance (by decide +kernel) (pa_cons (pv 1) (pa_cons (pe_glob (v := .ref W) (by rfl) T.g rfl) pa_nil)))
      (pe_and (pe_cmpR op_eq (pe_fld (pv 0) rfl) (pe_fld (pv 1) rfl) (nomark _)) (pe_one (pe_cmpR (op_eqD hr.units) (pe_fld (pv 0) rfl) (pe_fld (pv 1) rfl) (nomark _)))))), ?_⟩
    have pl := pl_dTi hW
    refine ⟨_, rfl, _, _, _, _, _, rfl, .own W, .base (.ins g1 T.cl I.ca I.sp I.tk I.mo), I.y, _, rfl, iteT ?_⟩
    refine ⟨_, rfl, w, W, dx, _, _, rfl, h1, T.cl, T.nH, wf_h _ _, _, rfl, w2, W, dx2, _, _, rfl, g1, T.cl, T.nH, wf_h _ _, eqVV rfl ⟨_, rfl, iteT ?_⟩⟩
    exact ⟨_, rfl, w, W, dx, _, _, rfl, h1, T.cl, T.nT, wf_t _ _, _, rfl, w2, W, dx2, _, _, rfl, g1, T.cl, T.nT, wf_t _ _, eqDP h2.dp g2.dp pl (by decide) q⟩
end
/-- tables as lists, apart from the source -/
structure TbO (b l : Addr) (H : Hp) (p : Addr) (tas : List Addr) (tb : Ts) : Prop where
  t : TbL H p tas tb
  n : p ≠ b ∧ p ≠ l
  r : ∀ a ∈ tas, a ≠ b ∧ a ≠ l
theorem TbO.same {b l p : Addr} {H H1 : Hp} {tas : List Addr} {tb : Ts} (h : TbO b l H p tas tb) (s : Same H H1) : TbO b l H1 p tas tb := ⟨h.t.same s, h.n, h.r⟩
theorem TbO.dl {b l p : Addr} {H H1 : Hp} {tas : List Addr} {tb : Ts} (h : TbO b l H p tas tb) (d : Dl b l H H1) : TbO b l H1 p tas tb :=
  ⟨⟨d.2 _ _ h.t.1 h.n.1 h.n.2, h.t.2.1, fun i a t e1 e2 => d.2 _ _ (h.t.2.2 i a t e1 e2) (h.r a (List.mem_of_getElem? e1)).1 (h.r a (List.mem_of_getElem? e1)).2⟩, h.n, h.r⟩
theorem TbL.mv {K : PySem.W.Frag} {H : Hp} {p : Addr} {tas : List Addr} {tb : Ts} (h : TbL H p tas tb) : Mv K H (.ref p) (some ((vts tb).map some)) := by
  refine .yes (.lst h.1) ⟨by rw [List.length_map, List.length_map, vts, List.length_map, h.2.1], fun i x r e1 e2 => ?_⟩
  obtain ⟨a, ha, rfl⟩ := at_map e1
  rw [vts, List.getElem?_map, List.getElem?_map] at e2
  cases ht : tb[i]? with
  | none => rw [ht] at e2; cases e2
  | some t =>
    rw [ht] at e2
    obtain rfl := Option.some.inj e2
    exact ⟨.lst (h.2.2 i a t ha ht), fun ys e y hy => by
      obtain rfl := Option.some.inj e
      obtain ⟨z, _, rfl⟩ := List.mem_map.mp hy
      exact ⟨none, .int z⟩⟩
/-! ### steps as data -/
def dSt : Stp → List PyData | .dd h d => [.str "do", .int (h : Int), .int (d : Int)] | .mt t => [.str "meet", .int (t : Int)]
theorem dp_st {K : PySem.W.Frag} {H : Hp} : ∀ s : Stp, DpAll K H (stV s) (dSt s)
  | .dd _ _ => .cons (.str _) (.cons (.int _) (.cons (.int _) .nil))
  | .mt _ => .cons (.str _) (.cons (.int _) .nil)
theorem StpsA.dp {K : PySem.W.Frag} {H : Hp} : ∀ {cs : List Addr} {ss : List Stp}, StpsA H cs ss → DpAll K H (cs.map V.ref) (ss.map fun s => .tuple (dSt s))
  | [], [], _ => .nil
  | a :: as, t :: ts, h => .cons (.tup (SqT.of (h.2 0 a t rfl rfl)) (dp_st t)) (StpsA.dp (cs := as) (ss := ts) ⟨by have := h.1; simpa using this, fun i a t e1 e2 => h.2 (i + 1) a t e1 e2⟩)
  | [], _ :: _, h => by cases h.1
  | _ :: _, [], h => by cases h.1
theorem pl_st {n t d : Nat} : ∀ s : Stp, okS n t d s → n ≤ 1000 → t ≤ 1000 → d ≤ 1000 → PlA (dSt s) 0 400
  | .dd h e, ok, h1, h2, h3 => (PlA.cons (pl_str (x := "do") (by decide +kernel) (by decide +kernel) (by decide +kernel)) (PlA.cons (Pl.int (i := (h : Int)) (by have := ok.1; omega)) (PlA.cons (Pl.int (i := (e : Int)) (by have := ok.2; omega)) PlA.nil))).mono (by decide) (by decide)
  | .mt k, ok, h1, h2, h3 => (PlA.cons (pl_str (x := "meet") (by decide +kernel) (by decide +kernel) (by decide +kernel)) (PlA.cons (Pl.int (i := (k : Int)) (by have : k < t := ok; omega)) PlA.nil)).mono (by decide) (by decide)
theorem pla_sts {n t d : Nat} (h1 : n ≤ 1000) (h2 : t ≤ 1000) (h3 : d ≤ 1000) : ∀ ss : List Stp, (∀ s ∈ ss, okS n t d s) → PlA (ss.map fun s => PyData.tuple (dSt s)) 1 (ss.length * 401)
  | [], _ => PlA.nil.mono (by decide) (by decide)
  | s :: r, h => by
    refine (PlA.cons (Pl.tuple (pl_st s (h s List.mem_cons_self) h1 h2 h3)) (pla_sts h1 h2 h3 r fun u hu => h u (List.mem_cons_of_mem _ hu))).mono (by decide) ?_
    show 400 + 1 + r.length * 401 ≤ (r.length + 1) * 401
    omega
/-! ### the law's run: what is untold is passed over -/
theorem Brk.app {e : Ev} {s : Sn} {l : List Stp} {a h t : Int} (b : Brk e s l a h t) (r : List Stp) : Brk e s (l ++ r) a h t := by
  induction b with
  | now x y => exact .now x y
  | later x _ ih => exact .later x ih
structure LR (e : Ev) (sts : List Stp) (i : Nat) (s : Sn) (bk : List (Int × Int × Int)) : Prop where
  run : Run e (sn0 e) s.ds s
  non : bk = [] → s.ds = sts.take i
  fst : ∀ a h t r, bk = (a, h, t) :: r → Brk e (sn0 e) (sts.take i) a h t
  len : s.ds.length ≤ i
  bl : bk.length ≤ i
  sub : ∀ x ∈ s.ds, x ∈ sts
  bd : ∀ q ∈ bk, q.1.natAbs < 100 ∧ q.2.1.natAbs < 100 ∧ q.2.2.natAbs < 100
theorem LR.init (e : Ev) (sts : List Stp) : LR e sts 0 (sn0 e) [] := ⟨.nil _, fun _ => rfl, (fun a h t r e => nomatch e), Nat.le_refl _, Nat.le_refl _, (fun x h => nomatch h), fun q h => nomatch h⟩
theorem LR.ok {e : Ev} {sts : List Stp} {i : Nat} {s s' : Sn} {bk : List (Int × Int × Int)} {st : Stp} (l : LR e sts i s bk) (hst : sts[i]? = some st) (k : StR e s st (some s')) : LR e sts (i + 1) s' bk := by
  have eds := k.ds
  refine ⟨by rw [eds]; exact l.run.snoc k, fun z => by rw [eds, l.non z, take_succ hst], fun a h t r z => by rw [take_succ hst]; exact (l.fst a h t r z).app _, by rw [eds, List.length_append]; have := l.len; simp only [List.length_cons, List.length_nil]; omega, Nat.le_succ_of_le l.bl, fun x hx => by
    rw [eds] at hx
    rcases List.mem_append.mp hx with z | z
    · exact l.sub x z
    · rw [List.mem_singleton.mp z]; exact List.mem_of_getElem? hst, l.bd⟩
theorem LR.no {e : Ev} {sts : List Stp} {i : Nat} {s : Sn} {bk : List (Int × Int × Int)} {st : Stp} {a h t : Int} (l : LR e sts i s bk) (hst : sts[i]? = some st) (k : StR e s st none) (d : dueT e s st a h t) (hb : a.natAbs < 100 ∧ h.natAbs < 100 ∧ t.natAbs < 100) : LR e sts (i + 1) s (bk ++ [(a, h, t)]) := by
  refine ⟨l.run, fun z => by simp at z, fun a' h' t' r z => ?_, Nat.le_succ_of_le l.len, by rw [List.length_append]; have := l.bl; simp only [List.length_cons, List.length_nil]; omega, l.sub, fun q hq => (List.mem_append.mp hq).elim (l.bd q) fun z => by rw [List.mem_singleton.mp z]; exact hb⟩
  rw [take_succ hst]
  cases bk with
  | nil =>
    rw [List.nil_append] at z
    injection z with z _
    injection z with z1 z
    injection z with z2 z3
    subst z1 z2 z3
    rw [← l.non rfl]
    exact l.run.brk k d
  | cons x r' =>
    rw [List.cons_append] at z
    injection z with z _
    exact (l.fst a' h' t' r' (by rw [z])).app _
theorem dOf_congr {fs ns : List Nat} (h : ∀ x, x ∈ fs ↔ x ∈ ns) : ∀ l : List Stp, dOf fs l = dOf ns l
  | [] => rfl
  | .dd a d :: l => by
    show (if a ∈ fs then (d : Int) :: dOf fs l else dOf fs l) = (if a ∈ ns then (d : Int) :: dOf ns l else dOf ns l)
    rw [dOf_congr h l]
    by_cases z : a ∈ fs
    · rw [if_pos z, if_pos ((h a).mp z)]
    · rw [if_neg z, if_neg (fun y => z ((h a).mpr y))]
  | .mt _ :: l => dOf_congr h l
/-- tables while they are made: i of them, of n states, in the list at D -/
structure TbI (b l : Addr) (n : Nat) (H : Hp) (D : Addr) (i : Nat) (H' : Hp) : Prop where
  d : Dl b l H H'
  f : H D = none
  nb : D ≠ b
  nl : D ≠ l
  ex : ∃ (cs : List Addr) (ts : Ts), H' D = some (.lst (cs.map V.ref)) ∧ cs.length = ts.length ∧ ts.length = i ∧ (∀ (j : Nat) a t, cs[j]? = some a → ts[j]? = some t → H' a = some (.lst (vrow t))) ∧ (∀ a ∈ cs, a ≠ b ∧ a ≠ l ∧ a ≠ D) ∧ ∀ t ∈ ts, t.length = n ∧ ∀ x ∈ t, 0 ≤ x ∧ x < (n : Int)
theorem TbI.init {b l D : Addr} {n : Nat} {H : Hp} (hb : DealO H b l) (hD : H D = none) : TbI b l n H D 0 (upd H D (.lst [])) := ⟨(Dl.refl hb).new hD, hD, hb.nb hD, hb.nl hD, [], [], upd_same, rfl, rfl, (fun j a t e => by cases e), (fun a h => nomatch h), fun t h => nomatch h⟩
theorem TbI.put {b l D D1 : Addr} {n i : Nat} {H H1 H2 : Hp} (I : TbI b l n H D i H1) (hD1 : H1 D1 = none) (d : Dl b l H1 H2) {t : List Int} (ht : H2 D1 = some (.lst (vrow t))) (tl : t.length = n) (tr : ∀ x ∈ t, 0 ≤ x ∧ x < (n : Int)) : ∃ acc, H2 D = some (.lst acc) ∧ acc.length = i ∧ TbI b l n H D (i + 1) (upd H2 D (.lst (acc ++ [.ref D1]))) := by
  obtain ⟨cs, ts, h1, h2, h3, h4, h5, h6⟩ := I.ex
  have n1b := I.d.1.nb hD1
  have n1l := I.d.1.nl hD1
  have nD : D1 ≠ D := fun z => by rw [z, h1] at hD1; cases hD1
  refine ⟨_, d.2 _ _ h1 I.nb I.nl, by rw [List.length_map, h2, h3], (I.d.trans d).put I.f I.nb I.nl, I.f, I.nb, I.nl, cs ++ [D1], ts ++ [t], by rw [upd_same, List.map_append]; rfl, by rw [List.length_append, List.length_append, h2]; rfl, by rw [List.length_append, h3]; rfl, fun j a u e1 e2 => ?_, fun a ha => ?_, fun u hu => ?_⟩
  · by_cases hj : j < cs.length
    · rw [List.getElem?_append_left hj] at e1
      rw [List.getElem?_append_left (by rw [← h2]; exact hj)] at e2
      obtain ⟨k1, k2, k3⟩ := h5 a (List.mem_of_getElem? e1)
      rw [upd_ne k3]
      exact d.2 _ _ (h4 j a u e1 e2) k1 k2
    · have hjl := lt_at e1
      rw [List.length_append] at hjl
      have : j = cs.length := by simp only [List.length_cons, List.length_nil] at hjl; omega
      subst this
      rw [List.getElem?_append_right (Nat.le_refl _), Nat.sub_self] at e1
      rw [h2, List.getElem?_append_right (Nat.le_refl _), Nat.sub_self] at e2
      obtain rfl : D1 = a := Option.some.inj e1
      obtain rfl : t = u := Option.some.inj e2
      rw [upd_ne nD]; exact ht
  · rcases List.mem_append.mp ha with z | z
    · exact h5 a z
    · rw [List.mem_singleton.mp z]; exact ⟨n1b, n1l, nD⟩
  · rcases List.mem_append.mp hu with z | z
    · exact h6 u z
    · rw [List.mem_singleton.mp z]; exact ⟨tl, tr⟩
theorem TbI.done {b l D : Addr} {n i : Nat} {H H1 : Hp} (I : TbI b l n H D i H1) (n1 : 1 ≤ n) (n5 : n ≤ 12) (i1 : 1 ≤ i) (i8 : i ≤ 8) : ∃ (tas : List Addr) (tb : Ts), TbO b l H1 D tas tb ∧ Wf tb ∧ nS tb = n ∧ tb.length ≤ 8 := by
  obtain ⟨cs, ts, h1, h2, h3, h4, h5, h6⟩ := I.ex
  obtain ⟨t0, ht0⟩ := ex_at (l := ts) (i := 0) (by omega)
  have e0 : nS ts = n := by unfold nS; rw [ht0]; exact (h6 t0 (List.mem_of_getElem? ht0)).1
  exact ⟨cs, ts, ⟨⟨h1, h2, h4⟩, ⟨I.nb, I.nl⟩, fun a ha => ⟨(h5 a ha).1, (h5 a ha).2.1⟩⟩, ⟨by omega, by omega, by omega, by omega, fun t ht => by rw [e0]; exact h6 t ht⟩, e0, by omega⟩
/-- what the law has when its net stands -/
structure Bs (M W b l p tl pp : Addr) (T : List (Addr × Str)) (e : Ev) (tas as scs : List Addr) (sts : List Stp) (H : Hp) : Prop where
  dl : DealO H b l
  cd : LamX.Tabs T H
  tab : TbO b l H p tas e.tb
  tie : TL b l tl H as e.ts
  ev : EvAt M W H e
  st : SL b l pp H scs sts
  ok : ∀ s ∈ sts, okS e.n e.ts.length e.tb.length s
  len : sts.length ≤ 14
  fi : 0 ≤ e.fi ∧ e.fi < (nS e.tb : Int)
  n5 : nS e.tb ≤ 5
  ab : ∀ a ∈ as, a ≠ b
section
variable {M W b l p tl pp : Addr} {T : List (Addr × Str)} {e : Ev} {tas as scs : List Addr} {sts : List Stp} {H H1 : Hp}
theorem Bs.same (o : Bs M W b l p tl pp T e tas as scs sts H) (s : Same H H1) : Bs M W b l p tl pp T e tas as scs sts H1 := ⟨o.dl.same s, o.cd.ext s, o.tab.same s, o.tie.same s, o.ev.same s, o.st.same s, o.ok, o.len, o.fi, o.n5, o.ab⟩
theorem Bs.draw (o : Bs M W b l p tl pp T e tas as scs sts H) (d : Dl b l H H1) : Bs M W b l p tl pp T e tas as scs sts H1 := ⟨d.1, tabs_dl o.cd o.dl d, o.tab.dl d, o.tie.dl o.dl d, o.ev.kp (Kp.dl o.dl d), o.st.dl o.dl d, o.ok, o.len, o.fi, o.n5, o.ab⟩
end
theorem TL.ab {b l tl : Addr} {H : Hp} {as : List Addr} {ts : Prs} (t : TL b l tl H as ts) (hb : DealO H b l) : ∀ a ∈ as, a ≠ b := fun a ha z => by
  obtain ⟨i, hi⟩ := List.getElem?_of_mem ha
  obtain ⟨u, hu⟩ := ex_at (l := ts) (i := i) (by rw [← t.ps.1]; exact lt_at hi)
  have h1 := t.ps.2 i a u hi hu
  obtain ⟨_, ns, w, _, h2, _⟩ := hb
  rw [z, h2] at h1
  cases h1
theorem vts_inj {tb : Ts} {ts : List (List V)} (h : some ((vts tb).map some) = some (ts.map some)) : ts = vts tb := by
  have := Option.some.inj h
  exact ((List.map_inj_right (fun x y h => Option.some.inj h)).mp this).symm
/-- what was untold, as the law keeps it -/
structure BkL (A : Ad) (H : Hp) (br : Addr) (kas : List Addr) (bk : List (Int × Int × Int)) : Prop where
  h : H br = some (.lst (kas.map V.ref))
  len : kas.length = bk.length
  it : ∀ (i : Nat) a q, kas[i]? = some a → bk[i]? = some q → H a = some (.lst (unL q.1 q.2.1 q.2.2))
  nb : br ∉ A.xs
  ni : ∀ a ∈ kas, a ∉ A.xs
theorem BkL.ks {A : Ad} {H H1 : Hp} {br : Addr} {kas : List Addr} {bk : List (Int × Int × Int)} (b : BkL A H br kas bk) (k : Ks A.xs H H1) : BkL A H1 br kas bk :=
  ⟨k.lst b.h b.nb, b.len, fun i a q e1 e2 => k.lst (b.it i a q e1 e2) (b.ni a (List.mem_of_getElem? e1)), b.nb, b.ni⟩
theorem BkL.snoc {A : Ad} {H H1 : Hp} {br y du : Addr} {kas : List Addr} {bk : List (Int × Int × Int)} {q : Int × Int × Int} (b : BkL A H br kas bk) (s : Same H H1) (hy : H1 y = some (.lst (kas.map V.ref ++ [.ref du]))) (ny : y ∉ A.xs) (hd : H du = some (.lst (unL q.1 q.2.1 q.2.2))) (nd : du ∉ A.xs) : BkL A H1 y (kas ++ [du]) (bk ++ [q]) := by
  refine ⟨by rw [hy, List.map_append]; rfl, by rw [List.length_append, List.length_append, b.len]; rfl, fun i a u e1 e2 => ?_, ny, fun a ha => ?_⟩
  · by_cases hi : i < kas.length
    · rw [List.getElem?_append_left hi] at e1
      rw [List.getElem?_append_left (by rw [← b.len]; exact hi)] at e2
      exact s _ _ (b.it i a u e1 e2)
    · have hil := lt_at e1
      rw [List.length_append] at hil
      have : i = kas.length := by simp only [List.length_cons, List.length_nil] at hil; omega
      subst this
      rw [List.getElem?_append_right (Nat.le_refl _), Nat.sub_self] at e1
      rw [b.len, List.getElem?_append_right (Nat.le_refl _), Nat.sub_self] at e2
      obtain rfl : du = a := Option.some.inj e1
      obtain rfl : q = u := Option.some.inj e2
      exact s _ _ hd
  · rcases List.mem_append.mp ha with z | z
    · exact b.ni a z
    · rw [List.mem_singleton.mp z]; exact nd
/-- a thing that is new is none of those that change -/
theorem nxs {A : Ad} {H : Hp} {x : Addr} (hx : H x = none) (hb : DealO H A.b A.l) (k : ∀ y ∈ [A.c, A.sl, A.al, A.dl], H y ≠ none) : x ∉ A.xs := fun m => by
  simp only [Ad.xs, List.mem_cons, List.mem_nil_iff, or_false] at m
  rcases m with m | m | m | m | m | m
  · exact hb.nb hx m
  · exact hb.nl hx m
  all_goals (rw [m] at hx; exact k _ (by simp) hx)
theorem Dy.al {N M W : Addr} {A : Ad} {e : Ev} {s : Sn} {ss ar : List Int} {cs : List Addr} {ds : List Stp} {H : Hp} (d : Dy N M W A e s ss ar cs ds H) : ∀ y ∈ [A.c, A.sl, A.al, A.dl], H y ≠ none := fun y hy z => by
  obtain ⟨dx, sa, aa, pa, h1, _⟩ := d.net.ob
  simp only [List.mem_cons, List.mem_nil_iff, or_false] at hy
  rcases hy with rfl | rfl | rfl | rfl
  · rw [h1] at z; cases z
  · rw [d.sh] at z; cases z
  · rw [d.ah] at z; cases z
  · rw [d.dh] at z; cases z
def dNet (ss ar : List Int) (ds : List Stp) : PyData := .tuple [.tuple (dI ss), .tuple (dI ar), .tuple (ds.map fun s => .tuple (dSt s))]
theorem pl_net {ss ar : List Int} {ds : List Stp} {n t d : Nat} (h1 : ss.length ≤ 12) (h2 : ar.length ≤ 20) (h3 : ds.length ≤ 14) (r1 : ∀ i ∈ ss, i.natAbs < 10 ^ 19) (r2 : ∀ i ∈ ar, i.natAbs < 10 ^ 19) (hn : n ≤ 1000) (ht : t ≤ 1000) (hd : d ≤ 1000) (ok : ∀ s ∈ ds, okS n t d s) : Pl (dNet ss ar ds) 3 10000 :=
  (Pl.tuple (PlA.cons ((Pl.tuple (pla_ints ss r1)).mono (m := 2) (v := 12 * 65) (by decide) (Nat.mul_le_mul_right _ h1)) (PlA.cons ((Pl.tuple (pla_ints ar r2)).mono (m := 2) (v := 20 * 65) (by decide) (Nat.mul_le_mul_right _ h2)) (PlA.cons ((Pl.tuple (pla_sts hn ht hd ds ok)).mono (m := 2) (v := 14 * 401) (by decide) (Nat.mul_le_mul_right _ h3)) PlA.nil)))).mono (by decide) (by decide)
theorem net_rep {K : PySem.W.Frag} {q sa aa pa : Addr} {H : Hp} {ss ar : List Int} {ds : List Stp} {ras : List Addr} {Q : VK} (hq : H q = some (.tup [.ref sa, .ref aa, .ref pa])) (h1 : H sa = some (.tup (vrow ss))) (h2 : H aa = some (.tup (vrow ar))) (h3 : H pa = some (.tup (ras.map V.ref))) (h4 : StpsA H ras ds) (pl : Pl (dNet ss ar ds) 3 10000) (k : Q (.str (dNet ss ar ds).shown) H) : rRepr K [.ref q] H Q :=
  reprP (.tup (SqT.of hq) (.cons (dp_tup h1) (.cons (dp_tup h2) (.cons (.tup (SqT.of h3) h4.dp) .nil)))) pl (by decide) (by decide) k
theorem stv_one : ∀ {a b : Stp}, stV a = stV b → a = b
  | .dd h d, .dd h' d', e => by
    injection e with _ e
    injection e with e1 e
    injection e with e2 _
    injection e1 with e1
    injection e2 with e2
    rw [show h = h' by omega, show d = d' by omega]
  | .mt t, .mt t', e => by
    injection e with _ e
    injection e with e1 _
    injection e1 with e1
    rw [show t = t' by omega]
  | .dd _ _, .mt _, e => by injection e with _ e; injection e with _ e; cases e
  | .mt _, .dd _ _, e => by injection e with _ e; injection e with _ e; cases e
theorem stv_inj {a b : List Stp} (h : some (a.map fun s => some (stV s)) = some (b.map fun s => some (stV s))) : a = b :=
  (List.map_inj_right (fun x y h => stv_one (Option.some.inj h))).mp (Option.some.inj h)
theorem Dy.tx {N M W : Addr} {A : Ad} {e : Ev} {s : Sn} {ss ar : List Int} {cs : List Addr} {ds : List Stp} {H : Hp} (d : Dy N M W A e s ss ar cs ds H) (hb : DealO H A.b A.l) {u : Addr} {xs : List V} (hu : H u = some (.tup xs)) : u ∉ A.xs := fun m => by
  simp only [Ad.xs, List.mem_cons, List.mem_nil_iff, or_false] at m
  obtain ⟨_, ns', z', _, g2, g3⟩ := hb
  obtain ⟨dxn, _, _, _, gc, _⟩ := d.net.ob
  rcases m with m | m | m | m | m | m
  · rw [m, g2] at hu; cases hu
  · rw [m, g3] at hu; cases hu
  · rw [m, gc] at hu; cases hu
  · rw [m, d.sh] at hu; cases hu
  · rw [m, d.ah] at hu; cases hu
  · rw [m, d.dh] at hu; cases hu
def dTwo (ss ar : List Int) : PyData := .tuple [.tuple (dI ss), .tuple (dI ar)]
theorem pl_two {ss ar : List Int} (h1 : ss.length ≤ 12) (h2 : ar.length ≤ 20) (r1 : ∀ i ∈ ss, i.natAbs < 10 ^ 19) (r2 : ∀ i ∈ ar, i.natAbs < 10 ^ 19) : Pl (dTwo ss ar) 2 10000 :=
  (Pl.tuple (PlA.cons ((Pl.tuple (pla_ints ss r1)).mono (m := 1) (v := 12 * 65) (by decide) (Nat.mul_le_mul_right _ h1)) (PlA.cons ((Pl.tuple (pla_ints ar r2)).mono (m := 1) (v := 20 * 65) (by decide) (Nat.mul_le_mul_right _ h2)) PlA.nil))).mono (by decide) (by decide)
theorem dp_two {K : PySem.W.Frag} {q sa aa : Addr} {H : Hp} {ss ar : List Int} (hq : H q = some (.tup [.ref sa, .ref aa])) (h1 : H sa = some (.tup (vrow ss))) (h2 : H aa = some (.tup (vrow ar))) : Dp K H (.ref q) (dTwo ss ar) := .tup (SqT.of hq) (.cons (dp_tup h1) (.cons (dp_tup h2) .nil))
theorem dueT.uniq {e : Ev} {s : Sn} {st : Stp} {a h t a' h' t' : Int} (x : dueT e s st a h t) (y : dueT e s st a' h' t') : a = a' ∧ h = h' ∧ t = t' := by
  obtain ⟨k, p, e1, e2, e3, e4, e5⟩ := x
  obtain ⟨k', p', f1, f2, f3, f4, f5⟩ := y
  rw [e1] at f1
  injection f1 with f1
  subst f1
  rw [e2] at f2
  obtain rfl := Option.some.inj f2
  exact ⟨by rw [e3, f3], by rw [e4, f4], by rw [e5, f5]⟩
theorem Brk.uniq {e : Ev} {s : Sn} {l : List Stp} {a h t a' h' t' : Int} (x : Brk e s l a h t) (y : Brk e s l a' h' t') : a = a' ∧ h = h' ∧ t = t' := by
  induction x with
  | now k d =>
    cases y with
    | now _ d' => exact d.uniq d'
    | later k' _ => cases k.uniq k'
  | later k _ ih =>
    cases y with
    | now k' _ => cases k.uniq k'
    | later k' b =>
      have := k.uniq k'
      obtain rfl := Option.some.inj this
      exact ih b
def dBk (bk : List (Int × Int × Int)) : List PyData := bk.map fun q => unD q.1 q.2.1 q.2.2
theorem bk_dp {K : PySem.W.Frag} {H : Hp} : ∀ {kas : List Addr} {bk : List (Int × Int × Int)}, kas.length = bk.length → (∀ (i : Nat) a q, kas[i]? = some a → bk[i]? = some q → H a = some (.lst (unL q.1 q.2.1 q.2.2))) → DpAll K H (kas.map V.ref) (dBk bk)
  | [], [], _, _ => .nil
  | a :: as, q :: qs, hl, h => .cons (.lst (SqL.of (h 0 a q rfl rfl)) (.cons (.str _) (.cons (.int _) (.cons (.int _) (.cons (.int _) .nil))))) (bk_dp (kas := as) (bk := qs) (by simpa using hl) fun i a q e1 e2 => h (i + 1) a q e1 e2)
  | [], _ :: _, h, _ => by cases h
  | _ :: _, [], h, _ => by cases h
theorem un_lay (a h t : Int) : PyData.canLay0 (unD a h t) = true := by
  show (PyData.strOk "untold" && true) = true
  rw [show PyData.strOk "untold" = true from by decide +kernel]; rfl
theorem bk_lay : ∀ bk : List (Int × Int × Int), PyData.canLayAll0 (dBk bk) = true
  | [] => rfl
  | q :: r => by
    show (PyData.canLay0 (unD q.1 q.2.1 q.2.2) && PyData.canLayAll0 (dBk r)) = true
    rw [bk_lay r, un_lay]; rfl
theorem bk_dep : ∀ bk : List (Int × Int × Int), PyData.depthAll (dBk bk) ≤ 1
  | [] => Nat.zero_le _
  | q :: r => by
    show max (PyData.depth (unD q.1 q.2.1 q.2.2)) (PyData.depthAll (dBk r)) ≤ 1
    have := bk_dep r
    have h1 : PyData.depth (unD q.1 q.2.1 q.2.2) = 1 := by
      show max 0 (max 0 (max 0 (max 0 0))) + 1 = 1
      rfl
    rw [h1]
    omega
theorem bk_sh (bk : List (Int × Int × Int)) : SeqAt.shaped (.list (dBk bk)) = true := by
  unfold SeqAt.shaped
  rw [show PyData.canLay0 (.list (dBk bk)) = true from bk_lay bk]
  have : PyData.depth (.list (dBk bk)) ≤ 64 := by
    show PyData.depthAll (dBk bk) + 1 ≤ 64
    have := bk_dep bk
    omega
  rw [decide_eq_true this]; rfl
theorem bk_ne {K : PySem.W.Frag} {A : Ad} {H : Hp} {br em : Addr} {kas : List Addr} {bk : List (Int × Int × Int)} {Q : VK} (b : BkL A H br kas bk) (he : H em = some (.lst [])) (q : Q (.bl (!decide (bk = []))) H) : rNeD K (.ref br) (.ref em) H Q := by
  refine ⟨.list (dBk bk), .list [], .lst (SqL.of b.h) (bk_dp b.len b.it), .lst (SqL.of he) .nil, bk_sh bk, rfl, qbl ?_ q⟩
  cases bk with
  | nil => rfl
  | cons x r => rfl
theorem sv_stL {K : PySem.W.Frag} {H : Hp} {a : Addr} {s : Stp} (h : H a = some (.lst (stV s))) : Sv K H (.ref a) (some (stV s)) := by
  refine ⟨⟨.lst h, fun ys e y hy => ?_⟩, fun y r e => ?_⟩
  · obtain rfl := Option.some.inj e
    cases s with
    | dd x y =>
      simp only [stV, List.mem_cons, List.mem_nil_iff, or_false] at hy
      rcases hy with rfl | rfl | rfl
      · exact ⟨_, .str _⟩
      · exact ⟨_, .int _⟩
      · exact ⟨_, .int _⟩
    | mt x =>
      simp only [stV, List.mem_cons, List.mem_nil_iff, or_false] at hy
      rcases hy with rfl | rfl
      · exact ⟨_, .str _⟩
      · exact ⟨_, .int _⟩
  · cases s with
    | dd x y => injection e with e; injection e with e1 _; rw [← e1]; exact .inl ⟨_, rfl, by decide +kernel⟩
    | mt x => injection e with e; injection e with e1 _; rw [← e1]; exact .inl ⟨_, rfl, by decide +kernel⟩
theorem svs_rightL {K : PySem.W.Frag} {H : Hp} {v : V} {cs : List Addr} {ss : List Stp} (h : KV K H v (some (cs.map V.ref))) (hl : cs.length = ss.length) (hA : ∀ (i : Nat) a s, cs[i]? = some a → ss[i]? = some s → H a = some (.lst (stV s))) : Svs K H v (some (ss.map fun s => some (stV s))) := by
  refine .yes h (by rw [List.length_map, List.length_map, hl]) fun i x r e1 e2 => ?_
  obtain ⟨a, ha, rfl⟩ := at_map e1
  rw [List.getElem?_map] at e2
  cases hs : ss[i]? with
  | none => rw [hs] at e2; cases e2
  | some s =>
    rw [hs] at e2
    obtain rfl := Option.some.inj e2
    exact sv_stL (hA i a s ha hs)
end K1
namespace K1
open PySem PySem.Spec PyProof.Rows L2
abbrev qLa : Str := "law.<locals>.<lambda>"
/-- what the law leans on -/
structure Dn (P : Program) (w : World) (K : PySem.W.Frag) (mg : Str → Option Value) (base : Heap) (N M W CM CB CU CS CD CH CT : Addr) (T : List (Addr × Str)) : Prop where
  B : Bt mg
  hd : Hd K mg base CB CU CS CD CH CT
  nm : NMk P w K mg base N M W CH CD CT CU
  TM : McT K mg M
  TW : WcT K mg W
  IM : McJ K M
  IW : WcI K W
  dealt : ∃ f fd, Df K mg "_law_dealt" sLDealt ["_law_script"] f fd ∧ FnOk P w K mg base CX0 1 f fd ["_law_script"] (spDealt K)
  any : ∃ f fd, Df K mg "_law_any" sLAny ["_law_deal", "_law_bound"] f fd ∧ FnOk P w K mg base CX0 1 f fd ["_law_deal", "_law_bound"] spAny
  of : ∃ f fd, Df K mg "_law_of" sLOf ["_law_deal", "_law_some"] f fd ∧ FnOk P w K mg base CX0 2 f fd ["_law_deal", "_law_some"] spOf
  web : ∃ f fd, Df K mg "_law_web" sLWeb ["_law_deal", "_law_most"] f fd ∧ FnOk P w K mg base CX0 3 f fd ["_law_deal", "_law_most"] spWeb
  ls : ∃ f fd, Df K mg "_law_steps" sLSteps ["_law_deal", "_law_many", "_law_ties", "_law_deeds", "_law_length"] f fd ∧ FnOk P w K mg base CX0 2 f fd ["_law_deal", "_law_many", "_law_ties", "_law_deeds", "_law_length"] spLSteps
  jd : ∃ f fd, Df K mg "_law_joined" sLJoined ["_law_houses", "_law_ties", "_law_house"] f fd ∧ FnOk P w K mg base CX0 1 f fd ["_law_houses", "_law_ties", "_law_house"] spLJd
  mkM : ∃ f fd, Mk K M f ∧ Binds K fd ["self", "tables"] [] ∧ FnOk P w K mg base (L2.CX P w) 6 f fd ["self", "tables"] (spMInit K CM M)
  mkW : ∃ f fd, Mk K W f ∧ Binds K fd ["self", "houses", "ties"] [] ∧ FnOk P w K mg base (L2.CX P w) 6 f fd ["self", "houses", "ties"] (spWInitL W)
  mkN : ∃ f fd, Fun K "__init__" "Net.__init__" sNetInit f fd ∧ Mk K N f ∧ Binds K fd ["self", "machine", "web", "first"] [] ∧ FnOk P w K mg base (L2.CX P w) 5 f fd ["self", "machine", "web", "first"] (spStand K N M W CS)
  ck : ∃ f fd, Df K mg "check_steps" sCheckSteps ["machine", "web", "value"] f fd ∧ FnOk P w K mg base (L2.CX P w) 6 f fd ["machine", "web", "value"] (spCkSteps K M W CB)
  sa : ∃ f fd, Df K mg "standing_after" sStandingAfter ["machine", "web", "first", "steps"] f fd ∧ FnOk P w K mg base (L2.CX P w) 9 f fd ["machine", "web", "first", "steps"] (spStandA K M W CB CU)
  tr : ∃ f fd, Df K mg "truth_of" sTruthOf ["machine", "web", "first", "steps", "house"] f fd ∧ FnOk P w K mg base (L2.CX P w) 7 f fd ["machine", "web", "first", "steps", "house"] (spTruth K M W CB CH)
  iss : ∃ f fd, Df K mg "_law_is_stepped" sLIsStepped ["_law_net", "_law_tables", "_law_ties", "_law_step", "_law_states", "_law_archives", "_law_done"] f fd ∧ FnG P w K mg base 10 f fd ["_law_net", "_law_tables", "_law_ties", "_law_step", "_law_states", "_law_archives", "_law_done"] (spIsStepped N M W T)
  odd : ∃ f fd, Df K mg "_law_is_odd_told" sLIsOddTold ["_law_deal", "_law_machine", "_law_web_here", "_law_net", "_law_steps_here"] f fd ∧ FnG P w K mg base 12 f fd ["_law_deal", "_law_machine", "_law_web_here", "_law_net", "_law_steps_here"] (spOdd N M W T)
def spLaw (K : PySem.W.Frag) (T : List (Addr × Str)) : Sp := fun vs H Q _ => ∃ (a : Addr) (ns : List Int), vs = [.ref a] ∧ SqL K H a (ns.map V.int) ∧ ns.length ≤ 63 ∧ LamX.Tabs T H ∧ ∀ H', Q (.bl true) H'
section
variable {P : Program} {w : World} {K : PySem.W.Frag} {mg : Str → Option Value} {base : Heap}
abbrev nLa : List Str := ["_law_script", "_law_deal", "_law_size", "_law_tables", "_law_many", "_law_ties", "_law_net", "_law_states", "_law_archives", "_law_done", "_law_broken", "_law_step", "_law_ahead", "_law_due", "_law_house", "_law_part", "_law_truth", "_law_first", "_law_machine", "_law_steps_here", "_law_web_here", "_law_state", "_law_deed"]
theorem scLa : FnScope nLa ["_law_script"] (defScope sLaw) := ⟨rfl, rfl, rfl, by decide +kernel, rfl, by decide +kernel, by decide +kernel⟩
theorem ok_law {f N M W CM CB CU CS CD CH CT c_ Pt : Addr} {fd : FuncData} {T : List (Addr × Str)} (F : FunC K "law" "law" sLaw f fd (.ref c_)) (TB : LamX.TabB base mg c_ Pt) (hmT : (Pt, qLa) ∈ T) (hun : ∀ p ∈ T, p.1 = Pt → p.2 = qLa) (dn : Dn P w K mg base N M W CM CB CU CS CD CH CT T) : FnG P w K mg base 13 f fd ["_law_script"] (spLaw K T) := by
  have B := dn.B
  have hd := dn.hd
  have TM := dn.TM
  have TW := dn.TW
  have IMj := dn.IM
  have IW := dn.IW
  obtain ⟨fD, fdD, mD, bD, kD, GD⟩ := dn.nm.do_
  have NT := dn.nm.T
  obtain ⟨_, _, DDe, GDe⟩ := dn.dealt
  obtain ⟨_, _, DA, GA⟩ := dn.any
  obtain ⟨_, _, DOf, GOf⟩ := dn.of
  obtain ⟨_, _, DW, GW⟩ := dn.web
  obtain ⟨_, _, DLS, GLS⟩ := dn.ls
  obtain ⟨_, _, DJ, GJ⟩ := dn.jd
  obtain ⟨_, _, MM, BM, GM⟩ := dn.mkM
  obtain ⟨_, _, MW, BW, GWi⟩ := dn.mkW
  obtain ⟨_, _, FN, MN, BN, GN⟩ := dn.mkN
  obtain ⟨_, _, DK, GK⟩ := dn.ck
  obtain ⟨_, _, DSA, GSA⟩ := dn.sa
  obtain ⟨_, _, DT, GT⟩ := dn.tr
  obtain ⟨_, _, DI, GI⟩ := dn.iss
  obtain ⟨_, _, DO, GO⟩ := dn.odd
  obtain ⟨fQ, fdQ, FQ, eqMa, eqMf, eqMb⟩ := IMj.eq
  have GQm := ok_meq (P := P) (w := w) (base := base) FQ B TM IMj.i
  obtain ⟨fR, fdR, FR, eqWa, eqWf, eqWb⟩ := IW.eq
  have GQw := ok_weq (P := P) (w := w) (base := base) FR B TW IW
  refine F.okG scLa (fun vs H Q E h => ?_) (fun A_ outer s_ H vs Q E hr hgd h => ?_)
  · obtain ⟨a, ns, rfl, _⟩ := h
    rfl
  · obtain ⟨a, ns, rfl, hS, hlen, hT, q⟩ := h
    have hu : (A_.deeper (envOfC "law" (defScope sLaw) s_.heap.objs.size f (.ref c_))).units + 64 < cLine := hr.units
    have r1 := hr.mono (show 1 ≤ 12 by decide)
    have r2 := hr.mono (show 2 ≤ 12 by decide)
    have r3 := hr.mono (show 3 ≤ 12 by decide)
    have r5 := hr.mono (show 5 ≤ 12 by decide)
    have r6 := hr.mono (show 6 ≤ 12 by decide)
    have rN := hr.mono (show 6 ≤ 12 by decide)
    have rM := hr.mono (show 7 ≤ 12 by decide)
    have r7 := hr.mono (show 7 ≤ 12 by decide)
    have r9 := hr.mono (show 9 ≤ 12 by decide)
    have r10 := hr.mono (show 10 ≤ 12 by decide)
    have r12 := hr
    refine ⟨_, pss_cons (ps_set (i := 1) scLa.nd rfl (.inr rfl) (pc DDe GDe r1 pass0 (pa_cons (pv 0) pa_nil)))
      (pss_cons (ps_set (i := 2) scLa.nd rfl (.inr rfl) (pe_op op_add pe_int (pc DA GA r1 pass0 (pa_cons (pv 1) (pa_cons pe_int pa_nil)))))
      (pss_cons (ps_setLc (i := 3) (own := [("_law_deed", 22)]) (g := gName 22) (tt := tYes) rfl scLa.nd rfl rfl (sw_true rfl rfl rfl rfl) (pi_range1 (by rfl) B.range (pa_cons (pe_op op_add pe_int (pc DA GA r1 pass0 (pa_cons (pv 1) (pa_cons pe_int pa_nil)))) pa_nil)) (blkOk_by (N := nLa) (sc := defScope sLaw) (by decide +kernel)) (fun _ _ _ _ _ => pg_name (i := 22) scLa.nd rfl (Or.inl rfl)) (fun _ _ _ _ _ => pts_nil) (fun _ _ _ _ _ => (pe_lc (own := [("_law_state", 21)]) (g := gName 21) (tt := tYes) rfl scLa.nd (pi_range1 (by rfl) B.range (pa_cons (pv 2) pa_nil)) (blkOk_by (by rfl)) (fun _ _ _ _ _ => pg_name (i := 21) scLa.nd rfl (Or.inl rfl)) (fun _ _ _ _ _ => pts_nil) (fun _ _ _ _ _ => (pc DA GA r1 pass0 (pa_cons (pv 1) (pa_cons (pv 2) pa_nil)))))))
      (pss_cons (ps_if (pt_cmpR op_eq (pc DA GA r1 pass0 (pa_cons (pv 1) (pa_cons pe_int pa_nil))) pe_int (nomark _)) (pss_one (ps_setLc (i := 3) (own := [("_law_deed", 22)]) (g := gName 22) (tt := tYes) rfl scLa.nd rfl rfl (sw_true rfl rfl rfl rfl) (pi_range1 (by rfl) B.range (pa_cons pe_int pa_nil)) (blkOk_by (N := nLa) (sc := defScope sLaw) (by decide +kernel)) (fun _ _ _ _ _ => pg_name (i := 22) scLa.nd rfl (Or.inr rfl)) (fun _ _ _ _ _ => pts_nil) (fun _ _ _ _ _ => (pe_lc (own := [("_law_state", 21)]) (g := gName 21) (tt := tYes) rfl scLa.nd (pi_range1 (by rfl) B.range (pa_cons (pv 2) pa_nil)) (blkOk_by (by rfl)) (fun _ _ _ _ _ => pg_name (i := 21) scLa.nd rfl (Or.inl rfl)) (fun _ _ _ _ _ => pts_nil) (fun _ _ _ _ _ => (pe_op op_mod (pe_callTy call_int1 (by rfl) B.int PyProof.Rows.boot_int (pa_cons (pe_op op_add (pe_op op_add (pv 21) (pv 22)) pe_int) pa_nil)) (pv 2))))))) pss_nil)
      (pss_cons (ps_asg (pc DW GW r3 pass0 (pa_cons (pv 1) (pa_cons pe_int pa_nil))) (pg_tup rfl (pgs_cons (pg_name (i := 4) scLa.nd rfl (.inl rfl)) (pgs_cons (pg_name (i := 5) scLa.nd rfl (.inl rfl)) pgs_nil))))
      (pss_cons (ps_asg (pe_tup (pa_cons (pe_make MM GM rM rfl TM.g BM .nil passF (pa_cons (pv 3) pa_nil)) (pa_cons (pe_make MW GWi rM rfl TW.g BW .nil passF (pa_cons (pv 4) (pa_cons (pv 5) pa_nil))) (pa_cons (pc DA GA r1 pass0 (pa_cons (pv 1) (pa_cons (pv 2) pa_nil))) pa_nil)))) (pg_tup rfl (pgs_cons (pg_name (i := 18) scLa.nd rfl (.inr rfl)) (pgs_cons (pg_name (i := 20) scLa.nd rfl (.inr rfl)) (pgs_cons (pg_name (i := 17) scLa.nd rfl (.inr rfl)) pgs_nil)))))
      (pss_cons (ps_set (i := 19) scLa.nd rfl (.inr rfl) (pc DLS GLS r2 pass0 (pa_cons (pv 1) (pa_cons (pv 4) (pa_cons (pv 5) (pa_cons (pe_callB call_len_seq (by rfl) B.len PySem.boot_len (pa_cons (pv 3) pa_nil)) (pa_cons (pc DOf GOf r2 pass0 (pa_cons (pv 1) (pa_cons (pe_lst (pa_cons pe_int (pa_cons pe_int (pa_cons pe_int pa_nil)))) pa_nil))) pa_nil)))))))
      (pss_cons (ps_set (i := 6) scLa.nd rfl (.inl rfl) (pe_ifExp (pt_cmpR op_eq (pc DA GA r1 pass0 (pa_cons (pv 1) (pa_cons pe_int pa_nil))) pe_int (nomark _)) (pe_make MN GN rN rfl NT.g BN .nil passF (pa_cons (pv 18) (pa_cons (pv 20) (pa_cons (pv 17) pa_nil)))) (pe_makeK0 MN GN rN rfl NT.g (kb_ninit FN) passF (pk_cons (pv 17) (pk_cons (pv 20) (pk_cons (pv 18) pk_nil))))))
      (pss_cons (ps_asg (pe_tup (pa_cons (pe_op op_rep (pe_lst (pa_cons (pv 17) pa_nil)) (pv 4)) (pa_cons (pe_op op_rep (pe_lst (pa_cons (pv 17) pa_nil)) (pe_callB call_len_seq (by rfl) B.len PySem.boot_len (pa_cons (pv 5) pa_nil))) (pa_cons (pe_lst pa_nil) (pa_cons (pe_lst pa_nil) pa_nil))))) (pg_tup rfl (pgs_cons (pg_name (i := 7) scLa.nd rfl (.inl rfl)) (pgs_cons (pg_name (i := 8) scLa.nd rfl (.inl rfl)) (pgs_cons (pg_name (i := 9) scLa.nd rfl (.inl rfl)) (pgs_cons (pg_name (i := 10) scLa.nd rfl (.inl rfl)) pgs_nil))))))
      (pss_cons (ps_for PassesOwn.never rfl (pi_list (pv 19)) (pg_name (i := 11) scLa.nd rfl (.inl rfl))
        (pss_cons (ps_set (i := 12) scLa.nd rfl (.inl rfl) (pe_callB call_len_seq (by rfl) B.len PySem.boot_len (pa_cons (pv 9) pa_nil)))
      (pss_cons (ps_set (i := 13) scLa.nd rfl (.inl rfl) (pe_ifExp (pt_cmpR op_eq (pe_ix ix_tup (pv 11) pe_int (fun _ _ => rfl)) pe_str (nomark _)) (pe_lst (pa_cons pe_str (pa_cons (pe_ix ix_list (pv 8) (pe_ix ix_tup (pv 11) pe_int (fun _ _ => rfl)) (fun _ _ => rfl)) (pa_cons (pe_ix ix_list (pv 7) (pe_ix ix_list (pe_ix ix_list (pv 5) (pe_ix ix_tup (pv 11) pe_int (fun _ _ => rfl)) (fun _ _ => rfl)) pe_int (fun _ _ => rfl)) (fun _ _ => rfl)) (pa_cons (pe_ix ix_list (pv 7) (pe_ix ix_list (pe_ix ix_list (pv 5) (pe_ix ix_tup (pv 11) pe_int (fun _ _ => rfl)) (fun _ _ => rfl)) pe_int (fun _ _ => rfl)) (fun _ _ => rfl)) pa_nil))))) (pe_lst pa_nil)))
      (pss_cons (ps_if (pt_not (pt_val (pe_callG DI GI r10 hgd (pa_cons (pv 6) (pa_cons (pv 3) (pa_cons (pv 5) (pa_cons (pv 11) (pa_cons (pv 7) (pa_cons (pv 8) (pa_cons (pv 9) pa_nil)))))))))) (pss_one (ps_ret pe_bl)) pss_nil)
      (pss_cons (ps_set (i := 10) scLa.nd rfl (.inl rfl) (pe_ifExp (pt_cmpR op_eq (pe_callB call_len_seq (by rfl) B.len PySem.boot_len (pa_cons (pv 9) pa_nil)) (pv 12) (nomark _)) (pe_op op_cat (pv 10) (pe_lst (pa_cons (pv 13) pa_nil))) (pv 10)))
      (pss_one (ps_if (pt_cmpR op_ne (pe_callB (call_repr hgd hu) (by rfl) B.repr (by decide +kernel) (pa_cons (pe_tup (pa_cons (pe_fld (pv 6) rfl) (pa_cons (pe_fld (pv 6) rfl) (pa_cons (pe_fld (pv 6) rfl) pa_nil)))) pa_nil)) (pe_callB (call_repr hgd hu) (by rfl) B.repr (by decide +kernel) (pa_cons (pe_tup (pa_cons (pe_callTy call_tuple_of (by rfl) B.tuple PyProof.Rows.boot_tuple (pa_cons (pv 7) pa_nil)) (pa_cons (pe_callTy call_tuple_of (by rfl) B.tuple PyProof.Rows.boot_tuple (pa_cons (pv 8) pa_nil)) (pa_cons (pe_callTy call_tuple_of (by rfl) B.tuple PyProof.Rows.boot_tuple (pa_cons (pv 9) pa_nil)) pa_nil)))) pa_nil)) (nomark _)) (pss_one (ps_ret pe_bl)) pss_nil)))))))
      (pss_cons (ps_if (PW.pt (pw_or (pt_cmpR (op_neOwn GQm r2 IMj.ne TM.mo eqMa eqMf eqMb) (pe_fld (pv 6) rfl) (pv 18) (nomark _)) (pw_or (pt_cmpR (op_neOwn GQw r2 IW.ne IW.mo eqWa eqWf eqWb) (pe_fld (pv 6) rfl) (pv 20) (nomark _)) (pw_or1 (pt_cmpR op_ne (pe_fld (pv 6) rfl) (pv 17) (nomark _)))))) (pss_one (ps_ret pe_bl)) pss_nil)
      (pss_cons (ps_if (pt_cmpR op_ne (pe_callB (call_repr hgd hu) (by rfl) B.repr (by decide +kernel) (pa_cons (pc DSA GSA r9 passF (pa_cons (pv 18) (pa_cons (pv 20) (pa_cons (pv 17) (pa_cons (pe_fld (pv 6) rfl) pa_nil))))) pa_nil)) (pe_callB (call_repr hgd hu) (by rfl) B.repr (by decide +kernel) (pa_cons (pe_tup (pa_cons (pe_callTy call_tuple_of (by rfl) B.tuple PyProof.Rows.boot_tuple (pa_cons (pv 7) pa_nil)) (pa_cons (pe_callTy call_tuple_of (by rfl) B.tuple PyProof.Rows.boot_tuple (pa_cons (pv 8) pa_nil)) pa_nil))) pa_nil)) (nomark _)) (pss_one (ps_ret pe_bl)) pss_nil)
      (pss_cons (ps_if (pt_cmpR (neD (K := K) rfl hu) (pe_callW DSA GSA r9 (kb_sa DSA.F) passF (pk_cons (pe_callTy call_list_of (by rfl) B.list PyProof.Rows.boot_list (pa_cons (pv 9) pa_nil)) (pk_cons (pv 17) (pk_cons (pv 20) (pk_cons (pv 18) pk_nil))))) (pe_tup (pa_cons (pe_callTy call_tuple_of (by rfl) B.tuple PyProof.Rows.boot_tuple (pa_cons (pv 7) pa_nil)) (pa_cons (pe_callTy call_tuple_of (by rfl) B.tuple PyProof.Rows.boot_tuple (pa_cons (pv 8) pa_nil)) pa_nil))) (nomark _)) (pss_one (ps_ret pe_bl)) pss_nil)
      (pss_cons (ps_if (PW.pt (pw_and (pt_cmpR (neD (K := K) rfl hu) (pv 10) (pe_lst pa_nil) (nomark _)) (pw_and1 (pt_cmpR op_ne (pe_callB (call_repr hgd hu) (by rfl) B.repr (by decide +kernel) (pa_cons (pHeard (k := 9) (qn := qLa) (T := T) hd TB hgd (hr.mono (by decide)) rfl rfl hmT hun rfl (LamX.lamS_by (by rfl)) rfl (fun _ _ _ _ _ => rfl)
          (fun A outer s H E f c' hr2 => pc DSA GSA hr2 (pass1 (E := E) (takes_of rfl rfl rfl rfl)) (pa_cons (pv 18) (pa_cons (pv 20) (pa_cons (pv 17) (pa_cons (pv 19) pa_nil)))))) pa_nil)) (pe_callB (call_repr hgd hu) (by rfl) B.repr (by decide +kernel) (pa_cons (pe_ix ix_list (pv 10) pe_int (fun _ _ => rfl)) pa_nil)) (nomark _))))) (pss_one (ps_ret pe_bl)) pss_nil)
      (pss_cons (ps_for PassesOwn.never rfl (pi_range1 (by rfl) B.range (pa_cons (pv 4) pa_nil)) (pg_name (i := 14) scLa.nd rfl (.inl rfl))
        (pss_cons (ps_par (i := 15) (j := 16) rfl scLa.nd rfl rfl (by decide) rfl rfl (pa_cons (pc DJ GJ r1 pass0 (pa_cons (pv 4) (pa_cons (pv 5) (pa_cons (pv 14) pa_nil)))) (pa_cons (pv 17) pa_nil)) rfl)
      (pss_cons (ps_for PassesOwn.never rfl (pi_list (pv 19)) (pg_name (i := 11) scLa.nd rfl (.inl rfl)) (pss_one (ps_if (PW.pt (pw_and (pt_cmpR op_eq (pe_ix ix_tup (pv 11) pe_int (fun _ _ => rfl)) pe_str (nomark _)) (pw_and1 (pt_cmpR op_in_seq (pe_ix ix_tup (pv 11) pe_int (fun _ _ => rfl)) (pv 15) rfl)))) (pss_one (ps_set (i := 16) scLa.nd rfl (.inl rfl) (pe_ix ix_list (pe_ix ix_list (pv 3) (pe_ix ix_tup (pv 11) pe_int (fun _ _ => rfl)) (fun _ _ => rfl)) (pv 16) (fun _ _ => rfl)))) pss_nil)))
      (pss_cons (ps_if (pt_cmpR op_ne (pe_callB call_reprS (by rfl) B.repr (by decide +kernel) (pa_cons (pc DT GT r7 passF (pa_cons (pv 18) (pa_cons (pv 20) (pa_cons (pv 17) (pa_cons (pv 19) (pa_cons (pv 14) pa_nil)))))) pa_nil)) (pe_callB call_reprS (by rfl) B.repr (by decide +kernel) (pa_cons (pv 16) pa_nil)) (nomark _)) (pss_one (ps_ret pe_bl)) pss_nil)
      (pss_one (ps_if (pt_cmpR op_ne (pe_callW DT GT r7 (kb_to DT.F) passF (pk_cons (pv 14) (pk_cons (pe_callTy call_list_of (by rfl) B.list PyProof.Rows.boot_list (pa_cons (pv 19) pa_nil)) (pk_cons (pv 17) (pk_cons (pv 20) (pk_cons (pv 18) pk_nil)))))) (pv 16) (nomark _)) (pss_one (ps_ret pe_bl)) pss_nil))))))
      (pss_cons (ps_if (pt_cmpR op_ne (pe_callB (call_repr hgd hu) (by rfl) B.repr (by decide +kernel) (pa_cons (pc DK GK r6 passF (pa_cons (pv 18) (pa_cons (pv 20) (pa_cons (pe_lc (own := [("_law_step", 11)]) (g := gName 11) (tt := tYes) rfl scLa.nd (pi_list (pv 19)) (blkOk_by (N := nLa) (sc := defScope sLaw) (by decide +kernel)) (fun _ _ _ _ _ => pg_name (i := 11) scLa.nd rfl (Or.inl rfl)) (fun _ _ _ _ _ => pts_nil) (fun _ _ _ _ _ => pe_callTy (clist (K := K) rfl) (by rfl) B.list PyProof.Rows.boot_list (pa_cons (pv 11) pa_nil))) pa_nil)))) pa_nil)) (pe_callB (call_repr hgd hu) (by rfl) B.repr (by decide +kernel) (pa_cons (pe_callTy call_tuple_of (by rfl) B.tuple PyProof.Rows.boot_tuple (pa_cons (pv 19) pa_nil)) pa_nil)) (nomark _)) (pss_one (ps_ret pe_bl)) pss_nil)
      (pss_cons (ps_if (PW.pt (pw_or (pt_cmpR (neD (K := K) rfl hu) (pe_callW DK GK r6 (kb_cs DK.F) passF (pk_cons (pv 19) (pk_cons (pv 20) (pk_cons (pv 18) pk_nil)))) (pe_callTy call_tuple_of (by rfl) B.tuple PyProof.Rows.boot_tuple (pa_cons (pv 19) pa_nil)) (nomark _)) (pw_or1 (pt_cmpR op_ne (pe_methW (pv 6) NT.cl mD GD r5 kD passF (pk_cons pe_int (pk_cons pe_int pk_nil))) (pe_ix ix_list (pe_ix ix_list (pv 3) pe_int (fun _ _ => rfl)) (pe_ix ix_list (pv 7) pe_int (fun _ _ => rfl)) (fun _ _ => rfl)) (nomark _))))) (pss_one (ps_ret pe_bl)) pss_nil)
      (pss_one (ps_ret (pe_callG DO GO r12 hgd (pa_cons (pv 1) (pa_cons (pv 18) (pa_cons (pv 20) (pa_cons (pv 6) (pa_cons (pv 19) pa_nil)))))))))))))))))))))))), ?_⟩
    have hu0 := hu
    refine ⟨_, rfl, a, ns, rfl, hS, hlen, fun b l H1 sm1 hb0 hl0 hb1 => ?_⟩
    have hT1 := hT.ext sm1
    clear hS hlen
    refine gn ?_
    dsimp only [List.set]
    refine ⟨_, rfl, b, l, 5, rfl, hb1, by decide, by decide, fun r H2 r0 r5' d2 => ⟨_, _, rfl, rfl, ?_⟩⟩
    have hT2 := tabs_dl hT1 hb1 d2
    have hb2 := d2.1
    obtain ⟨n, en, n1, n5⟩ : ∃ n : Nat, 1 + r = (n : Int) ∧ 1 ≤ n ∧ n ≤ 5 := ⟨(1 + r).toNat, by omega, by omega, by omega⟩
    refine gn ?_
    dsimp only [List.set]
    rw [en]
    clear hb1 hT1 sm1 hb0 hl0 d2 hT
    refine ⟨_, rfl, b, l, 3, rfl, hb2, by decide, by decide, fun r3 H3 r30 r33 d3 => ⟨_, _, rfl, rfl, ?_⟩⟩
    have hT3 := tabs_dl hT2 hb2 d3
    have hb3 := d3.1
    obtain ⟨m, em, m1, m3⟩ : ∃ m : Nat, 1 + r3 = (m : Int) ∧ 1 ≤ m ∧ m ≤ 3 := ⟨(1 + r3).toNat, by omega, by omega, by omega⟩
    refine nilP ⟨1 + r3, rfl, by omega, by omega, fun D0 hD0 => lc_range (fun i H' => TbI b l n H3 D0 i H') (TbI.init hb3 hD0) ?_ ?_⟩
    · rintro i H4 hi I4
      refine ⟨rfl, ?_⟩
      refine ⟨_, rfl, (n : Int), rfl, by omega, by omega, fun D1 hD1 => lc_range (fun j H' => Dl b l H4 H' ∧ ∃ t : List Int, H' D1 = some (.lst (vrow t)) ∧ t.length = j ∧ ∀ x ∈ t, 0 ≤ x ∧ x < (n : Int)) ⟨(Dl.refl I4.d.1).new hD1, [], upd_same, rfl, fun x hx => nomatch hx⟩ ?_ ?_⟩
      · rintro j H5 hj ⟨d5, t, ht, tl, tr⟩
        refine ⟨rfl, ?_⟩
        refine ⟨_, rfl, _, rfl, b, l, (n : Int), rfl, d5.1, by omega, by omega, fun x H6 x0 x1 d6 => ?_⟩
        have n1b := I4.d.1.nb hD1
        have n1l := I4.d.1.nl hD1
        refine ⟨_, d6.2 _ _ ht n1b n1l, szl (by rw [vrow_len]; omega), (d5.trans d6).put hD1 n1b n1l, t ++ [x], by rw [upd_same, vrow, vrow, List.map_append]; rfl, by rw [List.length_append, tl]; rfl, fun y hy => ?_⟩
        rcases List.mem_append.mp hy with z | z
        · exact tr y z
        · rw [List.mem_singleton.mp z]; exact ⟨x0, x1⟩
      · rintro H5 ⟨d5, t, ht, tl, tr⟩
        have tl' : t.length = n := by rw [tl, Int.toNat_natCast]
        obtain ⟨acc, h1, h2, h3⟩ := I4.put hD1 d5 ht tl' tr
        exact ⟨acc, h1, by rw [h2]; exact szl (by omega), h3⟩
    · intro H5 I5
      have hT5 := tabs_dl hT3 hb3 I5.d
      have hb5 := I5.d.1
      obtain ⟨tas, tb, tbo, wf, ens, tb8⟩ := I5.done n1 (by omega) (by omega) (by omega)
      refine gn ?_
      dsimp only [List.set]
      clear I5 hT2 hT3 hb2 hb3 d3 hD0
      refine seqG (fun σ H' => ∃ (p : Addr) (tas : List Addr) (tb : Ts), σ = [some (.ref a), some (.ref b), some (.int (n : Int)), some (.ref p), none, none, none, none, none, none, none, none, none, none, none, none, none, none, none, none, none, none, none] ∧ DealO H' b l ∧ LamX.Tabs T H' ∧ TbO b l H' p tas tb ∧ Wf tb ∧ nS tb = n ∧ tb.length ≤ 8) ?_ fun go => ?_
      · rintro σ H6 ⟨p, tas, tb, rfl, hb6, hT6, tbo, wf, ens, tb8⟩
        refine ⟨_, rfl, b, l, 5, rfl, hb6, by decide, by decide, fun qw tl as ts many H7 d7 hqw tie ftl wv hmk htl => ?_⟩
        have hT7 := tabs_dl hT6 hb6 d7
        have tbo7 := tbo.dl d7
        have hb7 := d7.1
        refine ⟨qw, _, rfl, SqT.of hqw, rfl, _, _, rfl, _, _, rfl, rfl, ?_⟩
        clear tbo hT6 hb6 hqw ftl d7
        refine ⟨_, rfl, fun mc mdx hm0 hmdx nem => ?_⟩
        have smm := mkSameN (o1 := HO.own mc) (o2 := HO.ins M mdx []) hm0 hmdx nem
        refine ⟨mc, mdx, .ref p, some ((vts tb).map some), rfl, upd_same, (tbo7.t.same smm).mv, fun z hz => (by rw [chk_wf wf] at hz; cases hz), fun _ ts' es ta H8 k8 hM => ⟨rfl, ?_⟩⟩
        obtain rfl := vts_inj es
        have s8 : Same H7 H8 := fun c u ec => k8 c u (smm c u ec) (ne_of_none ec hm0)
        clear k8 smm hm0 hmdx es
        have tbo8 := tbo7.same s8
        have tie8 := tie.same s8
        have hb8 := hb7.same s8
        have hT8 := hT7.ext s8
        refine ⟨_, rfl, _, rfl, fun wc wdx hw0 hwdx new => ?_⟩
        have smw := mkSameN (o1 := HO.own wc) (o2 := HO.ins W wdx []) hw0 hwdx new
        refine ⟨wc, wdx, many, tl, as, ts, rfl, upd_same, smw _ _ tie8.h, tie8.ps.same smw, wv, fun H9 k9 hWb => ⟨rfl, ?_⟩⟩
        have s9 : Same H8 H9 := fun c u ec => k9 c u (smw c u ec) (ne_of_none ec hw0)
        have hM9 := hM.same s9
        have tbo9 := tbo8.same s9
        have tie9 := tie8.same s9
        have hb9 := hb8.same s9
        have hT9 := hT8.ext s9
        clear k9 smw hw0 hwdx tbo8 tie8 hb8 hT8 tbo7 tie hb7 hT7 hM
        refine ⟨_, rfl, _, rfl, b, l, (n : Int), rfl, hb9, by omega, by omega, fun fi H10 f0 f1 d10 => ⟨(by show 3 ≤ sizeLine; decide), fun tp htp => ?_⟩⟩
        have s11 := same_new (o := HO.tup [V.ref mc, .ref wc, .int fi]) htp
        have htp1 : (upd H10 tp (HO.tup [V.ref mc, .ref wc, .int fi])) tp = some (.tup [V.ref mc, .ref wc, .int fi]) := upd_same
        have hM11 := (hM9.kp (Kp.dl hb9 d10)).same s11
        have hW11 := (hWb.kp (Kp.dl hb9 d10)).same s11
        have tbo11 := (tbo9.dl d10).same s11
        have tie11 := (tie9.dl hb9 d10).same s11
        have hb11 := d10.1.same s11
        have hT11 := (tabs_dl hT9 hb9 d10).ext s11
        generalize upd H10 tp (HO.tup [V.ref mc, .ref wc, .int fi]) = H11 at htp1 hM11 hW11 tbo11 tie11 hb11 hT11 ⊢
        clear s11 hM9 hWb tbo9 tie9 hb9 hT9 d10 htp
        refine ⟨tp, _, rfl, SqT.of htp1, rfl, _, _, rfl, _, _, rfl, _, _, rfl, rfl, ?_⟩
        have elt : ((tas.map V.ref).length : Int) = (tb.length : Int) := by rw [List.length_map, tbo11.t.2.1]
        refine ⟨_, rfl, _, rfl, _, rfl, _, rfl, p, _, rfl, .inl (SqL.of tbo11.t.1), ?_⟩
        rw [elt]
        refine ⟨_, rfl, (by show 3 ≤ sizeLine; decide), fun p3 hp3 => ?_⟩
        have s12 := same_new (o := HO.lst [V.int 0, .int 3, .int 14]) hp3
        have h3 : (upd H11 p3 (HO.lst [V.int 0, .int 3, .int 14])) p3 = some (.lst [.int 0, .int 3, .int 14]) := upd_same
        have n3b := hb11.nb hp3
        have n3l := hb11.nl hp3
        have hM12 := hM11.same s12
        have hW12 := hW11.same s12
        have tbo12 := tbo11.same s12
        have tie12 := tie11.same s12
        have hb12 := hb11.same s12
        have hT12 := hT11.ext s12
        generalize upd H11 p3 (HO.lst [V.int 0, .int 3, .int 14]) = H12 at h3 hM12 hW12 tbo12 tie12 hb12 hT12 ⊢
        clear hM11 hW11 tbo11 tie11 hb11 hT11 s12 hp3
        refine nilP ⟨b, l, p3, _, rfl, hb12, h3, n3b, n3l, (by simp), (by simp), fun j v H13 hj d13 => ?_⟩
        obtain ⟨mm, rfl, m14⟩ : ∃ mm : Nat, v = .int (mm : Int) ∧ mm ≤ 14 := by
          match j, hj with
          | 0, hj => exact ⟨0, (Option.some.inj hj).symm, by decide⟩
          | 1, hj => exact ⟨3, (Option.some.inj hj).symm, by decide⟩
          | 2, hj => exact ⟨14, (Option.some.inj hj).symm, by decide⟩
          | (j + 3), hj => cases hj
        have hM13 := hM12.kp (Kp.dl hb12 d13)
        have hW13 := hW12.kp (Kp.dl hb12 d13)
        have tbo13 := tbo12.dl d13
        have tie13 := tie12.dl hb12 d13
        have hT13 := tabs_dl hT12 hb12 d13
        have hb13 := d13.1
        clear hM12 hW12 tbo12 tie12 hb12 hT12 d13 h3 hj
        have t1 := wf.t1
        refine nilP ⟨b, l, tl, as, ts, many, tb.length, mm, rfl, hb13, tie13, wv.n1, by have := wv.n12; omega, t1, by omega, by omega, fun pp scs sts H14 d14 hpp sl ok ln => ?_⟩
        have bs : Bs M W b l p tl pp T ⟨mc, ta, wc, tb, many, ts, fi⟩ tas as scs sts H14 := ⟨d14.1, tabs_dl hT13 hb13 d14, tbo13.dl d14, tie13.dl hb13 d14, ⟨hM13.kp (Kp.dl hb13 d14), hW13.kp (Kp.dl hb13 d14), wf, wv⟩, sl, ok, by omega, ⟨f0, by show fi < (nS tb : Int); omega⟩, by show nS tb ≤ 5; omega, tie13.ab hb13⟩
        clear hM13 hW13 tbo13 tie13 hT13 hb13 d14 sl ok ln hpp htp1
        refine gn ?_
        dsimp only [List.set]
        generalize hev : (⟨mc, ta, wc, tb, many, ts, fi⟩ : Ev) = e at bs
        have em1 : mc = e.m := by rw [← hev]
        have em2 : wc = e.w := by rw [← hev]
        have em3 : many = e.n := by rw [← hev]
        have em4 : fi = e.fi := by rw [← hev]
        subst em1 em2 em3 em4
        clear hev f0 f1 wf wv ens tb8 hmk htl elt t1
        -- the net
        refine seqG (fun σ H' => ∃ (c : Addr) (H0 : Hp), σ = [some (.ref a), some (.ref b), some (.int (n : Int)), some (.ref p), some (.int (e.n : Int)), some (.ref tl), some (.ref c), none, none, none, none, none, none, none, none, none, none, some (.int e.fi), some (.ref e.m), some (.ref pp), some (.ref e.w), none, none] ∧ Bs M W b l p tl pp T e tas as scs sts H' ∧ NetAt N M W H' c e (sn0 e) ∧ H0 c = none ∧ Bs M W b l p tl pp T e tas as scs sts H0) ?_ fun go3 => ?_
        · rintro σ H15 ⟨c, H0, rfl, bs15, net, hc0, bs0⟩
          have n12 := bs15.ev.wv.n12
          have nn1 := bs15.ev.wv.n1
          have t20 := bs15.ev.wv.t20
          have nec : ∀ {x : Addr} {o : HO}, H0 x = some o → x ≠ c := fun h => ne_of_none h hc0
          have npc := nec bs0.tab.t.1
          have ntc := nec bs0.tie.h
          have nsc := nec bs0.st.h
          have nac : ∀ a ∈ tas, a ≠ c := fun a ha => by
            obtain ⟨i, hi⟩ := List.getElem?_of_mem ha
            obtain ⟨u, hu⟩ := ex_at (l := e.tb) (i := i) (by rw [← bs0.tab.t.2.1]; exact lt_at hi)
            exact nec (bs0.tab.t.2.2 i a u hi hu)
          have nbc : ∀ a ∈ as, a ≠ c := fun a ha => by
            obtain ⟨i, hi⟩ := List.getElem?_of_mem ha
            obtain ⟨u, hu⟩ := ex_at (l := e.ts) (i := i) (by rw [← bs0.tie.ps.1]; exact lt_at hi)
            exact nec (bs0.tie.ps.2 i a u hi hu)
          clear nec hc0 bs0 bs
          refine ⟨_, rfl, (by show 1 ≤ sizeLine; decide), fun x1 hx1 => ?_⟩
          have sx := same_new (o := HO.lst [V.int e.fi]) hx1
          refine ⟨_, rfl, x1, (e.n : Int), [.int e.fi], rfl, rfl, upd_same, by omega, by omega, (by rw [sizeLine_eq]; simp only [List.length_cons, List.length_nil]; omega), fun sl hsl => ?_⟩
          rw [Int.toNat_natCast, rep_v]
          have s16 := sx.trans (same_new (o := HO.lst (vrow (List.replicate e.n e.fi))) hsl)
          have hs16 : (upd (upd H15 x1 (HO.lst [V.int e.fi])) sl (HO.lst (vrow (List.replicate e.n e.fi)))) sl = some (.lst (vrow (List.replicate e.n e.fi))) := upd_same
          have sl0 : H15 sl = none := sx.free hsl
          generalize upd (upd H15 x1 (HO.lst [V.int e.fi])) sl (HO.lst (vrow (List.replicate e.n e.fi))) = H16 at s16 hs16 ⊢
          clear sx hx1 hsl
          have bs16 := bs15.same s16
          have net16 := net.same s16
          have ela : ((as.map V.ref).length : Int) = (e.ts.length : Int) := by rw [List.length_map, bs16.tie.ps.1]
          refine ⟨_, rfl, (by show 1 ≤ sizeLine; decide), fun x2 hx2 => ?_⟩
          have sx := same_new (o := HO.lst [V.int e.fi]) hx2
          refine ⟨_, rfl, tl, _, rfl, .inl (SqL.of (sx _ _ bs16.tie.h)), ?_⟩
          rw [ela]
          refine ⟨x2, (e.ts.length : Int), [.int e.fi], rfl, rfl, upd_same, by omega, by omega, (by rw [sizeLine_eq]; simp only [List.length_cons, List.length_nil]; omega), fun al hal => ?_⟩
          rw [Int.toNat_natCast, rep_v]
          have s17 := sx.trans (same_new (o := HO.lst (vrow (List.replicate e.ts.length e.fi))) hal)
          have ha17 : (upd (upd H16 x2 (HO.lst [V.int e.fi])) al (HO.lst (vrow (List.replicate e.ts.length e.fi)))) al = some (.lst (vrow (List.replicate e.ts.length e.fi))) := upd_same
          have al0 : H16 al = none := sx.free hal
          generalize upd (upd H16 x2 (HO.lst [V.int e.fi])) al (HO.lst (vrow (List.replicate e.ts.length e.fi))) = H17 at s17 ha17 ⊢
          have hs17 := s17 _ _ hs16
          have bs17 := bs16.same s17
          have net17 := net16.same s17
          clear sx hx2 hal
          refine ⟨(by show 0 ≤ sizeLine; decide), fun dl hdl => ?_⟩
          have s18 := same_new (o := HO.lst []) hdl
          have hd18 : (upd H17 dl (HO.lst [])) dl = some (.lst []) := upd_same
          have hs18 := s18 _ _ hs17
          have ha18 := s18 _ _ ha17
          have bs18 := bs17.same s18
          have net18 := net17.same s18
          generalize upd H17 dl (HO.lst []) = H18 at s18 hd18 hs18 ha18 bs18 net18 ⊢
          refine ⟨(by show 0 ≤ sizeLine; decide), fun br hbr => ?_⟩
          have s19 := same_new (o := HO.lst []) hbr
          have hb19 : (upd H18 br (HO.lst [])) br = some (.lst []) := upd_same
          have hs19 := s19 _ _ hs18
          have ha19 := s19 _ _ ha18
          have hd19 := s19 _ _ hd18
          have bs19 := bs18.same s19
          have net19 := net18.same s19
          generalize upd H18 br (HO.lst []) = H19 at s19 hb19 hs19 ha19 hd19 bs19 net19 ⊢
          refine nilP ⟨(by show 4 ≤ sizeLine; decide), fun tp htp => ?_⟩
          have s20 := same_new (o := HO.tup [V.ref sl, .ref al, .ref dl, .ref br]) htp
          have ht20 : (upd H19 tp (HO.tup [V.ref sl, .ref al, .ref dl, .ref br])) tp = some (.tup [V.ref sl, .ref al, .ref dl, .ref br]) := upd_same
          have hs := s20 _ _ hs19
          have ha := s20 _ _ ha19
          have hd0 := s20 _ _ hd19
          have hb0 := s20 _ _ hb19
          have bs := bs19.same s20
          have net0 := net19.same s20
          generalize upd H19 tp (HO.tup [V.ref sl, .ref al, .ref dl, .ref br]) = HB at ht20 hs ha hd0 hb0 bs net0 ⊢
          obtain ⟨dxn, _, _, _, hcn, _⟩ := id net.ob
          have nx : Nx ⟨b, l, c, sl, al, dl⟩ := ⟨bs15.dl.nb sl0, bs15.dl.nl sl0, bs16.dl.nb al0, bs16.dl.nl al0, bs17.dl.nb hdl, bs17.dl.nl hdl, ne_of_none hs16 al0, ne_of_none hs17 hdl, ne_of_none ha17 hdl⟩
          have nx1 : ∀ {x : Addr} {o : HO}, H15 x = some o → x ≠ b → x ≠ l → x ≠ c → x ∉ (⟨b, l, c, sl, al, dl⟩ : Ad).xs := fun {x o} h k1 k2 k3 m => by
            simp only [Ad.xs, List.mem_cons, List.mem_nil_iff, or_false] at m
            rcases m with m | m | m | m | m | m
            · exact k1 m
            · exact k2 m
            · exact k3 m
            · exact ne_of_none h sl0 m
            · exact ne_of_none (s16 _ _ h) al0 m
            · exact ne_of_none (s17 _ _ (s16 _ _ h)) hdl m
          have nbr : br ∉ (⟨b, l, c, sl, al, dl⟩ : Ad).xs := fun m => by
            simp only [Ad.xs, List.mem_cons, List.mem_nil_iff, or_false] at m
            rcases m with m | m | m | m | m | m
            · exact bs18.dl.nb hbr m
            · exact bs18.dl.nl hbr m
            · exact ne_of_none (s18 _ _ (s17 _ _ (s16 _ _ hcn))) hbr m.symm
            · exact ne_of_none hs18 hbr m.symm
            · exact ne_of_none ha18 hbr m.symm
            · exact ne_of_none hd18 hbr m.symm
          have sf : Sf ⟨b, l, c, sl, al, dl⟩ HB p tl tas as e.tb e.ts := ⟨bs.tab.t, bs.tie.h, bs.tie.ps, nx1 bs15.tab.t.1 bs15.tab.n.1 bs15.tab.n.2 npc, nx1 bs15.tie.h bs15.tie.nb bs15.tie.nl ntc, fun x hx => (by
            obtain ⟨i, hi⟩ := List.getElem?_of_mem hx
            obtain ⟨u, hu⟩ := ex_at (l := e.tb) (i := i) (by rw [← bs15.tab.t.2.1]; exact lt_at hi)
            exact nx1 (bs15.tab.t.2.2 i x u hi hu) (bs15.tab.r x hx).1 (bs15.tab.r x hx).2 (nac x hx)), fun x hx => (by
            obtain ⟨i, hi⟩ := List.getElem?_of_mem hx
            obtain ⟨u, hu⟩ := ex_at (l := e.ts) (i := i) (by rw [← bs15.tie.ps.1]; exact lt_at hi)
            exact nx1 (bs15.tie.ps.2 i x u hi hu) (bs15.ab x hx) (bs15.tie.na x hx) (nbc x hx))⟩
          have npp : pp ∉ (⟨b, l, c, sl, al, dl⟩ : Ad).xs := nx1 bs15.st.h bs15.st.nb bs15.st.nl nsc
          have bk0 : BkL ⟨b, l, c, sl, al, dl⟩ HB br [] [] := ⟨hb0, rfl, (fun i a q e1 e2 => by cases e1), nbr, fun a h => nomatch h⟩
          have dy0 : Dy N M W ⟨b, l, c, sl, al, dl⟩ e (sn0 e) (sn0 e).ss (sn0 e).ar [] [] HB := ⟨net0, hs, ha, hd0, rfl, fun i a st e1 e2 => by cases e1⟩
          have lw0 : Lw ⟨b, l, c, sl, al, dl⟩ T HB HB := .refl bs.dl bs.cd
          refine ⟨tp, _, rfl, SqT.of ht20, rfl, _, _, rfl, _, _, rfl, _, _, rfl, _, _, rfl, rfl, ?_⟩
          have hpp := bs.st.h
          have hst := bs.st.ps
          have hok := bs.ok
          have hl14 := bs.len
          have hfi := bs.fi
          have hn5 := bs.n5
          have hev := bs.ev
          clear net net16 net17 net18 net19 net0 bs15 bs16 bs17 bs18 bs19 bs hs hs16 hs17 hs18 hs19 ha ha17 ha18 ha19 hd0 hd18 hd19 hb0 hb19 s16 s17 s18 s19 s20 sl0 al0 hdl hbr htp ht20 hcn npc ntc nsc nac nbc nx1 nbr ela
          generalize hA : (⟨b, l, c, sl, al, dl⟩ : Ad) = A at nx sf npp bk0 dy0 lw0
          have A1 : b = A.b := by rw [← hA]
          have A2 : l = A.l := by rw [← hA]
          have A3 : c = A.c := by rw [← hA]
          have A4 : sl = A.sl := by rw [← hA]
          have A5 : al = A.al := by rw [← hA]
          have A6 : dl = A.dl := by rw [← hA]
          subst A1 A2 A3 A4 A5 A6
          clear hA
          -- the steps
          refine ⟨_, rfl, pp, rfl, ⟨_, SqL.of hpp⟩, for_list (K := K) (a := pp) (xs := scs.map V.ref) (fun i σ H' => ∃ (s : Sn) (cs kas : List Addr) (br : Addr) (bk : List (Int × Int × Int)) (v11 v12 v13 : Option V), σ = [some (.ref a), some (.ref A.b), some (.int (n : Int)), some (.ref p), some (.int (e.n : Int)), some (.ref tl), some (.ref A.c), some (.ref A.sl), some (.ref A.al), some (.ref A.dl), some (.ref br), v11, v12, v13, none, none, none, some (.int e.fi), some (.ref e.m), some (.ref pp), some (.ref e.w), none, none] ∧ Lw A T HB H' ∧ Dy N M W A e s s.ss s.ar cs s.ds H' ∧ LR e sts i s bk ∧ BkL A H' br kas bk)
            ⟨sn0 e, [], [], br, [], none, none, none, rfl, lw0, dy0, LR.init e sts, bk0⟩ (fun i σ H' _ ⟨_, _, _, _, _, _, _, _, _, lw, _⟩ => SqL.of (lw.ks.lst hpp npp)) ?_ ?_⟩
          · rintro i x σ H1 hx ⟨s, cs, kas, br, bk, v11, v12, v13, rfl, lw, dy, lr, bkl⟩
            obtain ⟨u, st, rfl, hu', hsi, hus⟩ := hst.get hx
            have hus1 : H1 u = some (.tup (stV st)) := lw.ks.tup hus (fun m => by
              simp only [Ad.xs, List.mem_cons, List.mem_nil_iff, or_false] at m
              obtain ⟨_, ns', z', _, g2, g3⟩ := lw0.dl
              obtain ⟨dxn, _, _, _, gc, _⟩ := dy0.net.ob
              rcases m with m | m | m | m | m | m
              · rw [m, g2] at hus; cases hus
              · rw [m, g3] at hus; cases hus
              · rw [m, gc] at hus; cases hus
              · rw [m, dy0.sh] at hus; cases hus
              · rw [m, dy0.ah] at hus; cases hus
              · rw [m, dy0.dh] at hus; cases hus)
            have hoks := hok st (List.mem_of_getElem? hsi)
            have hi14 : i < 14 := by have := lt_at hsi; omega
            have ldc : (cs.map V.ref).length = s.ds.length := by rw [List.length_map, dy.ps.1]
            have lds := lr.len
            refine gn ?_
            dsimp only [List.set]
            refine ⟨_, rfl, A.dl, _, rfl, .inl (SqL.of dy.dh), ?_⟩
            rw [ldc]
            refine gn ?_
            dsimp only [List.set]
            -- what is due
            refine seqG (fun σ H' => ∃ du : Addr, σ = [some (.ref a), some (.ref A.b), some (.int (n : Int)), some (.ref p), some (.int (e.n : Int)), some (.ref tl), some (.ref A.c), some (.ref A.sl), some (.ref A.al), some (.ref A.dl), some (.ref br), some (.ref u), some (.int (s.ds.length : Int)), some (.ref du), none, none, none, some (.int e.fi), some (.ref e.m), some (.ref pp), some (.ref e.w), none, none] ∧ Same H1 H' ∧ du ∉ A.xs ∧ ∀ x1 x2 x3, dueT e s st x1 x2 x3 → H' du = some (.lst (unL x1 x2 x3))) ?_ fun go4 => ?_
            · rintro σ H2 ⟨du, rfl, sm2, ndu, hdu⟩
              have lw2 := lw.same sm2
              have dy2 := dy.same sm2
              have hus2 := sm2 _ _ hus1
              have bkl2 := bkl.ks (Same.ks sm2)
              -- the step itself
              refine seqG (fun σ H' => σ = [some (.ref a), some (.ref A.b), some (.int (n : Int)), some (.ref p), some (.int (e.n : Int)), some (.ref tl), some (.ref A.c), some (.ref A.sl), some (.ref A.al), some (.ref A.dl), some (.ref br), some (.ref u), some (.int (s.ds.length : Int)), some (.ref du), none, none, none, some (.int e.fi), some (.ref e.m), some (.ref pp), some (.ref e.w), none, none] ∧ Lw A T HB H' ∧ Ks A.xs H2 H' ∧ ((∃ s' cs', StR e s st (some s') ∧ Dy N M W A e s' s'.ss s'.ar cs' s'.ds H') ∨ (StR e s st none ∧ Dy N M W A e s s.ss s.ar cs s.ds H'))) ?_ fun go5 => ?_
              · rintro σ H3 ⟨rfl, lw3, k3, alt⟩
                have bkl3 := bkl2.ks k3
                refine seqG (fun σ H' => ∃ (s' : Sn) (cs' kas' : List Addr) (br' : Addr) (bk' : List (Int × Int × Int)), σ = [some (.ref a), some (.ref A.b), some (.int (n : Int)), some (.ref p), some (.int (e.n : Int)), some (.ref tl), some (.ref A.c), some (.ref A.sl), some (.ref A.al), some (.ref A.dl), some (.ref br'), some (.ref u), some (.int (s.ds.length : Int)), some (.ref du), none, none, none, some (.int e.fi), some (.ref e.m), some (.ref pp), some (.ref e.w), none, none] ∧ Lw A T HB H' ∧ Dy N M W A e s' s'.ss s'.ar cs' s'.ds H' ∧ LR e sts (i + 1) s' bk' ∧ BkL A H' br' kas' bk') ?_ fun go6 => ?_
                · rintro σ H4 ⟨s', cs', kas', br', bk', rfl, lw4, dy4, lr4, bkl4⟩
                  obtain ⟨dx, sa, aa, pa, k1, k2, k3', ras, kp, kr⟩ := id dy4.net.ob
                  have s12 := dy4.net.ev.wf.s12
                  have t8 := dy4.net.ev.wf.t8
                  have pl : Pl (dNet s'.ss s'.ar s'.ds) 3 10000 := pl_net (n := e.n) (t := e.ts.length) (d := e.tb.length) (by rw [dy4.net.ls]; exact n12) (by rw [dy4.net.la]; exact t20) (by have := lr4.len; omega) (fun i hi => by have := dy4.net.bs i hi; omega) (fun i hi => by have := dy4.net.ba i hi; omega) (by omega) (by omega) (by omega) (fun y hy => hok y (lr4.sub y hy))
                  refine ⟨_, rfl, A.c, N, dx, _, _, rfl, k1, NT.cl, NT.nS, nf_s _ _ _ _ _ _, _, rfl, A.c, N, dx, _, _, rfl, k1, NT.cl, NT.nA, nf_a _ _ _ _ _ _, _, rfl, A.c, N, dx, _, _, rfl, k1, NT.cl, NT.nP, nf_p _ _ _ _ _ _, (by show 3 ≤ sizeLine; decide), fun t1 ht1 => ?_⟩
                  have e1 := same_new (o := HO.tup [V.ref sa, .ref aa, .ref pa]) ht1
                  have g1 : (upd H4 t1 (HO.tup [V.ref sa, .ref aa, .ref pa])) t1 = some (.tup [V.ref sa, .ref aa, .ref pa]) := upd_same
                  generalize upd H4 t1 (HO.tup [V.ref sa, .ref aa, .ref pa]) = G1 at e1 g1 ⊢
                  have d1 := dy4.same e1
                  refine nilP (net_rep g1 (e1 _ _ k2) (e1 _ _ k3') (e1 _ _ kp) (kr.same e1) pl ?_)
                  refine ⟨_, rfl, A.sl, _, rfl, .inl ⟨SqL.of d1.sh, fun t2 ht2 => ?_⟩⟩
                  have e2 := same_new (o := HO.tup (vrow s'.ss)) ht2
                  have g2 : (upd G1 t2 (HO.tup (vrow s'.ss))) t2 = some (.tup (vrow s'.ss)) := upd_same
                  generalize upd G1 t2 (HO.tup (vrow s'.ss)) = G2 at e2 g2 ⊢
                  have d2 := d1.same e2
                  refine ⟨_, rfl, A.al, _, rfl, .inl ⟨SqL.of d2.ah, fun t3 ht3 => ?_⟩⟩
                  have e3 := same_new (o := HO.tup (vrow s'.ar)) ht3
                  have g3 : (upd G2 t3 (HO.tup (vrow s'.ar))) t3 = some (.tup (vrow s'.ar)) := upd_same
                  generalize upd G2 t3 (HO.tup (vrow s'.ar)) = G3 at e3 g3 ⊢
                  have d3 := d2.same e3
                  refine ⟨_, rfl, A.dl, _, rfl, .inl ⟨SqL.of d3.dh, fun t4 ht4 => ?_⟩⟩
                  have e4 := same_new (o := HO.tup (cs'.map V.ref)) ht4
                  have g4 : (upd G3 t4 (HO.tup (cs'.map V.ref))) t4 = some (.tup (cs'.map V.ref)) := upd_same
                  generalize upd G3 t4 (HO.tup (cs'.map V.ref)) = G4 at e4 g4 ⊢
                  have d4 := d3.same e4
                  refine nilP ⟨(by show 3 ≤ sizeLine; decide), fun t5 ht5 => ?_⟩
                  have e5 := same_new (o := HO.tup [V.ref t2, .ref t3, .ref t4]) ht5
                  have d5 := d4.same e5
                  refine nilP (net_rep upd_same (e5 _ _ (e4 _ _ (e3 _ _ g2))) (e5 _ _ (e4 _ _ g3)) (e5 _ _ g4) d5.ps pl (strN ⟨_, rfl, iteF (nxP ?_)⟩))
                  have ss := (((e1.trans e2).trans e3).trans e4).trans e5
                  exact ⟨s', cs', kas', br', bk', _, _, _, rfl, lw4.same ss, d5, lr4, bkl4.ks (Same.ks ss)⟩
                · rcases alt with ⟨s', cs', hs', dy3⟩ | ⟨hno, dy3⟩
                  · have eds := hs'.ds
                    have ld3 : ((cs'.map V.ref).length : Int) = (s.ds.length : Int) + 1 := by rw [List.length_map, dy3.ps.1, eds, List.length_append]; rfl
                    refine ⟨_, rfl, A.dl, _, rfl, .inl (SqL.of dy3.dh), ?_⟩
                    rw [ld3]
                    refine ⟨_, rfl, rfl, false, congrArg V.bl (decide_eq_false (by intro z; injection z with z; omega)), iteF ⟨_, rfl, ?_⟩⟩
                    exact go6 _ _ ⟨s', cs', kas, br, bk, rfl, lw3, dy3, lr.ok hsi hs', bkl3⟩
                  · have ld3 : ((cs.map V.ref).length : Int) = (s.ds.length : Int) := by rw [List.length_map, dy3.ps.1]
                    refine ⟨_, rfl, A.dl, _, rfl, .inl (SqL.of dy3.dh), ?_⟩
                    rw [ld3]
                    refine ⟨_, rfl, rfl, true, congrArg V.bl (decide_eq_true rfl), iteT ?_⟩
                    obtain ⟨x1, x2, x3, hdue⟩ := hno.due
                    have hdu3 := k3.lst (hdu x1 x2 x3 hdue) ndu
                    have bnd : x1.natAbs < 100 ∧ x2.natAbs < 100 ∧ x3.natAbs < 100 := by
                      obtain ⟨kk, pr, f1, f2, f3, f4, f5⟩ := hdue
                      obtain ⟨q1, q2, _⟩ := dy3.net.ev.wv.at_ f2
                      have b1 := dy3.net.ba.get (i := kk) (by rw [dy3.net.la]; exact lt_at f2)
                      have b2 := dy3.net.bs.get (i := pr.1) (by rw [dy3.net.ls]; exact q1)
                      have b3 := dy3.net.bs.get (i := pr.2) (by rw [dy3.net.ls]; exact q2)
                      have s12 := dy3.net.ev.wf.s12
                      rw [f3, f4, f5]
                      exact ⟨by omega, by omega, by omega⟩
                    refine ⟨_, rfl, _, rfl, (by show 1 ≤ sizeLine; decide), fun g hg => ?_⟩
                    have sg := same_new (o := HO.lst [V.ref du]) hg
                    refine ⟨br, g, _, _, rfl, rfl, sg _ _ bkl3.h, upd_same, sz (by rw [List.length_map, bkl3.len]; simp only [List.length_cons, List.length_nil]; have := lr.bl; omega), fun y hy => ?_⟩
                    have sy := sg.trans (same_new (o := HO.lst (kas.map V.ref ++ [V.ref du])) hy)
                    have lw4 := lw3.same sy
                    exact go6 _ _ ⟨s, cs, kas ++ [du], y, bk ++ [(x1, x2, x3)], rfl, lw4, dy3.same sy, lr.no hsi hno hdue bnd, bkl3.snoc (q := (x1, x2, x3)) sy upd_same (nxs hy (lw3.dl.same sg) (fun w hw z => (dy3.same sg).al w hw z)) hdu3 ndu⟩
              · refine ⟨_, rfl, _, rfl, _, rfl, _, rfl, _, rfl, _, rfl, _, rfl, A, e, s, p, tl, u, tas, as, cs, st, rfl, nx, lw2.dl, lw2.tb, dy2, sf.ks lw2.ks, hn5, hus2, hoks, by omega, fun s' cs' H3 hs' lw3 dy3 => ?_, fun H3 hn lw3 dy3 => ?_⟩
                · exact ⟨_, rfl, iteF (nxP (go5 _ _ ⟨rfl, lw2.trans lw3, lw3.ks, .inl ⟨s', cs', hs', dy3⟩⟩))⟩
                · exact ⟨_, rfl, iteF (nxP (go5 _ _ ⟨rfl, lw2.trans lw3, lw3.ks, .inr ⟨hn, dy3⟩⟩))⟩
            · have hal := dy.al
              cases st with
              | dd h d =>
                refine ⟨_, rfl, u, _, (0 : Int), .str "do", rfl, rfl, SqT.of hus1, at_i (i := 0) rfl, ⟨rfl, false, congrArg V.bl (decide_eq_false (by decide +kernel)), iteF ⟨(by show 0 ≤ sizeLine; decide), fun du hdu => ?_⟩⟩⟩
                refine go4 _ _ ⟨du, rfl, same_new hdu, nxs hdu lw.dl hal, fun x1 x2 x3 hd => ?_⟩
                obtain ⟨k, pr, e1, _⟩ := hd
                cases e1
              | mt t =>
                have tn : t < e.ts.length := hoks
                obtain ⟨pr, hp⟩ := ex_at tn
                obtain ⟨q1, q2, q3⟩ := dy.net.ev.wv.at_ hp
                have sf1 := sf.ks lw.ks
                obtain ⟨pa', hpa, hpl⟩ := sf1.prs.get hp
                have rd : ∀ (j : Nat) v, (stV (.mt t))[j]? = some v → atI (stV (.mt t)) (j : Int) = some v := fun j v hv => at_i hv
                have rdp : ∀ (j : Nat) v, (pV pr)[j]? = some v → atI (pV pr) (j : Int) = some v := fun j v hv => at_i hv
                have rs : ∀ {j : Nat}, j < e.n → atI (vrow s.ss) (j : Int) = some (.int (s.ss.getD j 0)) := fun hj => at_i (vrow_get (by rw [dy.net.ls]; exact hj))
                refine ⟨_, rfl, u, _, (0 : Int), .str "meet", rfl, rfl, SqT.of hus1, at_i (i := 0) rfl, ⟨rfl, true, congrArg V.bl (decide_eq_true rfl), iteT ?_⟩⟩
                refine ⟨_, rfl, _, rfl, u, _, (1 : Int), .int (t : Int), rfl, rfl, SqT.of hus1, rd 1 _ rfl, A.al, _, (t : Int), .int (s.ar.getD t 0), rfl, rfl, SqL.of dy.ah, at_i (vrow_get (by rw [dy.net.la]; exact tn)), ?_⟩
                refine ⟨_, rfl, _, rfl, _, rfl, u, _, (1 : Int), .int (t : Int), rfl, rfl, SqT.of hus1, rd 1 _ rfl, tl, _, (t : Int), .ref pa', rfl, rfl, SqL.of sf1.tie, at_i (map_at hpa), pa', _, (0 : Int), .int (pr.1 : Int), rfl, rfl, SqL.of hpl, rdp 0 _ rfl, A.sl, _, (pr.1 : Int), .int (s.ss.getD pr.1 0), rfl, rfl, SqL.of dy.sh, rs q1, ?_⟩
                refine ⟨_, rfl, _, rfl, _, rfl, u, _, (1 : Int), .int (t : Int), rfl, rfl, SqT.of hus1, rd 1 _ rfl, tl, _, (t : Int), .ref pa', rfl, rfl, SqL.of sf1.tie, at_i (map_at hpa), pa', _, (1 : Int), .int (pr.2 : Int), rfl, rfl, SqL.of hpl, rdp 1 _ rfl, A.sl, _, (pr.2 : Int), .int (s.ss.getD pr.2 0), rfl, rfl, SqL.of dy.sh, rs q2, (by show 4 ≤ sizeLine; decide), fun du hdu => ?_⟩
                refine go4 _ _ ⟨du, rfl, same_new hdu, nxs hdu lw.dl hal, fun x1 x2 x3 hd => ?_⟩
                obtain ⟨k, pr', e1, e2, e3, e4, e5⟩ := hd
                obtain rfl : t = k := by injection e1
                rw [hp] at e2
                obtain rfl := Option.some.inj e2
                rw [e3, e4, e5]
                exact upd_same
          · rintro σ H1 ⟨s, cs, kas, br, bk, v11, v12, v13, rfl, lw, dy, lr, bkl⟩
            have els : (scs.map V.ref).length = sts.length := by rw [List.length_map, hst.1]
            rw [els] at lr
            have sf1 := sf.ks lw.ks
            have hpp1 := lw.ks.lst hpp npp
            have hst1 : StpsA H1 scs sts := ⟨hst.1, fun i u st e1 e2 => lw.ks.tup (hst.2 i u st e1 e2) (dy0.tx lw0.dl (hst.2 i u st e1 e2))⟩
            obtain ⟨dx, sa, aa, pa, k1, k2, k3, ras, kp, kr⟩ := id dy.net.ob
            obtain ⟨dm, hm⟩ := dy.net.ev.mc.fs
            obtain ⟨dw, tw, hw, htw⟩ := id dy.net.ev.wb
            have wf := dy.net.ev.wf
            have wv := dy.net.ev.wv
            -- what it stands for is as it was
            refine ⟨_, rfl, A.c, N, dx, _, _, rfl, k1, NT.cl, NT.nM, nf_m _ _ _ _ _ _, _, rfl, e.m, e.m, dm, dm, _, _, rfl, hm, rfl, hm, e.m, e.ta, e.tb, .ref e.m, rfl, dy.net.ev.mc, wf.few, .inl ⟨e.m, e.ta, rfl, dy.net.ev.mc, true, rfl, _, rfl, iteF ?_⟩⟩
            refine ⟨_, rfl, A.c, N, dx, _, _, rfl, k1, NT.cl, NT.nW, nf_w _ _ _ _ _ _, _, rfl, e.w, e.w, dw, dw, _, _, rfl, hw, rfl, hw, e.w, e.w, e.n, e.ts, rfl, dy.net.ev.wb, dy.net.ev.wb, wv, true, rfl, _, rfl, iteF ?_⟩
            refine ⟨_, rfl, A.c, N, dx, _, _, rfl, k1, NT.cl, NT.nF, nf_f _ _ _ _ _ _, _, rfl, rfl, false, congrArg V.bl (by rw [decide_eq_true rfl]; rfl), iteF (nxP ?_)⟩
            have ds14 : s.ds.length ≤ 14 := by have := lr.len; omega
            have okd : ∀ y ∈ s.ds, okS e.n e.ts.length e.tb.length y := fun y hy => hok y (lr.sub y hy)
            have s12 := wf.s12
            have pl2 : Pl (dTwo s.ss s.ar) 2 10000 := pl_two (by rw [dy.net.ls]; exact n12) (by rw [dy.net.la]; exact t20) (fun i hi => by have := dy.net.bs i hi; omega) (fun i hi => by have := dy.net.ba i hi; omega)
            have stand : ∀ {H' : Hp} {v : V} {Q' : VK} {E' : XK}, EvAt M W H' e → Svs K H' v (some (s.ds.map fun s => some (stV s))) → (∀ p2 sa2 aa2 H2, Same H' H2 → H2 p2 = some (.tup [.ref sa2, .ref aa2]) → H2 sa2 = some (.tup (vrow s.ss)) → H2 aa2 = some (.tup (vrow s.ar)) → Q' (.ref p2) H2) → spStandA K M W CB CU [.ref e.m, .ref e.w, .int e.fi, v] H' Q' E' := fun {H' v Q' E'} ev sv k => ⟨e, v, _, rfl, ev, hfi, sv, fun z ez => (by rw [sf_right okd (by omega)] at ez; cases ez), fun ss es _ _ => by
              obtain rfl := stv_inj es
              exact ⟨fun s2 p2 sa2 aa2 H2 hr2 sm hp hs ha => by
                obtain rfl := lr.run.uniq hr2
                exact k p2 sa2 aa2 H2 sm hp hs ha, fun x1 x2 x3 hb => (lr.run.no_brk hb).elim⟩⟩
            refine ⟨_, rfl, _, rfl, _, rfl, _, rfl, A.c, N, dx, _, _, rfl, k1, NT.cl, NT.nP, nf_p _ _ _ _ _ _, ?_⟩
            refine nilP (stand dy.net.ev (svs_right (.tup kp) kr) fun p2 sa2 aa2 H2 sm2 hp2 hs2 ha2 => ?_)
            have d2 := dy.same sm2
            refine nilP (reprP (dp_two hp2 hs2 ha2) pl2 (by decide) (by decide) ?_)
            refine ⟨_, rfl, A.sl, _, rfl, .inl ⟨SqL.of d2.sh, fun t3 ht3 => ?_⟩⟩
            have e3 := same_new (o := HO.tup (vrow s.ss)) ht3
            have g3 : (upd H2 t3 (HO.tup (vrow s.ss))) t3 = some (.tup (vrow s.ss)) := upd_same
            generalize upd H2 t3 (HO.tup (vrow s.ss)) = H3 at e3 g3 ⊢
            have d3 := d2.same e3
            refine ⟨_, rfl, A.al, _, rfl, .inl ⟨SqL.of d3.ah, fun t4 ht4 => ?_⟩⟩
            have e4 := same_new (o := HO.tup (vrow s.ar)) ht4
            have g4 : (upd H3 t4 (HO.tup (vrow s.ar))) t4 = some (.tup (vrow s.ar)) := upd_same
            generalize upd H3 t4 (HO.tup (vrow s.ar)) = H4 at e4 g4 ⊢
            have d4 := d3.same e4
            refine nilP ⟨(by show 2 ≤ sizeLine; decide), fun t5 ht5 => ?_⟩
            have e5 := same_new (o := HO.tup [V.ref t3, .ref t4]) ht5
            refine nilP (reprP (dp_two upd_same (e5 _ _ (e4 _ _ g3)) (e5 _ _ g4)) pl2 (by decide) (by decide) (strN ⟨_, rfl, iteF (nxP ?_)⟩))
            have sm5 := ((sm2.trans e3).trans e4).trans e5
            generalize upd H4 t5 (HO.tup [V.ref t3, .ref t4]) = H5 at sm5 ⊢
            clear hp2 hs2 ha2 g3 g4 e3 e4 e5 d2 d3 d4 sm2 ht3 ht4 ht5 k1 k2 k3 kp kr hm hw htw
            have lw5 := lw.same sm5
            have dy5 := dy.same sm5
            have bk5 := bkl.ks (Same.ks sm5)
            have hpp5 := sm5 _ _ hpp1
            have hst5 := hst1.same sm5
            have sf5 := sf1.ks (Same.ks sm5)
            clear lw dy bkl hpp1 hst1 sf1 sm5
            -- the same by names
            refine ⟨_, rfl, A.dl, _, rfl, .inl (SqL.of dy5.dh), fun l9 hl9 => ?_⟩
            have e9 := same_new (o := HO.lst (cs.map V.ref)) hl9
            have g9 : (upd H5 l9 (HO.lst (cs.map V.ref))) l9 = some (.lst (cs.map V.ref)) := upd_same
            generalize upd H5 l9 (HO.lst (cs.map V.ref)) = H6 at e9 g9 ⊢
            have dy6 := dy5.same e9
            refine ⟨_, rfl, _, rfl, _, rfl, rfl, stand dy6.net.ev (svs_right (.lst g9) dy6.ps) fun p2 sa2 aa2 H2 sm2 hp2 hs2 ha2 => ?_⟩
            have d2 := dy6.same sm2
            refine ⟨_, rfl, A.sl, _, rfl, .inl ⟨SqL.of d2.sh, fun t3 ht3 => ?_⟩⟩
            have e3 := same_new (o := HO.tup (vrow s.ss)) ht3
            have g3 : (upd H2 t3 (HO.tup (vrow s.ss))) t3 = some (.tup (vrow s.ss)) := upd_same
            generalize upd H2 t3 (HO.tup (vrow s.ss)) = H3 at e3 g3 ⊢
            have d3 := d2.same e3
            refine ⟨_, rfl, A.al, _, rfl, .inl ⟨SqL.of d3.ah, fun t4 ht4 => ?_⟩⟩
            have e4 := same_new (o := HO.tup (vrow s.ar)) ht4
            have g4 : (upd H3 t4 (HO.tup (vrow s.ar))) t4 = some (.tup (vrow s.ar)) := upd_same
            generalize upd H3 t4 (HO.tup (vrow s.ar)) = H4 at e4 g4 ⊢
            have d4 := d3.same e4
            refine nilP ⟨(by show 2 ≤ sizeLine; decide), fun t5 ht5 => ?_⟩
            have e5 := same_new (o := HO.tup [V.ref t3, .ref t4]) ht5
            have g5 : (upd H4 t5 (HO.tup [V.ref t3, .ref t4])) t5 = some (.tup [V.ref t3, .ref t4]) := upd_same
            generalize upd H4 t5 (HO.tup [V.ref t3, .ref t4]) = H7 at e5 g5 ⊢
            have s27 := (e3.trans e4).trans e5
            refine neDP (dp_two (s27 _ _ hp2) (s27 _ _ hs2) (s27 _ _ ha2)) (dp_two g5 (e5 _ _ (e4 _ _ g3)) (e5 _ _ g4)) pl2 (by decide) ⟨_, rfl, iteF (nxP ?_)⟩
            have sm7 := (e9.trans sm2).trans s27
            clear hp2 hs2 ha2 g3 g4 g5 g9 e3 e4 e5 e9 d2 d3 d4 sm2 ht3 ht4 ht5 hl9 dy6 s27
            have lw7 := lw5.same sm7
            have dy7 := dy5.same sm7
            have bk7 := bk5.ks (Same.ks sm7)
            have hpp7 := sm7 _ _ hpp5
            have hst7 := hst5.same sm7
            have sf7 := sf5.ks (Same.ks sm7)
            clear lw5 dy5 bk5 hpp5 hst5 sf5 sm7
            -- the first that is untold
            dsimp only
            refine seqG (fun σ H' => ∃ v11 v12 v13 : Option V, σ = [some (.ref a), some (.ref A.b), some (.int (n : Int)), some (.ref p), some (.int (e.n : Int)), some (.ref tl), some (.ref A.c), some (.ref A.sl), some (.ref A.al), some (.ref A.dl), some (.ref br), v11, v12, v13, none, none, none, some (.int e.fi), some (.ref e.m), some (.ref pp), some (.ref e.w), none, none] ∧ Lw A T HB H' ∧ Dy N M W A e s s.ss s.ar cs s.ds H') ?_ fun go8 => ?_
            · rintro σ H8 ⟨v11, v12, v13, rfl, lw8, dy8⟩
              have sf8 := sf.ks lw8.ks
              have hpp8 := lw8.ks.lst hpp npp
              have hst8 : StpsA H8 scs sts := ⟨hst.1, fun i u st e1 e2 => lw8.ks.tup (hst.2 i u st e1 e2) (dy0.tx lw0.dl (hst.2 i u st e1 e2))⟩
              clear lw7 dy7 bk7 hpp7 hst7 sf7 stand
              have ev8 := dy8.net.ev
              have wf8 := ev8.wf
              have wv8 := ev8.wv
              have s12' := wf8.s12
              -- what each house knows
              refine ⟨_, rfl, (e.n : Int), rfl, by omega, by omega, for_range (fun i σ H' => ∃ v11 v12 v13 v14 v15 v16 : Option V, σ = [some (.ref a), some (.ref A.b), some (.int (n : Int)), some (.ref p), some (.int (e.n : Int)), some (.ref tl), some (.ref A.c), some (.ref A.sl), some (.ref A.al), some (.ref A.dl), some (.ref br), v11, v12, v13, v14, v15, v16, some (.int e.fi), some (.ref e.m), some (.ref pp), some (.ref e.w), none, none] ∧ Same H8 H') ⟨_, _, _, none, none, none, rfl, fun _ _ h => h⟩ ?_ ?_⟩
              · rintro i σ H9 hi ⟨v11, v12, v13, v14, v15, v16, rfl, sm9⟩
                have hin : i < e.n := by omega
                refine gn ?_
                dsimp only [List.set]
                rw [show (0 : Int) + (i : Int) = (i : Int) by omega]
                have sf9 := sf8.ks (Same.ks sm9)
                refine ⟨_, rfl, _, rfl, _, rfl, tl, as, e.n, i, e.ts, rfl, sf9.tie, sf9.prs, wv8, hin, fun fq fs H10 s10 hfq0 hfq mem => ⟨_, rfl, _, _, rfl, ?_⟩⟩
                dsimp only [List.set]
                have sm10 := sm9.trans s10
                have sf10 := sf8.ks (Same.ks sm10)
                have hpp10 := sm10 _ _ hpp8
                have hst10 := hst8.same sm10
                have ev10 := ev8.same sm10
                refine ⟨_, rfl, pp, rfl, ⟨_, SqL.of hpp10⟩, for_list (K := K) (a := pp) (xs := scs.map V.ref) (fun j σ H' => ∃ v11 : Option V, σ = [some (.ref a), some (.ref A.b), some (.int (n : Int)), some (.ref p), some (.int (e.n : Int)), some (.ref tl), some (.ref A.c), some (.ref A.sl), some (.ref A.al), some (.ref A.dl), some (.ref br), v11, v12, v13, some (.int (i : Int)), some (.ref fq), some (.int (run e.tb e.fi (dOf fs (sts.take j)))), some (.int e.fi), some (.ref e.m), some (.ref pp), some (.ref e.w), none, none] ∧ H' = H10) ⟨_, rfl, rfl⟩ (fun j σ H' _ ⟨_, _, e⟩ => by rw [e]; exact SqL.of hpp10) ?_ ?_⟩
                · rintro j x σ H11 hx ⟨v11, rfl, rfl⟩
                  obtain ⟨u, st, rfl, _, hsi, hus⟩ := hst10.get hx
                  have hoks := hok st (List.mem_of_getElem? hsi)
                  have ea := take_succ hsi
                  refine gn ?_
                  dsimp only [List.set]
                  cases st with
                  | dd h d =>
                    have rd : ∀ (j : Nat) v, (stV (.dd h d))[j]? = some v → atI (stV (.dd h d)) (j : Int) = some v := fun j v hv => at_i hv
                    refine ⟨_, rfl, u, _, (0 : Int), .str "do", rfl, rfl, SqT.of hus, rd 0 _ rfl, ⟨rfl, true, congrArg V.bl (decide_eq_true rfl), iteT ?_⟩⟩
                    refine ⟨_, rfl, u, _, (1 : Int), .int (h : Int), rfl, rfl, SqT.of hus, rd 1 _ rfl, _, rfl, fq, vn fs, rfl, .inl (SqL.of hfq), rfl, flat_vn fs, _, rfl, ?_⟩
                    simp only [Bool.false_eq_true, if_false]
                    rw [inV_vn]
                    refine ifD (fun ez => ?_) fun ez => ?_
                    · have hm : h ∈ fs := by simpa using ez
                      have hr0 := wf8.run (dOf fs (sts.take j)) e.fi (fun z hz => dOf_rng fs _ (fun y hy => hok y (List.mem_of_mem_take hy)) z hz) hfi
                      obtain ⟨t, ht1, ht2, ht3⟩ := wf8.at_ (s := run e.tb e.fi (dOf fs (sts.take j))) (d := (d : Int)) ⟨by omega, by have := hoks.2; omega⟩ hr0
                      rw [Int.toNat_natCast] at ht1
                      obtain ⟨aT, t', hA, hT', hTt⟩ := sf10.tab.row hoks.2
                      rw [ht1] at hT'
                      obtain rfl := Option.some.inj hT'
                      refine ⟨_, rfl, _, rfl, u, _, (2 : Int), .int (d : Int), rfl, rfl, SqT.of hus, rd 2 _ rfl, p, _, (d : Int), .ref aT, rfl, rfl, SqL.of sf10.tab.1, at_i (map_at hA), _, rfl, aT, _, run e.tb e.fi (dOf fs (sts.take j)), .int (stp e.tb (run e.tb e.fi (dOf fs (sts.take j))) (d : Int)), rfl, rfl, SqL.of hTt, at_of (j := (run e.tb e.fi (dOf fs (sts.take j))).toNat) (by omega) (by rw [vrow, List.getElem?_map, ht2]; rfl), ?_⟩
                      refine ⟨some (.ref u), ?_, rfl⟩
                      have e9 : dOf fs [Stp.dd h d] = [(d : Int)] := by show (if h ∈ fs then (d : Int) :: [] else []) = _; rw [if_pos hm]
                      rw [ea, dOf_app, e9, run_snoc]
                      rfl
                    · have hm : h ∉ fs := by simpa using ez
                      have e9 : dOf fs [Stp.dd h d] = [] := by show (if h ∈ fs then (d : Int) :: [] else []) = _; rw [if_neg hm]
                      refine nxP ⟨some (.ref u), ?_, rfl⟩
                      rw [ea, dOf_app, e9, List.append_nil]
                  | mt t =>
                    refine ⟨_, rfl, u, _, (0 : Int), .str "meet", rfl, rfl, SqT.of hus, at_i (i := 0) rfl, ⟨rfl, false, congrArg V.bl (decide_eq_false (by decide +kernel)), iteF (nxP ⟨some (.ref u), ?_, rfl⟩)⟩⟩
                    rw [ea, dOf_app, show dOf fs [Stp.mt t] = [] from rfl, List.append_nil]
                · rintro σ H11 ⟨v11, rfl, rfl⟩
                  rw [List.take_of_length_le (by rw [List.length_map, hst.1]; exact Nat.le_refl _)]
                  have hrT := wf8.run (dOf fs sts) e.fi (fun z hz => dOf_rng fs _ hok z hz) hfi
                  have small : (run e.tb e.fi (dOf fs sts)).natAbs < 2 ^ 64 := by omega
                  have tru : ∀ {H' : Hp} {v : V} {Q' : VK} {E' : XK}, EvAt M W H' e → Svs K H' v (some (sts.map fun s => some (stV s))) → (∀ H2, Same H' H2 → Q' (.int (run e.tb e.fi (dOf fs sts))) H2) → spTruth K M W CB CH [.ref e.m, .ref e.w, .int e.fi, v, .int (i : Int)] H' Q' E' := fun {H' v Q' E'} ev sv k => ⟨e, v, .int (i : Int), _, none, rfl, ev, hfi, sv, .int _, fun z ez => (by rw [sf_right hok (by omega)] at ez; cases ez), fun ss es _ _ => by
                    obtain rfl := stv_inj es
                    refine ⟨fun hb => ?_, fun h ns H2 eh hn PL sm => ?_⟩
                    · rw [belowB_nat, decide_eq_true hin] at hb; cases hb
                    · injection eh with eh
                      obtain rfl : i = h := by omega
                      rw [← dOf_congr (mem ns PL)]
                      exact k H2 sm⟩
                  refine ⟨_, rfl, _, rfl, _, rfl, _, rfl, _, rfl, nilP (tru ev10 (svs_right (.lst hpp10) hst10) fun H12 s12b => ?_)⟩
                  refine nilP (repI small ⟨_, rfl, nilP (repI small (strN ⟨_, rfl, iteF (nxP ?_)⟩))⟩)
                  refine ⟨_, rfl, _, rfl, pp, _, rfl, .inl (SqL.of (s12b _ _ hpp10)), fun l1 hl1 => ?_⟩
                  have s13 := same_new (o := HO.lst (scs.map V.ref)) hl1
                  refine ⟨_, rfl, _, rfl, _, rfl, rfl, tru ((ev10.same s12b).same s13) (svs_right (.lst upd_same) ((hst10.same s12b).same s13)) fun H14 s14 => ?_⟩
                  refine ⟨_, rfl, rfl, false, congrArg V.bl (by rw [decide_eq_true rfl]; rfl), iteF (nxP ?_)⟩
                  exact ⟨_, _, _, _, _, _, rfl, ((sm10.trans s12b).trans s13).trans s14⟩
              · rintro σ H9 ⟨v11, v12, v13, v14, v15, v16, rfl, sm9⟩
                have lw9 := lw8.same sm9
                have dy9 := dy8.same sm9
                have hpp9 := sm9 _ _ hpp8
                have hst9 := hst8.same sm9
                have ev9 := dy9.net.ev
                clear lw8 dy8 hpp8 hst8 sf8 ev8 sm9
                have plS : Pl (.tuple (sts.map fun s => .tuple (dSt s))) 2 10000 := (Pl.tuple (pla_sts (n := e.n) (t := e.ts.length) (d := e.tb.length) (by omega) (by omega) (by have := wf8.t8; omega) sts hok)).mono (by decide) (by omega)
                -- the steps as lists
                refine ⟨_, rfl, _, rfl, _, rfl, pp, rfl, ⟨_, SqL.of hpp9⟩, fun D hD => lc_list (K := K) (a := pp) (xs := scs.map V.ref) (fun i H' => ∃ c2 : List Addr, c2.length = i ∧ Same H9 H' ∧ H' D = some (.lst (c2.map V.ref)) ∧ ∀ (j : Nat) b2 st, c2[j]? = some b2 → sts[j]? = some st → H' b2 = some (.lst (stV st)) ∧ b2 ≠ D) ⟨[], rfl, same_new hD, upd_same, fun j b2 st z => nomatch z⟩ (fun i H' _ ⟨_, _, s5, _⟩ => SqL.of (s5 _ _ hpp9)) ?_ ?_⟩
                · rintro i x H10 hx ⟨c2, hc, s5, hD2, hC⟩
                  obtain ⟨u, st, rfl, _, hsi, hus⟩ := hst9.get hx
                  have hi := lt_at hx
                  rw [List.length_map, hst9.1] at hi
                  refine ⟨rfl, _, rfl, u, stV st, rfl, .inr (SqT.of (s5 _ _ hus)), fun y hy => ?_⟩
                  have s6 := same_new (o := HO.lst (stV st)) hy
                  have nyD : y ≠ D := fun z => by rw [z, hD2] at hy; cases hy
                  refine ⟨_, s6 _ _ hD2, szl (by rw [List.length_map]; omega), c2 ++ [y], by rw [List.length_append, hc]; rfl, fun c o ec => by rw [upd_ne (ne_of_none ec hD)]; exact s6 _ _ (s5 _ _ ec), by rw [upd_same, List.map_append]; rfl, fun j b2 st' hb2 hst' => ?_⟩
                  by_cases hj : j < c2.length
                  · rw [List.getElem?_append_left hj] at hb2
                    obtain ⟨g1, g2⟩ := hC j b2 st' hb2 hst'
                    exact ⟨by rw [upd_ne g2]; exact s6 _ _ g1, g2⟩
                  · have hjl := lt_at hb2
                    rw [List.length_append] at hjl
                    have : j = c2.length := by simp only [List.length_cons, List.length_nil] at hjl; omega
                    subst this
                    rw [List.getElem?_append_right (Nat.le_refl _), Nat.sub_self] at hb2
                    obtain rfl : y = b2 := Option.some.inj hb2
                    rw [hc, hsi] at hst'
                    obtain rfl := Option.some.inj hst'
                    exact ⟨by rw [upd_ne nyD]; exact upd_same, nyD⟩
                · rintro H10 ⟨c2, hc, s5, hD2, hC⟩
                  have lc2 : c2.length = sts.length := by rw [hc, List.length_map, hst9.1]
                  have ev10 := ev9.same s5
                  refine nilP ⟨e.m, e.ta, e.w, e.tb, .ref D, _, e.n, e.ts, rfl, ev10.mc, ev10.wb, svs_rightL (.lst hD2) lc2 fun i b2 st e1 e2 => (hC i b2 st e1 e2).1, fun z ez => (by rw [sf_right hok (by omega)] at ez; cases ez), fun ss es _ _ p2 H11 s11 hst2 => ?_⟩
                  obtain rfl := stv_inj es
                  obtain ⟨ras, rp, rA⟩ := hst2
                  refine nilP (reprP (.tup (SqT.of rp) rA.dp) plS (by decide) (by decide) ?_)
                  have s59 := s5.trans s11
                  refine ⟨_, rfl, pp, _, rfl, .inl ⟨SqL.of (s59 _ _ hpp9), fun t2 ht2 => ?_⟩⟩
                  have s12b := same_new (o := HO.tup (scs.map V.ref)) ht2
                  refine nilP (reprP (.tup (SqT.of upd_same) ((hst9.same s59).same s12b).dp) plS (by decide) (by decide) (strN ⟨_, rfl, iteF (nxP ?_)⟩))
                  have sm12 := s59.trans s12b
                  generalize upd H11 t2 (HO.tup (scs.map V.ref)) = H12 at sm12 ⊢
                  have lw12 := lw9.same sm12
                  have dy12 := dy9.same sm12
                  have hpp12 := sm12 _ _ hpp9
                  have hst12 := hst9.same sm12
                  have ev12 := dy12.net.ev
                  clear lw9 dy9 hpp9 hst9 ev9 ev10 s5 s11 s59 s12b sm12 hC hD2 rp rA hD ht2
                  -- by names, and a deed
                  refine ⟨_, rfl, _, rfl, _, rfl, rfl, e.m, e.ta, e.w, e.tb, .ref pp, _, e.n, e.ts, rfl, ev12.mc, ev12.wb, svs_right (.lst hpp12) hst12, fun z ez => (by rw [sf_right hok (by omega)] at ez; cases ez), fun ss es _ _ p3 H13 s13 hst3 => ?_⟩
                  obtain rfl := stv_inj es
                  obtain ⟨ras, rp, rA⟩ := hst3
                  refine ⟨_, rfl, pp, _, rfl, .inl ⟨SqL.of (s13 _ _ hpp12), fun t3 ht3 => ?_⟩⟩
                  have s14 := same_new (o := HO.tup (scs.map V.ref)) ht3
                  refine neDP (.tup (SqT.of (s14 _ _ rp)) (rA.same s14).dp) (.tup (SqT.of upd_same) ((hst12.same s13).same s14).dp) plS (by decide) ⟨_, rfl, iteF ?_⟩
                  have sm14 := s13.trans s14
                  generalize upd H13 t3 (HO.tup (scs.map V.ref)) = H14 at sm14 ⊢
                  have lw14 := lw12.same sm14
                  have dy14 := dy12.same sm14
                  have hpp14 := sm14 _ _ hpp12
                  have hst14 := hst12.same sm14
                  obtain ⟨dx', sa', aa', pa', k1', _⟩ := id dy14.net.ob
                  have t1 := wf8.t1
                  refine ⟨_, rfl, A.c, dx', _, rfl, k1', nf_do _ _ _ _ _ _, ?_⟩
                  refine ⟨rfl, A.c, e, s, .int 0, .int 0, none, none, rfl, dy14.net, .int _, .int _, by omega, fun hb => (by rw [show (0 : Int) = ((0 : Nat) : Int) from rfl, belowB_nat, decide_eq_true (by omega)] at hb; cases hb), fun _ hb => (by rw [show (0 : Int) = ((0 : Nat) : Int) from rfl, belowB_nat, decide_eq_true (by omega)] at hb; cases hb), fun h' d' eh ed _ _ H15 b15 N15 => ?_⟩
                  injection eh with eh
                  injection ed with ed
                  obtain rfl : h' = 0 := by omega
                  obtain rfl : d' = 0 := by omega
                  have lw15 := lw14.netb dy14 b15
                  have dy15 := dy14.but b15 N15
                  have sf15 := sf.ks lw15.ks
                  have hs0 := dy14.net.bs.get (i := 0) (by rw [dy14.net.ls]; omega)
                  obtain ⟨t, ht1, ht2, ht3'⟩ := wf8.at_ (s := s.ss.getD 0 0) (d := ((0 : Nat) : Int)) ⟨by omega, by omega⟩ hs0
                  obtain ⟨aT, t', hA, hT', hTt⟩ := sf15.tab.row (d := 0) (by omega)
                  rw [Int.toNat_natCast, hT'] at ht1
                  obtain rfl := Option.some.inj ht1
                  refine ⟨_, rfl, p, _, (0 : Int), .ref aT, rfl, rfl, SqL.of sf15.tab.1, at_i (i := 0) (map_at hA), _, rfl, A.sl, _, (0 : Int), .int (s.ss.getD 0 0), rfl, rfl, SqL.of dy15.sh, at_i (i := 0) (vrow_get (by rw [dy14.net.ls]; omega)), aT, _, s.ss.getD 0 0, .int (stp e.tb (s.ss.getD 0 0) ((0 : Nat) : Int)), rfl, rfl, SqL.of hTt, at_of (j := (s.ss.getD 0 0).toNat) (by omega) (by rw [vrow, List.getElem?_map, ht2]; rfl), ?_⟩
                  refine ⟨rfl, _, rfl, ?_⟩
                  rw [decide_eq_true rfl]
                  refine iteF (nxP ?_)
                  have k15 := b15
                  have hpp15 : H15 pp = some (.lst (scs.map V.ref)) := lw15.ks.lst hpp npp
                  have hst15 : StpsA H15 scs sts := ⟨hst.1, fun i u st e1 e2 => lw15.ks.tup (hst.2 i u st e1 e2) (dy0.tx lw0.dl (hst.2 i u st e1 e2))⟩
                  refine ⟨_, rfl, _, rfl, _, rfl, _, rfl, _, rfl, nilP ⟨A.b, A.l, A.c, pp, e, s.doo e 0 0, scs, sts, rfl, lw15.dl, lw15.tb, N15, ?_, hpp15, hst15, hok, by omega, fun z => npp (by rw [z]; simp [Ad.xs]), fun z => npp (by rw [z]; simp [Ad.xs]), q⟩⟩
                  show (s.ds ++ [Stp.dd 0 0]).length < 900
                  rw [List.length_append]
                  simp only [List.length_cons, List.length_nil]
                  omega
            · refine ⟨_, rfl, (by show 0 ≤ sizeLine; decide), fun em hem => ?_⟩
              have e8 := same_new (o := HO.lst []) hem
              have bk8 := bk7.ks (Same.ks e8)
              have g8 : (upd H7 em (HO.lst [])) em = some (.lst []) := upd_same
              generalize upd H7 em (HO.lst []) = H8 at e8 bk8 g8 ⊢
              have lw8 := lw7.same e8
              have dy8 := dy7.same e8
              have hpp8 := e8 _ _ hpp7
              have hst8 := hst7.same e8
              refine bk_ne bk8 g8 ⟨_, rfl, ?_⟩
              cases bk with
              | nil => exact iteF (nxP (go8 _ _ ⟨_, _, _, rfl, lw8, dy8⟩))
              | cons q bk' =>
                obtain ⟨x1, x2, x3⟩ := q
                have hbrk := lr.fst x1 x2 x3 bk' rfl
                rw [List.take_length] at hbrk
                refine iteT ?_
                refine ⟨lw8.tb, fun H9 ex t9 => ?_⟩
                have lw9 := lw8.ext ex t9
                have dy9 := dy8.ext ex
                have hpp9 := ex _ _ hpp8 (fun ps z => by cases z)
                have hst9 := hst8.kp (Kp.ext ex)
                have bk9 := bk8.ks (ks_ext ex)
                refine ⟨_, rfl, _, rfl, _, rfl, _, rfl, e, .ref pp, _, rfl, dy9.net.ev, hfi, svs_right (.lst hpp9) hst9, fun z ez => (by rw [sf_right hok (by omega)] at ez; cases ez), fun ss es _ _ => ?_⟩
                obtain rfl := stv_inj es
                refine ⟨fun s2 _ _ _ _ hr2 _ _ _ _ => (hr2.no_brk hbrk).elim, fun y1 y2 y3 hb2 => ?_⟩
                obtain ⟨rfl, rfl, rfl⟩ := hb2.uniq hbrk
                refine fun d H10 s10 hd10 hx10 => ⟨d, rfl, .inr (.inl ⟨rfl, _, _, _, hx10, fun p5 H11 s11 hp5 h5' => ?_⟩)⟩
                have sm11 := s10.trans s11
                have bk11 := bk9.ks (Same.ks sm11)
                obtain ⟨z1, z2, z3⟩ := lr.bd _ List.mem_cons_self
                obtain ⟨ka, hka⟩ := ex_at (l := kas) (i := 0) (by rw [bk11.len]; simp)
                have h0 := bk11.it 0 ka _ hka rfl
                refine nilP (un_rep (Nat.lt_trans z1 (by decide)) (Nat.lt_trans z2 (by decide)) (Nat.lt_trans z3 (by decide)) h5' ?_)
                refine ⟨_, rfl, br, _, (0 : Int), .ref ka, rfl, rfl, SqL.of bk11.h, at_i (i := 0) (map_at hka), ?_⟩
                refine nilP (un_rep (Nat.lt_trans z1 (by decide)) (Nat.lt_trans z2 (by decide)) (Nat.lt_trans z3 (by decide)) h0 (strN ⟨_, rfl, iteF (nxP ?_)⟩))
                exact go8 _ _ ⟨_, _, _, rfl, lw9.same sm11, dy9.same sm11⟩
        · have hfi := bs.fi
          have mk : ∀ (H15 : Hp) (c dxc : Addr), Bs M W b l p tl pp T e tas as scs sts H15 → H15 c = none → H15 dxc = none → dxc ≠ c → ∀ (Q2 : Hp → Prop), (∀ H', Bs M W b l p tl pp T e tas as scs sts H' → NetAt N M W H' c e (sn0 e) → Q2 H') → spStand K N M W CS [.ref c, .ref e.m, .ref e.w, .int e.fi] (upd (upd H15 dxc (.own c)) c (.ins N dxc [])) (fun v H' => v = .non ∧ Q2 H') (fun _ _ _ => False) := fun H15 c dxc bs15 hc0 hdc0 nec Q2 hQ => by
            have smc := mkSameN (o1 := HO.own c) (o2 := HO.ins N dxc []) hc0 hdc0 nec
            obtain ⟨dm, hm⟩ := bs15.ev.mc.fs
            obtain ⟨dw, tw, hw, _⟩ := id bs15.ev.wb
            refine ⟨c, dxc, e, .int e.fi, none, rfl, upd_same, bs15.ev.same smc, ne_of_none hm hc0, ne_of_none hw hc0, .int _, fun hbb => ?_, fun i ei => ?_, fun _ _ H17 b17 hN => ⟨rfl, hQ _ (bs15.same fun d u ed => b17 d u (smc d u ed) (ne_of_none ed hc0)) hN⟩⟩
            · have : belowB (.int e.fi) (nS e.tb : Int) = true := by
                show (decide (0 ≤ e.fi) && decide (e.fi < (nS e.tb : Int))) = true
                rw [decide_eq_true hfi.1, decide_eq_true hfi.2]; rfl
              rw [this] at hbb; cases hbb
            · injection ei
          refine ⟨_, rfl, b, l, 2, rfl, bs.dl, by decide, by decide, fun r' H15 _ _ d15 => ⟨rfl, _, rfl, ?_⟩⟩
          have bs15 := bs.draw d15
          refine ifD (fun _ => ?_) fun _ => ?_
          · refine ⟨_, rfl, _, rfl, _, rfl, fun c dxc hc0 hdc0 nec => mk H15 c dxc bs15 hc0 hdc0 nec _ fun H' bs' hN' => go3 _ _ ⟨c, H15, rfl, bs', hN', hc0, bs15⟩⟩
          · refine nilP ⟨_, rfl, _, rfl, _, rfl, rfl, rfl, fun c dxc hc0 hdc0 nec => mk H15 c dxc bs15 hc0 hdc0 nec _ fun H' bs' hN' => go3 _ _ ⟨c, H15, rfl, bs', hN', hc0, bs15⟩⟩
      · refine ifG (fun _ H6 => Dl b l H5 H6) (fun c H6 d6 => ?_) fun go2 => ⟨_, rfl, b, l, 2, rfl, hb5, by decide, by decide, fun r H6 _ _ d6 => ⟨rfl, _, rfl, go2 _ _ d6⟩⟩
        have hT6 := tabs_dl hT5 hb5 d6
        refine ifD (fun _ => ?_) fun _ => nxP (go _ _ ⟨D0, tas, tb, rfl, d6.1, hT6, tbo.dl d6, wf, ens, tb8⟩)
        refine ⟨2, rfl, by decide, by decide, fun D2 hD2 => lc_range (fun i H' => TbI b l n H6 D2 i H') (TbI.init d6.1 hD2) ?_ ?_⟩
        · rintro i H7 hi I7
          refine ⟨rfl, ?_⟩
          refine ⟨_, rfl, (n : Int), rfl, by omega, by omega, fun D3 hD3 => lc_range (fun j H' => Dl b l H7 H' ∧ ∃ t : List Int, H' D3 = some (.lst (vrow t)) ∧ t.length = j ∧ ∀ x ∈ t, 0 ≤ x ∧ x < (n : Int)) ⟨(Dl.refl I7.d.1).new hD3, [], upd_same, rfl, fun x hx => nomatch hx⟩ ?_ ?_⟩
          · rintro j H8 hj ⟨d8, t, ht, tl, tr⟩
            refine ⟨rfl, ?_⟩
            have n1b := I7.d.1.nb hD3
            have n1l := I7.d.1.nl hD3
            refine ⟨_, rfl, _, rfl, _, _, rfl, rfl, _, _, rfl, rfl, .inl ⟨_, rfl, _, rfl, _, _, rfl, rfl, by omega, ?_⟩⟩
            refine ⟨_, ht, szl (by rw [vrow_len]; omega), d8.put hD3 n1b n1l, t ++ [(0 + (j : Int) + (0 + (i : Int)) + 1) % (n : Int)], by rw [upd_same, vrow, vrow, List.map_append]; rfl, by rw [List.length_append, tl]; rfl, fun y hy => ?_⟩
            rcases List.mem_append.mp hy with z | z
            · exact tr y z
            · rw [List.mem_singleton.mp z]; exact ⟨Int.emod_nonneg _ (by omega), Int.emod_lt_of_pos _ (by omega)⟩
          · rintro H8 ⟨d8, t, ht, tl, tr⟩
            have tl' : t.length = n := by rw [tl, Int.toNat_natCast]
            obtain ⟨acc, h1, h2, h3⟩ := I7.put hD3 d8 ht tl' tr
            exact ⟨acc, h1, by rw [h2]; exact szl (by omega), h3⟩
        · intro H7 I7
          obtain ⟨tas', tb', tbo', wf', ens', tb8'⟩ := I7.done n1 (by omega) (by decide) (by decide)
          exact go _ _ ⟨D2, tas', tb', rfl, I7.d.1, tabs_dl hT6 d6.1 I7.d, tbo', wf', ens', tb8'⟩
end
end K1
namespace K1
open PySem PySem.Spec PyProof.Rows L2
/-- the caller's call of a law that is told where nothing is being shown; some tables of code objects stand by -/
theorem call_laws {P : Program} {w : World} {K : PySem.W.Frag} {mg mb : Str → Option Value} {k : Nat} {fa a : Addr} (Ps : List (Addr × Addr)) {fd : FuncData} {x : Str} {sp : Sp} {s : Shared} {vs : List Value} {ns : List Int}
    (KX : K.In s.heap) (hmg : s.heap.Ns mainGlobals mg) (hmb : s.heap.Ns builtinsNs mb) (hbb : ∀ x : Str, x ≠ "__name__" → mb x = bootBuiltins x) (hlim : s.heap.NoLimit) (hg : s.gens = #[])
    (hPs : ∀ p ∈ Ps, s.heap.get? p.2 = some { cls := .none, data := .fields #[] } ∧ K.lookup p.2 = none ∧ PySem.W.CodeHd s.heap p.1 p.2)
    (hbm : ∃ (bm : Addr) (ob : Obj), mg "__builtins__" = some (.ref bm) ∧ bm ≠ builtinsNs ∧ s.heap.get? bm = some ob ∧ ob.cls = .type "module" ∧ ob.dict = some builtinsNs ∧ ob.data = .plain)
    (ha : s.heap.get? a = some { cls := .type "list", data := .seq vs.toArray }) (hi : IntsAre vs ns) (hl : ns.length ≤ sizeLine) (hr : Room k callerA)
    (F : ∀ base : Heap, K.In base → base.Ns mainGlobals mg → (∀ p ∈ Ps, LamX.TabB base mg p.1 p.2) → FnG P w K mg base k fa fd [x] sp) (hbind : ∀ (s : Shared) (u : Value), BindsTo s fd ⟨[u], []⟩ [(x, u)])
    (hsp : ∀ H : Hp, (∀ p ∈ Ps, H p.2 = some (.tbl #[])) → SqL K H a (ns.map V.int) → sp [.ref a] H (fun v _ => v = .bl true) fun _ _ _ => False) :
    codeAny (model P w) callerA (.call (.ref fa) ⟨[.ref a], []⟩) (fun r s' => r = .ok (.ret (.bool true)) ∧ OldK s.heap s'.heap ∧ s'.os = s.os ∧ AllBare s'.gens) s := by
  have hTS : ∀ b, b ∈ Ps.map (·.2) → s.heap.get? b = some { cls := .none, data := .fields #[] } ∧ K.lookup b = none ∧ ∃ c, PySem.W.CodeHd s.heap c b := fun b hb => by
    obtain ⟨p, hp, rfl⟩ := List.mem_map.mp hb
    obtain ⟨h1, h2, h3⟩ := hPs p hp
    exact ⟨h1, h2, _, h3⟩
  generalize hTSd : Ps.map (·.2) = TS at hTS
  have inTS : ∀ p ∈ Ps, p.2 ∈ TS := fun p hp => by rw [← hTSd]; exact List.mem_map.mpr ⟨p, hp, rfl⟩
  have nPa : ∀ b ∈ TS, b ≠ a := fun b hb z => by
    have hT := (hTS b hb).1
    rw [z, ha] at hT
    cases Option.some.inj hT
  -- told of any way to follow the script
  have told : ∀ H : Hp, (∀ b ∈ TS, H b = some (.tbl #[])) → (∀ b, b ∉ TS → H b = none ∨ (b = a ∧ K.lookup a = none ∧ ∃ o xs, H a = some (.frz o (.lst xs)))) → SqL K H a (ns.map V.int) → HOk P w H s.heap →
      codeAny (model P w) callerA (.call (.ref fa) ⟨[.ref a], []⟩) (fun r s' => r = .ok (.ret (.bool true)) ∧ OldK s.heap s'.heap ∧ s'.os = s.os ∧ AllBare s'.gens) s := by
    intro H hP hO hS hok
    have out : ∀ {b : Addr} {o : Obj}, s.heap.get? b = some o → b ∉ TS → b ≠ a → (hidT s.heap H).get? b = some o := fun {b o} e n1 n2 => hidT_get e ((hO b n1).resolve_right fun z => n2 z.1)
    have neD : ∀ {b : Addr} {o : Obj}, s.heap.get? b = some o → (∀ v n, o.data ≠ .seq v n) → (o.data ≠ .fields #[]) → b ∉ TS ∧ b ≠ a := fun {b o} e h1 h2 => ⟨fun z => by
      have hT := (hTS b z).1
      rw [hT] at e
      cases Option.some.inj e
      exact h2 rfl, fun z => by
      rw [z, ha] at e
      cases Option.some.inj e
      exact h1 _ _ rfl⟩
    have ns_ : ∀ {b : Addr} {m : Str → Option Value}, s.heap.Ns b m → (hidT s.heap H).Ns b m := fun {b m} ⟨o, es, ep, e, d, r⟩ => by
      have n := neD e (fun v n z => by rw [d] at z; cases z) (fun z => by rw [d] at z; cases z)
      exact ⟨o, es, ep, out e n.1 n.2, d, r⟩
    have kin : K.In (hidT s.heap H) := fun b o e => by
      refine hidT_get (KX b o e) ?_
      by_cases z : b ∈ TS
      · rw [(hTS b z).2.1] at e; cases e
      · refine (hO b z).resolve_right fun ⟨z1, z2, _⟩ => ?_
        rw [z1, z2] at e
        cases e
    have hM : L2.Mod K mg (hidT s.heap H) := ⟨kin, ns_ hmg, ⟨mb, ns_ hmb, hbb⟩, let ⟨mc, h1, h2⟩ := hlim; ⟨mc, ns_ h1, h2⟩⟩
    have TB : ∀ p ∈ Ps, LamX.TabB (hidT s.heap H) mg p.1 p.2 := fun p hp => by
      obtain ⟨hT, nT, hC⟩ := hPs p hp
      refine ⟨?_, ?_, fun z => ?_⟩
      · obtain ⟨o, us, file, tf, flags, tg, inF, text, tt, e, e2, e3, r⟩ := hC
        have n := neD e (fun v n z => by rw [e3] at z; cases z) (fun z => by
          rw [e3] at z
          cases z
          have := r.1
          simp at this)
        exact ⟨o, us, file, tf, flags, tg, inF, text, tt, out e n.1 n.2, e2, e3, r⟩
      · obtain ⟨bm, ob, b1, b2, b3, b4, b5, b6⟩ := hbm
        have n := neD b3 (fun v n z => by rw [b6] at z; cases z) (fun z => by rw [b6] at z; cases z)
        refine ⟨bm, ob, b1, b2, fun z => ?_, fun z => n.1 (by rw [z]; exact inTS p hp), out b3 n.1 n.2, b4, b5, b6⟩
        obtain ⟨o, es, ep, e, d, _⟩ := hmg
        rw [z, e] at b3
        cases Option.some.inj b3
        rw [d] at b6
        cases b6
      · obtain ⟨o, es, ep, e, d, _⟩ := hmg
        rw [z, hT] at e
        cases Option.some.inj e
        cases d
    have e0 : Env0 P w K mg (hidT s.heap H) callerA [] s H := ⟨rfl, hM, fun b o e => of_hidT e, Nat.le_of_eq (hidT_size _ _), trivial, fun b hb => absurd (show b ∈ ([] : List Addr) from hb) (by simp), hok, .of_eq hg⟩
    refine codeAny_mono ((F _ kin (ns_ hmg) TB).run callerA [] s H ⟨[.ref a], []⟩ [.ref a] [.ref a] _ _ hr rfl e0 (hbind s (.ref a)) (.cons rfl .nil) (hsp H (fun p hp => hP _ (inTS p hp)) hS)) fun r s' h => ?_
    cases r with
    | error e => exact (show False from h).elim
    | ok fl =>
      cases fl with
      | next => exact False.elim h
      | brk => exact False.elim h
      | cont => exact False.elim h
      | ret u =>
        obtain ⟨v, H', os, bare, un, hok', r', q⟩ := h
        obtain rfl : v = V.bl true := q
        obtain rfl : u = Value.bool true := r'
        have hm' : ∀ b ∈ TS, ∃ more, s'.heap.get? b = some { cls := .none, data := .fields more } := fun b hb => by
          obtain ⟨more, hm⟩ := un.tbls b #[] (hP b hb)
          have z := hok' b _ hm
          rw [Array.empty_append] at z
          exact ⟨more, z⟩
        have rest : ∀ b o, b ∉ TS → s.heap.get? b = some o → s'.heap.get? b = some o := fun b o n e => by
          rcases hO b n with z | ⟨z, _, ob, xs, hf⟩
          · exact un.keep b o e z (fun w => absurd (show b ∈ ([] : List Addr) from w) (by simp)) (by simp)
          · rw [z] at e ⊢
            have e1 := (hok a _ hf).1
            rw [e] at e1
            rw [Option.some.inj e1]
            exact (hok' a _ (un.frzs a ob _ hf)).1
        refine ⟨rfl, ⟨fun b o e => ?_, fun b o e => ?_⟩, os, bare⟩
        · by_cases z : b ∈ TS
          · obtain ⟨hT, _, c, hC⟩ := hTS b z
            obtain ⟨more, hm⟩ := hm' b z
            rw [hT] at e
            cases Option.some.inj e
            exact .inr (.inl ⟨(hC.tab hT).isCodeTable, rfl, #[], more, rfl, by rw [Array.empty_append]; exact hm⟩)
          · exact .inl (rest b o z e)
        · by_cases z : b ∈ TS
          · obtain ⟨more, hm⟩ := hm' b z
            exact ⟨_, hm⟩
          · exact ⟨o, rest b o z e⟩
  have rv := vals_ints hi
  have naTS : a ∉ TS := fun z => nPa a z rfl
  cases hk : K.lookup a with
  | some o =>
    have e := KX a o hk
    rw [ha] at e
    cases Option.some.inj e
    refine told (fun b => if b ∈ TS then some (.tbl #[]) else none) (fun b hb => if_pos hb) (fun b n => .inl (if_neg n)) (.inr ⟨_, vs.toArray, _, hk, rfl, rfl, rfl, by rw [List.size_toArray, hi.length]; exact hl, by simpa using rv⟩) fun b u z => ?_
    by_cases n : b ∈ TS
    · have z' : some (HO.tbl #[]) = some u := (if_pos n).symm.trans z
      cases z'
      exact (hTS b n).1
    · have z' : (none : Option HO) = some u := (if_neg n).symm.trans z
      cases z'
  | none =>
    refine told (fun b => if b ∈ TS then some (.tbl #[]) else if b = a then some (.frz { cls := .type "list", data := .seq vs.toArray } (.lst (ns.map V.int))) else none) (fun b hb => if_pos hb) (fun b n => ?_) (.inl (.inr ⟨_, (if_neg naTS).trans (if_pos rfl)⟩)) fun b u z => ?_
    · by_cases n2 : b = a
      · exact .inr ⟨n2, hk, _, _, (if_neg naTS).trans (if_pos rfl)⟩
      · exact .inl ((if_neg n).trans (if_neg n2))
    · by_cases n : b ∈ TS
      · have z' : some (HO.tbl #[]) = some u := (if_pos n).symm.trans z
        cases z'
        exact (hTS b n).1
      · by_cases n2 : b = a
        · have z' := ((if_neg n).trans (if_pos n2)).symm.trans z
          cases z'
          rw [n2]
          exact ⟨ha, by rw [List.length_map]; exact hl, vs, _, rv, ha⟩
        · have z' := ((if_neg n).trans (if_neg n2)).symm.trans z
          cases z'
end K1
namespace K1
open PySem PySem.Spec PyProof.Rows L2
abbrev T3 (Pt Px Pu : Addr) : List (Addr × Str) := [(Pt, qLa), (Px, qOt), (Pu, qIs)]
/-- what the top has left -/
structure Tp (K : PySem.W.Frag) (mg : Str → Option Value) (M W N CM CW CB CU CS CD CH CT c Pt cx Px cu Pu fa fx fu : Addr) (fd fdx fdu : FuncData) : Prop where
  B : Bt mg
  ff : ∃ f fd, DfF K mg f fd
  cs : Cs mg
  u : UnC K mg CU
  ui : ∃ f fd, Fun K "__init__" "Untold.__init__" sUInit f fd ∧ PySem.W.findIn K (.ref CU) "__init__" = some (some (.ref f)) ∧ PySem.W.typeIn K (.ref f) = some (.type "function") ∧ Binds K fd ["self", "archive", "here", "there"] []
  cw : Cw mg
  kt : Ct mg
  whole : ∃ f fd, Df K mg "is_whole" sWhole ["value"] f fd
  below : ∃ f fd, Df K mg "is_below" sBelow ["value", "limit"] f fd
  seq : ∃ f fd, Df K mg "is_sequence" sSeq ["value", "least", "most"] f fd
  fnb : ∃ f fd, Df K mg "first_not_below" sFnb ["items", "limit"] f fd
  repl : ∃ f fd, Df K mg "replaced" sRepl ["items", "at", "item"] f fd
  isTab : ∃ f fd, Df K mg "is_table" sIsTab ["value", "states"] f fd
  chkT : ∃ f fd, Df K mg "checked_tables" sChk ["value"] f fd
  needS : ∃ f fd, Df K mg "need_state" sNeedS ["machine", "state"] f fd
  needD : ∃ f fd, Df K mg "need_deed" sNeedD ["machine", "deed"] f fd
  moved : ∃ f fd, Df K mg "moved" sMoved ["machine", "state", "row"] f fd
  needSs : ∃ f fd, Df K mg "need_states" sNeedSs ["machine", "states"] f fd
  joined : ∃ f fd, Df K mg "joined" sJoined ["machine", "archive", "here", "there"] f fd
  join : ∃ f fd, Df K mg "join" sJoin ["machine", "archive", "here", "there"] f fd
  pair : ∃ f fd, Df K mg "is_pair" sPair ["value", "houses"] f fd
  cties : ∃ f fd, Df K mg "checked_ties" sCTies ["houses", "ties"] f fd
  needH : ∃ f fd, Df K mg "need_house" sNeedH ["web", "house"] f fd
  needT : ∃ f fd, Df K mg "need_tie" sNeedT ["web", "tie"] f fd
  ways : ∃ f fd, Df K mg "ways_on" sWays ["web", "house"] f fd
  fw : ∃ f fd, Df K mg "first_ways" sFWays ["web", "house", "barred"] f fd
  part : ∃ f fd, Df K mg "part_of" sPart ["web", "house"] f fd
  isStep : ∃ f fd, Df K mg "is_step" sIsStep ["web", "deeds", "value"] f fd
  sf : ∃ f fd, Df K mg "steps_fault" sStepsFault ["web", "deeds", "value"] f fd
  so : ∃ f fd, Df K mg "steps_of" sStepsOf ["web", "deeds", "value"] f fd
  ck : ∃ f fd, Df K mg "check_steps" sCheckSteps ["machine", "web", "value"] f fd
  stand : ∃ f fd, Df K mg "stand_first" sStandFirst ["net", "machine", "web", "first"] f fd
  done : ∃ f fd, Df K mg "done_at" sDoneAt ["net", "house", "deed"] f fd
  jo : ∃ f fd, Df K mg "joined_over" sJoinedOver ["net", "tie"] f fd
  pj : ∃ f fd, Df K mg "put_joined" sPutJoined ["net", "tie", "joined"] f fd
  pt : ∃ f fd, Df K mg "take" sPTake ["books", "step"] f fd
  sa : ∃ f fd, Df K mg "standing_after" sStandingAfter ["machine", "web", "first", "steps"] f fd
  tr : ∃ f fd, Df K mg "truth_of" sTruthOf ["machine", "web", "first", "steps", "house"] f fd
  dealt : ∃ f fd, Df K mg "_law_dealt" sLDealt ["_law_script"] f fd
  any : ∃ f fd, Df K mg "_law_any" sLAny ["_law_deal", "_law_bound"] f fd
  of : ∃ f fd, Df K mg "_law_of" sLOf ["_law_deal", "_law_some"] f fd
  lweb : ∃ f fd, Df K mg "_law_web" sLWeb ["_law_deal", "_law_most"] f fd
  ls : ∃ f fd, Df K mg "_law_steps" sLSteps ["_law_deal", "_law_many", "_law_ties", "_law_deeds", "_law_length"] f fd
  lj : ∃ f fd, Df K mg "_law_joins" sLJoins ["_law_tables", "_law_archive", "_law_here", "_law_there"] f fd
  heard : ∃ f fd, Df K mg "_law_heard" sLHeard ["_law_work"] f fd
  ld : ∃ f fd, Df K mg "_law_joined" sLJoined ["_law_houses", "_law_ties", "_law_house"] f fd
  oddR : FunC K "_law_is_odd_told" "_law_is_odd_told" sLIsOddTold fx fdx (.ref cx)
  oddRD : Df K mg "_law_is_odd_told" sLIsOddTold ["_law_deal", "_law_machine", "_law_web_here", "_law_net", "_law_steps_here"] fx fdx
  issR : FunC K "_law_is_stepped" "_law_is_stepped" sLIsStepped fu fdu (.ref cu)
  issRD : Df K mg "_law_is_stepped" sLIsStepped ["_law_net", "_law_tables", "_law_ties", "_law_step", "_law_states", "_law_archives", "_law_done"] fu fdu
  law : FunC K "law" "law" sLaw fa fd (.ref c)
  lawb : ∀ (s : Shared) (u : Value), BindsTo s fd ⟨[u], []⟩ [("_law_script", u)]
  initM : ∃ f fd, Fun K "__init__" "Machine.__init__" sMInit f fd ∧ Mk K M f ∧ Binds K fd ["self", "tables"] []
  TM : McT K mg M
  IM : McJ K M
  initW : ∃ f fd, Fun K "__init__" "Web.__init__" sWInit f fd ∧ Mk K W f ∧ Binds K fd ["self", "houses", "ties"] []
  TW : WcT K mg W
  IW : WcI K W
  initN : ∃ f fd, Fun K "__init__" "Net.__init__" sNetInit f fd ∧ Mk K N f ∧ Binds K fd ["self", "machine", "web", "first"] []
  m_N_do : ∃ f fd, Fun K "do" "Net.do" sNetDo f fd ∧ Meth K N "do" f ∧ Binds K fd ["self", "house", "deed"] []
  m_N_meet : ∃ f fd, Fun K "meet" "Net.meet" sNetMeet f fd ∧ Meth K N "meet" f ∧ Binds K fd ["self", "tie"] []
  TN : NtT K mg N
  t1 : ∃ q b i, LAt.Txt K mg "BadMachine" q b CM i
  t2 : ∃ q b i, LAt.Txt K mg "BadWeb" q b CW i
  t3 : ∃ q b i, LAt.Txt K mg "BadSteps" q b CB i
  t4 : ∃ q b i, LState.Txt K mg "NoState" q b CS i
  t5 : ∃ q b i, LDeed.Txt K mg "NoDeed" q b CD i
  t6 : ∃ q b i, LHouse.Txt K mg "NoHouse" q b CH i
  t7 : ∃ q b i, LTie.Txt K mg "NoTie" q b CT i
  ex : ∃ N, mg "NetError" = some (.ref N) ∧ Exm K CB CU CS CD CH CT N
  tab : PySem.W.tabIn K "law" = some (c, Pt)
  nP : K.lookup Pt = Option.none
  tabx : PySem.W.tabIn K "_law_is_odd_told" = some (cx, Px)
  nPx : K.lookup Px = Option.none
  tabu : PySem.W.tabIn K "_law_is_stepped" = some (cu, Pu)
  nPu : K.lookup Pu = Option.none
  nPtPx : Pt ≠ Px
  nPtPu : Pt ≠ Pu
  nPxPu : Px ≠ Pu
section
variable {P : Program} {w : World} {K : PySem.W.Frag} {mg : Str → Option Value} {base : Heap}
theorem asm {M W N CM CW CB CU CS CD CH CT c Pt cx Px cu Pu fa fx fu : Addr} {fd fdx fdu : FuncData} (t : Tp K mg M W N CM CW CB CU CS CD CH CT c Pt cx Px cu Pu fa fx fu fd fdx fdu) (TB : LamX.TabB base mg c Pt) (TBx : LamX.TabB base mg cx Px) (TBu : LamX.TabB base mg cu Pu) : FnG P w K mg base 13 fa fd ["_law_script"] (spLaw K (T3 Pt Px Pu)) := by
  have B := t.B
  have cw := t.cw
  have kt := t.kt
  obtain ⟨_, _, dWhole⟩ := t.whole
  obtain ⟨_, _, dBelow⟩ := t.below
  obtain ⟨_, _, dSeq⟩ := t.seq
  obtain ⟨_, _, dFnb⟩ := t.fnb
  obtain ⟨_, _, dRepl⟩ := t.repl
  obtain ⟨_, _, dIsTab⟩ := t.isTab
  obtain ⟨_, _, dChkT⟩ := t.chkT
  obtain ⟨_, _, dNeedS⟩ := t.needS
  obtain ⟨_, _, dNeedD⟩ := t.needD
  obtain ⟨_, _, dMoved⟩ := t.moved
  obtain ⟨_, _, dNeedSs⟩ := t.needSs
  obtain ⟨_, _, dJoined⟩ := t.joined
  obtain ⟨_, _, dJoin⟩ := t.join
  obtain ⟨_, _, dPair⟩ := t.pair
  obtain ⟨_, _, dCties⟩ := t.cties
  obtain ⟨_, _, dNeedH⟩ := t.needH
  obtain ⟨_, _, dNeedT⟩ := t.needT
  obtain ⟨_, _, dWays⟩ := t.ways
  obtain ⟨_, _, dFw⟩ := t.fw
  obtain ⟨_, _, dPart⟩ := t.part
  obtain ⟨_, _, dIsStep⟩ := t.isStep
  obtain ⟨_, _, dSf⟩ := t.sf
  obtain ⟨_, _, dSo⟩ := t.so
  obtain ⟨_, _, dCk⟩ := t.ck
  obtain ⟨_, _, dStand⟩ := t.stand
  obtain ⟨_, _, dDone⟩ := t.done
  obtain ⟨_, _, dJo⟩ := t.jo
  obtain ⟨_, _, dPj⟩ := t.pj
  obtain ⟨_, _, dPt⟩ := t.pt
  obtain ⟨_, _, dSa⟩ := t.sa
  obtain ⟨_, _, dTr⟩ := t.tr
  obtain ⟨_, _, dDealt⟩ := t.dealt
  obtain ⟨_, _, dAny⟩ := t.any
  obtain ⟨_, _, dOf⟩ := t.of
  obtain ⟨_, _, dLweb⟩ := t.lweb
  obtain ⟨_, _, dLs⟩ := t.ls
  obtain ⟨_, _, dLj⟩ := t.lj
  obtain ⟨_, _, dHeard⟩ := t.heard
  obtain ⟨_, _, dLd⟩ := t.ld
  have TM := t.TM
  have IM := t.IM
  obtain ⟨_, _, fiM, mkM, biM⟩ := t.initM
  have TW := t.TW
  have IW := t.IW
  obtain ⟨_, _, fiW, mkW, biW⟩ := t.initW
  have TN := t.TN
  obtain ⟨_, _, fiN, mkN, biN⟩ := t.initN
  obtain ⟨_, _, f_N_do, mt_N_do, b_N_do⟩ := t.m_N_do
  obtain ⟨_, _, f_N_meet, mt_N_meet, b_N_meet⟩ := t.m_N_meet
  obtain ⟨_, _, _, x1⟩ := id t.t1
  obtain ⟨_, _, _, x2⟩ := id t.t2
  obtain ⟨_, _, _, x3⟩ := id t.t3
  obtain ⟨_, _, _, x4⟩ := id t.t4
  obtain ⟨_, _, _, x5⟩ := id t.t5
  obtain ⟨_, _, _, x6⟩ := id t.t6
  obtain ⟨_, _, _, x7⟩ := id t.t7
  obtain ⟨_, _, dFF⟩ := t.ff
  have cs := t.cs
  have U := t.u
  obtain ⟨_, _, fUi, iC, tI, bI⟩ := t.ui
  have gWhole := ok_whole (P := P) (w := w) (base := base) dWhole B
  have gBelow := ok_below (P := P) (w := w) (base := base) dBelow dWhole B
  have gSeq := ok_seq (P := P) (w := w) (base := base) dSeq B
  have gFnb := ok_fnb (P := P) (w := w) (base := base) dFnb dBelow B gBelow
  have gIsTab := ok_istab (P := P) (w := w) (base := base) dIsTab dSeq dFnb gSeq gFnb
  have gChkT := ok_chk (P := P) (w := w) (base := base) dChkT dSeq dIsTab B kt x1 gSeq gIsTab
  have gMi := ok_minit (P := P) (w := w) (base := base) fiM dChkT B TM gChkT
  have gNeedS := ok_needS (P := P) (w := w) (base := base) dNeedS dBelow TM x4 gBelow
  have gNeedD := ok_needD (P := P) (w := w) (base := base) dNeedD dBelow TM x5 gBelow
  have gMoved := ok_movedL (P := P) (w := w) (base := base) dMoved TM
  have gFirst := ok_first (P := P) (w := w) (base := base) dFF B TM
  have gUi := ok_uinit (P := P) (w := w) (base := base) fUi U
  have gJoined := ok_joined (P := P) (w := w) (base := base) dJoined dFF U B iC tI bI gUi gFirst
  have gNeedSs := ok_needSs (P := P) (w := w) (base := base) dNeedSs dNeedS gNeedS
  have gJoin := ok_join (P := P) (w := w) (base := base) dJoin dNeedSs dJoined gNeedSs gJoined
  have gPair := ok_pair (P := P) (w := w) (base := base) dPair dSeq dFnb gSeq gFnb
  have gCties := ok_ctiesL (P := P) (w := w) (base := base) dCties dWhole dSeq dPair B cw x2 gWhole gSeq gPair
  have gWi := ok_winitL (P := P) (w := w) (base := base) fiW dCties TW gCties
  have gNeedH := ok_needH (P := P) (w := w) (base := base) dNeedH dBelow TW x6 gBelow
  have gNeedT := ok_needT (P := P) (w := w) (base := base) dNeedT dBelow B TW x7 gBelow
  have gWays := ok_ways (P := P) (w := w) (base := base) dWays B TW
  have gFw := ok_fways (P := P) (w := w) (base := base) dFw dWays B gWays
  have gPart := ok_part (P := P) (w := w) (base := base) dPart dNeedH dFw B gNeedH gFw
  have gRepl := ok_repl (P := P) (w := w) (base := base) dRepl
  have gIsStep := ok_isStep (P := P) (w := w) (base := base) dIsStep dSeq dBelow B cs TW gSeq gBelow
  have gSf := ok_sfault (P := P) (w := w) (base := base) dSf dSeq dIsStep B cs gSeq gIsStep
  have gSo := ok_stepsOf (P := P) (w := w) (base := base) dSo dSf B x3 gSf
  have gCk := ok_ckSteps (P := P) (w := w) (base := base) dCk dSo TM gSo
  have gStand := ok_stand (P := P) (w := w) (base := base) dStand dNeedS B TN TW gNeedS
  have gDone := ok_doneAt (P := P) (w := w) (base := base) dDone dNeedH dNeedD dRepl TN TM TW cs gNeedH gNeedD gRepl
  have gJo := ok_joinO (P := P) (w := w) (base := base) dJo dNeedT dJoin TN TW gNeedT gJoin
  have gPj := ok_putJ (M := M) (P := P) (w := w) (base := base) dPj dRepl TN TW cs gRepl
  have gNi := ok_ninit (P := P) (w := w) (base := base) fiN dStand gStand
  have gDo := ok_ndo (P := P) (w := w) (base := base) f_N_do dDone gDone
  have gMeet := ok_nmeet (P := P) (w := w) (base := base) f_N_meet dJo dPj gJo gPj
  have nmS : NMs P w K mg base N M W CH CD CT CU := ⟨TN, ⟨_, _, mt_N_do, b_N_do, gDo⟩, ⟨_, _, mt_N_meet, b_N_meet, gMeet⟩⟩
  have nmK : NMk P w K mg base N M W CH CD CT CU := ⟨TN, ⟨_, _, mt_N_do, b_N_do, kb_ndo f_N_do, gDo⟩, ⟨_, _, mt_N_meet, b_N_meet, kb_nmeet f_N_meet, gMeet⟩⟩
  have gPt := ok_ptake (P := P) (w := w) (base := base) dPt nmS cs
  have gSa := ok_standA (CH := CH) (CD := CD) (CT := CT) (P := P) (w := w) (base := base) dSa dCk dPt TN mkN biN gNi gCk gPt
  have gTr := ok_truth (P := P) (w := w) (base := base) dTr dNeedS dCk dPart dMoved cs gNeedS gCk gPart gMoved
  have gDealt := ok_dealt (P := P) (w := w) (base := base) dDealt B
  have gAny := ok_any (P := P) (w := w) (base := base) dAny B
  have gOf := ok_of (P := P) (w := w) (base := base) dOf dAny B gAny
  have gWeb := ok_web (P := P) (w := w) (base := base) dLweb dAny dOf B gAny gOf
  have gLs := ok_lsteps (P := P) (w := w) (base := base) dLs dAny B gAny
  have gLj := ok_ljoins (P := P) (w := w) (base := base) dLj B
  have gLd := ok_ljd (P := P) (w := w) (base := base) dLd B
  have hd : Hd K mg base CB CU CS CD CH CT := ⟨B, t.heard, U, t.t3, t.t4, t.t5, t.t6, t.t7, t.ex⟩
  have gOdd := ok_oddTold (P := P) (w := w) (T := T3 Pt Px Pu) t.oddR TBx (List.mem_cons_of_mem _ List.mem_cons_self) (fun p hp e => by
    simp only [List.mem_cons, List.mem_nil_iff, or_false] at hp
    rcases hp with rfl | rfl | rfl
    · exact absurd e t.nPtPx
    · rfl
    · exact absurd e.symm t.nPxPu) dAny dOf dCk dSa dTr B hd nmK TM TW mkN biN gNi gAny gOf gCk gSa gTr
  have gIss := ok_isStepped (P := P) (w := w) (T := T3 Pt Px Pu) t.issR TBu (List.mem_cons_of_mem _ (List.mem_cons_of_mem _ List.mem_cons_self)) (fun p hp e => by
    simp only [List.mem_cons, List.mem_nil_iff, or_false] at hp
    rcases hp with rfl | rfl | rfl
    · exact absurd e t.nPtPu
    · exact absurd e t.nPxPu
    · rfl) dLj B hd nmK gLj
  exact ok_law t.law TB List.mem_cons_self (fun p hp e => by
    simp only [List.mem_cons, List.mem_nil_iff, or_false] at hp
    rcases hp with rfl | rfl | rfl
    · rfl
    · exact absurd e.symm t.nPtPx
    · exact absurd e.symm t.nPtPu) (⟨B, hd, nmK, TM, TW, IM, IW, ⟨_, _, dDealt, gDealt⟩, ⟨_, _, dAny, gAny⟩, ⟨_, _, dOf, gOf⟩, ⟨_, _, dLweb, gWeb⟩, ⟨_, _, dLs, gLs⟩, ⟨_, _, dLd, gLd⟩, ⟨_, _, mkM, biM, gMi⟩, ⟨_, _, mkW, biW, gWi⟩, ⟨_, _, fiN, mkN, biN, gNi⟩, ⟨_, _, dCk, gCk⟩, ⟨_, _, dSa, gSa⟩, ⟨_, _, dTr, gTr⟩, ⟨_, _, t.issRD, gIss⟩, ⟨_, _, t.oddRD, gOdd⟩⟩ : Dn P w K mg base N M W CM CB CU CS CD CH CT (T3 Pt Px Pu))
end
/-- the end: from what the top has left -/
theorem walkK {l : PySem.W.OpenLaw} {q : Program} {loose : List Str} {XP : (Str → Option Value) → Heap → Prop} {YP : World → Heap → Prop} {d : DefRec} {K : Params → PySem.W.Frag} (hn : l.most = some 63) (hdf : d.params.defaults = []) (hY : ∀ (w : World) (h : Heap), YP w h → (K w.params).In h)
    (hr : ∃ d', (recsOf q).find? (fun e => e.name == ("law" : Str)) = some d') (hrx : ∃ d', (recsOf q).find? (fun e => e.name == ("_law_is_odd_told" : Str)) = some d') (hru : ∃ d', (recsOf q).find? (fun e => e.name == ("_law_is_stepped" : Str)) = some d')
    (F : ∀ (w : World) (mg : Str → Option Value) (fa : Addr) (h : Heap), (K w.params).In h → h.Ns mainGlobals mg → mg d.name = some (.ref fa) → ∃ (M W N CM CW CB CU CS CD CH CT c Pt cx Px cu Pu fx fu : Addr) (fd fdx fdu : FuncData), Tp (K w.params) mg M W N CM CW CB CU CS CD CH CT c Pt cx Px cu Pu fa fx fu fd fdx fdu) :
    PySem.W.WalkO q loose XP YP l.row.toRowW d [] (fun f vs => PySem.call f vs) := by
  refine Att.attach_callB hn hdf fun w s₀ s₁ mg mb fa o pm cd doc a vs ns G Y ho hd hcd hmg hobj hints hlen hbits hg => ?_
  have KX := hY w _ Y
  obtain ⟨M, W, N, CM, CW, CB, CU, CS, CD, CH, CT, c, Pt, cx, Px, cu, Pu, fx, fu, fd, fdx, fdu, t⟩ := F w mg fa _ KX G.T.g hmg
  obtain ⟨d_hr, hr⟩ := hr
  obtain ⟨d_hrx, hrx⟩ := hrx
  obtain ⟨d_hru, hru⟩ := hru
  obtain ⟨Chr, Thr⟩ := PySem.W.tab_of G.T KX hr t.tab
  obtain ⟨Chrx, Thrx⟩ := PySem.W.tab_of G.T KX hrx t.tabx
  obtain ⟨Chru, Thru⟩ := PySem.W.tab_of G.T KX hru t.tabu
  exact call_laws (k := 13) [(c, Pt), (cx, Px), (cu, Pu)] (x := "_law_script") (sp := spLaw (K w.params) (T3 Pt Px Pu)) KX G.T.g G.T.b G.T.builtins G.T.nolimit hg (fun p hp => by
      simp only [List.mem_cons, List.mem_nil_iff, or_false] at hp
      rcases hp with rfl | rfl | rfl
      · exact ⟨Thr, t.nP, Chr⟩
      · exact ⟨Thrx, t.nPx, Chrx⟩
      · exact ⟨Thru, t.nPu, Chru⟩) G.T.bmain hobj hints (Nat.le_trans hlen (by decide)) ⟨rfl, by decide, by decide⟩ (fun base _ _ TB => asm t (TB _ List.mem_cons_self) (TB _ (List.mem_cons_of_mem _ List.mem_cons_self)) (TB _ (List.mem_cons_of_mem _ (List.mem_cons_of_mem _ List.mem_cons_self)))) t.lawb
    fun H hP hS => ⟨a, ns, rfl, hS, hlen, fun p hp => by
      simp only [List.mem_cons, List.mem_nil_iff, or_false] at hp
      rcases hp with rfl | rfl | rfl
      · exact .nil (hP _ List.mem_cons_self)
      · exact .nil (hP _ (List.mem_cons_of_mem _ List.mem_cons_self))
      · exact .nil (hP _ (List.mem_cons_of_mem _ (List.mem_cons_of_mem _ List.mem_cons_self))), fun _ => rfl⟩
end K1
namespace K1
open PySem PySem.Spec PyProof.Rows L2
section
variable {K : PySem.W.Frag} {h : Heap} {mg : Str → Option Value} {x qual : Str} {st : Stmt} {ps : List Str} {f C : Addr} {oc kV doc pm cdv ct : Value} {od an : Option Addr} {osl : Array (Option Value)}
theorem df_of (X : K.In h) (G : h.Ns mainGlobals mg) (a : PySem.W.nsIn K mainGlobals x = some (some (.ref f))) (l : K.lookup f = some ⟨oc, od, .func (PySem.W.fnOf x x (defArgs st) (defBody st) (defScope st) .none kV doc pm an cdv ct), osl⟩)
    (c : PySem.W.codeIn K cdv x = true) (k : PySem.W.keepIn K (.ref f) = true)
    (b : ∀ (kV doc pm : Value) (an : Option Addr) (cdv ct : Value) (us : List Value), us.length = ps.length → bindArgs (PySem.W.fnOf x x (defArgs st) (defBody st) (defScope st) .none kV doc pm an cdv ct) ⟨us, []⟩ = pure (ps.zip us)) : ∃ f fd, Df K mg x st ps f fd :=
  ⟨f, _, ⟨fun_mk l c k, PySem.W.mg_of X G a, (fun_mk l c k).binds b⟩⟩
theorem dfc_of {cc : Addr} (X : K.In h) (G : h.Ns mainGlobals mg) (a : PySem.W.nsIn K mainGlobals x = some (some (.ref f))) (l : K.lookup f = some ⟨oc, od, .func (PySem.W.fnOf x x (defArgs st) (defBody st) (defScope st) .none kV doc pm an (.ref cc) ct), osl⟩)
    (c : PySem.W.codeIn K (.ref cc) x = true) (k : PySem.W.keepIn K (.ref f) = true)
    (b : ∀ (kV doc pm : Value) (an : Option Addr) (cdv ct : Value) (us : List Value), us.length = ps.length → bindArgs (PySem.W.fnOf x x (defArgs st) (defBody st) (defScope st) .none kV doc pm an cdv ct) ⟨us, []⟩ = pure (ps.zip us)) : ∃ f fd, Df K mg x st ps f fd ∧ FunC K x x st f fd (.ref cc) :=
  ⟨f, _, ⟨fun_mk l c k, PySem.W.mg_of X G a, (fun_mk l c k).binds b⟩, ⟨oc, od, kV, doc, pm, an, ct, osl, rfl, l, c⟩, k⟩
theorem law_of {fa cc : Addr} (X : K.In h) (G : h.Ns mainGlobals mg) (e : mg "law" = some (.ref fa)) (a : PySem.W.nsIn K mainGlobals "law" = some (some (.ref f))) (l : K.lookup f = some ⟨oc, od, .func (PySem.W.fnOf "law" "law" (defArgs sLaw) (defBody sLaw) (defScope sLaw) .none kV doc pm an (.ref cc) ct), osl⟩)
    (c : PySem.W.codeIn K (.ref cc) "law" = true) (k : PySem.W.keepIn K (.ref f) = true) : ∃ fd, FunC K "law" "law" sLaw fa fd (.ref cc) ∧ ∀ (s : Shared) (u : Value), BindsTo s fd ⟨[u], []⟩ [("_law_script", u)] := by
  have z := e.symm.trans (PySem.W.mg_of X G a)
  cases Option.some.inj z
  exact ⟨_, ⟨⟨oc, od, kV, doc, pm, an, ct, osl, rfl, l, c⟩, k⟩, fun s u => .of_eq rfl⟩
theorem lawF_of {fa : Addr} (X : K.In h) (G : h.Ns mainGlobals mg) (e : mg "law" = some (.ref fa)) (a : PySem.W.nsIn K mainGlobals "law" = some (some (.ref f))) (l : K.lookup f = some ⟨oc, od, .func (PySem.W.fnOf "law" "law" (defArgs sLaw) (defBody sLaw) (defScope sLaw) .none kV doc pm an cdv ct), osl⟩)
    (c : PySem.W.codeIn K cdv "law" = true) (k : PySem.W.keepIn K (.ref f) = true) : ∃ fd, Fun K "law" "law" sLaw fa fd ∧ ∀ (s : Shared) (u : Value), BindsTo s fd ⟨[u], []⟩ [("_law_script", u)] := by
  have z := e.symm.trans (PySem.W.mg_of X G a)
  cases Option.some.inj z
  exact ⟨_, fun_mk l c k, fun s u => .of_eq rfl⟩
theorem init_M {M : Addr} (a : PySem.W.findIn K (.ref M) "__init__" = some (some (.ref f))) (i : PySem.W.isFn K (.ref f) = true) (m : PySem.W.makesIn K M = true) (kM : PySem.W.keepIn K (.ref M) = true)
    (l : K.lookup f = some ⟨oc, od, .func (PySem.W.fnOf "__init__" "Machine.__init__" (defArgs sMInit) (defBody sMInit) (defScope sMInit) .none kV doc pm an cdv ct), osl⟩) (c : PySem.W.codeIn K cdv "Machine.__init__" = true) (k : PySem.W.keepIn K (.ref f) = true) :
    ∃ f fd, Fun K "__init__" "Machine.__init__" sMInit f fd ∧ Mk K M f ∧ Binds K fd ["self", "tables"] [] :=
  ⟨f, _, fun_mk l c k, ⟨m, a, i, kM⟩, (fun_mk l c k).binds fun _ _ _ _ _ _ us hl => match us, hl with | [_, _], _ => rfl⟩
theorem meq_of {M : Addr} (a : PySem.W.findIn K (.ref M) "__eq__" = some (some (.ref f))) (i : PySem.W.isFn K (.ref f) = true)
    (l : K.lookup f = some ⟨oc, od, .func (PySem.W.fnOf "__eq__" "Machine.__eq__" (defArgs sMEq) (defBody sMEq) (defScope sMEq) .none kV doc pm an cdv ct), osl⟩) (c : PySem.W.codeIn K cdv "Machine.__eq__" = true) (k : PySem.W.keepIn K (.ref f) = true) :
    ∃ f fd, Fun K "__eq__" "Machine.__eq__" sMEq f fd ∧ PySem.W.findIn K (.ref M) "__eq__" = some (some (.ref f)) ∧ PySem.W.isFn K (.ref f) = true ∧ Binds K fd ["self", "other"] [] :=
  ⟨f, _, fun_mk l c k, a, i, (fun_mk l c k).binds fun _ _ _ _ _ _ us hl => match us, hl with | [_, _], _ => rfl⟩
theorem ui_of {C : Addr} (a : PySem.W.findIn K (.ref C) "__init__" = some (some (.ref f))) (i : PySem.W.typeIn K (.ref f) = some (.type "function"))
    (l : K.lookup f = some ⟨oc, od, .func (PySem.W.fnOf "__init__" "Untold.__init__" (defArgs sUInit) (defBody sUInit) (defScope sUInit) .none kV doc pm an cdv ct), osl⟩) (c : PySem.W.codeIn K cdv "Untold.__init__" = true) (k : PySem.W.keepIn K (.ref f) = true) :
    ∃ f fd, Fun K "__init__" "Untold.__init__" sUInit f fd ∧ PySem.W.findIn K (.ref C) "__init__" = some (some (.ref f)) ∧ PySem.W.typeIn K (.ref f) = some (.type "function") ∧ Binds K fd ["self", "archive", "here", "there"] [] :=
  ⟨f, _, fun_mk l c k, a, i, (fun_mk l c k).binds fun _ _ _ _ _ _ us hl => match us, hl with | [_, _, _, _], _ => rfl⟩
theorem init_W {M : Addr} (a : PySem.W.findIn K (.ref M) "__init__" = some (some (.ref f))) (i : PySem.W.isFn K (.ref f) = true) (m : PySem.W.makesIn K M = true) (kM : PySem.W.keepIn K (.ref M) = true)
    (l : K.lookup f = some ⟨oc, od, .func (PySem.W.fnOf "__init__" "Web.__init__" (defArgs sWInit) (defBody sWInit) (defScope sWInit) .none kV doc pm an cdv ct), osl⟩) (c : PySem.W.codeIn K cdv "Web.__init__" = true) (k : PySem.W.keepIn K (.ref f) = true) :
    ∃ f fd, Fun K "__init__" "Web.__init__" sWInit f fd ∧ Mk K M f ∧ Binds K fd ["self", "houses", "ties"] [] :=
  ⟨f, _, fun_mk l c k, ⟨m, a, i, kM⟩, (fun_mk l c k).binds fun _ _ _ _ _ _ us hl => match us, hl with | [_, _, _], _ => rfl⟩
theorem weq_of {M : Addr} (a : PySem.W.findIn K (.ref M) "__eq__" = some (some (.ref f))) (i : PySem.W.isFn K (.ref f) = true)
    (l : K.lookup f = some ⟨oc, od, .func (PySem.W.fnOf "__eq__" "Web.__eq__" (defArgs sWEq) (defBody sWEq) (defScope sWEq) .none kV doc pm an cdv ct), osl⟩) (c : PySem.W.codeIn K cdv "Web.__eq__" = true) (k : PySem.W.keepIn K (.ref f) = true) :
    ∃ f fd, Fun K "__eq__" "Web.__eq__" sWEq f fd ∧ PySem.W.findIn K (.ref M) "__eq__" = some (some (.ref f)) ∧ PySem.W.isFn K (.ref f) = true ∧ Binds K fd ["self", "other"] [] :=
  ⟨f, _, fun_mk l c k, a, i, (fun_mk l c k).binds fun _ _ _ _ _ _ us hl => match us, hl with | [_, _], _ => rfl⟩
theorem init_N {M : Addr} (a : PySem.W.findIn K (.ref M) "__init__" = some (some (.ref f))) (i : PySem.W.isFn K (.ref f) = true) (m : PySem.W.makesIn K M = true) (kM : PySem.W.keepIn K (.ref M) = true)
    (l : K.lookup f = some ⟨oc, od, .func (PySem.W.fnOf "__init__" "Net.__init__" (defArgs sNetInit) (defBody sNetInit) (defScope sNetInit) .none kV doc pm an cdv ct), osl⟩) (c : PySem.W.codeIn K cdv "Net.__init__" = true) (k : PySem.W.keepIn K (.ref f) = true) :
    ∃ f fd, Fun K "__init__" "Net.__init__" sNetInit f fd ∧ Mk K M f ∧ Binds K fd ["self", "machine", "web", "first"] [] :=
  ⟨f, _, fun_mk l c k, ⟨m, a, i, kM⟩, (fun_mk l c k).binds fun _ _ _ _ _ _ us hl => match us, hl with | [_, _, _, _], _ => rfl⟩
theorem meth_N_do {M : Addr} (a : PySem.W.findIn K (.ref M) "do" = some (some (.ref f))) (i : PySem.W.isFn K (.ref f) = true)
    (l : K.lookup f = some ⟨oc, od, .func (PySem.W.fnOf "do" "Net.do" (defArgs sNetDo) (defBody sNetDo) (defScope sNetDo) .none kV doc pm an cdv ct), osl⟩) (c : PySem.W.codeIn K cdv "Net.do" = true) (k : PySem.W.keepIn K (.ref f) = true) :
    ∃ f fd, Fun K "do" "Net.do" sNetDo f fd ∧ Meth K M "do" f ∧ Binds K fd ["self", "house", "deed"] [] :=
  ⟨f, _, fun_mk l c k, ⟨a, i, k⟩, (fun_mk l c k).binds fun _ _ _ _ _ _ us hl => match us, hl with | [_, _, _], _ => rfl⟩
theorem meth_N_meet {M : Addr} (a : PySem.W.findIn K (.ref M) "meet" = some (some (.ref f))) (i : PySem.W.isFn K (.ref f) = true)
    (l : K.lookup f = some ⟨oc, od, .func (PySem.W.fnOf "meet" "Net.meet" (defArgs sNetMeet) (defBody sNetMeet) (defScope sNetMeet) .none kV doc pm an cdv ct), osl⟩) (c : PySem.W.codeIn K cdv "Net.meet" = true) (k : PySem.W.keepIn K (.ref f) = true) :
    ∃ f fd, Fun K "meet" "Net.meet" sNetMeet f fd ∧ Meth K M "meet" f ∧ Binds K fd ["self", "tie"] [] :=
  ⟨f, _, fun_mk l c k, ⟨a, i, k⟩, (fun_mk l c k).binds fun _ _ _ _ _ _ us hl => match us, hl with | [_, _], _ => rfl⟩
end
section
variable {K : PySem.W.Frag} {h : Heap} {mg : Str → Option Value} {cn ql nm q : Str} {C N0 N fI : Addr} {bs sub : List Value} {sn : List Str} {ab : Bool} {col : Option Bool} {dd : Option Addr} {k0 k1 k2 k3 k5 : Option Value} {oc doc pm cdv ct : Value} {od an : Option Addr} {osl : Array (Option Value)} {p1 p2 q1 q2 q3 q4 : Pos}
theorem LAt_of_ (X : K.In h) (G : h.Ns mainGlobals mg) (a : PySem.W.nsIn K mainGlobals cn = some (some (.ref C))) (xl : K.lookup C = some (excClassObj nm q C N bs (.ref N0 :: veT) true sn sub ab col dd k0 k1 k2 k3 k5 "ValueError.__new__"))
    (sa : PySem.W.findIn K (.ref C) "__setattr__" = some (some (.builtin "object.__setattr__"))) (ga : PySem.W.findIn K (.ref C) "__getattribute__" = some (some (.builtin "BaseException.__getattribute__"))) (gg : PySem.W.findIn K (.ref C) "__getattr__" = some none) (no : PySem.W.findIn K (.ref C) "at" = some none)
    (ic : PySem.W.findIn K (.ref C) "__init__" = some (some (.ref fI))) (tc : PySem.W.typeIn K (.ref fI) = some (.type "function")) (kc : PySem.W.keepIn K (.ref C) = true) (ec : PySem.W.subIn K (.ref C) (.type "BaseException") = some true) (ty : PySem.W.typeIn K (.ref C) = some (.type "type")) (hc : PySem.W.hasDictIn K C = true)
    (l : K.lookup fI = some ⟨oc, od, .func (PySem.W.fnOf "__init__" ql (LAt.iA p1 p2) (LAt.iB q1 q2 q3 q4) LAt.iS .none .none doc pm an cdv ct), osl⟩) (c : PySem.W.codeIn K cdv ql = true) : ∃ q b i, LAt.Txt K mg cn q b C i :=
  ⟨ql, _, fI, ⟨PySem.W.mg_of X G a, ⟨nm, q, N, bs, sn, sub, ab, col, dd, k0, k1, k2, k3, k5, xl⟩, mro_ve N0, sa, ga, gg, no, ic, tc, kc, ec, ty, hc, ⟨oc, od, doc, pm, an, cdv, ct, osl, p1, p2, q1, q2, q3, q4, l, c⟩⟩⟩
theorem LDeed_of_ (X : K.In h) (G : h.Ns mainGlobals mg) (a : PySem.W.nsIn K mainGlobals cn = some (some (.ref C))) (xl : K.lookup C = some (excClassObj nm q C N bs keT true sn sub ab col dd k0 k1 k2 k3 k5 "LookupError.__new__"))
    (sa : PySem.W.findIn K (.ref C) "__setattr__" = some (some (.builtin "object.__setattr__"))) (ga : PySem.W.findIn K (.ref C) "__getattribute__" = some (some (.builtin "BaseException.__getattribute__"))) (gg : PySem.W.findIn K (.ref C) "__getattr__" = some none) (no : PySem.W.findIn K (.ref C) "deed" = some none)
    (ic : PySem.W.findIn K (.ref C) "__init__" = some (some (.ref fI))) (tc : PySem.W.typeIn K (.ref fI) = some (.type "function")) (kc : PySem.W.keepIn K (.ref C) = true) (ec : PySem.W.subIn K (.ref C) (.type "BaseException") = some true) (ty : PySem.W.typeIn K (.ref C) = some (.type "type")) (hc : PySem.W.hasDictIn K C = true)
    (l : K.lookup fI = some ⟨oc, od, .func (PySem.W.fnOf "__init__" ql (LDeed.iA p1 p2) (LDeed.iB q1 q2 q3 q4) LDeed.iS .none .none doc pm an cdv ct), osl⟩) (c : PySem.W.codeIn K cdv ql = true) : ∃ q b i, LDeed.Txt K mg cn q b C i :=
  ⟨ql, _, fI, ⟨PySem.W.mg_of X G a, ⟨nm, q, N, bs, sn, sub, ab, col, dd, k0, k1, k2, k3, k5, xl⟩, mro_ke, sa, ga, gg, no, ic, tc, kc, ec, ty, hc, ⟨oc, od, doc, pm, an, cdv, ct, osl, p1, p2, q1, q2, q3, q4, l, c⟩⟩⟩
theorem LHouse_of_ (X : K.In h) (G : h.Ns mainGlobals mg) (a : PySem.W.nsIn K mainGlobals cn = some (some (.ref C))) (xl : K.lookup C = some (excClassObj nm q C N bs keT true sn sub ab col dd k0 k1 k2 k3 k5 "LookupError.__new__"))
    (sa : PySem.W.findIn K (.ref C) "__setattr__" = some (some (.builtin "object.__setattr__"))) (ga : PySem.W.findIn K (.ref C) "__getattribute__" = some (some (.builtin "BaseException.__getattribute__"))) (gg : PySem.W.findIn K (.ref C) "__getattr__" = some none) (no : PySem.W.findIn K (.ref C) "house" = some none)
    (ic : PySem.W.findIn K (.ref C) "__init__" = some (some (.ref fI))) (tc : PySem.W.typeIn K (.ref fI) = some (.type "function")) (kc : PySem.W.keepIn K (.ref C) = true) (ec : PySem.W.subIn K (.ref C) (.type "BaseException") = some true) (ty : PySem.W.typeIn K (.ref C) = some (.type "type")) (hc : PySem.W.hasDictIn K C = true)
    (l : K.lookup fI = some ⟨oc, od, .func (PySem.W.fnOf "__init__" ql (LHouse.iA p1 p2) (LHouse.iB q1 q2 q3 q4) LHouse.iS .none .none doc pm an cdv ct), osl⟩) (c : PySem.W.codeIn K cdv ql = true) : ∃ q b i, LHouse.Txt K mg cn q b C i :=
  ⟨ql, _, fI, ⟨PySem.W.mg_of X G a, ⟨nm, q, N, bs, sn, sub, ab, col, dd, k0, k1, k2, k3, k5, xl⟩, mro_ke, sa, ga, gg, no, ic, tc, kc, ec, ty, hc, ⟨oc, od, doc, pm, an, cdv, ct, osl, p1, p2, q1, q2, q3, q4, l, c⟩⟩⟩
theorem LState_of_ (X : K.In h) (G : h.Ns mainGlobals mg) (a : PySem.W.nsIn K mainGlobals cn = some (some (.ref C))) (xl : K.lookup C = some (excClassObj nm q C N bs keT true sn sub ab col dd k0 k1 k2 k3 k5 "LookupError.__new__"))
    (sa : PySem.W.findIn K (.ref C) "__setattr__" = some (some (.builtin "object.__setattr__"))) (ga : PySem.W.findIn K (.ref C) "__getattribute__" = some (some (.builtin "BaseException.__getattribute__"))) (gg : PySem.W.findIn K (.ref C) "__getattr__" = some none) (no : PySem.W.findIn K (.ref C) "state" = some none)
    (ic : PySem.W.findIn K (.ref C) "__init__" = some (some (.ref fI))) (tc : PySem.W.typeIn K (.ref fI) = some (.type "function")) (kc : PySem.W.keepIn K (.ref C) = true) (ec : PySem.W.subIn K (.ref C) (.type "BaseException") = some true) (ty : PySem.W.typeIn K (.ref C) = some (.type "type")) (hc : PySem.W.hasDictIn K C = true)
    (l : K.lookup fI = some ⟨oc, od, .func (PySem.W.fnOf "__init__" ql (LState.iA p1 p2) (LState.iB q1 q2 q3 q4) LState.iS .none .none doc pm an cdv ct), osl⟩) (c : PySem.W.codeIn K cdv ql = true) : ∃ q b i, LState.Txt K mg cn q b C i :=
  ⟨ql, _, fI, ⟨PySem.W.mg_of X G a, ⟨nm, q, N, bs, sn, sub, ab, col, dd, k0, k1, k2, k3, k5, xl⟩, mro_ke, sa, ga, gg, no, ic, tc, kc, ec, ty, hc, ⟨oc, od, doc, pm, an, cdv, ct, osl, p1, p2, q1, q2, q3, q4, l, c⟩⟩⟩
theorem LTie_of_ (X : K.In h) (G : h.Ns mainGlobals mg) (a : PySem.W.nsIn K mainGlobals cn = some (some (.ref C))) (xl : K.lookup C = some (excClassObj nm q C N bs keT true sn sub ab col dd k0 k1 k2 k3 k5 "LookupError.__new__"))
    (sa : PySem.W.findIn K (.ref C) "__setattr__" = some (some (.builtin "object.__setattr__"))) (ga : PySem.W.findIn K (.ref C) "__getattribute__" = some (some (.builtin "BaseException.__getattribute__"))) (gg : PySem.W.findIn K (.ref C) "__getattr__" = some none) (no : PySem.W.findIn K (.ref C) "tie" = some none)
    (ic : PySem.W.findIn K (.ref C) "__init__" = some (some (.ref fI))) (tc : PySem.W.typeIn K (.ref fI) = some (.type "function")) (kc : PySem.W.keepIn K (.ref C) = true) (ec : PySem.W.subIn K (.ref C) (.type "BaseException") = some true) (ty : PySem.W.typeIn K (.ref C) = some (.type "type")) (hc : PySem.W.hasDictIn K C = true)
    (l : K.lookup fI = some ⟨oc, od, .func (PySem.W.fnOf "__init__" ql (LTie.iA p1 p2) (LTie.iB q1 q2 q3 q4) LTie.iS .none .none doc pm an cdv ct), osl⟩) (c : PySem.W.codeIn K cdv ql = true) : ∃ q b i, LTie.Txt K mg cn q b C i :=
  ⟨ql, _, fI, ⟨PySem.W.mg_of X G a, ⟨nm, q, N, bs, sn, sub, ab, col, dd, k0, k1, k2, k3, k5, xl⟩, mro_ke, sa, ga, gg, no, ic, tc, kc, ec, ty, hc, ⟨oc, od, doc, pm, an, cdv, ct, osl, p1, p2, q1, q2, q3, q4, l, c⟩⟩⟩
end
theorem cw_of {K : PySem.W.Frag} {h : Heap} {mg : Str → Option Value} {t0 t1 : Tok} (X : K.In h) (G : h.Ns mainGlobals mg) (a0 : PySem.W.nsIn K mainGlobals "MOST_HOUSES" = some (some (.int 12 t0))) (a1 : PySem.W.nsIn K mainGlobals "MOST_TIES" = some (some (.int 20 t1))) : Cw mg :=
  ⟨⟨_, PySem.W.mg_of X G a0⟩, ⟨_, PySem.W.mg_of X G a1⟩⟩
theorem kt_of {K : PySem.W.Frag} {h : Heap} {mg : Str → Option Value} {t0 t1 : Tok} (X : K.In h) (G : h.Ns mainGlobals mg) (a0 : PySem.W.nsIn K mainGlobals "MOST_TABLES" = some (some (.int 8 t0))) (a1 : PySem.W.nsIn K mainGlobals "MOST_STATES" = some (some (.int 12 t1))) : Ct mg :=
  ⟨⟨_, PySem.W.mg_of X G a0⟩, ⟨_, PySem.W.mg_of X G a1⟩⟩
theorem bt_of {K : PySem.W.Frag} {h : Heap} {mg : Str → Option Value} (X : K.In h) (G : h.Ns mainGlobals mg) (z : ∀ x ∈ ([("isinstance" : Str), "int", "bool", "list", "tuple", "len", "enumerate", "range", "sorted", "set", "repr", "abs", "min", "max", "sum", "all", "any", "zip", "str", "dict", "KeyError"]), PySem.W.nsIn K mainGlobals x = some none) : Bt mg := by
  have n := fun x hx => PySem.W.mg_none_of X G (z x hx)
  exact ⟨n _ (by decide), n _ (by decide), n _ (by decide), n _ (by decide), n _ (by decide), n _ (by decide), n _ (by decide), n _ (by decide), n _ (by decide), n _ (by decide), n _ (by decide), n _ (by decide), n _ (by decide), n _ (by decide), n _ (by decide), n _ (by decide), n _ (by decide), n _ (by decide), n _ (by decide), n _ (by decide), n _ (by decide)⟩
theorem tab_mk {K : PySem.W.Frag} {x : Str} {f c Pt : Addr} {oc o1 : Value} {od o2 : Option Addr} {fd : FuncData} {osl o4 : Array (Option Value)} {vs : Array Value} (a : PySem.W.nsIn K mainGlobals x = some (some (.ref f))) (l : K.lookup f = some ⟨oc, od, .func fd, osl⟩) (hc : fd.code = .ref c)
    (lc : K.lookup c = some ⟨o1, o2, .fields vs, o4⟩) (hv : (vs[11]? : Option Value) = some (.ref Pt)) : PySem.W.tabIn K x = some (c, Pt) := by
  unfold PySem.W.tabIn
  rw [a]
  dsimp only
  rw [l]
  dsimp only
  rw [hc]
  dsimp only
  rw [lc]
  dsimp only
  rw [hv]
section
variable {K : PySem.W.Frag} {h : Heap} {mg : Str → Option Value} {f : Addr} {oc kV doc pm cdv ct : Value} {od an : Option Addr} {osl : Array (Option Value)}
theorem dfF_of {T : Addr} {o1 : Value} {o2 : Option Addr} {n : Nat} {o4 : Array (Option Value)} (X : K.In h) (G : h.Ns mainGlobals mg) (a : PySem.W.nsIn K mainGlobals "first_rows" = some (some (.ref f)))
    (l : K.lookup f = some ⟨oc, od, .func (PySem.W.fnOf "first_rows" "first_rows" (defArgs sFirst) (defBody sFirst) (defScope sFirst) (.ref T) kV doc pm an cdv ct), osl⟩)
    (c : PySem.W.codeIn K cdv "first_rows" = true) (k : PySem.W.keepIn K (.ref f) = true) (lT : K.lookup T = some ⟨o1, o2, .seq #[.none, .none] n, o4⟩) : ∃ f fd, DfF K mg f fd :=
  ⟨f, _, ⟨⟨⟨oc, od, .ref T, kV, doc, pm, an, cdv, ct, osl, rfl, l, c, .inr ⟨by simp, T, _, [.none, .none], n, rfl, lT, rfl, .cons rfl (.cons rfl .nil)⟩, .inl rfl⟩, k⟩, PySem.W.mg_of X G a⟩⟩
end
section
variable {K : PySem.W.Frag} {h : Heap} {mg : Str → Option Value} {cn ql nm q : Str} {C N0 N fI : Addr} {bs sub : List Value} {sn : List Str} {ab : Bool} {col : Option Bool} {dd : Option Addr} {k0 k1 k2 k3 k5 : Option Value} {oc doc pm cdv ct : Value} {od an : Option Addr} {osl : Array (Option Value)} {p1 p2 q1 q2 q3 q4 : Pos}
theorem un_of (X : K.In h) (G : h.Ns mainGlobals mg) (a : PySem.W.nsIn K mainGlobals "Untold" = some (some (.ref C))) (xl : K.lookup C = some (excClassObj nm q C N bs (.ref N0 :: veT) true sn sub ab col dd k0 k1 k2 k3 k5 "ValueError.__new__")) (rv : PySem.HandSPX.refsVE (.ref N0 :: veT) = true)
    (sa : PySem.W.findIn K (.ref C) "__setattr__" = some (some (.builtin "object.__setattr__"))) (ga : PySem.W.findIn K (.ref C) "__getattribute__" = some (some (.builtin "BaseException.__getattribute__"))) (gg : PySem.W.findIn K (.ref C) "__getattr__" = some none)
    (n1 : PySem.W.findIn K (.ref C) "archive" = some none) (n2 : PySem.W.findIn K (.ref C) "here" = some none) (n3 : PySem.W.findIn K (.ref C) "there" = some none)
    (kc : PySem.W.keepIn K (.ref C) = true) (ec : PySem.W.subIn K (.ref C) (.type "BaseException") = some true) (ty : PySem.W.typeIn K (.ref C) = some (.type "type")) (hc : PySem.W.hasDictIn K C = true) : UnC K mg C :=
  ⟨⟨⟨nm, q, N, bs, _, sn, sub, ab, col, dd, k0, k1, k2, k3, k5, xl, rv⟩, sa, ec, ty, kc⟩, n1, n2, n3, ⟨ga, gg, ec, hc⟩, PySem.W.mg_of X G a⟩
end
theorem cs_of {K : PySem.W.Frag} {h : Heap} {mg : Str → Option Value} {t0 t1 t2 : Tok} (X : K.In h) (G : h.Ns mainGlobals mg) (a0 : PySem.W.nsIn K mainGlobals "MOST_STEPS" = some (some (.int 400 t0))) (a1 : PySem.W.nsIn K mainGlobals "DO" = some (some (.str "do" t1))) (a2 : PySem.W.nsIn K mainGlobals "MEET" = some (some (.str "meet" t2))) : Cs mg :=
  ⟨⟨_, PySem.W.mg_of X G a0⟩, ⟨_, PySem.W.mg_of X G a1⟩, ⟨_, PySem.W.mg_of X G a2⟩⟩
/-- the facts of the head, by the words that k_is answers -/
theorem tp_of {K : PySem.W.Frag} {h : Heap} {mg : Str → Option Value} {fa fN M W N CM CW CB CU CS CD CH CT NErr : Addr} {oc kV doc pm ct : Value} {od an : Option Addr} {osl : Array (Option Value)} {c Pt : Addr} {o1 : Value} {o2 : Option Addr} {o4 : Array (Option Value)} {vs : Array Value} {cx Px fNx : Addr} {ocx kVx docx pmx ctx o1x : Value} {odx anx o2x : Option Addr} {oslx o4x : Array (Option Value)} {vsx : Array Value} {cu Pu fNu : Addr} {ocu kVu docu pmu ctu o1u : Value} {odu anu o2u : Option Addr} {oslu o4u : Array (Option Value)} {vsu : Array Value} (X : K.In h) (G : h.Ns mainGlobals mg)
    (B : Bt mg) (ff : ∃ f fd, DfF K mg f fd) (cs : Cs mg) (u : UnC K mg CU) (ui : ∃ f fd, Fun K "__init__" "Untold.__init__" sUInit f fd ∧ PySem.W.findIn K (.ref CU) "__init__" = some (some (.ref f)) ∧ PySem.W.typeIn K (.ref f) = some (.type "function") ∧ Binds K fd ["self", "archive", "here", "there"] []) (cw : Cw mg) (kt : Ct mg)
    (whole : ∃ f fd, Df K mg "is_whole" sWhole ["value"] f fd)
    (below : ∃ f fd, Df K mg "is_below" sBelow ["value", "limit"] f fd)
    (seq : ∃ f fd, Df K mg "is_sequence" sSeq ["value", "least", "most"] f fd)
    (fnb : ∃ f fd, Df K mg "first_not_below" sFnb ["items", "limit"] f fd)
    (repl : ∃ f fd, Df K mg "replaced" sRepl ["items", "at", "item"] f fd)
    (isTab : ∃ f fd, Df K mg "is_table" sIsTab ["value", "states"] f fd)
    (chkT : ∃ f fd, Df K mg "checked_tables" sChk ["value"] f fd)
    (needS : ∃ f fd, Df K mg "need_state" sNeedS ["machine", "state"] f fd)
    (needD : ∃ f fd, Df K mg "need_deed" sNeedD ["machine", "deed"] f fd)
    (moved : ∃ f fd, Df K mg "moved" sMoved ["machine", "state", "row"] f fd)
    (needSs : ∃ f fd, Df K mg "need_states" sNeedSs ["machine", "states"] f fd)
    (joined : ∃ f fd, Df K mg "joined" sJoined ["machine", "archive", "here", "there"] f fd)
    (join : ∃ f fd, Df K mg "join" sJoin ["machine", "archive", "here", "there"] f fd)
    (pair : ∃ f fd, Df K mg "is_pair" sPair ["value", "houses"] f fd)
    (cties : ∃ f fd, Df K mg "checked_ties" sCTies ["houses", "ties"] f fd)
    (needH : ∃ f fd, Df K mg "need_house" sNeedH ["web", "house"] f fd)
    (needT : ∃ f fd, Df K mg "need_tie" sNeedT ["web", "tie"] f fd)
    (ways : ∃ f fd, Df K mg "ways_on" sWays ["web", "house"] f fd)
    (fw : ∃ f fd, Df K mg "first_ways" sFWays ["web", "house", "barred"] f fd)
    (part : ∃ f fd, Df K mg "part_of" sPart ["web", "house"] f fd)
    (isStep : ∃ f fd, Df K mg "is_step" sIsStep ["web", "deeds", "value"] f fd)
    (sf : ∃ f fd, Df K mg "steps_fault" sStepsFault ["web", "deeds", "value"] f fd)
    (so : ∃ f fd, Df K mg "steps_of" sStepsOf ["web", "deeds", "value"] f fd)
    (ck : ∃ f fd, Df K mg "check_steps" sCheckSteps ["machine", "web", "value"] f fd)
    (stand : ∃ f fd, Df K mg "stand_first" sStandFirst ["net", "machine", "web", "first"] f fd)
    (done : ∃ f fd, Df K mg "done_at" sDoneAt ["net", "house", "deed"] f fd)
    (jo : ∃ f fd, Df K mg "joined_over" sJoinedOver ["net", "tie"] f fd)
    (pj : ∃ f fd, Df K mg "put_joined" sPutJoined ["net", "tie", "joined"] f fd)
    (pt : ∃ f fd, Df K mg "take" sPTake ["books", "step"] f fd)
    (sa : ∃ f fd, Df K mg "standing_after" sStandingAfter ["machine", "web", "first", "steps"] f fd)
    (tr : ∃ f fd, Df K mg "truth_of" sTruthOf ["machine", "web", "first", "steps", "house"] f fd)
    (dealt : ∃ f fd, Df K mg "_law_dealt" sLDealt ["_law_script"] f fd)
    (any : ∃ f fd, Df K mg "_law_any" sLAny ["_law_deal", "_law_bound"] f fd)
    (of : ∃ f fd, Df K mg "_law_of" sLOf ["_law_deal", "_law_some"] f fd)
    (lweb : ∃ f fd, Df K mg "_law_web" sLWeb ["_law_deal", "_law_most"] f fd)
    (ls : ∃ f fd, Df K mg "_law_steps" sLSteps ["_law_deal", "_law_many", "_law_ties", "_law_deeds", "_law_length"] f fd)
    (lj : ∃ f fd, Df K mg "_law_joins" sLJoins ["_law_tables", "_law_archive", "_law_here", "_law_there"] f fd)
    (heard : ∃ f fd, Df K mg "_law_heard" sLHeard ["_law_work"] f fd)
    (ld : ∃ f fd, Df K mg "_law_joined" sLJoined ["_law_houses", "_law_ties", "_law_house"] f fd)
    (eL : mg "law" = some (.ref fa)) (aN : PySem.W.nsIn K mainGlobals "law" = some (some (.ref fN))) (lN : K.lookup fN = some ⟨oc, od, .func (PySem.W.fnOf "law" "law" (defArgs sLaw) (defBody sLaw) (defScope sLaw) .none kV doc pm an (.ref c) ct), osl⟩)
    (cN : PySem.W.codeIn K (.ref c) "law" = true) (kN : PySem.W.keepIn K (.ref fN) = true) (lc : K.lookup c = some ⟨o1, o2, .fields vs, o4⟩) (hv : (vs[11]? : Option Value) = some (.ref Pt)) (nP : K.lookup Pt = Option.none)
    (aNx : PySem.W.nsIn K mainGlobals "_law_is_odd_told" = some (some (.ref fNx))) (lNx : K.lookup fNx = some ⟨ocx, odx, .func (PySem.W.fnOf "_law_is_odd_told" "_law_is_odd_told" (defArgs sLIsOddTold) (defBody sLIsOddTold) (defScope sLIsOddTold) .none kVx docx pmx anx (.ref cx) ctx), oslx⟩)
    (cNx : PySem.W.codeIn K (.ref cx) "_law_is_odd_told" = true) (kNx : PySem.W.keepIn K (.ref fNx) = true) (lcx : K.lookup cx = some ⟨o1x, o2x, .fields vsx, o4x⟩) (hvx : (vsx[11]? : Option Value) = some (.ref Px)) (nPx : K.lookup Px = Option.none)
    (aNu : PySem.W.nsIn K mainGlobals "_law_is_stepped" = some (some (.ref fNu))) (lNu : K.lookup fNu = some ⟨ocu, odu, .func (PySem.W.fnOf "_law_is_stepped" "_law_is_stepped" (defArgs sLIsStepped) (defBody sLIsStepped) (defScope sLIsStepped) .none kVu docu pmu anu (.ref cu) ctu), oslu⟩)
    (cNu : PySem.W.codeIn K (.ref cu) "_law_is_stepped" = true) (kNu : PySem.W.keepIn K (.ref fNu) = true) (lcu : K.lookup cu = some ⟨o1u, o2u, .fields vsu, o4u⟩) (hvu : (vsu[11]? : Option Value) = some (.ref Pu)) (nPu : K.lookup Pu = Option.none)
    (nPtPx : Pt ≠ Px)
    (nPtPu : Pt ≠ Pu)
    (nPxPu : Px ≠ Pu)
    (ac_M : PySem.W.nsIn K mainGlobals "Machine" = some (some (.ref M))) (pgM : PySem.W.plainGet K M Str.empty = true) (hdM : PySem.W.hasDictIn K M = true) (poM : PySem.W.plainOver K M = true) (saM : PySem.W.findIn K (.ref M) "__setattr__" = some (some (.builtin "object.__setattr__"))) (nM0 : PySem.W.findIn K (.ref M) "tables" = some Option.none) (nM1 : PySem.W.findIn K (.ref M) "deeds" = some Option.none) (nM2 : PySem.W.findIn K (.ref M) "states" = some Option.none) (caM : PySem.W.findIn K (.ref M) "__class__" = some (some (.builtin "object.__class__"))) (spM : PySem.W.specialIn K (.builtin "object.__class__") "__get__" = some (some (.builtin "getset_descriptor.__get__"))) (tkM : PySem.W.takesIn K (.builtin "object.__class__") = some true) (moM : PySem.W.mroIn K M (.type "object") = some true) (IM : McJ K M)
    (initM : ∃ f fd, Fun K "__init__" "Machine.__init__" sMInit f fd ∧ Mk K M f ∧ Binds K fd ["self", "tables"] [])
    (ac_W : PySem.W.nsIn K mainGlobals "Web" = some (some (.ref W))) (pgW : PySem.W.plainGet K W Str.empty = true) (hdW : PySem.W.hasDictIn K W = true) (poW : PySem.W.plainOver K W = true) (saW : PySem.W.findIn K (.ref W) "__setattr__" = some (some (.builtin "object.__setattr__"))) (nW0 : PySem.W.findIn K (.ref W) "ties" = some Option.none) (nW1 : PySem.W.findIn K (.ref W) "houses" = some Option.none) (IW : WcI K W)
    (initW : ∃ f fd, Fun K "__init__" "Web.__init__" sWInit f fd ∧ Mk K W f ∧ Binds K fd ["self", "houses", "ties"] [])
    (ac_N : PySem.W.nsIn K mainGlobals "Net" = some (some (.ref N))) (pgN : PySem.W.plainGet K N Str.empty = true) (hdN : PySem.W.hasDictIn K N = true) (poN : PySem.W.plainOver K N = true) (saN : PySem.W.findIn K (.ref N) "__setattr__" = some (some (.builtin "object.__setattr__"))) (nN0 : PySem.W.findIn K (.ref N) "first" = some Option.none) (nN1 : PySem.W.findIn K (.ref N) "machine" = some Option.none) (nN2 : PySem.W.findIn K (.ref N) "web" = some Option.none) (nN3 : PySem.W.findIn K (.ref N) "states" = some Option.none) (nN4 : PySem.W.findIn K (.ref N) "archives" = some Option.none) (nN5 : PySem.W.findIn K (.ref N) "steps" = some Option.none)
    (initN : ∃ f fd, Fun K "__init__" "Net.__init__" sNetInit f fd ∧ Mk K N f ∧ Binds K fd ["self", "machine", "web", "first"] [])
    (m_N_do : ∃ f fd, Fun K "do" "Net.do" sNetDo f fd ∧ Meth K N "do" f ∧ Binds K fd ["self", "house", "deed"] [])
    (m_N_meet : ∃ f fd, Fun K "meet" "Net.meet" sNetMeet f fd ∧ Meth K N "meet" f ∧ Binds K fd ["self", "tie"] [])
    (t1 : ∃ q b i, LAt.Txt K mg "BadMachine" q b CM i)
    (t2 : ∃ q b i, LAt.Txt K mg "BadWeb" q b CW i)
    (t3 : ∃ q b i, LAt.Txt K mg "BadSteps" q b CB i)
    (t4 : ∃ q b i, LState.Txt K mg "NoState" q b CS i)
    (t5 : ∃ q b i, LDeed.Txt K mg "NoDeed" q b CD i)
    (t6 : ∃ q b i, LHouse.Txt K mg "NoHouse" q b CH i)
    (t7 : ∃ q b i, LTie.Txt K mg "NoTie" q b CT i)
    (aNE : PySem.W.nsIn K mainGlobals "NetError" = some (some (.ref NErr))) (ex : Exm K CB CU CS CD CH CT NErr)
    : ∃ (M W N CM CW CB CU CS CD CH CT c Pt cx Px cu Pu fx fu : Addr) (fd fdx fdu : FuncData), Tp K mg M W N CM CW CB CU CS CD CH CT c Pt cx Px cu Pu fa fx fu fd fdx fdu := by
  obtain ⟨fd, l1, l2⟩ := law_of X G eL aN lN cN kN
  obtain ⟨fx, fdx, dx, lx⟩ := dfc_of (ps := ["_law_deal", "_law_machine", "_law_web_here", "_law_net", "_law_steps_here"]) X G aNx lNx cNx kNx fun _ _ _ _ _ _ us hl => match us, hl with | [_, _, _, _, _], _ => rfl
  obtain ⟨fu, fdu, du, lu⟩ := dfc_of (ps := ["_law_net", "_law_tables", "_law_ties", "_law_step", "_law_states", "_law_archives", "_law_done"]) X G aNu lNu cNu kNu fun _ _ _ _ _ _ us hl => match us, hl with | [_, _, _, _, _, _, _], _ => rfl
  exact ⟨M, W, N, CM, CW, CB, CU, CS, CD, CH, CT, c, Pt, cx, Px, cu, Pu, fx, fu, fd, fdx, fdu, ⟨B, ff, cs, u, ui, cw, kt, whole, below, seq, fnb, repl, isTab, chkT, needS, needD, moved, needSs, joined, join, pair, cties, needH, needT, ways, fw, part, isStep, sf, so, ck, stand, done, jo, pj, pt, sa, tr, dealt, any, of, lweb, ls, lj, heard, ld, lx, dx, lu, du, l1, l2, initM, ⟨⟨pgM, hdM, poM, saM⟩, nM0, nM1, nM2, PySem.W.mg_of X G ac_M, caM, spM, tkM, moM⟩, IM, initW, ⟨⟨pgW, hdW, poW, saW⟩, nW0, nW1, PySem.W.mg_of X G ac_W⟩, IW, initN, m_N_do, m_N_meet, ⟨⟨pgN, hdN, poN, saN⟩, nN0, nN1, nN2, nN3, nN4, nN5, PySem.W.mg_of X G ac_N⟩, t1, t2, t3, t4, t5, t6, t7, ⟨NErr, PySem.W.mg_of X G aNE, ex⟩, tab_mk aN lN rfl lc hv, nP, tab_mk aNx lNx rfl lcx hvx, nPx, tab_mk aNu lNu rfl lcu hvu, nPu, nPtPx, nPtPu, nPxPu⟩⟩
end K1
open PySem PySem.W PyProof.Rows
set_option maxRecDepth 100000 in
set_option maxHeartbeats 0 in
theorem PySem.Challenge.cw_houseslessties_k15_steps_nets_and_what_i_holds : PySem.Challenge.rw_houseslessties_k15_steps_nets_and_what_i.Holds := by
  w_on; o_law; k_head; (case hw => w_witness2)
  k_fill
  refine K1.walkK (l := PySem.Challenge.rw_houseslessties_k15_steps_nets_and_what_i) rfl rfl (fun w h Y => PySem.W.km_in_of Y) ?hr ?hrx ?hru ?F
  case hr => exact ⟨_, rfl⟩
  case hrx => exact ⟨_, rfl⟩
  case hru => exact ⟨_, rfl⟩
  case F =>
    intro w mg fa h KX G hmg
    refine' K1.tp_of KX G ?B ?ff ?cs ?u ?ui ?cw ?kt ?zwhole ?zbelow ?zseq ?zfnb ?zrepl ?zisTab ?zchkT ?zneedS ?zneedD ?zmoved ?zneedSs ?zjoined ?zjoin ?zpair ?zcties ?zneedH ?zneedT ?zways ?zfw ?zpart ?zisStep ?zsf ?zso ?zck ?zstand ?zdone ?zjo ?zpj ?zpt ?zsa ?ztr ?zdealt ?zany ?zof ?zlweb ?zls ?zlj ?zheard ?zld hmg ?aN ?lN ?cN ?kN ?lc ?hv ?nP ?aNx ?lNx ?cNx ?kNx ?lcx ?hvx ?nPx ?aNu ?lNu ?cNu ?kNu ?lcu ?hvu ?nPu ?nPtPx ?nPtPu ?nPxPu ?ac_M ?pgM ?hdM ?poM ?saM ?nM0 ?nM1 ?nM2 ?caM ?spM ?tkM ?moM ?IM ?initM ?ac_W ?pgW ?hdW ?poW ?saW ?nW0 ?nW1 ?IW ?initW ?ac_N ?pgN ?hdN ?poN ?saN ?nN0 ?nN1 ?nN2 ?nN3 ?nN4 ?nN5 ?initN ?m_N_do ?m_N_meet ?t1 ?t2 ?t3 ?t4 ?t5 ?t6 ?t7 ?aNE ?ex
    case B =>
      refine K1.bt_of KX G fun x hx => ?_
      simp only [List.mem_cons, List.mem_nil_iff, or_false] at hx
      rcases hx with rfl | rfl | rfl | rfl | rfl | rfl | rfl | rfl | rfl | rfl | rfl | rfl | rfl | rfl | rfl | rfl | rfl | rfl | rfl | rfl | rfl <;> k_is
    case ff => (refine' K1.dfF_of (by assumption) (by assumption) ?a_ff ?l_ff ?c_ff ?k_ff ?lT_ff; (case a_ff => k_is); (case l_ff => k_is); (case c_ff => k_is); (case k_ff => k_is); (case lT_ff => k_is))
    case cs => (refine' K1.cs_of (by assumption) (by assumption) ?c_0 ?c_1 ?c_2; (case c_0 => k_is); (case c_1 => k_is); (case c_2 => k_is))
    case u => (refine' K1.un_of (by assumption) (by assumption) ?a_u ?xl_u ?rv_u ?sa_u ?ga_u ?gg_u ?n1_u ?n2_u ?n3_u ?kc_u ?ec_u ?ty_u ?hc_u; (case a_u => k_is); (case xl_u => k_is); (case rv_u => rfl); (case sa_u => k_is); (case ga_u => k_is); (case gg_u => k_is); (case n1_u => k_is); (case n2_u => k_is); (case n3_u => k_is); (case kc_u => k_is); (case ec_u => k_is); (case ty_u => k_is); (case hc_u => k_is))
    case ui => (refine' K1.ui_of ?a_ui ?i_ui ?l_ui ?c_ui ?k_ui; (case a_ui => k_is); (case i_ui => k_is); (case l_ui => k_is); (case c_ui => k_is); (case k_ui => k_is))
    case cw => refine' K1.cw_of KX G ?acw0 ?acw1; (case acw0 => k_is); (case acw1 => k_is)
    case kt => refine' K1.kt_of KX G ?akt0 ?akt1; (case akt0 => k_is); (case akt1 => k_is)
    case zwhole =>
      (refine' K1.df_of (by assumption) (by assumption) ?a_0 ?l_0 ?c_0 ?k_0 ?b_0; (case a_0 => k_is); (case l_0 => k_is); (case c_0 => k_is); (case k_0 => k_is))
      case b_0 => exact fun _ _ _ _ _ _ us hl => match us, hl with | [_], _ => rfl
    case zbelow =>
      (refine' K1.df_of (by assumption) (by assumption) ?a_1 ?l_1 ?c_1 ?k_1 ?b_1; (case a_1 => k_is); (case l_1 => k_is); (case c_1 => k_is); (case k_1 => k_is))
      case b_1 => exact fun _ _ _ _ _ _ us hl => match us, hl with | [_, _], _ => rfl
    case zseq =>
      (refine' K1.df_of (by assumption) (by assumption) ?a_2 ?l_2 ?c_2 ?k_2 ?b_2; (case a_2 => k_is); (case l_2 => k_is); (case c_2 => k_is); (case k_2 => k_is))
      case b_2 => exact fun _ _ _ _ _ _ us hl => match us, hl with | [_, _, _], _ => rfl
    case zfnb =>
      (refine' K1.df_of (by assumption) (by assumption) ?a_3 ?l_3 ?c_3 ?k_3 ?b_3; (case a_3 => k_is); (case l_3 => k_is); (case c_3 => k_is); (case k_3 => k_is))
      case b_3 => exact fun _ _ _ _ _ _ us hl => match us, hl with | [_, _], _ => rfl
    case zrepl =>
      (refine' K1.df_of (by assumption) (by assumption) ?a_4 ?l_4 ?c_4 ?k_4 ?b_4; (case a_4 => k_is); (case l_4 => k_is); (case c_4 => k_is); (case k_4 => k_is))
      case b_4 => exact fun _ _ _ _ _ _ us hl => match us, hl with | [_, _, _], _ => rfl
    case zisTab =>
      (refine' K1.df_of (by assumption) (by assumption) ?a_5 ?l_5 ?c_5 ?k_5 ?b_5; (case a_5 => k_is); (case l_5 => k_is); (case c_5 => k_is); (case k_5 => k_is))
      case b_5 => exact fun _ _ _ _ _ _ us hl => match us, hl with | [_, _], _ => rfl
    case zchkT =>
      (refine' K1.df_of (by assumption) (by assumption) ?a_6 ?l_6 ?c_6 ?k_6 ?b_6; (case a_6 => k_is); (case l_6 => k_is); (case c_6 => k_is); (case k_6 => k_is))
      case b_6 => exact fun _ _ _ _ _ _ us hl => match us, hl with | [_], _ => rfl
    case zneedS =>
      (refine' K1.df_of (by assumption) (by assumption) ?a_7 ?l_7 ?c_7 ?k_7 ?b_7; (case a_7 => k_is); (case l_7 => k_is); (case c_7 => k_is); (case k_7 => k_is))
      case b_7 => exact fun _ _ _ _ _ _ us hl => match us, hl with | [_, _], _ => rfl
    case zneedD =>
      (refine' K1.df_of (by assumption) (by assumption) ?a_8 ?l_8 ?c_8 ?k_8 ?b_8; (case a_8 => k_is); (case l_8 => k_is); (case c_8 => k_is); (case k_8 => k_is))
      case b_8 => exact fun _ _ _ _ _ _ us hl => match us, hl with | [_, _], _ => rfl
    case zmoved =>
      (refine' K1.df_of (by assumption) (by assumption) ?a_9 ?l_9 ?c_9 ?k_9 ?b_9; (case a_9 => k_is); (case l_9 => k_is); (case c_9 => k_is); (case k_9 => k_is))
      case b_9 => exact fun _ _ _ _ _ _ us hl => match us, hl with | [_, _, _], _ => rfl
    case zneedSs =>
      (refine' K1.df_of (by assumption) (by assumption) ?a_10 ?l_10 ?c_10 ?k_10 ?b_10; (case a_10 => k_is); (case l_10 => k_is); (case c_10 => k_is); (case k_10 => k_is))
      case b_10 => exact fun _ _ _ _ _ _ us hl => match us, hl with | [_, _], _ => rfl
    case zjoined =>
      (refine' K1.df_of (by assumption) (by assumption) ?a_11 ?l_11 ?c_11 ?k_11 ?b_11; (case a_11 => k_is); (case l_11 => k_is); (case c_11 => k_is); (case k_11 => k_is))
      case b_11 => exact fun _ _ _ _ _ _ us hl => match us, hl with | [_, _, _, _], _ => rfl
    case zjoin =>
      (refine' K1.df_of (by assumption) (by assumption) ?a_12 ?l_12 ?c_12 ?k_12 ?b_12; (case a_12 => k_is); (case l_12 => k_is); (case c_12 => k_is); (case k_12 => k_is))
      case b_12 => exact fun _ _ _ _ _ _ us hl => match us, hl with | [_, _, _, _], _ => rfl
    case zpair =>
      (refine' K1.df_of (by assumption) (by assumption) ?a_13 ?l_13 ?c_13 ?k_13 ?b_13; (case a_13 => k_is); (case l_13 => k_is); (case c_13 => k_is); (case k_13 => k_is))
      case b_13 => exact fun _ _ _ _ _ _ us hl => match us, hl with | [_, _], _ => rfl
    case zcties =>
      (refine' K1.df_of (by assumption) (by assumption) ?a_14 ?l_14 ?c_14 ?k_14 ?b_14; (case a_14 => k_is); (case l_14 => k_is); (case c_14 => k_is); (case k_14 => k_is))
      case b_14 => exact fun _ _ _ _ _ _ us hl => match us, hl with | [_, _], _ => rfl
    case zneedH =>
      (refine' K1.df_of (by assumption) (by assumption) ?a_15 ?l_15 ?c_15 ?k_15 ?b_15; (case a_15 => k_is); (case l_15 => k_is); (case c_15 => k_is); (case k_15 => k_is))
      case b_15 => exact fun _ _ _ _ _ _ us hl => match us, hl with | [_, _], _ => rfl
    case zneedT =>
      (refine' K1.df_of (by assumption) (by assumption) ?a_16 ?l_16 ?c_16 ?k_16 ?b_16; (case a_16 => k_is); (case l_16 => k_is); (case c_16 => k_is); (case k_16 => k_is))
      case b_16 => exact fun _ _ _ _ _ _ us hl => match us, hl with | [_, _], _ => rfl
    case zways =>
      (refine' K1.df_of (by assumption) (by assumption) ?a_17 ?l_17 ?c_17 ?k_17 ?b_17; (case a_17 => k_is); (case l_17 => k_is); (case c_17 => k_is); (case k_17 => k_is))
      case b_17 => exact fun _ _ _ _ _ _ us hl => match us, hl with | [_, _], _ => rfl
    case zfw =>
      (refine' K1.df_of (by assumption) (by assumption) ?a_18 ?l_18 ?c_18 ?k_18 ?b_18; (case a_18 => k_is); (case l_18 => k_is); (case c_18 => k_is); (case k_18 => k_is))
      case b_18 => exact fun _ _ _ _ _ _ us hl => match us, hl with | [_, _, _], _ => rfl
    case zpart =>
      (refine' K1.df_of (by assumption) (by assumption) ?a_19 ?l_19 ?c_19 ?k_19 ?b_19; (case a_19 => k_is); (case l_19 => k_is); (case c_19 => k_is); (case k_19 => k_is))
      case b_19 => exact fun _ _ _ _ _ _ us hl => match us, hl with | [_, _], _ => rfl
    case zisStep =>
      (refine' K1.df_of (by assumption) (by assumption) ?a_20 ?l_20 ?c_20 ?k_20 ?b_20; (case a_20 => k_is); (case l_20 => k_is); (case c_20 => k_is); (case k_20 => k_is))
      case b_20 => exact fun _ _ _ _ _ _ us hl => match us, hl with | [_, _, _], _ => rfl
    case zsf =>
      (refine' K1.df_of (by assumption) (by assumption) ?a_21 ?l_21 ?c_21 ?k_21 ?b_21; (case a_21 => k_is); (case l_21 => k_is); (case c_21 => k_is); (case k_21 => k_is))
      case b_21 => exact fun _ _ _ _ _ _ us hl => match us, hl with | [_, _, _], _ => rfl
    case zso =>
      (refine' K1.df_of (by assumption) (by assumption) ?a_22 ?l_22 ?c_22 ?k_22 ?b_22; (case a_22 => k_is); (case l_22 => k_is); (case c_22 => k_is); (case k_22 => k_is))
      case b_22 => exact fun _ _ _ _ _ _ us hl => match us, hl with | [_, _, _], _ => rfl
    case zck =>
      (refine' K1.df_of (by assumption) (by assumption) ?a_23 ?l_23 ?c_23 ?k_23 ?b_23; (case a_23 => k_is); (case l_23 => k_is); (case c_23 => k_is); (case k_23 => k_is))
      case b_23 => exact fun _ _ _ _ _ _ us hl => match us, hl with | [_, _, _], _ => rfl
    case zstand =>
      (refine' K1.df_of (by assumption) (by assumption) ?a_24 ?l_24 ?c_24 ?k_24 ?b_24; (case a_24 => k_is); (case l_24 => k_is); (case c_24 => k_is); (case k_24 => k_is))
      case b_24 => exact fun _ _ _ _ _ _ us hl => match us, hl with | [_, _, _, _], _ => rfl
    case zdone =>
      (refine' K1.df_of (by assumption) (by assumption) ?a_25 ?l_25 ?c_25 ?k_25 ?b_25; (case a_25 => k_is); (case l_25 => k_is); (case c_25 => k_is); (case k_25 => k_is))
      case b_25 => exact fun _ _ _ _ _ _ us hl => match us, hl with | [_, _, _], _ => rfl
    case zjo =>
      (refine' K1.df_of (by assumption) (by assumption) ?a_26 ?l_26 ?c_26 ?k_26 ?b_26; (case a_26 => k_is); (case l_26 => k_is); (case c_26 => k_is); (case k_26 => k_is))
      case b_26 => exact fun _ _ _ _ _ _ us hl => match us, hl with | [_, _], _ => rfl
    case zpj =>
      (refine' K1.df_of (by assumption) (by assumption) ?a_27 ?l_27 ?c_27 ?k_27 ?b_27; (case a_27 => k_is); (case l_27 => k_is); (case c_27 => k_is); (case k_27 => k_is))
      case b_27 => exact fun _ _ _ _ _ _ us hl => match us, hl with | [_, _, _], _ => rfl
    case zpt =>
      (refine' K1.df_of (by assumption) (by assumption) ?a_28 ?l_28 ?c_28 ?k_28 ?b_28; (case a_28 => k_is); (case l_28 => k_is); (case c_28 => k_is); (case k_28 => k_is))
      case b_28 => exact fun _ _ _ _ _ _ us hl => match us, hl with | [_, _], _ => rfl
    case zsa =>
      (refine' K1.df_of (by assumption) (by assumption) ?a_29 ?l_29 ?c_29 ?k_29 ?b_29; (case a_29 => k_is); (case l_29 => k_is); (case c_29 => k_is); (case k_29 => k_is))
      case b_29 => exact fun _ _ _ _ _ _ us hl => match us, hl with | [_, _, _, _], _ => rfl
    case ztr =>
      (refine' K1.df_of (by assumption) (by assumption) ?a_30 ?l_30 ?c_30 ?k_30 ?b_30; (case a_30 => k_is); (case l_30 => k_is); (case c_30 => k_is); (case k_30 => k_is))
      case b_30 => exact fun _ _ _ _ _ _ us hl => match us, hl with | [_, _, _, _, _], _ => rfl
    case zdealt =>
      (refine' K1.df_of (by assumption) (by assumption) ?a_31 ?l_31 ?c_31 ?k_31 ?b_31; (case a_31 => k_is); (case l_31 => k_is); (case c_31 => k_is); (case k_31 => k_is))
      case b_31 => exact fun _ _ _ _ _ _ us hl => match us, hl with | [_], _ => rfl
    case zany =>
      (refine' K1.df_of (by assumption) (by assumption) ?a_32 ?l_32 ?c_32 ?k_32 ?b_32; (case a_32 => k_is); (case l_32 => k_is); (case c_32 => k_is); (case k_32 => k_is))
      case b_32 => exact fun _ _ _ _ _ _ us hl => match us, hl with | [_, _], _ => rfl
    case zof =>
      (refine' K1.df_of (by assumption) (by assumption) ?a_33 ?l_33 ?c_33 ?k_33 ?b_33; (case a_33 => k_is); (case l_33 => k_is); (case c_33 => k_is); (case k_33 => k_is))
      case b_33 => exact fun _ _ _ _ _ _ us hl => match us, hl with | [_, _], _ => rfl
    case zlweb =>
      (refine' K1.df_of (by assumption) (by assumption) ?a_34 ?l_34 ?c_34 ?k_34 ?b_34; (case a_34 => k_is); (case l_34 => k_is); (case c_34 => k_is); (case k_34 => k_is))
      case b_34 => exact fun _ _ _ _ _ _ us hl => match us, hl with | [_, _], _ => rfl
    case zls =>
      (refine' K1.df_of (by assumption) (by assumption) ?a_35 ?l_35 ?c_35 ?k_35 ?b_35; (case a_35 => k_is); (case l_35 => k_is); (case c_35 => k_is); (case k_35 => k_is))
      case b_35 => exact fun _ _ _ _ _ _ us hl => match us, hl with | [_, _, _, _, _], _ => rfl
    case zlj =>
      (refine' K1.df_of (by assumption) (by assumption) ?a_36 ?l_36 ?c_36 ?k_36 ?b_36; (case a_36 => k_is); (case l_36 => k_is); (case c_36 => k_is); (case k_36 => k_is))
      case b_36 => exact fun _ _ _ _ _ _ us hl => match us, hl with | [_, _, _, _], _ => rfl
    case zheard =>
      (refine' K1.df_of (by assumption) (by assumption) ?a_37 ?l_37 ?c_37 ?k_37 ?b_37; (case a_37 => k_is); (case l_37 => k_is); (case c_37 => k_is); (case k_37 => k_is))
      case b_37 => exact fun _ _ _ _ _ _ us hl => match us, hl with | [_], _ => rfl
    case zld =>
      (refine' K1.df_of (by assumption) (by assumption) ?a_38 ?l_38 ?c_38 ?k_38 ?b_38; (case a_38 => k_is); (case l_38 => k_is); (case c_38 => k_is); (case k_38 => k_is))
      case b_38 => exact fun _ _ _ _ _ _ us hl => match us, hl with | [_, _, _], _ => rfl
    (case aN => k_is); (case lN => k_is); (case cN => k_is); (case kN => k_is); (case lc => k_is); (case hv => rfl); (case nP => kernel_rfl)
    (case aNx => k_is); (case lNx => k_is); (case cNx => k_is); (case kNx => k_is); (case lcx => k_is); (case hvx => rfl); (case nPx => kernel_rfl)
    (case aNu => k_is); (case lNu => k_is); (case cNu => k_is); (case kNu => k_is); (case lcu => k_is); (case hvu => rfl); (case nPu => kernel_rfl)
    (case nPtPx => decide)
    (case nPtPu => decide)
    (case nPxPu => decide)
    (case ac_M => k_is); (case pgM => k_is); (case hdM => k_is); (case poM => k_is); (case saM => k_is); (case nM0 => k_is); (case nM1 => k_is); (case nM2 => k_is); (case caM => k_is); (case spM => k_is); (case tkM => k_is); (case moM => k_is)
    case IM => refine' ⟨⟨?yM, ?nM_⟩, ?neM, ?eqM⟩; (case yM => kernel_rfl); (case nM_ => kernel_rfl); (case neM => k_is); (case eqM => refine' K1.meq_of ?a_eM ?i_eM ?l_eM ?c_eM ?k_eM; (case a_eM => k_is); (case i_eM => k_is); (case l_eM => k_is); (case c_eM => k_is); (case k_eM => k_is))
    case initM => refine' K1.init_M ?a_IM ?i_IM ?m_IM ?kM_IM ?l_IM ?c_IM ?k_IM; (case a_IM => k_is); (case i_IM => k_is); (case m_IM => k_is); (case kM_IM => k_is); (case l_IM => k_is); (case c_IM => k_is); (case k_IM => k_is)
    (case ac_W => k_is); (case pgW => k_is); (case hdW => k_is); (case poW => k_is); (case saW => k_is); (case nW0 => k_is); (case nW1 => k_is)
    case IW => refine' ⟨?yW, ?caW, ?spW, ?tkW, ?moW, ?neW, ?eqW⟩; (case yW => kernel_rfl); (case caW => k_is); (case spW => k_is); (case tkW => k_is); (case moW => k_is); (case neW => k_is); (case eqW => refine' K1.weq_of ?a_eW ?i_eW ?l_eW ?c_eW ?k_eW; (case a_eW => k_is); (case i_eW => k_is); (case l_eW => k_is); (case c_eW => k_is); (case k_eW => k_is))
    case initW => refine' K1.init_W ?a_IW ?i_IW ?m_IW ?kM_IW ?l_IW ?c_IW ?k_IW; (case a_IW => k_is); (case i_IW => k_is); (case m_IW => k_is); (case kM_IW => k_is); (case l_IW => k_is); (case c_IW => k_is); (case k_IW => k_is)
    (case ac_N => k_is); (case pgN => k_is); (case hdN => k_is); (case poN => k_is); (case saN => k_is); (case nN0 => k_is); (case nN1 => k_is); (case nN2 => k_is); (case nN3 => k_is); (case nN4 => k_is); (case nN5 => k_is)
    case initN => refine' K1.init_N ?a_IN ?i_IN ?m_IN ?kM_IN ?l_IN ?c_IN ?k_IN; (case a_IN => k_is); (case i_IN => k_is); (case m_IN => k_is); (case kM_IN => k_is); (case l_IN => k_is); (case c_IN => k_is); (case k_IN => k_is)
    case m_N_do => refine' K1.meth_N_do ?a_Ndo ?i_Ndo ?l_Ndo ?c_Ndo ?k_Ndo; (case a_Ndo => k_is); (case i_Ndo => k_is); (case l_Ndo => k_is); (case c_Ndo => k_is); (case k_Ndo => k_is)
    case m_N_meet => refine' K1.meth_N_meet ?a_Nmeet ?i_Nmeet ?l_Nmeet ?c_Nmeet ?k_Nmeet; (case a_Nmeet => k_is); (case i_Nmeet => k_is); (case l_Nmeet => k_is); (case c_Nmeet => k_is); (case k_Nmeet => k_is)
    case t1 => (refine' K1.LAt_of_ (by assumption) (by assumption) ?a_t1 ?xl_t1 ?sa_t1 ?ga_t1 ?gg_t1 ?no_t1 ?ic_t1 ?tc_t1 ?kc_t1 ?ec_t1 ?ty_t1 ?hc_t1 ?l_t1 ?c_t1; (case a_t1 => k_is); (case xl_t1 => k_is); (case sa_t1 => k_is); (case ga_t1 => k_is); (case gg_t1 => k_is); (case no_t1 => k_is); (case ic_t1 => k_is); (case tc_t1 => k_is); (case kc_t1 => k_is); (case ec_t1 => k_is); (case ty_t1 => k_is); (case hc_t1 => k_is); (case l_t1 => k_is); (case c_t1 => k_is))
    case t2 => (refine' K1.LAt_of_ (by assumption) (by assumption) ?a_t2 ?xl_t2 ?sa_t2 ?ga_t2 ?gg_t2 ?no_t2 ?ic_t2 ?tc_t2 ?kc_t2 ?ec_t2 ?ty_t2 ?hc_t2 ?l_t2 ?c_t2; (case a_t2 => k_is); (case xl_t2 => k_is); (case sa_t2 => k_is); (case ga_t2 => k_is); (case gg_t2 => k_is); (case no_t2 => k_is); (case ic_t2 => k_is); (case tc_t2 => k_is); (case kc_t2 => k_is); (case ec_t2 => k_is); (case ty_t2 => k_is); (case hc_t2 => k_is); (case l_t2 => k_is); (case c_t2 => k_is))
    case t3 => (refine' K1.LAt_of_ (by assumption) (by assumption) ?a_t3 ?xl_t3 ?sa_t3 ?ga_t3 ?gg_t3 ?no_t3 ?ic_t3 ?tc_t3 ?kc_t3 ?ec_t3 ?ty_t3 ?hc_t3 ?l_t3 ?c_t3; (case a_t3 => k_is); (case xl_t3 => k_is); (case sa_t3 => k_is); (case ga_t3 => k_is); (case gg_t3 => k_is); (case no_t3 => k_is); (case ic_t3 => k_is); (case tc_t3 => k_is); (case kc_t3 => k_is); (case ec_t3 => k_is); (case ty_t3 => k_is); (case hc_t3 => k_is); (case l_t3 => k_is); (case c_t3 => k_is))
    case t4 => (refine' K1.LState_of_ (by assumption) (by assumption) ?a_t4 ?xl_t4 ?sa_t4 ?ga_t4 ?gg_t4 ?no_t4 ?ic_t4 ?tc_t4 ?kc_t4 ?ec_t4 ?ty_t4 ?hc_t4 ?l_t4 ?c_t4; (case a_t4 => k_is); (case xl_t4 => k_is); (case sa_t4 => k_is); (case ga_t4 => k_is); (case gg_t4 => k_is); (case no_t4 => k_is); (case ic_t4 => k_is); (case tc_t4 => k_is); (case kc_t4 => k_is); (case ec_t4 => k_is); (case ty_t4 => k_is); (case hc_t4 => k_is); (case l_t4 => k_is); (case c_t4 => k_is))
    case t5 => (refine' K1.LDeed_of_ (by assumption) (by assumption) ?a_t5 ?xl_t5 ?sa_t5 ?ga_t5 ?gg_t5 ?no_t5 ?ic_t5 ?tc_t5 ?kc_t5 ?ec_t5 ?ty_t5 ?hc_t5 ?l_t5 ?c_t5; (case a_t5 => k_is); (case xl_t5 => k_is); (case sa_t5 => k_is); (case ga_t5 => k_is); (case gg_t5 => k_is); (case no_t5 => k_is); (case ic_t5 => k_is); (case tc_t5 => k_is); (case kc_t5 => k_is); (case ec_t5 => k_is); (case ty_t5 => k_is); (case hc_t5 => k_is); (case l_t5 => k_is); (case c_t5 => k_is))
    case t6 => (refine' K1.LHouse_of_ (by assumption) (by assumption) ?a_t6 ?xl_t6 ?sa_t6 ?ga_t6 ?gg_t6 ?no_t6 ?ic_t6 ?tc_t6 ?kc_t6 ?ec_t6 ?ty_t6 ?hc_t6 ?l_t6 ?c_t6; (case a_t6 => k_is); (case xl_t6 => k_is); (case sa_t6 => k_is); (case ga_t6 => k_is); (case gg_t6 => k_is); (case no_t6 => k_is); (case ic_t6 => k_is); (case tc_t6 => k_is); (case kc_t6 => k_is); (case ec_t6 => k_is); (case ty_t6 => k_is); (case hc_t6 => k_is); (case l_t6 => k_is); (case c_t6 => k_is))
    case t7 => (refine' K1.LTie_of_ (by assumption) (by assumption) ?a_t7 ?xl_t7 ?sa_t7 ?ga_t7 ?gg_t7 ?no_t7 ?ic_t7 ?tc_t7 ?kc_t7 ?ec_t7 ?ty_t7 ?hc_t7 ?l_t7 ?c_t7; (case a_t7 => k_is); (case xl_t7 => k_is); (case sa_t7 => k_is); (case ga_t7 => k_is); (case gg_t7 => k_is); (case no_t7 => k_is); (case ic_t7 => k_is); (case tc_t7 => k_is); (case kc_t7 => k_is); (case ec_t7 => k_is); (case ty_t7 => k_is); (case hc_t7 => k_is); (case l_t7 => k_is); (case c_t7 => k_is))
    (case aNE => k_is)
    case ex =>
      refine' ⟨?e0, ?e1, ?e2, ?e3, ?e4, ?e5, ?e6, ?e7, ?e8, ?e9, ?e10, ?e11, ?e12, ?e13, ?e14, ?e15, ?e16, ?e17, ?e18, ?e19, ?e20⟩
      all_goals first | k_is | kernel_rfl
