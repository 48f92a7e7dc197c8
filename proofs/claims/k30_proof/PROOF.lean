import PyProof.Rows.All
import Wide.All
import OpenK.AllK
import Wide.FinOn
import HandS.ForMost
import HandS.ForExc
import HandS.ExcInit
import PyProof.ExcBaseAll.LookupError
import KE.KExcIs
import HandS.IsInst
import KE.GoesEnum
import PyProof.ReprRoads
import PySem.Challenge.RW_houseslessties_k30_whole_when_turns_lead
import HandS.TryMany
import HandS.Lambda
import HandS.Nested
import HandS.EndTab
import HandS.DictTup
import HandS.OwnEq
import HandS.Strs
import HandS.Conv
import HandS.TupAny
import HandS.TupMul
import HandS.SortInts
import HandS.Style
import HandS.MakeKw
import HandS.Defaults
import HandS.TupLe
import HandS.SetKeys
import HandS.SetFor
import HandS.RaiseMore
import HandS.CallLocal
import HandS.Zip
import HandS.Flow
import KE.GoesZip
import KE.GoesMore
import HandS.Base
import HandS.Call
import HandS.Exc
import HandS.Iter
import KE.KDictWalk
import PyProof.InstNe
import HandS.MakeKwOnly
import PyProof.Rows.ReprOcc
import HandS.HotCalls
import HandS.EndBits
set_option Elab.async false
set_option linter.all false
set_option maxRecDepth 100000
set_option maxHeartbeats 4000000
/-! exceptions of own classes whose base may be ValueError or KeyError: what is asked of the chain of classes stands as premises -/
namespace K1
open PySem PySem.HandSPX Builtin Builtin.ObjectAttr
/-- what the chain of classes behind the own one must be -/
structure Mro (B : String) (bm : List Value) : Prop where
  b : bm.contains (.type B) = true
  a : bm.contains (.type "AttributeError") = false
  n : bm.contains (.type "NameError") = false
  o : bm.contains (.type "object") = true
  p : ∀ self : Value, refuseLoop self "__setattr__" bm = pure ()
section
variable {prog : Program} {w : World} {A : Around} {E : Value → Shared → Prop} {R : Result → Shared → Prop} {h : Heap} {g : Array GenState} {d : Drawn} {t : Nat} {os : OsState}
variable {nm q : Str} {C N : Addr} {bs bm bmB : List Value} {hdct : Bool} {sn : List Str} {sub : List Value} {ab : Bool} {col : Option Bool} {dd : Option Addr} {k0 k1 k2 k3 k5 : Option Value} {B newId initId : String}
theorem check_newG {M : Model} (F : ExcBaseFacts B newId initId bmB) (T : Mro B bm) {rest : List Value} {Q : Unit → Shared → Prop}
    (hC : h.get? C = some (excClassObj nm q C N bs bm hdct sn sub ab col dd k0 k1 k2 k3 k5 newId)) (hq : Q () ⟨h, g, d, t, os⟩) : wpAny M A (checkBuiltinCall newId ⟨.ref C :: rest, []⟩) Q E ⟨h, g, d, t, os⟩ := by
  have hcont : (Value.ref C :: bm).contains (.type B) = true := by rw [List.contains_cons, T.b, Bool.or_true]
  have hstar := F.noStar
  simp only [checkBuiltinCall, F.newKind, F.newSplit, F.newRow]
  repeat (first | refine wpAny_loadPart_at hC ?_ | (refine wpAny_isSubtype_exc hC ?_; rw [hcont]) | refine wpAny_staticBase_exc hC ?_ | refine wpAny_madeBy_exc hC ?_ | simp only [bne_self_eq_false, Bool.false_eq_true, if_false] | wp_step)
  exact hq
theorem newG (F : ExcBaseFacts B newId initId bmB) (T : Mro B bm) {rest : List Value}
    (hC : h.get? C = some (excClassObj nm q C N bs bm hdct sn sub ab col dd k0 k1 k2 k3 k5 newId))
    (hq : R (.ok (.ret (.ref (h.objs.size + 1)))) ⟨(h.push { cls := .type "tuple", data := .seq rest.toArray }).push
      { cls := .ref C, data := .fields #[.ref h.objs.size, .none, .none, .none, .bool false, .none] }, g, d, t, os⟩) (hrest : rest.length ≤ sizeLine) :
    codeAny (model prog w) A (.builtin newId ⟨.ref C :: rest, []⟩) R ⟨h, g, d, t, os⟩ := by
  have hends := F.ends
  have hcB : (Value.ref C :: bm).contains (.type B) = true := by rw [List.contains_cons, T.b, Bool.or_true]
  have hcA : (Value.ref C :: bm).contains (.type "AttributeError") = false := by rw [List.contains_cons, T.a]; rfl
  have hcN : (Value.ref C :: bm).contains (.type "NameError") = false := by rw [List.contains_cons, T.n]; rfl
  refine codeAny_builtinAt F.entry ?_
  unfold Builtin.«BaseException.__new__»
  refine wpAt_bind ?_
  show wpAt _ _ _ (stack >>= _) _ _ _
  refine wpAt_bind (wpAt_stack fun p below => wpAt_of_wpAny ?_)
  wp_walk
  refine wpAt_of_wpAny ?_
  rw [F.owner]
  repeat (first | with_reducible refine wpAny_madeHere_exc F.canon hC ?_ | with_reducible refine wpAny_loadPart_at hC ?_ | (with_reducible refine wpAny_isSubtype_exc hC ?_; first | rw [hcB] | rw [hcA] | rw [hcN]) | wp_step)
  show R _ _
  rw [Heap.size_push]
  exact hq
theorem type_callG (F : ExcBaseFacts B newId initId bmB) (T : Mro B bm) {rest : List Value} {fI : Addr} {Q : Fin → Shared → Prop}
    (hC : h.get? C = some (excClassObj nm q C N bs bm hdct sn sub ab col dd k0 k1 k2 k3 k5 newId))
    (hi : W.Looks (model prog w) h (typeLookup (.ref C) "__init__") (some (.ref fI))) (hb : ∀ self, W.Looks (model prog w) h (bindSpecial (.ref fI) self) (.ref fI, [self])) (hrest : rest.length ≤ sizeLine)
    (hq : codeAny (model prog w) A (.call (.ref fI) ⟨.ref (h.objs.size + 1) :: rest, []⟩)
      (fun r s' => match r with | .ok (.ret v) => v = .none ∧ Q (.done (.ret (.ref (h.objs.size + 1)))) s' | .ok _ => False | .error e => E e s')
      ⟨(h.push (W.kdv_tup rest)).push (excO C h.objs.size), g, d, t, os⟩) :
    wpAny (model prog w) A (Builtin.«type.__call__» ⟨.ref C :: rest, []⟩) Q E ⟨h, g, d, t, os⟩ := by
  repeat (first | with_reducible refine wpAny_loadPart_at hC ?_ | with_reducible refine wpAny_madeBy_exc hC ?_ | wp_step)
  refine codeAny_call_builtin_code (Code.quiet_builtin _ F.quiet) (check_newG F T hC ?_)
  refine newG F T hC ?_ hrest
  show wpAny _ _ _ _ _ _
  have k : ∀ b o, h.get? b = some o → ((h.push (W.kdv_tup rest)).push (excO C h.objs.size)).get? b = some o := fun b o e => Heap.get?_push_of_some _ (Heap.get?_push_of_some _ e)
  have hC₁ := k _ _ hC
  have hget : ((h.push (W.kdv_tup rest)).push (excO C h.objs.size)).get? (h.objs.size + 1) = some (excO C h.objs.size) := by heap_get
  have hcC : (Value.ref C :: bm).contains (.ref C) = true := by simp
  have i1 := hi.keeps k
  have b1 := (hb (.ref (h.objs.size + 1))).keeps k
  unfold isInstance
  repeat (first | with_reducible refine wpAny_loadPart_at hget ?_ | (with_reducible refine wpAny_isSubtype_exc hC₁ ?_; rw [hcC]) | wp_step)
  show wpAny _ _ (typeLookup (.ref C) _) _ _ _
  refine i1.at ?_
  refine wpAny_holding (wpAny_bind (b1.at ?_))
  refine wpAny_bind (wpAny_call (codeAny_mono hq fun r s' z => ?_))
  rcases r with e | (v | _ | _ | _) <;> first | exact z | exact z.elim | skip
  obtain ⟨rfl, z⟩ := z
  first
    | exact wpAny_pure (wpAny_pure z)
    | (wp_walk; exact z)
theorem call_ownG (F : ExcBaseFacts B newId initId bmB) (T : Mro B bm) {rest : List Value} {fI : Addr}
    (hC : h.get? C = some (excClassObj nm q C N bs bm hdct sn sub ab col dd k0 k1 k2 k3 k5 newId))
    (hi : W.Looks (model prog w) h (typeLookup (.ref C) "__init__") (some (.ref fI))) (hb : ∀ self, W.Looks (model prog w) h (bindSpecial (.ref fI) self) (.ref fI, [self])) (hrest : rest.length ≤ sizeLine)
    (hq : codeAny (model prog w) (A.under (.builtin "type.__call__" ⟨.ref C :: rest, []⟩)) (.call (.ref fI) ⟨.ref (h.objs.size + 1) :: rest, []⟩) (W.InitBack (h.objs.size + 1) R)
      ⟨(h.push (W.kdv_tup rest)).push (excO C h.objs.size), g, d, t, os⟩) :
    codeAny (model prog w) A (.call (.ref C) ⟨rest, []⟩) R ⟨h, g, d, t, os⟩ := by
  have f1 := tc_lookup
  have f2 := tc_bind (.ref C)
  have hTy : (⟨h, g, d, t, os⟩ : Shared).TypeIs (.ref C) "type" := ⟨_, hC, rfl⟩
  refine codeAny_of_tree ?_
  show wpAny _ _ (callAny (.ref C) _) _ _ _
  repeat (any_goals (first | assumption | with_reducible refine wpAny_loadPart_at hC ?_ | wp_step))
  refine ⟨rfl, ?_⟩
  refine codeAny_call_builtin_at (Code.quiet_builtin _ (by decide +kernel)) entry_typeCall (wpAny_check_type_call_sub hC (type_callG F T hC hi hb hrest ?_))
  refine codeAny_mono hq fun r s' z => ?_
  rcases r with e | (v | _ | _ | _) <;> exact z
end
section
variable {prog : Program} {w : World} {A : Around} {E : Value → Shared → Prop} {R : Result → Shared → Prop} {hp : Heap} {g : Array GenState} {d : Drawn} {t : Nat} {os : OsState}
theorem exc_osaG {K : W.Frag} {name : Str} {tk : Tok} {v : Value} {x C : Addr} {fv : Array Value} {cd : ClassData} {B : String} {bm : List Value}
    (X : K.In hp) (hx : hp.get? x = some { cls := .ref C, data := .fields fv }) (hcd : W.clsIn K C = some cd) (hm : cd.mro = .ref C :: bm) (T : Mro B bm) (hh : cd.hasDict = true) (ha : W.findIn K (.ref C) name = some none)
    (hq : ∀ h' tk' dx, (∀ b o, b ≠ x → hp.get? b = some o → h'.get? b = some o) → hp.objs.size ≤ dx → dx ≠ x → h'.get? x = some { cls := .ref C, dict := some dx, data := .fields fv } →
      h'.Ns1 dx (fun y => if y = name then some v else none) → R (.ok (.ret .none)) ⟨h', g, d, tk', os⟩) :
    codeAny (model prog w) A (.call (.builtin "object.__setattr__") ⟨[.ref x, .str name tk, v], []⟩) R ⟨hp, g, d, t, os⟩ := by
  have I : W.InstAt hp x { cls := .ref C, data := .fields fv } C none := ⟨hx, rfl, rfl, trivial⟩
  have SF := F.store_object
  have ne : cd.mro.isEmpty = false := by rw [hm]; rfl
  have hob : cd.mro.contains (.type "object") = true := by rw [hm, List.contains_cons, T.o, Bool.or_true]
  have hxs : x ≠ hp.objs.size := Nat.ne_of_lt (Heap.lt_size hx)
  have sub : W.Looks (model prog w) hp (isInstance (.ref x) (.type "object")) true := I.type.andThen (W.looks_mroIn X (by unfold W.mroIn; rw [hcd, Option.bind_some, if_neg (by rw [ne]; decide), hob]))
  refine codeAny_call_builtin SF.slot.plain SF.entry (@W.check_slot (model prog w) _ _ ⟨hp, g, d, t, os⟩ "object.__setattr__" "object" "__setattr__" (.ref x) [.str name tk, v] [] _ SF.kind SF.split sub (SF.args (.ref x) (.str name tk) v) ?_)
  have hmr : W.Looks (model prog w) hp (mroOf (.ref C)) cd.mro := (W.looks_clsIn X hcd).andThen .now
  have L3 : W.Looks (model prog w) hp (storeTaker? none) none := .now
  have hcls : W.Looks (model prog w) hp (classData C) cd := W.looks_clsIn X hcd
  rw [W.osa_eq, refuse_eq]
  refine wpAny_bind (wpAny_bind (I.type.at (wpAny_bind (hmr.at ?_))))
  rw [hm, refuseLoop_ref, T.p]
  refine wpAny_pure (wpAny_bind (I.type.at (wpAny_bind ((W.looks_findIn X ha).at (wpAny_bind (L3.at ?_))))))
  show wpAny _ _ (storeInOwnDict (.ref x) (.ref C) (.str name tk) name v false) _ _ _
  obtain ⟨nm, bs, mro, ns, qn, hd, sn, sb, ab, col, del⟩ := cd
  dsimp only at hh
  subst hh
  unfold storeInOwnDict ownDictForStores
  repeat (first | with_reducible refine store_in_new ?_ ?_ | with_reducible refine wpAny_loadPart_at hx ?_ | with_reducible refine hcls.at ?_ | wp_step)
  · exact ⟨_, #[], _, (Heap.get?_update_ne _ _ _ _ hxs.symm).trans (Heap.get?_push_at rfl rfl), rfl, fun e he => absurd he (by simp), fun _ => rfl⟩
  · intro h' tk' hn' hs
    have hx₁ : (hp.push { cls := .type "dict", data := .dict #[] }).get? x = some { cls := .ref C, data := .fields fv } := Heap.get?_push_of_some _ hx
    refine hq h' tk' hp.objs.size (fun b o hb ho => ?_) (Nat.le_refl _) hxs.symm ?_ hn'
    · exact (hs.2 b (Nat.ne_of_lt (Heap.lt_size ho))).trans ((Heap.get?_update_ne _ _ _ _ hb).trans (Heap.get?_push_of_some _ ho))
    · exact (hs.2 x hxs).trans (Heap.get?_update_self _ hx₁ rfl)
end
abbrev veT : List Value := [.type "ValueError", .type "Exception", .type "BaseException", .type "object"]
abbrev keT : List Value := [.type "KeyError", .type "LookupError", .type "Exception", .type "BaseException", .type "object"]
theorem mro_ve (c : Addr) : Mro "ValueError" (.ref c :: veT) := ⟨rfl, rfl, rfl, rfl, fun self => by rw [refuseLoop_ref]; exact F.store_ValueError.passes self⟩
theorem ke_pass (self : Value) : refuseLoop self "__setattr__" keT = pure () := by kernel_rfl
theorem mro_ke : Mro "LookupError" keT := ⟨by decide +kernel, by decide +kernel, by decide +kernel, by decide +kernel, ke_pass⟩
end K1
/-! own exception classes whose __init__ stores one field -/

namespace K1
open PySem PySem.W PySem.Calls PyProof.Rows PySem.HandSPX
theorem one_le (v : Value) : [v].length ≤ sizeLine := by
  rw [sizeLine_eq]
  exact (by decide : 1 ≤ 16777216)
theorem ldE {M : Model} {s : Shared} {name : Str} {scope : Scope} {L a : Addr} {cd : Value} {m : Str → Option Value} {x : Str} {pos : Pos} {v : Value} {Q : Value → Shared → Prop} {A : Around} {E : Value → Shared → Prop} (hn : s.heap.Ns L m) (hv : m x = some v) (h : Q v s)
    (hk : scope.kind = .function := by rfl) (hl : (envOfC name scope L a cd).kindOf x = some .local := by rfl) (hd : (x == ("__debug__" : Str)) = false := by decide) :
    wpAny M A (eval (.Name x pos) (envOfC name scope L a cd)) Q E s := wpAny_Name (wpAny_loadName_local hk hl hn hv h) hd
end K1
namespace K1
open PySem PySem.Spec PyProof.Rows L2
theorem relO_one {v : V} {v' : Value} {g : Str} (r : RelV v v') (f : Str) : RelO (List.lookup f [(g, v)]) (if f = g then some v' else none) := by
  by_cases hw : f = g
  · subst hw
    rw [if_pos rfl]
    have q : List.lookup f [(f, v)] = some v := by simp [List.lookup]
    rw [q]
    exact r
  · rw [if_neg hw]
    have qw : (f == g) = false := by simpa using hw
    have q2 : List.lookup f [(g, v)] = none := by simp [List.lookup, qw]
    rw [q2]
    trivial
/-- C(e), C's __init__ storing e as the field g -/
def tMkF (g : Str) (C : Addr) (ta : TA) : L2.St → Hp → XK → Prop := fun σ H Q => ta σ H fun vs H1 => ∃ v, vs = [v] ∧ ∀ d, H1 d = none → Q (.ref C) (some d) (upd H1 d (.xd [(g, v)]))
def tRaiseF (g : Str) (C : Addr) (W : WX) (ta : TA) : TS := fun _ σ H => tMkF g C ta σ H fun cls d H' => W cls d σ H'
def tByF (g : Str) (C : Addr) (a : Addr) (cls : Value) (d : Option Addr) (te : TE) : TE := fun σ H Q => te σ H fun x H1 => x = .ref a ∧ cls = .ref C ∧ ∃ (dd : Addr) (v : V), d = some dd ∧ H1 dd = some (.xd [(g, v)]) ∧ Q v H1
end K1

namespace K1
namespace LAt
open PySem PySem.W PySem.Calls PyProof.Rows PySem.HandSPX
/-- the text of __init__ -/
def iA (p1 p2 : Pos) : Arguments := { posonlyargs := [], args := [{ arg := "self", annotation := none, pos := p1 }, { arg := "at", annotation := none, pos := p2 }], vararg := none, kwonlyargs := [], kw_defaults := [], kwarg := none, defaults := [] }
def iB (q1 q2 q3 q4 : Pos) : List Stmt := [.Assign [.Attribute (.Name "self" q1) "at" q2] (.Name "at" q3) q4]
def iS : Scope := { kind := .function, names := [(PySem.Str.ofString "self", .local), (PySem.Str.ofString "at", .local)], isGenerator := false, isCoroutine := false, more := [] }
/-- what the written part says of the class at C (named cn), of its chain bm, and of its __init__, at fI -/
structure Txt (K : Frag) (mg : Str → Option Value) (cn ql : Str) (bm : List Value) (C fI : Addr) : Prop where
  gC : mg cn = some (.ref C)
  cls : ∃ nm q N bs sn sub ab col dd k0 k1 k2 k3 k5, K.lookup C = some (excClassObj nm q C N bs bm true sn sub ab col dd k0 k1 k2 k3 k5 "ValueError.__new__")
  mr : Mro "ValueError" bm
  sa : findIn K (.ref C) "__setattr__" = some (some (.builtin "object.__setattr__"))
  ga : findIn K (.ref C) "__getattribute__" = some (some (.builtin "BaseException.__getattribute__"))
  gg : findIn K (.ref C) "__getattr__" = some none
  noN : findIn K (.ref C) "at" = some none
  iC : findIn K (.ref C) "__init__" = some (some (.ref fI))
  tC : typeIn K (.ref fI) = some (.type "function")
  kC : keepIn K (.ref C) = true
  exC : subIn K (.ref C) (.type "BaseException") = some true
  tyC : typeIn K (.ref C) = some (.type "type")
  hdC : hasDictIn K C = true
  fn : ∃ (oc : Value) (od : Option Addr) (doc pm : Value) (an : Option Addr) (cdv ct : Value) (osl : Array (Option Value)) (p1 p2 q1 q2 q3 q4 : Pos),
    K.lookup fI = some ⟨oc, od, .func (fnOf "__init__" ql (iA p1 p2) (iB q1 q2 q3 q4) iS .none .none doc pm an cdv ct), osl⟩ ∧ codeIn K cdv ql = true
/-- what __init__ leaves of a fresh exception at x -/
structure InitEnd (h h' : Heap) (x C dx t1 : Addr) (v : Value) : Prop where
  keep : ∀ b o, b ≠ x → h.get? b = some o → h'.get? b = some o
  obj : h'.get? x = some { cls := .ref C, dict := some dx, data := .fields #[.ref t1, .none, .none, .none, .bool false, .none] }
  dbig : h.objs.size ≤ dx
  dne : dx ≠ x
  ns : h'.Ns1 dx (fun y => if y = "at" then some v else none)
structure OwnMade (h h' : Heap) (e C d : Addr) (v : Value) : Prop where
  keep : ∀ b o, h.get? b = some o → h'.get? b = some o
  new : h.objs.size ≤ e
  obj : ∃ oe vs, h'.get? e = some oe ∧ oe.cls = .ref C ∧ oe.dict = some d ∧ oe.data = .fields vs ∧ vs[1]? = some .none
  dbig : h.objs.size ≤ d
  dne : d ≠ e
  ns : h'.Ns1 d (fun y => if y = "at" then some v else none)
section
variable {prog : Program} {w : World} {A : Around} {E : Value → Shared → Prop} {R : Result → Shared → Prop} {s : Shared} {K : Frag} {mg : Str → Option Value} {cn ql : Str} {bm : List Value} {C fI : Addr}
theorem init (T : Txt K mg cn ql bm C fI) {x t0 : Addr} {v : Value} (X : K.In s.heap) (hlim : s.heap.NoLimit) (hx : s.heap.get? x = some (excO C t0)) (hnx : K.lookup x = none) (hroom : A.depth < recursionLimit)
    (hq : ∀ h' tk dx, InitEnd s.heap h' x C dx t0 v → R (.ok (.ret .none)) { s with heap := h', toks := tk }) :
    codeAny (model prog w) A (.call (.ref fI) ⟨[.ref x, v], []⟩) R s := by
  obtain ⟨oc, od, doc, pm, an, cdv, ct, osl, p1, p2, q1, q2, q3, q4, ho, hcd⟩ := T.fn
  obtain ⟨nm, q, N, bs, sn, sub, ab, col, dd, k0, k1, k2, k3, k5, hC⟩ := T.cls
  have hcl : clsIn K C = some { name := nm, bases := bs, mro := .ref C :: bm, ns := N, qualname := q, hasDict := true, slotNames := sn, subclasses := sub, abstract := ab, collection := col, hasDel := false } := by unfold clsIn; rw [hC] <;> rfl
  refine Att.call_fn (binds := [("self", .ref x), ("at", v)]) X hlim ho hcd hroom (BindsTo.of_eq (by first | rfl | with_unfolding_all rfl)) (by first | rfl | decide | with_unfolding_all rfl) (fun s₁ IC => ?_) rfl rfl rfl
  obtain ⟨h₁, tk₁, rfl⟩ := IC.toInCall.same
  have k : ∀ b o, s.heap.get? b = some o → h₁.get? b = some o := IC.toInCall.keep
  have hn := IC.toInCall.ns
  have X₁ : K.In h₁ := X.keeps k
  have hx₁ := k _ _ hx
  show wpAny _ _ (execs _ _) _ _ _
  refine wpAny_execs_cons (plainObj_wpAny_Assign_Attribute ?_)
  refine ldE (v := v) hn (by first | rfl | with_unfolding_all rfl | kernel_rfl) (ldE (v := .ref x) hn (by first | rfl | with_unfolding_all rfl | kernel_rfl) ?_)
  refine set_plain X₁ (ox := excO C t0) (od := none) ⟨hx₁, rfl, rfl, trivial⟩ T.sa ?_
  refine exc_osaG X₁ hx₁ hcl rfl T.mr rfl T.noN (fun h₃ tk₃ dx k₃ dn dne hx₃ hn₃ => ?_)
  show wpAny _ _ (execs _ _) _ _ _
  have z : s.heap.objs.size < h₁.objs.size := hn.lt
  exact wpAny_execs_nil (hq h₃ tk₃ dx ⟨fun b o hb e => k₃ b o hb (k b o e), hx₃, Nat.le_of_lt (Nat.lt_of_lt_of_le z dn), dne, hn₃⟩)
theorem made (T : Txt K mg cn ql bm C fI) {v : Value} (X : K.In s.heap) (hlim : s.heap.NoLimit) (hroom : A.depth + 1 < recursionLimit)
    (hq : ∀ h' tk e d, OwnMade s.heap h' e C d v → R (.ok (.ret (.ref e))) { s with heap := h', toks := tk }) :
    codeAny (model prog w) A (.call (.ref C) ⟨[v], []⟩) R s := by
  obtain ⟨nm, q, N, bs, sn, sub, ab, col, dd, k0, k1, k2, k3, k5, hC⟩ := T.cls
  obtain ⟨hp, g, dr, tk, os⟩ := s
  have k : ∀ b o, hp.get? b = some o → ((hp.push (kdv_tup [v])).push (excO C hp.objs.size)).get? b = some o := fun b o e => Heap.get?_push_of_some _ (Heap.get?_push_of_some _ e)
  have hget : ((hp.push (kdv_tup [v])).push (excO C hp.objs.size)).get? (hp.objs.size + 1) = some (excO C hp.objs.size) := by heap_get
  have hnx : K.lookup (hp.objs.size + 1) = none := by
    cases e : K.lookup (hp.objs.size + 1) with
    | none => rfl
    | some o =>
      have z : hp.get? (hp.objs.size + 1) = some o := X _ _ e
      exact absurd (Nat.lt_of_succ_lt (Heap.lt_size z)) (Nat.lt_irrefl _)
  refine call_ownG F.excBase_ValueError T.mr (X _ _ hC) (looks_findIn X T.iC) (fun self => bind_fn X self T.tC) (one_le v) ?_
  refine init (s := ⟨(hp.push (kdv_tup [v])).push (excO C hp.objs.size), g, dr, tk, os⟩) T (X.keeps k) (hlim.keeps k) hget hnx ?_ fun h' tk' dx ⟨k', hx, dn, dne, hns⟩ => ?_
  · show A.depth + 1 < recursionLimit
    exact hroom
  · have old : ∀ b o, hp.get? b = some o → h'.get? b = some o := fun b o e => k' b o (Nat.ne_of_lt (Nat.lt_succ_of_lt (Heap.lt_size e))) (k b o e)
    have z : hp.objs.size + 1 + 1 ≤ dx := by
      first
        | (simpa only [Heap.size_push] using dn)
        | exact dn
        | (have q := dn; rw [Heap.size_push, Heap.size_push] at q; exact q)
    exact ⟨rfl, hq h' tk' (hp.objs.size + 1) dx ⟨old, Nat.le_succ _, ⟨_, _, hx, rfl, rfl, rfl, rfl⟩, Nat.le_trans (Nat.le_trans (Nat.le_succ _) (Nat.le_succ _)) z, dne, hns⟩⟩
end
end LAt
end K1
namespace K1
open PySem PySem.Spec PyProof.Rows L2
section
variable {X : Cx} {cn ql : Str} {bm : List Value} {C fI : Addr}
theorem pmk_LAt {a : Expr} {ta : TA} {p pos : Pos} {k : Nat} (T : LAt.Txt X.K X.mg cn ql bm C fI) (hr : Room k X.A) (ha : PA X [a] ta) (hg : Gl X cn := by rfl)
    (he : starEach (a :: []) X.env = (false, eval a X.env) :: starEach [] X.env := by rfl) (hpl : (backTo pos (starEach [] X.env)).any (·.1) = false := by rfl) (hdb : (cn == ("__debug__" : Str)) = false := by decide) :
    PMk X (.Call (.Name cn p) [a] [] pos) (tMkF "at" C ta) := by
  intro pins s σ H Q I h
  refine wpAny_Call_Name_kw (ld_glob I hg T.gC ?_ hdb)
  refine PySem.W.callWith_K (h₀ := X.base) I.ok.mod.kin T.kC (thn (ha.run pos pins s σ H _ I h) fun us s1 hh => ?_) he hpl
  obtain ⟨vs, H1, I1, r1, v, ev, q1⟩ := hh
  subst ev
  refine ⟨I1.kIn, ?_⟩
  cases r1 with
  | cons rv rn =>
    rename_i v' us'
    cases rn
    show wpAny _ _ (call (.ref C) [v']) _ _ _
    have hlim := I1.nolimit
    obtain ⟨hp, g, dr, tk, os⟩ := s1
    refine wpAny_call (LAt.made T I1.kIn hlim (by have := hr.dp; omega) fun h' tk' e d M => ?_)
    show MkP X pins σ Q (.ref e) ⟨h', g, dr, tk', os⟩
    obtain ⟨oe, fv, hoe, hc, hd, hdat, h1⟩ := M.obj
    have hns := M.ns
    obtain ⟨G', g1, g2⟩ := restrict h' fun b => decide (b ≠ e)
    have gk : ∀ b, b ≠ e → G'.get? b = h'.get? b := fun b hb => g1 b (decide_eq_true hb)
    have ge : G'.get? e = none := g2 e (by simp)
    have old : ∀ b o, hp.get? b = some o → G'.get? b = some o := fun b o q => (gk b (Nat.ne_of_lt (Nat.lt_of_lt_of_le (Heap.lt_size q) M.new))).trans (M.keep b o q)
    have ob : ObjOk X.prog X.w (upd H1 d (.xd [(("at" : Str), v)])) G' d (.xd [(("at" : Str), v)]) :=
      ⟨_, hns.at (fun o q => (gk d M.dne).trans q), fun f => relO_one rv f⟩
    have J : Inv X pins σ (upd H1 d (.xd [(("at" : Str), v)])) ⟨G', g, dr, tk', os⟩ := I1.laid (t' := tk') old M.dbig ob
    refine ⟨e, oe, fv, ⟨G', g, dr, tk', os⟩, _, .ref C, some d, rfl, J, fun b o q => ?_, ge, hoe, ⟨hc, hd⟩, hdat, h1, ?_, rfl, I1.bare, raises_own T.exC T.tyC, q1 d (I1.hok.fresh M.dbig)⟩
    · by_cases hb : b = e
      · have q' : G'.get? b = some o := q
        rw [hb, ge] at q'; cases q'
      · exact (gk b hb).symm.trans q
    · rw [upd_ne (Ne.symm M.dne)]
      exact I1.hok.fresh M.new
theorem ps_raise_LAt {a : Expr} {ta : TA} {W : WX} {p pos pos2 : Pos} {k : Nat} (hc : X.calm = true) (T : LAt.Txt X.K X.mg cn ql bm C fI) (hr : Room k X.A) (tk : Takes X W) (ha : PA X [a] ta) (hg : Gl X cn := by rfl)
    (he : starEach (a :: []) X.env = (false, eval a X.env) :: starEach [] X.env := by rfl) (hpl : (backTo pos (starEach [] X.env)).any (·.1) = false := by rfl) (hdb : (cn == ("__debug__" : Str)) = false := by decide) :
    PS X (.Raise (some (.Call (.Name cn p) [a] [] pos)) none pos2) (tRaiseF "at" C W ta) := ps_raise hc tk (pmk_LAt T hr ha hg he hpl hdb)
theorem pe_by_LAt {a : Addr} {oe : Obj} {cls : Value} {d : Option Addr} {pn : List (Addr × Obj)} {e : Expr} {te : TE} {pos : Pos} (T : LAt.Txt X.K X.mg cn ql bm C fI) (hz : Zc cls d oe) (hf : ∃ vs, oe.data = .fields vs) (he : PE (X.suite a ((a, oe) :: pn)) e te)
    (hb : attributeBase e "at" X.env (eval e X.env) = eval e X.env := by rfl) :
    PE (X.suite a ((a, oe) :: pn)) (.Attribute e "at" pos) (tByF "at" C a cls d te) := by
  refine ⟨fun pins s σ H Q I h => ?_⟩
  refine attr_of hb (thn (he.run pins s σ H _ I h) fun u s1 hh => ?_)
  obtain ⟨x, H1, I1, rx, ex, ec, dd, v, ed, ea, q⟩ := hh
  subst ex
  obtain rfl : u = Value.ref a := rx
  subst ec
  subst ed
  obtain ⟨ha, _⟩ := I1.pin (a, oe) (List.mem_append_left _ List.mem_cons_self)
  obtain ⟨vs, hd⟩ := hf
  have hx : ObjOk X.prog X.w H1 s1.heap dd (.xd [(("at" : Str), v)]) := I1.hok dd _ ea
  obtain ⟨mA, hns, hr⟩ := hx
  obtain ⟨od, ho, hl⟩ := lookIn_ns hns
  have l : List.lookup ("at" : Str) [(("at" : Str), v)] = some v := by simp [List.lookup]
  obtain ⟨u, hu, ru⟩ := RelO.some_of (v := v) (o := mA "at") (by rw [← l]; exact hr "at")
  have J : PySem.W.InstAt s1.heap a oe C (some od) := ⟨ha, hz.1, by unfold PySem.W.notCls; rw [hd] <;> rfl, by rw [hz.2]; exact ho⟩
  exact HandSPX.exc_get I1.kIn J T.ga T.gg T.exC (PySem.W.findObj_own T.hdC T.noN rfl (by rw [hl, hu])) (handed_of ru) ⟨v, H1, I1.tok _, ru, q⟩
end
end K1

namespace K1
namespace LHouse
open PySem PySem.W PySem.Calls PyProof.Rows PySem.HandSPX
/-- the text of __init__ -/
def iA (p1 p2 : Pos) : Arguments := { posonlyargs := [], args := [{ arg := "self", annotation := none, pos := p1 }, { arg := "house", annotation := none, pos := p2 }], vararg := none, kwonlyargs := [], kw_defaults := [], kwarg := none, defaults := [] }
def iB (q1 q2 q3 q4 : Pos) : List Stmt := [.Assign [.Attribute (.Name "self" q1) "house" q2] (.Name "house" q3) q4]
def iS : Scope := { kind := .function, names := [(PySem.Str.ofString "self", .local), (PySem.Str.ofString "house", .local)], isGenerator := false, isCoroutine := false, more := [] }
/-- what the written part says of the class at C (named cn), of its chain bm, and of its __init__, at fI -/
structure Txt (K : Frag) (mg : Str → Option Value) (cn ql : Str) (bm : List Value) (C fI : Addr) : Prop where
  gC : mg cn = some (.ref C)
  cls : ∃ nm q N bs sn sub ab col dd k0 k1 k2 k3 k5, K.lookup C = some (excClassObj nm q C N bs bm true sn sub ab col dd k0 k1 k2 k3 k5 "LookupError.__new__")
  mr : Mro "LookupError" bm
  sa : findIn K (.ref C) "__setattr__" = some (some (.builtin "object.__setattr__"))
  ga : findIn K (.ref C) "__getattribute__" = some (some (.builtin "BaseException.__getattribute__"))
  gg : findIn K (.ref C) "__getattr__" = some none
  noN : findIn K (.ref C) "house" = some none
  iC : findIn K (.ref C) "__init__" = some (some (.ref fI))
  tC : typeIn K (.ref fI) = some (.type "function")
  kC : keepIn K (.ref C) = true
  exC : subIn K (.ref C) (.type "BaseException") = some true
  tyC : typeIn K (.ref C) = some (.type "type")
  hdC : hasDictIn K C = true
  fn : ∃ (oc : Value) (od : Option Addr) (doc pm : Value) (an : Option Addr) (cdv ct : Value) (osl : Array (Option Value)) (p1 p2 q1 q2 q3 q4 : Pos),
    K.lookup fI = some ⟨oc, od, .func (fnOf "__init__" ql (iA p1 p2) (iB q1 q2 q3 q4) iS .none .none doc pm an cdv ct), osl⟩ ∧ codeIn K cdv ql = true
/-- what __init__ leaves of a fresh exception at x -/
structure InitEnd (h h' : Heap) (x C dx t1 : Addr) (v : Value) : Prop where
  keep : ∀ b o, b ≠ x → h.get? b = some o → h'.get? b = some o
  obj : h'.get? x = some { cls := .ref C, dict := some dx, data := .fields #[.ref t1, .none, .none, .none, .bool false, .none] }
  dbig : h.objs.size ≤ dx
  dne : dx ≠ x
  ns : h'.Ns1 dx (fun y => if y = "house" then some v else none)
structure OwnMade (h h' : Heap) (e C d : Addr) (v : Value) : Prop where
  keep : ∀ b o, h.get? b = some o → h'.get? b = some o
  new : h.objs.size ≤ e
  obj : ∃ oe vs, h'.get? e = some oe ∧ oe.cls = .ref C ∧ oe.dict = some d ∧ oe.data = .fields vs ∧ vs[1]? = some .none
  dbig : h.objs.size ≤ d
  dne : d ≠ e
  ns : h'.Ns1 d (fun y => if y = "house" then some v else none)
section
variable {prog : Program} {w : World} {A : Around} {E : Value → Shared → Prop} {R : Result → Shared → Prop} {s : Shared} {K : Frag} {mg : Str → Option Value} {cn ql : Str} {bm : List Value} {C fI : Addr}
theorem init (T : Txt K mg cn ql bm C fI) {x t0 : Addr} {v : Value} (X : K.In s.heap) (hlim : s.heap.NoLimit) (hx : s.heap.get? x = some (excO C t0)) (hnx : K.lookup x = none) (hroom : A.depth < recursionLimit)
    (hq : ∀ h' tk dx, InitEnd s.heap h' x C dx t0 v → R (.ok (.ret .none)) { s with heap := h', toks := tk }) :
    codeAny (model prog w) A (.call (.ref fI) ⟨[.ref x, v], []⟩) R s := by
  obtain ⟨oc, od, doc, pm, an, cdv, ct, osl, p1, p2, q1, q2, q3, q4, ho, hcd⟩ := T.fn
  obtain ⟨nm, q, N, bs, sn, sub, ab, col, dd, k0, k1, k2, k3, k5, hC⟩ := T.cls
  have hcl : clsIn K C = some { name := nm, bases := bs, mro := .ref C :: bm, ns := N, qualname := q, hasDict := true, slotNames := sn, subclasses := sub, abstract := ab, collection := col, hasDel := false } := by unfold clsIn; rw [hC] <;> rfl
  refine Att.call_fn (binds := [("self", .ref x), ("house", v)]) X hlim ho hcd hroom (BindsTo.of_eq (by first | rfl | with_unfolding_all rfl)) (by first | rfl | decide | with_unfolding_all rfl) (fun s₁ IC => ?_) rfl rfl rfl
  obtain ⟨h₁, tk₁, rfl⟩ := IC.toInCall.same
  have k : ∀ b o, s.heap.get? b = some o → h₁.get? b = some o := IC.toInCall.keep
  have hn := IC.toInCall.ns
  have X₁ : K.In h₁ := X.keeps k
  have hx₁ := k _ _ hx
  show wpAny _ _ (execs _ _) _ _ _
  refine wpAny_execs_cons (plainObj_wpAny_Assign_Attribute ?_)
  refine ldE (v := v) hn (by first | rfl | with_unfolding_all rfl | kernel_rfl) (ldE (v := .ref x) hn (by first | rfl | with_unfolding_all rfl | kernel_rfl) ?_)
  refine set_plain X₁ (ox := excO C t0) (od := none) ⟨hx₁, rfl, rfl, trivial⟩ T.sa ?_
  refine exc_osaG X₁ hx₁ hcl rfl T.mr rfl T.noN (fun h₃ tk₃ dx k₃ dn dne hx₃ hn₃ => ?_)
  show wpAny _ _ (execs _ _) _ _ _
  have z : s.heap.objs.size < h₁.objs.size := hn.lt
  exact wpAny_execs_nil (hq h₃ tk₃ dx ⟨fun b o hb e => k₃ b o hb (k b o e), hx₃, Nat.le_of_lt (Nat.lt_of_lt_of_le z dn), dne, hn₃⟩)
theorem made (T : Txt K mg cn ql bm C fI) {v : Value} (X : K.In s.heap) (hlim : s.heap.NoLimit) (hroom : A.depth + 1 < recursionLimit)
    (hq : ∀ h' tk e d, OwnMade s.heap h' e C d v → R (.ok (.ret (.ref e))) { s with heap := h', toks := tk }) :
    codeAny (model prog w) A (.call (.ref C) ⟨[v], []⟩) R s := by
  obtain ⟨nm, q, N, bs, sn, sub, ab, col, dd, k0, k1, k2, k3, k5, hC⟩ := T.cls
  obtain ⟨hp, g, dr, tk, os⟩ := s
  have k : ∀ b o, hp.get? b = some o → ((hp.push (kdv_tup [v])).push (excO C hp.objs.size)).get? b = some o := fun b o e => Heap.get?_push_of_some _ (Heap.get?_push_of_some _ e)
  have hget : ((hp.push (kdv_tup [v])).push (excO C hp.objs.size)).get? (hp.objs.size + 1) = some (excO C hp.objs.size) := by heap_get
  have hnx : K.lookup (hp.objs.size + 1) = none := by
    cases e : K.lookup (hp.objs.size + 1) with
    | none => rfl
    | some o =>
      have z : hp.get? (hp.objs.size + 1) = some o := X _ _ e
      exact absurd (Nat.lt_of_succ_lt (Heap.lt_size z)) (Nat.lt_irrefl _)
  refine call_ownG F.excBase_LookupError T.mr (X _ _ hC) (looks_findIn X T.iC) (fun self => bind_fn X self T.tC) (one_le v) ?_
  refine init (s := ⟨(hp.push (kdv_tup [v])).push (excO C hp.objs.size), g, dr, tk, os⟩) T (X.keeps k) (hlim.keeps k) hget hnx ?_ fun h' tk' dx ⟨k', hx, dn, dne, hns⟩ => ?_
  · show A.depth + 1 < recursionLimit
    exact hroom
  · have old : ∀ b o, hp.get? b = some o → h'.get? b = some o := fun b o e => k' b o (Nat.ne_of_lt (Nat.lt_succ_of_lt (Heap.lt_size e))) (k b o e)
    have z : hp.objs.size + 1 + 1 ≤ dx := by
      first
        | (simpa only [Heap.size_push] using dn)
        | exact dn
        | (have q := dn; rw [Heap.size_push, Heap.size_push] at q; exact q)
    exact ⟨rfl, hq h' tk' (hp.objs.size + 1) dx ⟨old, Nat.le_succ _, ⟨_, _, hx, rfl, rfl, rfl, rfl⟩, Nat.le_trans (Nat.le_trans (Nat.le_succ _) (Nat.le_succ _)) z, dne, hns⟩⟩
end
end LHouse
end K1
namespace K1
open PySem PySem.Spec PyProof.Rows L2
section
variable {X : Cx} {cn ql : Str} {bm : List Value} {C fI : Addr}
theorem pmk_LHouse {a : Expr} {ta : TA} {p pos : Pos} {k : Nat} (T : LHouse.Txt X.K X.mg cn ql bm C fI) (hr : Room k X.A) (ha : PA X [a] ta) (hg : Gl X cn := by rfl)
    (he : starEach (a :: []) X.env = (false, eval a X.env) :: starEach [] X.env := by rfl) (hpl : (backTo pos (starEach [] X.env)).any (·.1) = false := by rfl) (hdb : (cn == ("__debug__" : Str)) = false := by decide) :
    PMk X (.Call (.Name cn p) [a] [] pos) (tMkF "house" C ta) := by
  intro pins s σ H Q I h
  refine wpAny_Call_Name_kw (ld_glob I hg T.gC ?_ hdb)
  refine PySem.W.callWith_K (h₀ := X.base) I.ok.mod.kin T.kC (thn (ha.run pos pins s σ H _ I h) fun us s1 hh => ?_) he hpl
  obtain ⟨vs, H1, I1, r1, v, ev, q1⟩ := hh
  subst ev
  refine ⟨I1.kIn, ?_⟩
  cases r1 with
  | cons rv rn =>
    rename_i v' us'
    cases rn
    show wpAny _ _ (call (.ref C) [v']) _ _ _
    have hlim := I1.nolimit
    obtain ⟨hp, g, dr, tk, os⟩ := s1
    refine wpAny_call (LHouse.made T I1.kIn hlim (by have := hr.dp; omega) fun h' tk' e d M => ?_)
    show MkP X pins σ Q (.ref e) ⟨h', g, dr, tk', os⟩
    obtain ⟨oe, fv, hoe, hc, hd, hdat, h1⟩ := M.obj
    have hns := M.ns
    obtain ⟨G', g1, g2⟩ := restrict h' fun b => decide (b ≠ e)
    have gk : ∀ b, b ≠ e → G'.get? b = h'.get? b := fun b hb => g1 b (decide_eq_true hb)
    have ge : G'.get? e = none := g2 e (by simp)
    have old : ∀ b o, hp.get? b = some o → G'.get? b = some o := fun b o q => (gk b (Nat.ne_of_lt (Nat.lt_of_lt_of_le (Heap.lt_size q) M.new))).trans (M.keep b o q)
    have ob : ObjOk X.prog X.w (upd H1 d (.xd [(("house" : Str), v)])) G' d (.xd [(("house" : Str), v)]) :=
      ⟨_, hns.at (fun o q => (gk d M.dne).trans q), fun f => relO_one rv f⟩
    have J : Inv X pins σ (upd H1 d (.xd [(("house" : Str), v)])) ⟨G', g, dr, tk', os⟩ := I1.laid (t' := tk') old M.dbig ob
    refine ⟨e, oe, fv, ⟨G', g, dr, tk', os⟩, _, .ref C, some d, rfl, J, fun b o q => ?_, ge, hoe, ⟨hc, hd⟩, hdat, h1, ?_, rfl, I1.bare, raises_own T.exC T.tyC, q1 d (I1.hok.fresh M.dbig)⟩
    · by_cases hb : b = e
      · have q' : G'.get? b = some o := q
        rw [hb, ge] at q'; cases q'
      · exact (gk b hb).symm.trans q
    · rw [upd_ne (Ne.symm M.dne)]
      exact I1.hok.fresh M.new
theorem ps_raise_LHouse {a : Expr} {ta : TA} {W : WX} {p pos pos2 : Pos} {k : Nat} (hc : X.calm = true) (T : LHouse.Txt X.K X.mg cn ql bm C fI) (hr : Room k X.A) (tk : Takes X W) (ha : PA X [a] ta) (hg : Gl X cn := by rfl)
    (he : starEach (a :: []) X.env = (false, eval a X.env) :: starEach [] X.env := by rfl) (hpl : (backTo pos (starEach [] X.env)).any (·.1) = false := by rfl) (hdb : (cn == ("__debug__" : Str)) = false := by decide) :
    PS X (.Raise (some (.Call (.Name cn p) [a] [] pos)) none pos2) (tRaiseF "house" C W ta) := ps_raise hc tk (pmk_LHouse T hr ha hg he hpl hdb)
theorem pe_by_LHouse {a : Addr} {oe : Obj} {cls : Value} {d : Option Addr} {pn : List (Addr × Obj)} {e : Expr} {te : TE} {pos : Pos} (T : LHouse.Txt X.K X.mg cn ql bm C fI) (hz : Zc cls d oe) (hf : ∃ vs, oe.data = .fields vs) (he : PE (X.suite a ((a, oe) :: pn)) e te)
    (hb : attributeBase e "house" X.env (eval e X.env) = eval e X.env := by rfl) :
    PE (X.suite a ((a, oe) :: pn)) (.Attribute e "house" pos) (tByF "house" C a cls d te) := by
  refine ⟨fun pins s σ H Q I h => ?_⟩
  refine attr_of hb (thn (he.run pins s σ H _ I h) fun u s1 hh => ?_)
  obtain ⟨x, H1, I1, rx, ex, ec, dd, v, ed, ea, q⟩ := hh
  subst ex
  obtain rfl : u = Value.ref a := rx
  subst ec
  subst ed
  obtain ⟨ha, _⟩ := I1.pin (a, oe) (List.mem_append_left _ List.mem_cons_self)
  obtain ⟨vs, hd⟩ := hf
  have hx : ObjOk X.prog X.w H1 s1.heap dd (.xd [(("house" : Str), v)]) := I1.hok dd _ ea
  obtain ⟨mA, hns, hr⟩ := hx
  obtain ⟨od, ho, hl⟩ := lookIn_ns hns
  have l : List.lookup ("house" : Str) [(("house" : Str), v)] = some v := by simp [List.lookup]
  obtain ⟨u, hu, ru⟩ := RelO.some_of (v := v) (o := mA "house") (by rw [← l]; exact hr "house")
  have J : PySem.W.InstAt s1.heap a oe C (some od) := ⟨ha, hz.1, by unfold PySem.W.notCls; rw [hd] <;> rfl, by rw [hz.2]; exact ho⟩
  exact HandSPX.exc_get I1.kIn J T.ga T.gg T.exC (PySem.W.findObj_own T.hdC T.noN rfl (by rw [hl, hu])) (handed_of ru) ⟨v, H1, I1.tok _, ru, q⟩
end
end K1

namespace K1
namespace LTie
open PySem PySem.W PySem.Calls PyProof.Rows PySem.HandSPX
/-- the text of __init__ -/
def iA (p1 p2 : Pos) : Arguments := { posonlyargs := [], args := [{ arg := "self", annotation := none, pos := p1 }, { arg := "tie", annotation := none, pos := p2 }], vararg := none, kwonlyargs := [], kw_defaults := [], kwarg := none, defaults := [] }
def iB (q1 q2 q3 q4 : Pos) : List Stmt := [.Assign [.Attribute (.Name "self" q1) "tie" q2] (.Name "tie" q3) q4]
def iS : Scope := { kind := .function, names := [(PySem.Str.ofString "self", .local), (PySem.Str.ofString "tie", .local)], isGenerator := false, isCoroutine := false, more := [] }
/-- what the written part says of the class at C (named cn), of its chain bm, and of its __init__, at fI -/
structure Txt (K : Frag) (mg : Str → Option Value) (cn ql : Str) (bm : List Value) (C fI : Addr) : Prop where
  gC : mg cn = some (.ref C)
  cls : ∃ nm q N bs sn sub ab col dd k0 k1 k2 k3 k5, K.lookup C = some (excClassObj nm q C N bs bm true sn sub ab col dd k0 k1 k2 k3 k5 "LookupError.__new__")
  mr : Mro "LookupError" bm
  sa : findIn K (.ref C) "__setattr__" = some (some (.builtin "object.__setattr__"))
  ga : findIn K (.ref C) "__getattribute__" = some (some (.builtin "BaseException.__getattribute__"))
  gg : findIn K (.ref C) "__getattr__" = some none
  noN : findIn K (.ref C) "tie" = some none
  iC : findIn K (.ref C) "__init__" = some (some (.ref fI))
  tC : typeIn K (.ref fI) = some (.type "function")
  kC : keepIn K (.ref C) = true
  exC : subIn K (.ref C) (.type "BaseException") = some true
  tyC : typeIn K (.ref C) = some (.type "type")
  hdC : hasDictIn K C = true
  fn : ∃ (oc : Value) (od : Option Addr) (doc pm : Value) (an : Option Addr) (cdv ct : Value) (osl : Array (Option Value)) (p1 p2 q1 q2 q3 q4 : Pos),
    K.lookup fI = some ⟨oc, od, .func (fnOf "__init__" ql (iA p1 p2) (iB q1 q2 q3 q4) iS .none .none doc pm an cdv ct), osl⟩ ∧ codeIn K cdv ql = true
/-- what __init__ leaves of a fresh exception at x -/
structure InitEnd (h h' : Heap) (x C dx t1 : Addr) (v : Value) : Prop where
  keep : ∀ b o, b ≠ x → h.get? b = some o → h'.get? b = some o
  obj : h'.get? x = some { cls := .ref C, dict := some dx, data := .fields #[.ref t1, .none, .none, .none, .bool false, .none] }
  dbig : h.objs.size ≤ dx
  dne : dx ≠ x
  ns : h'.Ns1 dx (fun y => if y = "tie" then some v else none)
structure OwnMade (h h' : Heap) (e C d : Addr) (v : Value) : Prop where
  keep : ∀ b o, h.get? b = some o → h'.get? b = some o
  new : h.objs.size ≤ e
  obj : ∃ oe vs, h'.get? e = some oe ∧ oe.cls = .ref C ∧ oe.dict = some d ∧ oe.data = .fields vs ∧ vs[1]? = some .none
  dbig : h.objs.size ≤ d
  dne : d ≠ e
  ns : h'.Ns1 d (fun y => if y = "tie" then some v else none)
section
variable {prog : Program} {w : World} {A : Around} {E : Value → Shared → Prop} {R : Result → Shared → Prop} {s : Shared} {K : Frag} {mg : Str → Option Value} {cn ql : Str} {bm : List Value} {C fI : Addr}
theorem init (T : Txt K mg cn ql bm C fI) {x t0 : Addr} {v : Value} (X : K.In s.heap) (hlim : s.heap.NoLimit) (hx : s.heap.get? x = some (excO C t0)) (hnx : K.lookup x = none) (hroom : A.depth < recursionLimit)
    (hq : ∀ h' tk dx, InitEnd s.heap h' x C dx t0 v → R (.ok (.ret .none)) { s with heap := h', toks := tk }) :
    codeAny (model prog w) A (.call (.ref fI) ⟨[.ref x, v], []⟩) R s := by
  obtain ⟨oc, od, doc, pm, an, cdv, ct, osl, p1, p2, q1, q2, q3, q4, ho, hcd⟩ := T.fn
  obtain ⟨nm, q, N, bs, sn, sub, ab, col, dd, k0, k1, k2, k3, k5, hC⟩ := T.cls
  have hcl : clsIn K C = some { name := nm, bases := bs, mro := .ref C :: bm, ns := N, qualname := q, hasDict := true, slotNames := sn, subclasses := sub, abstract := ab, collection := col, hasDel := false } := by unfold clsIn; rw [hC] <;> rfl
  refine Att.call_fn (binds := [("self", .ref x), ("tie", v)]) X hlim ho hcd hroom (BindsTo.of_eq (by first | rfl | with_unfolding_all rfl)) (by first | rfl | decide | with_unfolding_all rfl) (fun s₁ IC => ?_) rfl rfl rfl
  obtain ⟨h₁, tk₁, rfl⟩ := IC.toInCall.same
  have k : ∀ b o, s.heap.get? b = some o → h₁.get? b = some o := IC.toInCall.keep
  have hn := IC.toInCall.ns
  have X₁ : K.In h₁ := X.keeps k
  have hx₁ := k _ _ hx
  show wpAny _ _ (execs _ _) _ _ _
  refine wpAny_execs_cons (plainObj_wpAny_Assign_Attribute ?_)
  refine ldE (v := v) hn (by first | rfl | with_unfolding_all rfl | kernel_rfl) (ldE (v := .ref x) hn (by first | rfl | with_unfolding_all rfl | kernel_rfl) ?_)
  refine set_plain X₁ (ox := excO C t0) (od := none) ⟨hx₁, rfl, rfl, trivial⟩ T.sa ?_
  refine exc_osaG X₁ hx₁ hcl rfl T.mr rfl T.noN (fun h₃ tk₃ dx k₃ dn dne hx₃ hn₃ => ?_)
  show wpAny _ _ (execs _ _) _ _ _
  have z : s.heap.objs.size < h₁.objs.size := hn.lt
  exact wpAny_execs_nil (hq h₃ tk₃ dx ⟨fun b o hb e => k₃ b o hb (k b o e), hx₃, Nat.le_of_lt (Nat.lt_of_lt_of_le z dn), dne, hn₃⟩)
theorem made (T : Txt K mg cn ql bm C fI) {v : Value} (X : K.In s.heap) (hlim : s.heap.NoLimit) (hroom : A.depth + 1 < recursionLimit)
    (hq : ∀ h' tk e d, OwnMade s.heap h' e C d v → R (.ok (.ret (.ref e))) { s with heap := h', toks := tk }) :
    codeAny (model prog w) A (.call (.ref C) ⟨[v], []⟩) R s := by
  obtain ⟨nm, q, N, bs, sn, sub, ab, col, dd, k0, k1, k2, k3, k5, hC⟩ := T.cls
  obtain ⟨hp, g, dr, tk, os⟩ := s
  have k : ∀ b o, hp.get? b = some o → ((hp.push (kdv_tup [v])).push (excO C hp.objs.size)).get? b = some o := fun b o e => Heap.get?_push_of_some _ (Heap.get?_push_of_some _ e)
  have hget : ((hp.push (kdv_tup [v])).push (excO C hp.objs.size)).get? (hp.objs.size + 1) = some (excO C hp.objs.size) := by heap_get
  have hnx : K.lookup (hp.objs.size + 1) = none := by
    cases e : K.lookup (hp.objs.size + 1) with
    | none => rfl
    | some o =>
      have z : hp.get? (hp.objs.size + 1) = some o := X _ _ e
      exact absurd (Nat.lt_of_succ_lt (Heap.lt_size z)) (Nat.lt_irrefl _)
  refine call_ownG F.excBase_LookupError T.mr (X _ _ hC) (looks_findIn X T.iC) (fun self => bind_fn X self T.tC) (one_le v) ?_
  refine init (s := ⟨(hp.push (kdv_tup [v])).push (excO C hp.objs.size), g, dr, tk, os⟩) T (X.keeps k) (hlim.keeps k) hget hnx ?_ fun h' tk' dx ⟨k', hx, dn, dne, hns⟩ => ?_
  · show A.depth + 1 < recursionLimit
    exact hroom
  · have old : ∀ b o, hp.get? b = some o → h'.get? b = some o := fun b o e => k' b o (Nat.ne_of_lt (Nat.lt_succ_of_lt (Heap.lt_size e))) (k b o e)
    have z : hp.objs.size + 1 + 1 ≤ dx := by
      first
        | (simpa only [Heap.size_push] using dn)
        | exact dn
        | (have q := dn; rw [Heap.size_push, Heap.size_push] at q; exact q)
    exact ⟨rfl, hq h' tk' (hp.objs.size + 1) dx ⟨old, Nat.le_succ _, ⟨_, _, hx, rfl, rfl, rfl, rfl⟩, Nat.le_trans (Nat.le_trans (Nat.le_succ _) (Nat.le_succ _)) z, dne, hns⟩⟩
end
end LTie
end K1
namespace K1
open PySem PySem.Spec PyProof.Rows L2
section
variable {X : Cx} {cn ql : Str} {bm : List Value} {C fI : Addr}
theorem pmk_LTie {a : Expr} {ta : TA} {p pos : Pos} {k : Nat} (T : LTie.Txt X.K X.mg cn ql bm C fI) (hr : Room k X.A) (ha : PA X [a] ta) (hg : Gl X cn := by rfl)
    (he : starEach (a :: []) X.env = (false, eval a X.env) :: starEach [] X.env := by rfl) (hpl : (backTo pos (starEach [] X.env)).any (·.1) = false := by rfl) (hdb : (cn == ("__debug__" : Str)) = false := by decide) :
    PMk X (.Call (.Name cn p) [a] [] pos) (tMkF "tie" C ta) := by
  intro pins s σ H Q I h
  refine wpAny_Call_Name_kw (ld_glob I hg T.gC ?_ hdb)
  refine PySem.W.callWith_K (h₀ := X.base) I.ok.mod.kin T.kC (thn (ha.run pos pins s σ H _ I h) fun us s1 hh => ?_) he hpl
  obtain ⟨vs, H1, I1, r1, v, ev, q1⟩ := hh
  subst ev
  refine ⟨I1.kIn, ?_⟩
  cases r1 with
  | cons rv rn =>
    rename_i v' us'
    cases rn
    show wpAny _ _ (call (.ref C) [v']) _ _ _
    have hlim := I1.nolimit
    obtain ⟨hp, g, dr, tk, os⟩ := s1
    refine wpAny_call (LTie.made T I1.kIn hlim (by have := hr.dp; omega) fun h' tk' e d M => ?_)
    show MkP X pins σ Q (.ref e) ⟨h', g, dr, tk', os⟩
    obtain ⟨oe, fv, hoe, hc, hd, hdat, h1⟩ := M.obj
    have hns := M.ns
    obtain ⟨G', g1, g2⟩ := restrict h' fun b => decide (b ≠ e)
    have gk : ∀ b, b ≠ e → G'.get? b = h'.get? b := fun b hb => g1 b (decide_eq_true hb)
    have ge : G'.get? e = none := g2 e (by simp)
    have old : ∀ b o, hp.get? b = some o → G'.get? b = some o := fun b o q => (gk b (Nat.ne_of_lt (Nat.lt_of_lt_of_le (Heap.lt_size q) M.new))).trans (M.keep b o q)
    have ob : ObjOk X.prog X.w (upd H1 d (.xd [(("tie" : Str), v)])) G' d (.xd [(("tie" : Str), v)]) :=
      ⟨_, hns.at (fun o q => (gk d M.dne).trans q), fun f => relO_one rv f⟩
    have J : Inv X pins σ (upd H1 d (.xd [(("tie" : Str), v)])) ⟨G', g, dr, tk', os⟩ := I1.laid (t' := tk') old M.dbig ob
    refine ⟨e, oe, fv, ⟨G', g, dr, tk', os⟩, _, .ref C, some d, rfl, J, fun b o q => ?_, ge, hoe, ⟨hc, hd⟩, hdat, h1, ?_, rfl, I1.bare, raises_own T.exC T.tyC, q1 d (I1.hok.fresh M.dbig)⟩
    · by_cases hb : b = e
      · have q' : G'.get? b = some o := q
        rw [hb, ge] at q'; cases q'
      · exact (gk b hb).symm.trans q
    · rw [upd_ne (Ne.symm M.dne)]
      exact I1.hok.fresh M.new
theorem ps_raise_LTie {a : Expr} {ta : TA} {W : WX} {p pos pos2 : Pos} {k : Nat} (hc : X.calm = true) (T : LTie.Txt X.K X.mg cn ql bm C fI) (hr : Room k X.A) (tk : Takes X W) (ha : PA X [a] ta) (hg : Gl X cn := by rfl)
    (he : starEach (a :: []) X.env = (false, eval a X.env) :: starEach [] X.env := by rfl) (hpl : (backTo pos (starEach [] X.env)).any (·.1) = false := by rfl) (hdb : (cn == ("__debug__" : Str)) = false := by decide) :
    PS X (.Raise (some (.Call (.Name cn p) [a] [] pos)) none pos2) (tRaiseF "tie" C W ta) := ps_raise hc tk (pmk_LTie T hr ha hg he hpl hdb)
theorem pe_by_LTie {a : Addr} {oe : Obj} {cls : Value} {d : Option Addr} {pn : List (Addr × Obj)} {e : Expr} {te : TE} {pos : Pos} (T : LTie.Txt X.K X.mg cn ql bm C fI) (hz : Zc cls d oe) (hf : ∃ vs, oe.data = .fields vs) (he : PE (X.suite a ((a, oe) :: pn)) e te)
    (hb : attributeBase e "tie" X.env (eval e X.env) = eval e X.env := by rfl) :
    PE (X.suite a ((a, oe) :: pn)) (.Attribute e "tie" pos) (tByF "tie" C a cls d te) := by
  refine ⟨fun pins s σ H Q I h => ?_⟩
  refine attr_of hb (thn (he.run pins s σ H _ I h) fun u s1 hh => ?_)
  obtain ⟨x, H1, I1, rx, ex, ec, dd, v, ed, ea, q⟩ := hh
  subst ex
  obtain rfl : u = Value.ref a := rx
  subst ec
  subst ed
  obtain ⟨ha, _⟩ := I1.pin (a, oe) (List.mem_append_left _ List.mem_cons_self)
  obtain ⟨vs, hd⟩ := hf
  have hx : ObjOk X.prog X.w H1 s1.heap dd (.xd [(("tie" : Str), v)]) := I1.hok dd _ ea
  obtain ⟨mA, hns, hr⟩ := hx
  obtain ⟨od, ho, hl⟩ := lookIn_ns hns
  have l : List.lookup ("tie" : Str) [(("tie" : Str), v)] = some v := by simp [List.lookup]
  obtain ⟨u, hu, ru⟩ := RelO.some_of (v := v) (o := mA "tie") (by rw [← l]; exact hr "tie")
  have J : PySem.W.InstAt s1.heap a oe C (some od) := ⟨ha, hz.1, by unfold PySem.W.notCls; rw [hd] <;> rfl, by rw [hz.2]; exact ho⟩
  exact HandSPX.exc_get I1.kIn J T.ga T.gg T.exC (PySem.W.findObj_own T.hdC T.noN rfl (by rw [hl, hu])) (handed_of ru) ⟨v, H1, I1.tok _, ru, q⟩
end
end K1
/-! enumerate over a tuple, repr of data of any depth, isinstance of a held exception -/
namespace K1
open PySem PySem.Spec PyProof.Rows L2
theorem meets_enum1 {v : Value} {o : Obj} {H : Heap → Prop} (B : Begins v o H) :
    Meets (Builtin.«enumerate.__new__» ⟨[.type "enumerate", v], []⟩) (fun _ R s => H s.heap ∧
      R (.ok (.ret (.ref (s.heap.push o).objs.size))) { s with heap := (s.heap.push o).push { cls := .type "enumerate", data := .fields #[.none, .bool false, .ref s.heap.objs.size, rawInt 0, .none, .none] } }) :=
  .of_wp fun prog w A R s h => by
    obtain ⟨hp, g, d, tk, os⟩ := s
    obtain ⟨h1, h⟩ := h
    have hsub := sub_enumerate
    have q1 : ∀ {A' : Around} {E : Value → Shared → Prop} {Q : Value → Shared → Prop}, Q (.ref hp.objs.size) ⟨hp.push o, g, d, tk, os⟩ → wpAny (model prog w) A' (pyIter v) Q E ⟨hp, g, d, tk, os⟩ :=
      fun q => B.iter prog w _ _ ⟨hp, g, d, tk, os⟩ _ h1 q
    wp_walk using q1
    refine wpAny_stack_any fun st => wpAny_pure ?_
    split
    · rename_i c _ _ _ _ _
      cases (c == Value.type "enumerate") <;> (wp_walk using q1; exact ⟨_, rfl, h⟩)
    · wp_walk using q1
      exact ⟨_, rfl, h⟩
theorem enum_begins1 {prog : Program} {w : World} {A : Around} {E : Value → Shared → Prop} {s : Shared} {v : Value} {o : Obj} {H : Heap → Prop} {Q : Value → Shared → Prop} (B : Begins v o H) (h1 : H s.heap)
    (h : ∀ h', IsEnum h' (s.heap.objs.size + 1) s.heap.objs.size 0 .none → h'.get? s.heap.objs.size = some o → h'.objs.size = s.heap.objs.size + 2 →
      (∀ b o, s.heap.get? b = some o → h'.get? b = some o) → Q (.ref (s.heap.objs.size + 1)) { s with heap := h' }) :
    wpAny (model prog w) A (call (.type "enumerate") [v]) Q E s := by
  refine callType_new F.called_enumerate (by decide) (F.typeCall_enumerate_1 _) (F.newCall_enumerate_1 _) (fun obj => F.args_object_init_2 obj _) F.entry_enumerate_new (meets_enum1 B) ⟨h1, ?_⟩
  have hz : (s.heap.push o).objs.size = s.heap.objs.size + 1 := Heap.size_push ..
  show _ ∧ _
  rw [hz]
  have he := Heap.get?_push_size (s.heap.push o) (o := { cls := .type "enumerate", data := .fields #[.none, .bool false, .ref s.heap.objs.size, rawInt 0, .none, .none] }) rfl
  rw [hz] at he
  exact ⟨⟨_, he, rfl⟩, h _ he (Heap.get?_push_of_some _ (Heap.get?_push_size _ B.free)) (by rw [Heap.size_push, hz]) fun b o x => Heap.get?_push_of_some _ (Heap.get?_push_of_some _ x)⟩
/-- the tuple at a, each item in a new pair -/
def IteT (K : PySem.W.Frag) (a : Addr) : It :=
  ⟨fun i H => ∃ (xs : List V) (x : V), SqT K H a xs ∧ xs[i]? = some x, fun i H v H' => ∃ T x, v = .ref T ∧ H T = none ∧ H' = upd H T (.tup [.int (i : Nat), x]) ∧ ∀ xs, SqT K H a xs → xs[i]? = some x, fun i H => ∃ xs : List V, SqT K H a xs ∧ xs.length ≤ i⟩
theorem turn_enumT {P : Program} {w : World} {K : PySem.W.Frag} {elts : List Expr} {kk : Nat} {tpos : Pos} (a e it : Addr) :
    Turn P w K (.Tuple elts kk tpos) (IteT K a) [e, it] e (fun i h => (∃ old, IsEnum h e it ((i : Nat) : Int) old) ∧ h.IsTupleIter it a i ∧ e ≠ it ∧ e ≠ a ∧ a ≠ it) where
  mem := by simp
  obj := fun i h st b hb => by
    obtain ⟨⟨old, he⟩, ⟨o, ho, hc, hd⟩, _⟩ := st
    rcases (show b = e ∨ b = it by simpa using hb) with z | z
    · rw [z]; exact ⟨_, he, fun v q => nomatch q⟩
    · rw [z]; exact ⟨o, ho, fun v q => by rw [hd] at q; cases q⟩
  keep := fun i h h' st k => let ⟨⟨old, he⟩, hi, hne⟩ := st; ⟨⟨old, k e (by simp) _ he⟩, hi.at fun o q => k it (by simp) o q, hne⟩
  item := by
    intro X hP hw hK hc i pins s σ H E I hf st hg
    subst hP hw hK
    obtain ⟨⟨old, he⟩, hit, hne, nea, nai⟩ := st
    obtain ⟨xs, x, hq, hx⟩ := hg
    obtain ⟨its, rv, p, hz⟩ := I.tuple hq
    obtain ⟨u, hu, ru⟩ := rv.get hx
    have hil' := (List.getElem?_eq_some_iff.mp hu).1
    have hel : e < s.heap.objs.size := Heap.lt_size he
    have hil : it < s.heap.objs.size := by obtain ⟨_, q, _⟩ := hit; exact Heap.lt_size q
    have D := Draws.tuple (prog := X.prog) (w := X.w) (A := X.A.in1) (show X.A.in1.handled = none from I.ok.hd hc) it a nai its.toArray
    refine wpAny_pyNext_enum_itemD D he ⟨hit, (show s.heap.IsTuple a its.toArray from p)⟩ (by simpa using hil') hne (by simp [hne, nea]) fun y h' tk hy ho hst hT hsz hk => ?_
    have ey : y = u := by
      have z : its[i]? = some y := by simpa using hy
      rw [hu] at z
      exact (Option.some.inj z).symm
    subst ey
    refine ⟨_, rfl, wpAny_letOwnedTupleGo_enum (s := { s with heap := h', toks := tk + 1 }) ho fun h'' he' sb => ?_⟩
    have hT2 : h''.get? s.heap.objs.size = some { cls := .type "tuple", data := .seq #[.int i tk, y] } := (sb.2 _ (Nat.ne_of_gt hel)).trans hT
    have new : ObjOk X.prog X.w (upd H s.heap.objs.size (.tup [.int (i : Nat), x])) h'' s.heap.objs.size (.tup [.int (i : Nat), x]) :=
      ⟨by show 2 ≤ sizeLine; decide, [.int i tk, y], .cons ⟨_, rfl⟩ (.cons ru .nil), ⟨_, hT2, rfl, _, rfl⟩⟩
    have I1 : Inv X pins σ (upd H s.heap.objs.size (.tup [.int (i : Nat), x])) { s with heap := h'', toks := tk + 1 } :=
      I.turnedNew (ch := [e, it]) (fun b ob hb q => (sb.2 b (fun z => hb (by simp [z]))).trans (hk b ob (fun z => hb (by simp [z])) (fun z => hb (by simp [z])) q)) hf (Nat.le_refl _) new
    refine ⟨.ref s.heap.objs.size, _, I1, rfl, ⟨_, x, rfl, I.hok.fresh (Nat.le_refl _), rfl, fun ys hy => by rw [I.tuple_inj hy hq]; exact hx⟩, ⟨⟨y, ?_⟩, hst.1.at fun o q => (sb.2 it (Ne.symm hne)).trans q, hne, nea, nai⟩, fun b hb => ?_⟩
    · have e1 : ((i + 1 : Nat) : Int) = (i : Int) + 1 := by omega
      rw [e1]; exact he'
    · have hb' : b < s.heap.objs.size := by
        rcases (show b = e ∨ b = it by simpa using hb) with z | z
        · rw [z]; exact hel
        · rw [z]; exact hil
      rw [upd_ne (Nat.ne_of_lt hb')]
      exact (hf b hb).1
  done := by
    intro X hP hw hK hc i pins s σ H E I hf st hg
    subst hP hw hK
    obtain ⟨⟨old, he⟩, hit, hne, nea, nai⟩ := st
    obtain ⟨xs, hq, hx⟩ := hg
    obtain ⟨its, rv, p, hz⟩ := I.tuple hq
    obtain ⟨f0, f1, f2, f3, f4, f5⟩ := hf it (by simp)
    have hl := rv.length
    have hTs : s.TypeIs (.ref e) "enumerate" := ⟨_, he, rfl⟩
    unfold pyNext
    refine wpAny_bind (wpAny_attempt (wpAny_callSpecial?_slot (name := Str.ofString "__next__") hTs F.slot_enumerate_next
      (wpAny_call_entry F.slot_enumerate_next hTs F.entry_enumerate_next ?_ (F.args_enumerate_next_1 _))))
    show wpAny _ _ (field (.ref e) 2 >>= _) _ _ _
    refine wpAny_bind (wpAny_field he rfl (x := .ref it) rfl ?_)
    refine wpAny_bind (wpAny_nextOf_tuple_end (show X.A.in1.handled = none from I.ok.hd hc) hit (show s.heap.IsTuple a its.toArray from p) (by simp; omega) fun h' y eb hx' => ?_)
    obtain ⟨o, ho, hc'⟩ := hx'
    refine wpAny_bind (wpAny_isInstance (T := "StopIteration") (b := true) ⟨o, ho, hc'⟩ isSubtype_stop ?_)
    exact wpAny_pure ⟨rfl, I.turned (t' := s.toks) (fun b o hb q => eb b o hb q) f0 f1 f3 f4 f5⟩
  self := fun A i s Q E st h => let ⟨⟨_, he⟩, _⟩ := st; wpAny_pyIter_enum he h
def iEnumA (K : PySem.W.Frag) (ta : TA) : TI := fun σ H R => ta σ H fun vs H1 => ∃ a, vs = [.ref a] ∧ ((∃ xs, SqL K H1 a xs ∧ R (Ite K a) H1) ∨ (∃ xs, SqT K H1 a xs ∧ R (IteT K a) H1))
theorem pi_enumA {X : Cx} {e : Expr} {ta : TA} {p pos tpos : Pos} {elts : List Expr} {kk : Nat} (hg : Gl X "enumerate") (hm : X.mg "enumerate" = none) (ha : PA X [e] ta) (hs : starEach [e] X.env = [(false, eval e X.env)] := by rfl) :
    PI X (.Tuple elts kk tpos) (.Call (.Name "enumerate" p) [e] [] pos) (iEnumA X.K ta) := by
  refine ⟨fun pins s σ H R I h => ?_⟩
  refine Call_ (ld_blt I hg hm boot_enumerate (PyProof.Rows.callWith_type1 (thn (ha.run pos pins s σ H _ I h) fun us s1 ⟨vs, H1, I1, r1, q1⟩ => ?_) hs rfl))
  obtain ⟨a, ex, q⟩ := q1
  subst ex
  cases r1 with
  | cons r rr =>
    cases rr
    cases r
    have big : ∀ b ∈ [s1.heap.objs.size + 1, s1.heap.objs.size], s1.heap.objs.size ≤ b := fun b hb => by
      rcases (show b = s1.heap.objs.size + 1 ∨ b = s1.heap.objs.size by simpa using hb) with z | z
      · rw [z]; exact Nat.le_add_right _ _
      · rw [z]; exact Nat.le_refl _
    rcases q with ⟨xs, hq, q⟩ | ⟨xs, hq, q⟩
    · obtain ⟨its, rv, p', hz⟩ := I1.list hq
      refine call_enumerate_list p'.isList fun h' he hit hsz hk => wpAny_pyIter_enum he ?_
      have I2 : Inv X pins σ H1 { s1 with heap := h' } := I1.kept (t' := s1.toks) hk
      exact ⟨s1.heap.objs.size + 1, [s1.heap.objs.size + 1, s1.heap.objs.size], _, _, H1, rfl, I2, turn_enum a (s1.heap.objs.size + 1) s1.heap.objs.size, ⟨⟨.none, he⟩, hit, Nat.succ_ne_self _⟩, fun b hb => I1.fpOk (big b hb) (I1.hok.fresh (big b hb)), q⟩
    · obtain ⟨its, rv, p', hz⟩ := I1.tuple hq
      have hp : s1.heap.IsTuple a its.toArray := p'
      have hal : a < s1.heap.objs.size := by obtain ⟨_, q, _⟩ := hp; exact Heap.lt_size q
      refine enum_begins1 (begins_tuple a its.toArray) hp fun h' he hit hsz hk => wpAny_pyIter_enum he ?_
      have I2 : Inv X pins σ H1 { s1 with heap := h' } := I1.kept (t' := s1.toks) hk
      exact ⟨s1.heap.objs.size + 1, [s1.heap.objs.size + 1, s1.heap.objs.size], _, _, H1, rfl, I2, turn_enumT a (s1.heap.objs.size + 1) s1.heap.objs.size, ⟨⟨.none, he⟩, ⟨_, hit, rfl, rfl⟩, Nat.succ_ne_self _, Nat.ne_of_gt (Nat.lt_succ_of_lt hal), Nat.ne_of_lt hal⟩, fun b hb => I1.fpOk (big b hb) (I1.hok.fresh (big b hb)), q⟩
section
variable {K : PySem.W.Frag} {a : Addr} {xs : List V} {g : TG} {tb : TS} {D : Ends} {σ : L2.St} {H : Hp}
theorem for_enumL (Pv : Nat → L2.St → Hp → Prop) (h0 : Pv 0 σ H) (hl : ∀ i σ H, i ≤ xs.length → Pv i σ H → SqL K H a xs)
    (hs : ∀ i x T σ H, xs[i]? = some x → H T = none → Pv i σ H → g (.ref T) σ (upd H T (.tup [.int (i : Nat), x])) fun σ2 H2 => tb { D with nx := Pv (i + 1), ct := Pv (i + 1), bk := D.nx } σ2 H2) (hd : ∀ σ H, Pv xs.length σ H → D.nx σ H) :
    ∃ W : Nat → Nat → L2.St → Hp → Prop, (∃ m, W 0 m σ H) ∧ ∀ i m σ H, W i m σ H →
      ((Ite K a).stop i H ∧ D.nx σ H) ∨ ((Ite K a).go i H ∧ ∃ N : L2.St → Hp → Prop, (∀ σ' H', N σ' H' → ∃ m', m' < m ∧ W (i + 1) m' σ' H') ∧ ∀ x H', (Ite K a).yld i H x H' → g x σ H' fun σ2 H2 => tb { D with nx := N, ct := N, bk := D.nx } σ2 H2) := by
  refine ⟨fun i m σ H => m = xs.length - i ∧ i ≤ xs.length ∧ Pv i σ H, ⟨xs.length, by simp, Nat.zero_le _, h0⟩, ?_⟩
  rintro i m σ H ⟨rfl, hi, p⟩
  have q := hl i σ H hi p
  by_cases hlt : i < xs.length
  · refine .inr ⟨⟨xs, xs[i], q, by simp [hlt]⟩, Pv (i + 1), fun σ' H' p' => ⟨xs.length - (i + 1), by omega, rfl, hlt, p'⟩, fun x H' y => ?_⟩
    obtain ⟨T, x', e1, e2, e3, e4⟩ := y
    subst e1 e3
    exact hs i x' T σ H (e4 xs q) e2 p
  · have e : i = xs.length := by omega
    subst e
    exact .inl ⟨⟨xs, q, Nat.le_refl _⟩, hd σ H p⟩
theorem for_enumT (Pv : Nat → L2.St → Hp → Prop) (h0 : Pv 0 σ H) (hl : ∀ i σ H, i ≤ xs.length → Pv i σ H → SqT K H a xs)
    (hs : ∀ i x T σ H, xs[i]? = some x → H T = none → Pv i σ H → g (.ref T) σ (upd H T (.tup [.int (i : Nat), x])) fun σ2 H2 => tb { D with nx := Pv (i + 1), ct := Pv (i + 1), bk := D.nx } σ2 H2) (hd : ∀ σ H, Pv xs.length σ H → D.nx σ H) :
    ∃ W : Nat → Nat → L2.St → Hp → Prop, (∃ m, W 0 m σ H) ∧ ∀ i m σ H, W i m σ H →
      ((IteT K a).stop i H ∧ D.nx σ H) ∨ ((IteT K a).go i H ∧ ∃ N : L2.St → Hp → Prop, (∀ σ' H', N σ' H' → ∃ m', m' < m ∧ W (i + 1) m' σ' H') ∧ ∀ x H', (IteT K a).yld i H x H' → g x σ H' fun σ2 H2 => tb { D with nx := N, ct := N, bk := D.nx } σ2 H2) := by
  refine ⟨fun i m σ H => m = xs.length - i ∧ i ≤ xs.length ∧ Pv i σ H, ⟨xs.length, by simp, Nat.zero_le _, h0⟩, ?_⟩
  rintro i m σ H ⟨rfl, hi, p⟩
  have q := hl i σ H hi p
  by_cases hlt : i < xs.length
  · refine .inr ⟨⟨xs, xs[i], q, by simp [hlt]⟩, Pv (i + 1), fun σ' H' p' => ⟨xs.length - (i + 1), by omega, rfl, hlt, p'⟩, fun x H' y => ?_⟩
    obtain ⟨T, x', e1, e2, e3, e4⟩ := y
    subst e1 e3
    exact hs i x' T σ H (e4 xs q) e2 p
  · have e : i = xs.length := by omega
    subst e
    exact .inl ⟨⟨xs, q, Nat.le_refl _⟩, hd σ H p⟩
end
/-! ### repr -/
/-- repr of what is no object -/
def rReprS : List V → Hp → VK → Prop := fun xs H Q => ∃ v, xs = [v] ∧ ((v = .non ∧ Q (.str "None") H) ∨ (∃ b : Bool, v = .bl b ∧ Q (.str (if b then "True" else "False")) H) ∨ (∃ i : Int, v = .int i ∧ i.natAbs.log2 < 1920 ∧ Q (.str (toString i)) H) ∨
  ∃ x : Str, v = .str x ∧ (reprText x).length ≤ sizeLine ∧ Q (.str (reprText x)) H)
theorem call_reprS {X : Cx} : CallR X (.builtin "repr") rReprS := by
  intro pins s σ H xs us Q I r h
  obtain ⟨v, rfl, h⟩ := h
  obtain ⟨u, rfl, rv⟩ := vals1 r
  rcases h with ⟨rfl, q⟩ | ⟨b, rfl, q⟩ | ⟨i, rfl, hz, q⟩ | ⟨x, rfl, hz, q⟩
  · cases rv
    exact PySem.P.repr_of_none ⟨.str _, H, I.tok _, ⟨_, rfl⟩, q⟩
  · cases rv
    exact PySem.P.repr_of_bool ⟨.str _, H, I.tok _, ⟨_, rfl⟩, q⟩
  · obtain ⟨t, rfl⟩ := rv
    exact PySem.P.repr_of_int hz ⟨.str _, H, I.tok _, ⟨_, rfl⟩, q⟩
  · obtain ⟨t, rfl⟩ := rv
    exact PySem.P.repr_of_str (t := t) ⟨.str _, H, I.tok _, ⟨_, rfl⟩, q⟩ hz
/-- repr of a list or tuple: plain data without dicts -/
def rRepr (K : PySem.W.Frag) : List V → Hp → VK → Prop := fun xs H Q => ∃ a d, xs = [.ref a] ∧ Dp K H (.ref a) d ∧ PyData.showable d = true ∧ PyData.hasDict d = false ∧ PyData.depth d ≤ 40 ∧ d.shown.length ≤ sizeLine ∧ Q (.str d.shown) H
theorem call_repr {X : Cx} (hg : X.A.guards = some []) (hu : X.A.units + 64 < cLine) : CallR X (.builtin "repr") (rRepr X.K) := by
  intro pins s σ H xs us Q I r h
  obtain ⟨a, d, rfl, hd, h1, h2, h3, h4, q⟩ := h
  obtain ⟨u, rfl, rv⟩ := vals1 r
  obtain ⟨as, R⟩ := Dp.reads I d _ u hd rv
  cases rv
  exact repr_of_reads' R h1 (PyData.noDict_hsm h2) hg (by omega) (fun _ _ e => e) (fun h' u' tk k => ⟨.str _, H, I.kept (t' := tk) k, ⟨_, rfl⟩, q⟩) h4
/-! ### isinstance of the exception that a suite holds, its own dict at d -/
structure ExcK (K : PySem.W.Frag) (C : Addr) : Prop where
  cl : (PySem.W.clsIn K C).isSome = true
  ga : PySem.W.findIn K (.ref C) "__getattribute__" = some (some (.builtin "BaseException.__getattribute__"))
  gt : PySem.W.findIn K (.ref C) "__getattr__" = some none
  sb : PySem.W.subIn K (.ref C) (.type "BaseException") = some true
  ca : PySem.W.findIn K (.ref C) "__class__" = some (some (.builtin "object.__class__"))
  sp : PySem.W.specialIn K (.builtin "object.__class__") "__get__" = some (some (.builtin "getset_descriptor.__get__"))
  tk : PySem.W.takesIn K (.builtin "object.__class__") = some true
  mo : PySem.W.mroIn K C (.type "object") = some true
def rIsD (K : PySem.W.Frag) (C d a : Addr) : List V → Hp → VK → Prop := fun xs H Q => ∃ (N : Addr) (g : Str) (v : V) (b : Bool), xs = [.ref a, .ref N] ∧ H d = some (.xd [(g, v)]) ∧ PySem.W.kitOne K (.ref C) (.ref N) = some b ∧ Q (.bl b) H
theorem call_isD {X : Cx} {a C d : Addr} {oe : Obj} {pn : List (Addr × Obj)} (T : ExcK X.K C) (hz : Zc (.ref C) (some d) oe) (hf : ∃ vs, oe.data = .fields vs) : CallR (X.suite a ((a, oe) :: pn)) (.builtin "isinstance") (rIsD X.K C d a) := by
  intro pins s σ H xs us Q I r h
  obtain ⟨N, g, v, b, rfl, hx, e, q⟩ := h
  obtain ⟨u1, u2, rfl, r1, r2⟩ := vals2 r
  cases r1
  cases r2
  obtain ⟨hget, _⟩ := I.pin (a, oe) (List.mem_append.mpr (.inl List.mem_cons_self))
  obtain ⟨vs, hd⟩ := hf
  have hx' : ObjOk X.prog X.w H s.heap d (.xd [(g, v)]) := I.hok d _ hx
  obtain ⟨mA, hns, hr⟩ := hx'
  obtain ⟨od, ho, hl⟩ := lookIn_ns hns
  have J : PySem.W.InstAt s.heap a oe C (some od) := ⟨hget, hz.1, by unfold PySem.W.notCls; rw [hd] <;> rfl, by rw [hz.2]; exact ho⟩
  exact PySem.W.kia_one (PySem.W.kitx_exc T.cl T.ga T.gt T.sb T.ca T.sp T.tk T.mo) I.kIn J e (fun z => nomatch z) fun tk => ⟨.bl b, H, I.kept (t' := tk) fun _ _ z => z, rfl, q⟩
/-! ### defs whose bodies show lists: they are told where nothing is being shown -/
structure FnG (P : Program) (w : World) (K : PySem.W.Frag) (mg : Str → Option Value) (base : Heap) (k : Nat) (f : Addr) (fd : FuncData) (ps : List Str) (sp : Sp) : Prop where
  len : ∀ vs H Q E, sp vs H Q E → vs.length = ps.length
  run : ∀ (A : Around) (outer : List Env) (s : Shared) (H : Hp) (args : Args) (us : List Value) (vs : List V) (Q : VK) (E : XK), Room k A → A.guards = some [] → Env0 P w K mg base A outer s H → BindsTo s fd args (ps.zip us) → Vals vs us → sp vs H Q E →
    codeAny (model P w) A (.call (.ref f) args) (CR CX0 outer P w H s Q E) s
end K1
/-! the text by places; short words for calls -/
namespace K1
open PySem PySem.Spec PyProof.Rows L2
def top (i : Nat) : Stmt := PySem.Challenge.pw_houseslessties_k30_whole_when_turns_lead.main.body.getD i (.Pass ⟨0, 0, 0, 0⟩)
abbrev sWall : Stmt := top 0
abbrev sBadWebInit : Stmt := inClass (top 3) 0
abbrev sRefusedInit : Stmt := inClass (top 4) 0
abbrev sNoHouseInit : Stmt := inClass (top 5) 0
abbrev sNoTieInit : Stmt := inClass (top 6) 0
abbrev sWhole : Stmt := top 8
abbrev sBelow : Stmt := top 9
abbrev sSeq : Stmt := top 10
abbrev sFnb : Stmt := top 11
abbrev sRepl : Stmt := top 12
abbrev sWInit : Stmt := inClass (top 16) 0
abbrev sWEq : Stmt := inClass (top 16) 1
abbrev sPair : Stmt := top 17
abbrev sCTies : Stmt := top 18
abbrev sNeedH : Stmt := top 19
abbrev sNeedT : Stmt := top 20
abbrev sWays : Stmt := top 21
abbrev sFWays : Stmt := top 22
abbrev sPart : Stmt := top 23
abbrev sPartsOf : Stmt := top 24
abbrev sIsPart : Stmt := top 25
abbrev sTiesIn : Stmt := top 26
abbrev sRingsOf : Stmt := top 27
abbrev sIsForest : Stmt := top 28
abbrev sLessTie : Stmt := top 30
abbrev sCountsInit : Stmt := inClass (top 31) 0
abbrev sCountsDo : Stmt := inClass (top 31) 1
abbrev sCountsMeet : Stmt := inClass (top 31) 2
abbrev sNeedM : Stmt := top 35
abbrev sAmt : Stmt := top 36
abbrev sIsCnt : Stmt := top 37
abbrev sCOf : Stmt := top 38
abbrev sCBy : Stmt := top 39
abbrev sCInit : Stmt := inClass (top 40) 0
abbrev sCDo : Stmt := inClass (top 40) 1
abbrev sCMeet : Stmt := inClass (top 40) 2
abbrev sCBook : Stmt := inClass (top 40) 3
abbrev sIsRest : Stmt := top 42
abbrev sIsAlike : Stmt := top 43
abbrev sCheckTurns : Stmt := top 44
abbrev sTurnsHeard : Stmt := top 45
abbrev sNeedForest : Stmt := top 46
abbrev sOwnCounts : Stmt := top 47
abbrev sRestAfter : Stmt := top 48
abbrev sLBox : Stmt := top 50
abbrev sLTake : Stmt := top 51
abbrev sLPick : Stmt := top 52
abbrev sLMixed : Stmt := top 53
abbrev sLForest : Stmt := top 54
abbrev sLPart : Stmt := top 55
abbrev sLHeard : Stmt := top 56
abbrev sLWebRefused : Stmt := top 57
abbrev sLPower : Stmt := top 58
abbrev sLStill : Stmt := top 59
abbrev sLMet : Stmt := top 60
abbrev sLDue : Stmt := top 61
abbrev sLHears : Stmt := top 62
abbrev sLRestRight : Stmt := top 63
abbrev sLNoneRight : Stmt := top 64
abbrev sLaw : Stmt := top 65
/-- a def of the text: its object, its name in the module, how its arguments bind -/
structure Df (K : PySem.W.Frag) (mg : Str → Option Value) (x : Str) (st : Stmt) (ps : List Str) (f : Addr) (fd : FuncData) : Prop where
  F : Fun K x x st f fd
  g : mg x = some (.ref f)
  b : Binds K fd ps []
section
variable {X : Cx} {CX : CXT} {k : Nat} {f : Addr} {fd : FuncData} {ps : List Str} {sp : Sp} {E : XK} {x : Str} {st : Stmt} {p pos : Pos} {e : Expr} {es : List Expr} {t : TA}
/-- x(e, ..) -/
theorem pc (D : Df X.K X.mg x st ps f fd) (G : FnOk X.prog X.w X.K X.mg X.base CX k f fd ps sp) (hr : Room k X.A) (hx : Passes CX X E) (ha : PA X (e :: es) t) (hg : Gl X x := by rfl)
    (hdb : (x == ("__debug__" : Str)) = false := by decide) (he : starEach (e :: es) X.env = (false, eval e X.env) :: starEach es X.env := by rfl) (hpl : (backTo pos (starEach es X.env)).any (·.1) = false := by rfl) :
    PE X (.Call (.Name x p) (e :: es) [] pos) (tCall sp [] E t) := pe_call G hr hg D.g D.F.kp D.b .nil hx ha hdb he hpl
end
/-- what a def that raises may let out at its caller's def -/
theorem pass1 {X : Cx} {E : XK} (tk : Takes X (fun cls d _ H => E cls d H)) : Passes (L2.CX X.prog X.w) X E := passes_call tk fun _ _ _ _ h => h
/-! ### tests by cases -/
theorem ifD {c : Bool} {A B : Prop} (h1 : c = true → A) (h2 : c = false → B) : if c = true then A else B := by
  cases c with
  | true => exact iteT (h1 rfl)
  | false => exact iteF (h2 rfl)
theorem eqv {α : Type} {P : α → Prop} {a b : α} (e : a = b) (h : P b) : P a := e ▸ h
theorem qbl {Q : VK} {H : Hp} {a b : Bool} (e : a = b) (h : Q (.bl b) H) : Q (.bl a) H := e ▸ h
/-! ### values of any kind -/
/-- what a value is: some items for a list or a tuple, none for the others -/
inductive KV (K : PySem.W.Frag) (H : Hp) : V → Option (List V) → Prop
  | int (i : Int) : KV K H (.int i) none
  | bl (b : Bool) : KV K H (.bl b) none
  | non : KV K H .non none
  | str (x : Str) : KV K H (.str x) none
  | lst {a : Addr} {xs : List V} (h : H a = some (.lst xs)) : KV K H (.ref a) (some xs)
  | tup {a : Addr} {xs : List V} (h : H a = some (.tup xs)) : KV K H (.ref a) (some xs)
theorem KV.same {K : PySem.W.Frag} {H H' : Hp} {v : V} {o : Option (List V)} (h : KV K H v o) (s : Same H H') : KV K H' v o := by
  cases h with
  | int i => exact .int i
  | bl b => exact .bl b
  | non => exact .non
  | str x => exact .str x
  | lst h => exact .lst (s _ _ h)
  | tup h => exact .tup (s _ _ h)
def wholeB : V → Bool | .int _ => true | _ => false
def boolB : V → Bool | .bl _ => true | _ => false
inductive Tg where | i | b | n | s | l | t
def Tg.nm : Tg → String | .i => "int" | .b => "bool" | .n => "NoneType" | .s => "str" | .l => "list" | .t => "tuple"
def Tg.isI : Tg → Bool | .i => true | _ => false
def Tg.isB : Tg → Bool | .b => true | _ => false
def Tg.isQ : Tg → Bool | .l => true | .t => true | _ => false
theorem KV.ty {K : PySem.W.Frag} {H : Hp} {v : V} {o : Option (List V)} (h : KV K H v o) : ∃ g : Tg, TyX K H v (.type g.nm) ∧ g.isI = wholeB v ∧ g.isB = boolB v ∧ g.isQ = o.isSome := by
  cases h with
  | int i => exact ⟨.i, .base (.int i), rfl, rfl, rfl⟩
  | bl b => exact ⟨.b, .base (.bl b), rfl, rfl, rfl⟩
  | non => exact ⟨.n, .base .non, rfl, rfl, rfl⟩
  | str x => exact ⟨.s, .base (.str x), rfl, rfl, rfl⟩
  | lst h => exact ⟨.l, .base (.lst h), rfl, rfl, rfl⟩
  | tup h => exact ⟨.t, .base (.tup h), rfl, rfl, rfl⟩
theorem kit_I (K : PySem.W.Frag) (g : Tg) : PySem.W.kitOne K (.type g.nm) (.type "int") = some (g.isI || g.isB) := by
  cases g <;> exact kit_ty (by decide +kernel)
theorem kit_B (K : PySem.W.Frag) (g : Tg) : PySem.W.kitOne K (.type g.nm) (.type "bool") = some g.isB := by
  cases g <;> exact kit_ty (by decide +kernel)
def Tg.isL : Tg → Bool | .l => true | _ => false
def Tg.isT : Tg → Bool | .t => true | _ => false
theorem kit_L (K : PySem.W.Frag) (g : Tg) : PySem.W.kitOne K (.type g.nm) (.type "list") = some g.isL := by
  cases g <;> exact kit_ty (by decide +kernel)
theorem kit_T (K : PySem.W.Frag) (g : Tg) : PySem.W.kitOne K (.type g.nm) (.type "tuple") = some g.isT := by
  cases g <;> exact kit_ty (by decide +kernel)
theorem kit_Q (K : PySem.W.Frag) (g : Tg) : PySem.W.kitAny K (.type g.nm) [.type "list", .type "tuple"] = some g.isQ := by
  refine kitAny_cons (kit_L K g) (fun e => kitAny_cons (kit_T K g) (fun e2 => ?_) fun e2 => ?_) fun e => ?_
  all_goals (cases g <;> first | rfl | (cases e; done) | (cases e2; done))
/-- the built-in names that the text uses are the built-in ones -/
structure Bt (mg : Str → Option Value) : Prop where
  isinstance : mg "isinstance" = none
  int : mg "int" = none
  bool : mg "bool" = none
  list : mg "list" = none
  tuple : mg "tuple" = none
  len : mg "len" = none
  enumerate : mg "enumerate" = none
  range : mg "range" = none
  sorted : mg "sorted" = none
  set : mg "set" = none
  repr : mg "repr" = none
  abs : mg "abs" = none
  min : mg "min" = none
  max : mg "max" = none
  sum : mg "sum" = none
  all : mg "all" = none
  any : mg "any" = none
  zip : mg "zip" = none
  str : mg "str" = none
  dict : mg "dict" = none
  ke : mg "KeyError" = none
end K1
namespace K1
open PySem PySem.Spec PyProof.Rows L2
def belowB (v : V) (lim : Int) : Bool := match v with | .int i => decide (0 ≤ i) && decide (i < lim) | _ => false
def seqB (o : Option (List V)) (least most : Int) : Bool := match o with | some xs => decide (least ≤ (xs.length : Int)) && decide ((xs.length : Int) ≤ most) | none => false
def spWhole (K : PySem.W.Frag) : Sp := fun vs H Q _ => ∃ v o, vs = [v] ∧ KV K H v o ∧ Q (.bl (wholeB v)) H
def spBelow (K : PySem.W.Frag) : Sp := fun vs H Q _ => ∃ v o lim, vs = [v, .int lim] ∧ KV K H v o ∧ Q (.bl (belowB v lim)) H
def spSeq (K : PySem.W.Frag) : Sp := fun vs H Q _ => ∃ v o least most, vs = [v, .int least, .int most] ∧ KV K H v o ∧ ∀ H', Same H H' → Q (.bl (seqB o least most)) H'
section
variable {P : Program} {w : World} {K : PySem.W.Frag} {mg : Str → Option Value} {base : Heap}
theorem scW : FnScope ["value"] ["value"] (defScope sWhole) := ⟨rfl, rfl, rfl, by decide +kernel, rfl, by decide +kernel, by decide +kernel⟩
theorem ok_whole {f : Addr} {fd : FuncData} (D : Df K mg "is_whole" sWhole ["value"] f fd) (B : Bt mg) : FnOk P w K mg base CX0 1 f fd ["value"] (spWhole K) := by
  refine D.F.ok scW (fun vs H Q E h => ?_) (fun cdv A outer s H vs Q E hr h => ?_)
  · obtain ⟨v, o, rfl, _⟩ := h
    rfl
  · obtain ⟨v, o, rfl, kv, q⟩ := h
    obtain ⟨g, ty, eI, eB, eQ⟩ := kv.ty
    refine ⟨_, pss_one (ps_ret (pe_and (pe_callB call_isi (by rfl) B.isinstance (by decide +kernel) (pa_cons (pv 0) (pa_cons (pe_bltn (v := .ty "int") (by rfl) B.int PyProof.Rows.boot_int rfl) pa_nil)))
      (pe_one (pe_not (pe_callB call_isi (by rfl) B.isinstance (by decide +kernel) (pa_cons (pv 0) (pa_cons (pe_bltn (v := .ty "bool") (by rfl) B.bool PyProof.Rows.boot_bool rfl) pa_nil))))))), ?_⟩
    refine ⟨_, rfl, _, _, _, _, _, rfl, .ty _, ty, kit_I K g, _, rfl, ifD (fun e => ?_) fun e => ?_⟩
    · refine ⟨_, rfl, _, _, _, _, _, rfl, .ty _, ty, kit_B K g, _, rfl, ?_⟩
      have z : (!g.isB) = wholeB v := by rw [← eI]; cases g <;> first | rfl | cases e
      exact qbl z q
    · have z : false = wholeB v := by rw [← eI]; cases g <;> first | rfl | cases e
      exact qbl z q
theorem scB : FnScope ["value", "limit"] ["value", "limit"] (defScope sBelow) := ⟨rfl, rfl, rfl, by decide +kernel, rfl, by decide +kernel, by decide +kernel⟩
theorem ok_below {f fW : Addr} {fd fdW : FuncData} (D : Df K mg "is_below" sBelow ["value", "limit"] f fd) (DW : Df K mg "is_whole" sWhole ["value"] fW fdW) (B : Bt mg) : FnOk P w K mg base CX0 2 f fd ["value", "limit"] (spBelow K) := by
  have GW : FnOk P w K mg base CX0 1 fW fdW ["value"] (spWhole K) := ok_whole DW B
  refine D.F.ok scB (fun vs H Q E h => ?_) (fun cdv A outer s H vs Q E hr h => ?_)
  · obtain ⟨v, o, lim, rfl, _⟩ := h
    rfl
  · obtain ⟨v, o, lim, rfl, kv, q⟩ := h
    refine ⟨_, pss_one (ps_ret (pe_and (pc DW GW hr pass0 (pa_cons (pv 0) pa_nil)) (pe_one (pe_chain op_le op_lt pe_int (pv 0) (pv 1))))), ?_⟩
    refine ⟨_, rfl, _, _, rfl, kv, _, rfl, ifD (fun e => ?_) fun e => ?_⟩
    · obtain ⟨i, rfl⟩ : ∃ i, v = .int i := by
        cases v <;> first | exact ⟨_, rfl⟩ | cases e
      refine ⟨_, rfl, _, _, rfl, rfl, _, rfl, ifD (fun e2 => ?_) fun e2 => ?_⟩
      · refine ⟨_, rfl, _, _, rfl, rfl, ?_⟩
        have z : decide (i < lim) = belowB (.int i) lim := by
          show _ = (decide (0 ≤ i) && decide (i < lim))
          rw [e2]; rfl
        exact qbl z q
      · have z : false = belowB (.int i) lim := by
          show _ = (decide (0 ≤ i) && decide (i < lim))
          rw [e2]; rfl
        exact qbl z q
    · have z : false = belowB v lim := by cases v <;> first | rfl | cases e
      exact qbl z q
theorem scS : FnScope ["value", "least", "most"] ["value", "least", "most"] (defScope sSeq) := ⟨rfl, rfl, rfl, by decide +kernel, rfl, by decide +kernel, by decide +kernel⟩
theorem ok_seq {f : Addr} {fd : FuncData} (D : Df K mg "is_sequence" sSeq ["value", "least", "most"] f fd) (B : Bt mg) : FnOk P w K mg base CX0 1 f fd ["value", "least", "most"] (spSeq K) := by
  refine D.F.ok scS (fun vs H Q E h => ?_) (fun cdv A outer s H vs Q E hr h => ?_)
  · obtain ⟨v, o, least, most, rfl, _⟩ := h
    rfl
  · obtain ⟨v, o, least, most, rfl, kv, q⟩ := h
    refine ⟨_, pss_one (ps_ret (pe_and (pe_callB call_isiT (by rfl) B.isinstance (by decide +kernel) (pa_cons (pv 0) (pa_cons (pe_tup (pa_cons (pe_bltn (v := .ty "list") (by rfl) B.list PyProof.Rows.boot_list rfl) (pa_cons (pe_bltn (v := .ty "tuple") (by rfl) B.tuple PyProof.Rows.boot_tuple rfl) pa_nil))) pa_nil)))
      (pe_one (pe_chain op_le op_le (pv 1) (pe_callB call_len_seq (by rfl) B.len PySem.boot_len (pa_cons (pv 0) pa_nil)) (pv 2))))), ?_⟩
    refine ⟨_, rfl, (by show 2 ≤ sizeLine; decide), fun p hp => ?_⟩
    have sm : Same H (upd H p (.tup [.ty "list", .ty "tuple"])) := fun b o e => by rw [upd_ne (ne_of_none e hp)]; exact e
    obtain ⟨g, ty, eI, eB, eQ⟩ := (kv.same sm).ty
    refine ⟨_, _, _, _, _, _, rfl, upd_same, .cons (.ty _) (.cons (.ty _) .nil), ty, kit_Q K g, _, rfl, ifD (fun e => ?_) fun e => ?_⟩
    · have kv2 := kv.same sm
      generalize hH1 : upd H p (.tup [.ty "list", .ty "tuple"]) = H1 at *
      rw [eQ] at e
      have q2 := q _ sm
      cases kv with
      | lst h =>
        rename_i a xs
        have h1 : H1 a = some (.lst xs) := sm _ _ h
        refine ⟨_, rfl, _, rfl, _, _, rfl, .inl (SqL.of h1), _, _, rfl, rfl, _, rfl, ifD (fun e2 => ?_) fun e2 => ?_⟩
        · refine ⟨_, rfl, _, _, rfl, rfl, qbl ?_ q2⟩
          show _ = (decide (least ≤ (xs.length : Int)) && decide ((xs.length : Int) ≤ most))
          rw [e2]; rfl
        · refine qbl ?_ q2
          show _ = (decide (least ≤ (xs.length : Int)) && decide ((xs.length : Int) ≤ most))
          rw [e2]; rfl
      | tup h =>
        rename_i a xs
        have h1 : H1 a = some (.tup xs) := sm _ _ h
        refine ⟨_, rfl, _, rfl, _, _, rfl, .inr (SqT.of h1), _, _, rfl, rfl, _, rfl, ifD (fun e2 => ?_) fun e2 => ?_⟩
        · refine ⟨_, rfl, _, _, rfl, rfl, qbl ?_ q2⟩
          show _ = (decide (least ≤ (xs.length : Int)) && decide ((xs.length : Int) ≤ most))
          rw [e2]; rfl
        · refine qbl ?_ q2
          show _ = (decide (least ≤ (xs.length : Int)) && decide ((xs.length : Int) ≤ most))
          rw [e2]; rfl
      | _ => cases e
    · rw [eQ] at e
      have z : o = none := by cases o <;> first | rfl | cases e
      subst z
      exact q _ sm
end
end K1
namespace K1
open PySem PySem.Spec PyProof.Rows L2
def fnb (xs : List V) (lim : Int) : V := match xs.findIdx? (fun x => !belowB x lim) with | some i => .int (i : Nat) | none => .non
theorem fnb_at {xs : List V} {lim : Int} {i : Nat} {x : V} (hx : xs[i]? = some x) (hn : belowB x lim = false) (hb : ∀ j y, j < i → xs[j]? = some y → belowB y lim = true) : fnb xs lim = .int (i : Nat) := by
  obtain ⟨hi, ex⟩ := List.getElem?_eq_some_iff.mp hx
  have e : xs.findIdx? (fun x => !belowB x lim) = some i := by
    rw [List.findIdx?_eq_some_iff_getElem]
    refine ⟨hi, by rw [ex, hn]; rfl, fun j hj => ?_⟩
    have hj' : j < xs.length := Nat.lt_trans hj hi
    have := hb j xs[j] hj (by simp [hj'])
    simp [this]
  unfold fnb
  rw [e]
theorem fnb_none {xs : List V} {lim : Int} (hb : ∀ j y, j < xs.length → xs[j]? = some y → belowB y lim = true) : fnb xs lim = .non := by
  have e : xs.findIdx? (fun x => !belowB x lim) = none := by
    rw [List.findIdx?_eq_none_iff]
    intro x hx
    obtain ⟨j, hj, e⟩ := List.mem_iff_getElem.mp hx
    have := hb j xs[j] hj (by simp [hj])
    rw [← e, this]; rfl
  unfold fnb
  rw [e]
/-- a list or tuple at a -/
def SeqA (H : Hp) (a : Addr) (xs : List V) : Prop := H a = some (.lst xs) ∨ H a = some (.tup xs)
theorem SeqA.same {H H' : Hp} {a : Addr} {xs : List V} (h : SeqA H a xs) (s : Same H H') : SeqA H' a xs := h.elim (fun h => .inl (s _ _ h)) fun h => .inr (s _ _ h)
theorem SeqA.kv {K : PySem.W.Frag} {H : Hp} {a : Addr} {xs : List V} (h : SeqA H a xs) : KV K H (.ref a) (some xs) := h.elim .lst .tup
/-- each item is of some kind -/
def Kinds (K : PySem.W.Frag) (H : Hp) (xs : List V) : Prop := ∀ x ∈ xs, ∃ o, KV K H x o
theorem Kinds.same {K : PySem.W.Frag} {H H' : Hp} {xs : List V} (h : Kinds K H xs) (s : Same H H') : Kinds K H' xs := fun x hx => let ⟨o, k⟩ := h x hx; ⟨o, k.same s⟩
theorem same_new {H : Hp} {p : Addr} {o : HO} (hp : H p = none) : Same H (upd H p o) := fun b u e => by rw [upd_ne (ne_of_none e hp)]; exact e
def spFnb (K : PySem.W.Frag) : Sp := fun vs H Q _ => ∃ a xs lim, vs = [.ref a, .int lim] ∧ SeqA H a xs ∧ Kinds K H xs ∧ ∀ H', Same H H' → Q (fnb xs lim) H'
section
variable {P : Program} {w : World} {K : PySem.W.Frag} {mg : Str → Option Value} {base : Heap}
theorem scF : FnScope ["items", "limit", "at", "item"] ["items", "limit"] (defScope sFnb) := ⟨rfl, rfl, rfl, by decide +kernel, rfl, by decide +kernel, by decide +kernel⟩
/-- one turn of the search, and the way behind it: the iterator is a list's or a tuple's -/
theorem ok_fnb {f fB : Addr} {fd fdB : FuncData} (D : Df K mg "first_not_below" sFnb ["items", "limit"] f fd) (DB : Df K mg "is_below" sBelow ["value", "limit"] fB fdB) (B : Bt mg)
    (GB : FnOk P w K mg base CX0 2 fB fdB ["value", "limit"] (spBelow K)) : FnOk P w K mg base CX0 3 f fd ["items", "limit"] (spFnb K) := by
  refine D.F.ok scF (fun vs H Q E h => ?_) (fun cdv A outer s H vs Q E hr h => ?_)
  · obtain ⟨a, xs, lim, rfl, _⟩ := h
    rfl
  · obtain ⟨a, xs, lim, rfl, hS, hK, q⟩ := h
    refine ⟨_, pss_cons (ps_for PassesOwn.never rfl (pi_enumA (by rfl) B.enumerate (pa_cons (pv 0) pa_nil))
        (pg_tup rfl (pgs_cons (pg_name (i := 2) scF.nd rfl (.inl rfl)) (pgs_cons (pg_name (i := 3) scF.nd rfl (.inl rfl)) pgs_nil)))
        (pss_one (ps_if (pt_not (pt_val (pc DB GB hr pass0 (pa_cons (pv 3) (pa_cons (pv 1) pa_nil))))) (pss_one (ps_ret (pv 2))) pss_nil)))
      (pss_one (ps_ret pe_non)), ?_⟩
    let Pv : Nat → L2.St → Hp → Prop := fun i σ H' => ∃ v2 v3 : Option V, σ = [some (.ref a), some (.int lim), v2, v3] ∧ Same H H' ∧ ∀ j y, j < i → xs[j]? = some y → belowB y lim = true
    have end_ : ∀ σ H', Pv xs.length σ H' → Q .non H' := fun σ H' ⟨v2, v3, _, sm, hb⟩ => by
      have := q H' sm
      rw [fnb_none hb] at this
      exact this
    refine ⟨_, rfl, a, rfl, ?_⟩
    rcases hS with hS | hS
    · refine .inl ⟨xs, SqL.of hS, for_enumL (K := K) Pv ⟨none, none, rfl, Same.refl H, fun j y hj => absurd hj (Nat.not_lt_zero _)⟩ (fun i σ H' _ ⟨_, _, _, sm, _⟩ => SqL.of (sm _ _ hS)) ?_ end_⟩
      rintro i x T σ H' hx hT ⟨v2, v3, rfl, sm, hb⟩
      have sm2 : Same H (upd H' T (.tup [.int (i : Nat), x])) := sm.trans (same_new hT)
      obtain ⟨o, kv⟩ := hK x (List.mem_of_getElem? hx)
      refine ⟨T, _, rfl, SqT.of upd_same, rfl, _, _, rfl, _, _, rfl, rfl, ?_⟩
      refine ⟨_, rfl, _, rfl, _, o, lim, rfl, kv.same sm2, _, rfl, ?_⟩
      refine ifD (fun e => ?_) fun e => ?_
      · refine ⟨_, rfl, ?_⟩
        have e' : belowB x lim = false := by simpa using e
        have := q _ sm2
        rw [fnb_at hx e' hb] at this
        exact this
      · have e' : belowB x lim = true := by simpa using e
        refine ⟨_, _, rfl, sm2, fun j y hj hy => ?_⟩
        rcases Nat.lt_succ_iff_lt_or_eq.mp hj with z | z
        · exact hb j y z hy
        · subst z
          rw [hx] at hy
          rw [← Option.some.inj hy]
          exact e'
    · refine .inr ⟨xs, SqT.of hS, for_enumT (K := K) Pv ⟨none, none, rfl, Same.refl H, fun j y hj => absurd hj (Nat.not_lt_zero _)⟩ (fun i σ H' _ ⟨_, _, _, sm, _⟩ => SqT.of (sm _ _ hS)) ?_ end_⟩
      rintro i x T σ H' hx hT ⟨v2, v3, rfl, sm, hb⟩
      have sm2 : Same H (upd H' T (.tup [.int (i : Nat), x])) := sm.trans (same_new hT)
      obtain ⟨o, kv⟩ := hK x (List.mem_of_getElem? hx)
      refine ⟨T, _, rfl, SqT.of upd_same, rfl, _, _, rfl, _, _, rfl, rfl, ?_⟩
      refine ⟨_, rfl, _, rfl, _, o, lim, rfl, kv.same sm2, _, rfl, ?_⟩
      refine ifD (fun e => ?_) fun e => ?_
      · refine ⟨_, rfl, ?_⟩
        have e' : belowB x lim = false := by simpa using e
        have := q _ sm2
        rw [fnb_at hx e' hb] at this
        exact this
      · have e' : belowB x lim = true := by simpa using e
        refine ⟨_, _, rfl, sm2, fun j y hj hy => ?_⟩
        rcases Nat.lt_succ_iff_lt_or_eq.mp hj with z | z
        · exact hb j y z hy
        · subst z
          rw [hx] at hy
          rw [← Option.some.inj hy]
          exact e'
end
end K1
namespace K1
open PySem PySem.Spec PyProof.Rows L2
/-! ### small words -/
theorem seqG {t u : TS} {D : Ends} {σ : L2.St} {H : Hp} (G : L2.St → Hp → Prop) (hu : ∀ σ H, G σ H → u D σ H) (ht : (∀ σ H, G σ H → u D σ H) → t { D with nx := u D } σ H) : tSeq t u D σ H := ht hu
theorem gn {i : Nat} {x : V} {σ : L2.St} {H : Hp} {Q : L2.St → Hp → Prop} (h : Q (σ.set i (some x)) H) : gName i x σ H Q := h
theorem nxP {D : Ends} {σ : L2.St} {H : Hp} (h : D.nx σ H) : tNext D σ H := h
theorem nilP {σ : L2.St} {H : Hp} {Q : List V → Hp → Prop} (h : Q [] H) : tNil σ H Q := h
theorem cP {v : V} {σ : L2.St} {H : Hp} {Q : VK} (h : Q v H) : tC v σ H Q := h
theorem noP {σ : L2.St} {H : Hp} {Q : Option Int → Hp → Prop} (h : Q none H) : tNoPart σ H Q := h
theorem iteN {c : Bool} {A B : Prop} (e : c = false) (h : B) : if c = true then A else B := by subst e; exact iteF h
theorem iteY {c : Bool} {A B : Prop} (e : c = true) (h : A) : if c = true then A else B := by subst e; exact iteT h
theorem neV {x : V} {Q : VK} {H : Hp} (hs : scal x x = true) (q : Q (.bl false) H) : rNe x x H Q := ⟨hs, qbl (by rw [decide_eq_true rfl]; rfl) q⟩
theorem eqVV {x : V} {Q : VK} {H : Hp} (hs : scal x x = true) (q : Q (.bl true) H) : rEq x x H Q := ⟨hs, qbl (by rw [decide_eq_true rfl]) q⟩
theorem passF {X : Cx} : Passes (L2.CX X.prog X.w) X (fun _ _ _ => False) := passes_call LamX.takes0 fun _ _ _ _ h => h
theorem take_succ {α : Type} {l : List α} {i : Nat} {x : α} (h : l[i]? = some x) : l.take (i + 1) = l.take i ++ [x] := by
  rw [List.take_add_one, h]; rfl
theorem fnb_all {xs : List V} {lim : Int} (h : ∀ x ∈ xs, belowB x lim = true) : fnb xs lim = .non := fnb_none fun j y _ hy => h y (List.mem_of_getElem? hy)
theorem find_at {α : Type} {rs : List α} {p : α → Bool} {i : Nat} {r : α} (hr : rs[i]? = some r) (hn : p r = true) (hb : ∀ (j : Nat) y, j < i → rs[j]? = some y → p y = false) : rs.findIdx? p = some i := by
  obtain ⟨hi, ex⟩ := List.getElem?_eq_some_iff.mp hr
  rw [List.findIdx?_eq_some_iff_getElem]
  refine ⟨hi, by rw [ex, hn], fun j hj => ?_⟩
  have hj' : j < rs.length := Nat.lt_trans hj hi
  have := hb j rs[j] hj (by simp [hj'])
  simp [this]
theorem find_none {α : Type} {rs : List α} {p : α → Bool} (hb : ∀ (j : Nat) y, j < rs.length → rs[j]? = some y → p y = false) : rs.findIdx? p = none := by
  rw [List.findIdx?_eq_none_iff]
  intro x hx
  obtain ⟨j, hj, e⟩ := List.mem_iff_getElem.mp hx
  exact e ▸ hb j rs[j] hj (by simp [hj])
theorem lookup_same {α : Type} {l : List α} {i : Nat} {x y : α} (h1 : l[i]? = some x) (h2 : l[i]? = some y) : x = y := Option.some.inj (h1.symm.trans h2)
theorem ex_at {α : Type} {l : List α} {i : Nat} (h : i < l.length) : ∃ x, l[i]? = some x := ⟨l[i], List.getElem?_eq_getElem h⟩
theorem lt_at {α : Type} {l : List α} {i : Nat} {x : α} (h : l[i]? = some x) : i < l.length := (List.getElem?_eq_some_iff.mp h).1
theorem map_at {α β : Type} {f : α → β} {l : List α} {i : Nat} {x : α} (h : l[i]? = some x) : (l.map f)[i]? = some (f x) := by rw [List.getElem?_map, h]; rfl
theorem at_map {α β : Type} {f : α → β} {l : List α} {i : Nat} {y : β} (h : (l.map f)[i]? = some y) : ∃ x, l[i]? = some x ∧ y = f x := by
  rw [List.getElem?_map] at h
  cases e : l[i]? with
  | none => rw [e] at h; cases h
  | some x => rw [e] at h; exact ⟨x, rfl, (Option.some.inj h).symm⟩
theorem at_i {xs : List V} {i : Nat} {x : V} (h : xs[i]? = some x) : atI xs (i : Int) = some x := at_of (j := i) rfl h
theorem sz {n : Nat} (h : n ≤ 16777216) : n ≤ sizeLine := by rw [sizeLine_eq]; exact h
theorem szl {n : Nat} (h : n < 16777216) : n < sizeLine := by rw [sizeLine_eq]; exact h
/-! ### rules with the fragment told -/
section
variable {X : Cx} {K : PySem.W.Frag}
theorem neD (h : X.K = K) (hu : X.A.units + 64 < cLine) : OpR X (compareOp .NotEq) (rNeD K) := by subst h; exact op_neD hu
theorem eqD (h : X.K = K) (hu : X.A.units + 64 < cLine) : OpR X (compareOp .Eq) (rEqD K) := by subst h; exact op_eqD hu
def rList (K : PySem.W.Frag) : List V → Hp → VK → Prop := fun xs H Q => ∃ p ys, xs = [.ref p] ∧ (SqL K H p ys ∨ SqT K H p ys) ∧ ∀ l, H l = none → Q (.ref l) (upd H l (.lst ys))
theorem clist (h : X.K = K) : CallR X (.type "list") (rList K) := by subst h; exact call_list_of
def rTup (K : PySem.W.Frag) : List V → Hp → VK → Prop := fun xs H Q => ∃ p ys, xs = [.ref p] ∧ ((SqL K H p ys ∧ ∀ l, H l = none → Q (.ref l) (upd H l (.tup ys))) ∨ (SqT K H p ys ∧ Q (.ref p) H))
theorem ctup (h : X.K = K) : CallR X (.type "tuple") (rTup K) := by subst h; exact call_tuple_of
theorem slL (h : X.K = K) : SlR X (rSlL K) := by subst h; exact sl_list
theorem slA (h : X.K = K) : SlR X (rSlA K) := by subst h; exact sl_tupA
theorem piL {tg l : Expr} {tl : TE} (h : X.K = K) (hl : PE X l tl) : PI X tg l (iList K tl) := by subst h; exact pi_list hl
theorem ixTK (h : X.K = K) : IxR X (rIxT K) := by subst h; exact ix_tup
theorem ixLK (h : X.K = K) : IxR X (rIxL K) := by subst h; exact ix_list
def rLenK (K : PySem.W.Frag) : List V → Hp → VK → Prop := fun xs H Q => ∃ p ys, xs = [.ref p] ∧ (SqL K H p ys ∨ SqT K H p ys) ∧ Q (.int (ys.length : Int)) H
theorem clen (h : X.K = K) : CallR X (.builtin "len") (rLenK K) := by subst h; exact call_len_seq
theorem opInK (h : X.K = K) : OpR X (compareOp .In) (rIn K false) := by subst h; exact op_in_seq
theorem opNotInK (h : X.K = K) : OpR X (compareOp .NotIn) (rIn K true) := by subst h; exact op_notIn_seq
theorem opCatA (h : X.K = K) : OpR X (binaryOp .Add) (rCatA K) := by subst h; exact op_catA
theorem pe_fldK {e : Expr} {f : Str} {te : TE} {pos : Pos} (h : X.K = K) (he : PE X e te) (hb : attributeBase e f X.env (eval e X.env) = eval e X.env) : PE X (.Attribute e f pos) (tFld K te f) := by subst h; exact pe_fld he hb
end
/-! ### slices and sums of tuples -/
theorem cut_to {xs : List V} {k : Nat} (h : k ≤ xs.length) : cutV xs none (some (k : Int)) = xs.take k := by
  unfold cutV
  rw [HT.sIx_nat, HT.sIx_none, Nat.min_eq_left h]; rfl
theorem cut_from {xs : List V} {k : Nat} (h : k ≤ xs.length) : cutV xs (some (k : Int)) none = xs.drop k := by
  unfold cutV
  rw [HT.sIx_nat, HT.sIx_none, Nat.min_eq_left h, ← List.length_drop, List.take_length]
theorem catA_by {K : PySem.W.Frag} {H : Hp} {Q : VK} {a b : Addr} {xs ys : List V} (ha : H a = some (.tup xs)) (hb : H b = some (.tup ys)) (hl : xs.length + ys.length ≤ sizeLine) (q : ∀ p H', Same H H' → H' p = some (.tup (xs ++ ys)) → Q (.ref p) H') : rCatA K (.ref a) (.ref b) H Q := by
  refine ⟨a, b, xs, ys, rfl, rfl, SqT.of ha, SqT.of hb, hl, fun e => ?_, fun _ e => ?_, fun _ _ p hp => q p _ (K1.same_new hp) upd_same⟩
  · subst e
    exact q b H (fun _ _ e => e) hb
  · subst e
    exact q a H (fun _ _ e => e) (by rw [List.append_nil]; exact ha)
theorem slA_by {K : PySem.W.Frag} {H : Hp} {Q : VK} {a : Addr} {xs : List V} {lo hi : Option Int} (ha : H a = some (.tup xs)) (q : ∀ p H', Same H H' → H' p = some (.tup (cutV xs lo hi)) → Q (.ref p) H') : rSlA K (.ref a) lo hi H Q := by
  refine ⟨a, xs, rfl, SqT.of ha, fun e => ?_, fun _ p hp => q p _ (K1.same_new hp) upd_same⟩
  refine q a H (fun _ _ e => e) ?_
  rw [ha]
  unfold cutV
  rw [e.1, e.2, List.drop_zero, Nat.sub_zero, List.take_length]
/-! ### errors, rows of values -/
/-- an error of the class at C, its field f at v -/
def Rz (C : Addr) (f : Str) (v : V) (H : Hp) (E : XK) : Prop := ∀ d H', Same H H' → H d = none → H' d = some (.xd [(f, v)]) → E (.ref C) (some d) H'
/-- a value, whose items (if it has some) are of known kinds -/
structure Rw (K : PySem.W.Frag) (H : Hp) (x : V) (r : Option (List V)) : Prop where
  kv : KV K H x r
  ks : ∀ ys, r = some ys → Kinds K H ys
theorem Rw.same {K : PySem.W.Frag} {H H' : Hp} {x : V} {r : Option (List V)} (h : Rw K H x r) (s : Same H H') : Rw K H' x r := ⟨h.kv.same s, fun ys e => (h.ks ys e).same s⟩
theorem KV.seqA {K : PySem.W.Frag} {H : Hp} {x : V} {ys : List V} (h : KV K H x (some ys)) : ∃ a, x = .ref a ∧ SeqA H a ys := by
  cases h with
  | lst h => exact ⟨_, rfl, .inl h⟩
  | tup h => exact ⟨_, rfl, .inr h⟩
theorem kv_any {K K' : PySem.W.Frag} {H : Hp} {v : V} {o : Option (List V)} (kv : KV K' H v o) : KV K H v o := by cases kv <;> first | exact .int _ | exact .bl _ | exact .non | exact .str _ | exact .lst (by assumption) | exact .tup (by assumption)
/-! ### whole numbers by rows -/
def vrow (t : List Int) : List V := t.map V.int
def dI (t : List Int) : List PyData := t.map PyData.int
theorem dp_ints {K : PySem.W.Frag} {H : Hp} : ∀ t : List Int, DpAll K H (vrow t) (dI t)
  | [] => .nil
  | i :: r => .cons (.int i) (dp_ints r)
theorem dp_tup {K : PySem.W.Frag} {H : Hp} {a : Addr} {t : List Int} (h : H a = some (.tup (vrow t))) : Dp K H (.ref a) (.tuple (dI t)) := .tup (SqT.of h) (dp_ints t)
theorem dp_lst {K : PySem.W.Frag} {H : Hp} {a : Addr} {t : List Int} (h : H a = some (.lst (vrow t))) : Dp K H (.ref a) (.list (dI t)) := .lst (SqL.of h) (dp_ints t)
theorem vrow_set (t : List Int) (i : Nat) (x : Int) : vrow (t.set i x) = (vrow t).set i (.int x) := by unfold vrow; rw [List.map_set]
theorem vrow_len (t : List Int) : (vrow t).length = t.length := List.length_map _
theorem vrow_at {t : List Int} {i : Nat} {v : V} (h : (vrow t)[i]? = some v) : ∃ x, t[i]? = some x ∧ v = .int x := at_map h
theorem vrow_get {t : List Int} {i : Nat} (h : i < t.length) : (vrow t)[i]? = some (V.int (t.getD i 0)) := by
  rw [vrow, List.getElem?_map, List.getD_eq_getElem?_getD, List.getElem?_eq_getElem h]; rfl
/-- plain data: shown shortly, compared by what they hold -/
structure Pl (d : PyData) (n w : Nat) : Prop where
  lay : d.canLay0 = true
  sh : d.showable = true
  nd : d.hasDict = false
  dp : d.depth ≤ n
  wt : d.weight ≤ w
  sr : d.leavesShort 20 = true
structure PlA (ds : List PyData) (n w : Nat) : Prop where
  lay : PyData.canLayAll0 ds = true
  sh : PyData.showableAll ds = true
  nd : PyData.hasDictAll ds = false
  dp : PyData.depthAll ds ≤ n
  wt : PyData.weightAll ds ≤ w
  sr : PyData.leavesShortAll 20 ds = true
theorem Pl.int {i : Int} (h : i.natAbs < 10 ^ 19) : Pl (.int i) 0 64 := by
  have h3 : i.natAbs ≠ 0 → i.natAbs.log2 < 64 := fun z => (Nat.log2_lt z).mpr (Nat.lt_of_lt_of_le h (by decide))
  refine ⟨by simp only [PyData.canLay0], ?_, by simp only [PyData.hasDict], by simp only [PyData.depth]; omega, ?_, ?_⟩
  · simp only [PyData.showable, decide_eq_true_eq]
    by_cases z : i.natAbs = 0
    · rw [z]; decide
    · have := h3 z
      omega
  · simp only [PyData.weight]
    split
    · omega
    · rename_i z
      have := h3 (fun e => z (by rw [Int.natAbs_eq_zero.mp e]; rfl))
      omega
  · have e := int_text_length_le10 (a := i) (k := 19) (by decide) h
    simp only [PyData.leavesShort, decide_eq_true_eq, PyData.shown]
    exact decide_eq_true (Nat.le_trans (Nat.le_of_eq (PySem.ofString_length _)) e)
theorem Pl.bl (b : Bool) : Pl (.bool b) 0 0 := ⟨by simp only [PyData.canLay0], by simp only [PyData.showable], by simp only [PyData.hasDict], by simp only [PyData.depth]; omega, by simp only [PyData.weight]; omega, by simp only [PyData.leavesShort]⟩
theorem PlA.nil : PlA [] 0 0 := ⟨by simp only [PyData.canLayAll0], by simp only [PyData.showableAll], by simp only [PyData.hasDictAll], by simp only [PyData.depthAll]; omega, by simp only [PyData.weightAll]; omega, by simp only [PyData.leavesShortAll]⟩
theorem PlA.cons {d : PyData} {ds : List PyData} {n m u v : Nat} (a : Pl d n u) (b : PlA ds m v) : PlA (d :: ds) (max n m) (u + 1 + v) := by
  refine ⟨by simp only [PyData.canLayAll0, a.lay, b.lay, Bool.and_self], by simp only [PyData.showableAll, a.sh, b.sh, Bool.and_self], by simp only [PyData.hasDictAll, a.nd, b.nd, Bool.or_self], ?_, ?_, by simp only [PyData.leavesShortAll, a.sr, b.sr, Bool.and_self]⟩
  · have h1 := a.dp; have h2 := b.dp
    simp only [PyData.depthAll]; omega
  · have h1 := a.wt; have h2 := b.wt
    simp only [PyData.weightAll]; omega
theorem Pl.list {ds : List PyData} {n w : Nat} (a : PlA ds n w) : Pl (.list ds) (n + 1) w := by
  refine ⟨by simp only [PyData.canLay0, a.lay], by simp only [PyData.showable, a.sh], by simp only [PyData.hasDict, a.nd], ?_, ?_, by simp only [PyData.leavesShort, a.sr]⟩
  · have h1 := a.dp
    simp only [PyData.depth]; omega
  · have h1 := a.wt
    simp only [PyData.weight]; omega
theorem Pl.tuple {ds : List PyData} {n w : Nat} (a : PlA ds n w) : Pl (.tuple ds) (n + 1) w := by
  refine ⟨by simp only [PyData.canLay0, a.lay], by simp only [PyData.showable, a.sh], by simp only [PyData.hasDict, a.nd], ?_, ?_, by simp only [PyData.leavesShort, a.sr]⟩
  · have h1 := a.dp
    simp only [PyData.depth]; omega
  · have h1 := a.wt
    simp only [PyData.weight]; omega
theorem Pl.mono {d : PyData} {n w m v : Nat} (a : Pl d n w) (h1 : n ≤ m) (h2 : w ≤ v) : Pl d m v := ⟨a.lay, a.sh, a.nd, Nat.le_trans a.dp h1, Nat.le_trans a.wt h2, a.sr⟩
theorem PlA.mono {d : List PyData} {n w m v : Nat} (a : PlA d n w) (h1 : n ≤ m) (h2 : w ≤ v) : PlA d m v := ⟨a.lay, a.sh, a.nd, Nat.le_trans a.dp h1, Nat.le_trans a.wt h2, a.sr⟩
theorem Pl.shaped {d : PyData} {n w : Nat} (a : Pl d n w) (h : n ≤ 40) : SeqAt.shaped d = true := by
  have := a.dp
  unfold SeqAt.shaped
  rw [a.lay, decide_eq_true (by omega)]; rfl
theorem Pl.short {d : PyData} {n w : Nat} (a : Pl d n w) (h : w ≤ 100000) : d.shown.length ≤ sizeLine := by
  have h1 := PyData.shown_le 20 (by decide) d a.sr
  have h2 := a.wt
  rw [sizeLine_eq]
  omega
/-- rows of whole numbers below 10 ^ 19 -/
theorem pla_ints : ∀ t : List Int, (∀ i ∈ t, i.natAbs < 10 ^ 19) → PlA (dI t) 0 (t.length * 65)
  | [], _ => PlA.nil
  | i :: r, h => (PlA.cons (Pl.int (h i List.mem_cons_self)) (pla_ints r fun j hj => h j (List.mem_cons_of_mem _ hj))).mono (by omega) (by show 64 + 1 + r.length * 65 ≤ (r.length + 1) * 65; omega)
abbrev Ts := List (List Int)
theorem pla_rows {n : Nat} : ∀ ts : Ts, (∀ t ∈ ts, t.length ≤ n ∧ ∀ i ∈ t, i.natAbs < 10 ^ 19) → PlA (ts.map fun t => PyData.tuple (dI t)) 1 (ts.length * (n * 65 + 1))
  | [], _ => PlA.nil.mono (by omega) (by omega)
  | t :: r, h => by
    obtain ⟨h1, h2⟩ := h t List.mem_cons_self
    refine (PlA.cons (Pl.tuple (pla_ints t h2)) (pla_rows r fun u hu => h u (List.mem_cons_of_mem _ hu))).mono (by omega) ?_
    show t.length * 65 + 1 + r.length * (n * 65 + 1) ≤ (r.length + 1) * (n * 65 + 1)
    rw [Nat.add_mul]
    omega

theorem pl_str {x : Str} (h1 : PyData.strOk x = true) (h2 : x.cps.size ≤ 100) (h3 : (x.cps.toList.all fun c => decide (c < 16 ^ 8)) = true) : Pl (.str x) 0 100 :=
  ⟨by simp only [PyData.canLay0]; exact h1, by simp only [PyData.showable], by simp only [PyData.hasDict], by simp only [PyData.depth]; omega, by simp only [PyData.weight]; exact h2, by simp only [PyData.leavesShort]; exact h3⟩
theorem pl_non : Pl .none 0 100 := ⟨rfl, rfl, rfl, by show 0 ≤ 0; decide, by show _ ≤ 100; decide +kernel, rfl⟩
/-! ### what repr gives -/
theorem reprP {K : PySem.W.Frag} {p : Addr} {d : PyData} {n w : Nat} {H : Hp} {Q : VK} (hd : Dp K H (.ref p) d) (pl : Pl d n w) (hn : n ≤ 40) (hw : w ≤ 100000) (q : Q (.str d.shown) H) : rRepr K [.ref p] H Q := ⟨p, d, rfl, hd, pl.sh, pl.nd, Nat.le_trans pl.dp hn, pl.short hw, q⟩
theorem neDP {K : PySem.W.Frag} {x y : V} {d : PyData} {n w : Nat} {H : Hp} {Q : VK} (h1 : Dp K H x d) (h2 : Dp K H y d) (pl : Pl d n w) (hn : n ≤ 40) (q : Q (.bl false) H) : rNeD K x y H Q := ⟨d, d, h1, h2, pl.shaped hn, pl.shaped hn, qbl (by rw [SeqAt.eqv_refl _ pl.lay]; rfl) q⟩
theorem eqDP {K : PySem.W.Frag} {x y : V} {d : PyData} {n w : Nat} {H : Hp} {Q : VK} (h1 : Dp K H x d) (h2 : Dp K H y d) (pl : Pl d n w) (hn : n ≤ 40) (q : Q (.bl true) H) : rEqD K x y H Q := ⟨d, d, h1, h2, pl.shaped hn, pl.shaped hn, qbl (SeqAt.eqv_refl _ pl.lay) q⟩
/-! ### what stays: all but the things at xs, and the tables of code -/
def Ks (xs : List Addr) (H H' : Hp) : Prop := ∀ c o, H c = some o → c ∉ xs → (∀ ps, o ≠ .tbl ps) → H' c = some o
section
variable {xs ys : List Addr} {H H1 H2 : Hp}
theorem Ks.refl : Ks xs H H := fun _ _ e _ _ => e
theorem Ks.trans (a : Ks xs H H1) (b : Ks xs H1 H2) : Ks xs H H2 := fun c o e n1 n2 => b c o (a c o e n1 n2) n1 n2
theorem Ks.same (a : Ks xs H H1) (s : Same H1 H2) : Ks xs H H2 := fun c o e n1 n2 => s _ _ (a c o e n1 n2)
theorem Same.ks (s : Same H H1) : Ks xs H H1 := fun c o e _ _ => s _ _ e
theorem Ks.mono (a : Ks xs H H1) (h : ∀ c ∈ xs, c ∈ ys) : Ks ys H H1 := fun c o e n1 n2 => a c o e (fun z => n1 (h c z)) n2
theorem Ks.tup {c : Addr} {vs : List V} (a : Ks xs H H1) (h : H c = some (.tup vs)) (n : c ∉ xs) : H1 c = some (.tup vs) := a c _ h n fun ps z => by cases z
theorem Ks.lst {c : Addr} {vs : List V} (a : Ks xs H H1) (h : H c = some (.lst vs)) (n : c ∉ xs) : H1 c = some (.lst vs) := a c _ h n fun ps z => by cases z
theorem Ks.ins {c C dx : Addr} {fs : List (Str × V)} (a : Ks xs H H1) (h : H c = some (.ins C dx fs)) (n : c ∉ xs) : H1 c = some (.ins C dx fs) := a c _ h n fun ps z => by cases z
end
end K1
/-! ### tuple * int, also 0 and 1 -/
namespace TM
open PySem PySem.Spec PyProof.Rows L2
theorem mul1 (l : Addr) (items : Array Value) (n : Nat) (dd : Option Addr) (sl : Array (Option Value)) (u : Tok) :
    Meets (Builtin.«tuple.__mul__» ⟨[.ref l, .int 1 u], []⟩) (fun _ R s => s.heap.get? l = some { cls := .type "tuple", dict := dd, data := .seq items n, slots := sl } ∧ R (.ok (.ret (Value.ref l))) s) :=
  .of_wp fun prog w A R s h => by
    obtain ⟨hp, g, d, tk, os⟩ := s
    obtain ⟨hl, h⟩ := h
    have f1 := AutoSeq1.idx_int
    have c0 : (decide ((1 : Int) < -(2 ^ 63)) || decide ((1 : Int) ≥ 2 ^ 63)) = false := by decide
    have c1 : (items.isEmpty || (1 : Int) == 1) = true := by rw [show ((1 : Int) == 1) = true by decide, Bool.or_true]
    wp_walk using wpAny_loadPart' hl
    repeat (first
      | (refine wpAny_ite_false (decide_eq_false (by rw [c0]; exact Bool.false_ne_true)) ?_; wp_walk using wpAny_loadPart' hl)
      | (refine wpAny_ite_true (decide_eq_true (by rw [c1])) ?_; wp_walk using wpAny_loadPart' hl))
    exact ⟨_, rfl, h⟩
theorem mul0 (l : Addr) (items : Array Value) (n : Nat) (dd : Option Addr) (sl : Array (Option Value)) (u : Tok) (c1 : (items.isEmpty || (0 : Int) == 1) = false) :
    Meets (Builtin.«tuple.__mul__» ⟨[.ref l, .int 0 u], []⟩) (fun _ R s => s.heap.get? l = some { cls := .type "tuple", dict := dd, data := .seq items n, slots := sl } ∧
      R (.ok (.ret (Value.ref s.heap.objs.size))) { s with heap := s.heap.push { cls := Value.type "tuple", data := Data.seq #[] }, toks := s.toks }) :=
  .of_wp fun prog w A R s h => by
    obtain ⟨hp, g, d, tk, os⟩ := s
    obtain ⟨hl, h⟩ := h
    have f1 := AutoSeq1.idx_int
    have c0 : (decide ((0 : Int) < -(2 ^ 63)) || decide ((0 : Int) ≥ 2 ^ 63)) = false := by decide
    have c2 : (decide ((0 : Int) ≤ 0) || items.isEmpty) = true := by rw [decide_eq_true (by decide)]; rfl
    wp_walk using wpAny_loadPart' hl
    repeat (first
      | (refine wpAny_ite_false (decide_eq_false (by rw [c0]; exact Bool.false_ne_true)) ?_; wp_walk using wpAny_loadPart' hl)
      | (refine wpAny_ite_false (decide_eq_false (by rw [c1]; exact Bool.false_ne_true)) ?_; wp_walk using wpAny_loadPart' hl)
      | (refine wpAny_ite_true (decide_eq_true (by rw [c2])) ?_; wp_walk using wpAny_loadPart' hl))
    exact ⟨_, rfl, h⟩
def rRepG (K : PySem.W.Frag) : R2 := fun x y H Q => ∃ l k xs, x = .ref l ∧ y = .int k ∧ H l = some (.tup xs) ∧ xs ≠ [] ∧ 0 ≤ k ∧ k ≤ 1000 ∧ xs.length ≤ 1000 ∧ ∀ p H', Same H H' → H' p = some (.tup (List.replicate k.toNat xs).flatten) → Q (.ref p) H'
theorem op_repG {X : Cx} {K : PySem.W.Frag} (hK : X.K = K) : OpR X (binaryOp .Mult) (rRepG K) := by
  subst hK
  intro pins s σ H x y v u Q I rx ry h
  obtain ⟨l, k, xs, rfl, rfl, hT, hne, h1, h2, hz, q⟩ := h
  by_cases k2 : 2 ≤ k
  · exact op_repT pins s σ H _ _ v u Q I rx ry ⟨l, k, xs, rfl, rfl, SqT.of hT, hne, k2, h2, hz, fun p hp => q p _ (K1.same_new hp) upd_same⟩
  cases rx
  obtain ⟨t, rfl⟩ := ry
  obtain ⟨its, r, ⟨⟨cls, dd, data, sl⟩, ho, hc, n, hd⟩, hs⟩ := I.tuple (SqT.of hT)
  simp only at hc hd
  subst hc hd
  have hle : its.length = xs.length := r.length.symm
  have hn : its ≠ [] := fun e => hne (by
    rw [e] at hle
    exact List.eq_nil_of_length_eq_zero hle.symm)
  have hi : its.toArray.isEmpty = false := by
    cases its with
    | nil => exact absurd rfl hn
    | cons a b => rfl
  have k01 : k = 0 ∨ k = 1 := by omega
  rcases k01 with rfl | rfl
  · have c1 : (its.toArray.isEmpty || (0 : Int) == 1) = false := by rw [hi]; rfl
    refine wpAny_binaryOp_repeat_ref (T := "tuple") (U := "int") (by decide) ⟨_, ho, rfl⟩ (fun s' => typeIs_int s' 0 t) noFill_tuple_mul F.fills_int_mul F.slot_int_rmul repeat_tuple F.slot_int_index.lookup
      (call_meets F.slot_int_rmul (typeIs_int s 0 t) F.entry_int_rmul (F.args_int_rmul_2 _ _) (int_rmul_tuple 0 t l its.toArray n dd sl)
        ⟨ho, rfl, ⟨_, ho, rfl⟩, call_meets F.slot_tuple_mul ⟨_, ho, rfl⟩ F.entry_tuple_mul (F.args_tuple_mul_2 _ _) (mul0 l its.toArray n dd sl t c1) ⟨ho, ?_⟩⟩)
    have hf := I.hok.fresh (Nat.le_refl s.heap.objs.size)
    refine ⟨.ref s.heap.objs.size, _, I.laid (t' := s.toks) (o := .tup []) (fun b ob q => Heap.get?_push_of_some _ q) (Nat.le_refl _) ?_, rfl, q _ _ (K1.same_new hf) upd_same⟩
    exact ⟨by show 0 ≤ sizeLine; decide, [], .nil, IsTup.new _ _⟩
  · refine wpAny_binaryOp_repeat_ref (T := "tuple") (U := "int") (by decide) ⟨_, ho, rfl⟩ (fun s' => typeIs_int s' 1 t) noFill_tuple_mul F.fills_int_mul F.slot_int_rmul repeat_tuple F.slot_int_index.lookup
      (call_meets F.slot_int_rmul (typeIs_int s 1 t) F.entry_int_rmul (F.args_int_rmul_2 _ _) (int_rmul_tuple 1 t l its.toArray n dd sl)
        ⟨ho, rfl, ⟨_, ho, rfl⟩, call_meets F.slot_tuple_mul ⟨_, ho, rfl⟩ F.entry_tuple_mul (F.args_tuple_mul_2 _ _) (mul1 l its.toArray n dd sl t) ⟨ho, ?_⟩⟩)
    refine ⟨.ref l, H, I, rfl, q l H (fun _ _ e => e) ?_⟩
    rw [hT]
    simp
end TM
/-! ### zip of three tuples -/
namespace Z3
open PySem PySem.Spec PyProof.Rows L2
def It3 (K : PySem.W.Frag) (a b c : Addr) : It :=
  ⟨fun i H => ∃ (xs ys zs : List V) (x y z : V), SqT K H a xs ∧ SqT K H b ys ∧ SqT K H c zs ∧ xs[i]? = some x ∧ ys[i]? = some y ∧ zs[i]? = some z,
    fun i H v H' => ∃ T x y z, v = .ref T ∧ H T = none ∧ H' = upd H T (.tup [x, y, z]) ∧ (∀ xs, SqT K H a xs → xs[i]? = some x) ∧ (∀ ys, SqT K H b ys → ys[i]? = some y) ∧ ∀ zs, SqT K H c zs → zs[i]? = some z,
    fun i H => ∃ xs ys zs : List V, SqT K H a xs ∧ SqT K H b ys ∧ SqT K H c zs ∧ i ≤ xs.length ∧ i ≤ ys.length ∧ i ≤ zs.length ∧ (i = xs.length ∨ i = ys.length ∨ i = zs.length)⟩
theorem zlt {h : Heap} {c : Addr} {o : Obj} (e : h.get? c = some o) : c ≠ h.objs.size := Nat.ne_of_lt (Heap.lt_size e)
structure Sep (z TI TO i1 i2 i3 a b c : Addr) : Prop extends ZipSep3 z TI TO i1 i2 i3 [i1, a] [i2, b] [i3, c] where
  na : a ≠ i1
  nb : b ≠ i2
  nc : c ≠ i3
  n1 : i1 ≠ z
  n2 : i2 ≠ z
  n3 : i3 ≠ z
theorem itobj {h : Heap} {i l : Addr} {k : Nat} (x : h.IsTupleIter i l k) : ∃ o, h.get? i = some o ∧ ∀ v, o.data ≠ .cell v := by
  obtain ⟨o, e, _, d⟩ := x
  exact ⟨o, e, fun v q => by rw [d] at q; cases q⟩
theorem turn3 {P : Program} {w : World} {K : PySem.W.Frag} {elts : List Expr} {kk : Nat} {tpos : Pos} {a b c z TI TO i1 i2 i3 : Addr} (S : Sep z TI TO i1 i2 i3 a b c) :
    Turn P w K (.Tuple elts kk tpos) (It3 K a b c) [z, TI, TO, i1, i2, i3] z (fun i h => IsZip h z TI TO .none ∧ IsTupOf3 h TI (.ref i1) (.ref i2) (.ref i3) ∧ (∃ x y z, IsTupOf3 h TO x y z) ∧ h.IsTupleIter i1 a i ∧ h.IsTupleIter i2 b i ∧ h.IsTupleIter i3 c i) where
  mem := by simp
  obj := fun i h st c hc => by
    obtain ⟨hz, hTI, ⟨x, y, w, hTO⟩, h1, h2, h3⟩ := st
    simp only [List.mem_cons, List.mem_nil_iff, or_false] at hc
    rcases hc with rfl | rfl | rfl | rfl | rfl | rfl
    · exact ⟨_, hz, fun v q => nomatch q⟩
    · exact ⟨_, hTI, fun v q => nomatch q⟩
    · exact ⟨_, hTO, fun v q => nomatch q⟩
    · exact itobj h1
    · exact itobj h2
    · exact itobj h3
  keep := fun i h h' st k => by
    obtain ⟨hz, hTI, ⟨x, y, w, hTO⟩, h1, h2, h3⟩ := st
    exact ⟨k _ (by simp) _ hz, k _ (by simp) _ hTI, ⟨x, y, w, k _ (by simp) _ hTO⟩, h1.at fun o q => k _ (by simp) o q, h2.at fun o q => k _ (by simp) o q, h3.at fun o q => k _ (by simp) o q⟩
  item := by
    intro X hP hw hK hc i pins s σ H E I hf st hg
    subst hP hw hK
    obtain ⟨hz, hTI, ⟨x0, y0, w0, hTO⟩, h1, h2, h3⟩ := st
    obtain ⟨xs, ys, zs, x, y, w, hqx, hqy, hqz, hx, hy, hw⟩ := hg
    obtain ⟨its, rv, p, _⟩ := I.tuple hqx
    obtain ⟨its2, rv2, p2, _⟩ := I.tuple hqy
    obtain ⟨its3, rv3, p3, _⟩ := I.tuple hqz
    obtain ⟨u, hu, ru⟩ := rv.get hx
    obtain ⟨u2, hu2, ru2⟩ := rv2.get hy
    obtain ⟨u3, hu3, ru3⟩ := rv3.get hw
    have l1 : i < its.toArray.size := by simpa using (List.getElem?_eq_some_iff.mp hu).1
    have l2 : i < its2.toArray.size := by simpa using (List.getElem?_eq_some_iff.mp hu2).1
    have l3 : i < its3.toArray.size := by simpa using (List.getElem?_eq_some_iff.mp hu3).1
    have d1 := Draws.tuple (prog := X.prog) (w := X.w) (A := X.A.in1) (I.ok.hd hc) i1 a S.na its.toArray
    have d2 := Draws.tuple (prog := X.prog) (w := X.w) (A := X.A.in1) (I.ok.hd hc) i2 b S.nb its2.toArray
    have d3 := Draws.tuple (prog := X.prog) (w := X.w) (A := X.A.in1) (I.ok.hd hc) i3 c S.nc its3.toArray
    refine wpAny_pyNext_zipD3_item S.toZipSep3 d1 d2 d3 hz hTI hTO ⟨h1, p⟩ ⟨h2, p2⟩ ⟨h3, p3⟩ l1 l2 l3 fun v1 v2 v3 h' tk e1 e2 e3 z' TO' s1' s2' s3' hT hsz hk => ?_
    obtain rfl : u = v1 := by
      have q : its[i]? = some v1 := by simpa using e1
      exact Option.some.inj (hu.symm.trans q)
    obtain rfl : u2 = v2 := by
      have q : its2[i]? = some v2 := by simpa using e2
      exact Option.some.inj (hu2.symm.trans q)
    obtain rfl : u3 = v3 := by
      have q : its3[i]? = some v3 := by simpa using e3
      exact Option.some.inj (hu3.symm.trans q)
    refine ⟨_, rfl, wpAny_letOwnedTupleGo_zip (s := { s with heap := h', toks := tk }) z' fun h'' z'' sb => ?_⟩
    have nz := zlt hz
    have hT2 : h''.get? s.heap.objs.size = some { cls := .type "tuple", data := .seq #[u, u2, u3] } := (sb.2 _ (Ne.symm nz)).trans hT
    have new : ObjOk X.prog X.w (upd H s.heap.objs.size (.tup [x, y, w])) h'' s.heap.objs.size (.tup [x, y, w]) :=
      ⟨by show 3 ≤ sizeLine; decide, [u, u2, u3], .cons ru (.cons ru2 (.cons ru3 .nil)), ⟨_, hT2, rfl, _, rfl⟩⟩
    have I1 : Inv X pins σ (upd H s.heap.objs.size (.tup [x, y, w])) { s with heap := h'', toks := tk } :=
      I.turnedNew (t' := tk) (ch := [z, TI, TO, i1, i2, i3]) (fun c o hb q => (sb.2 c (fun q' => hb (by simp [q']))).trans (hk c o (fun q' => hb (by simp [q'])) (fun q' => hb (by simp [q'])) (fun q' => hb (by simp [q'])) (fun q' => hb (by simp [q'])) (fun q' => hb (by simp [q'])) q)) hf (Nat.le_refl _) new
    have back : ∀ c o, c ≠ z → h'.get? c = some o → h''.get? c = some o := fun c o k q => (sb.2 c k).trans q
    refine ⟨.ref s.heap.objs.size, _, I1, rfl, ⟨_, x, y, w, rfl, I.hok.fresh (Nat.le_refl _), rfl, fun l hl => by rw [I.tuple_inj hl hqx]; exact hx, fun l hl => by rw [I.tuple_inj hl hqy]; exact hy, fun l hl => by rw [I.tuple_inj hl hqz]; exact hw⟩, ⟨z'', back _ _ S.TIz (hk _ _ S.TIz S.TITO S.TIi1 S.TIi2 S.TIi3 hTI), ⟨u, u2, u3, back _ _ S.TOz TO'⟩, s1'.1.at fun o q => back _ o S.n1 q, s2'.1.at fun o q => back _ o S.n2 q, s3'.1.at fun o q => back _ o S.n3 q⟩, fun c hcm => ?_⟩
    have hlt : c ≠ s.heap.objs.size := by
      simp only [List.mem_cons, List.mem_nil_iff, or_false] at hcm
      rcases hcm with rfl | rfl | rfl | rfl | rfl | rfl
      · exact nz
      · exact zlt hTI
      · exact zlt hTO
      · obtain ⟨o, e, _⟩ := itobj h1; exact zlt e
      · obtain ⟨o, e, _⟩ := itobj h2; exact zlt e
      · obtain ⟨o, e, _⟩ := itobj h3; exact zlt e
    rw [upd_ne hlt]
    exact (hf c hcm).1
  done := by
    intro X hP hw hK hc i pins s σ H E I hf st hg
    subst hP hw hK
    obtain ⟨hz, hTI, ⟨x0, y0, w0, hTO⟩, h1, h2, h3⟩ := st
    obtain ⟨xs, ys, zs, hqx, hqy, hqz, k1, k2, k3, hend⟩ := hg
    obtain ⟨its, rv, p, _⟩ := I.tuple hqx
    obtain ⟨its2, rv2, p2, _⟩ := I.tuple hqy
    obtain ⟨its3, rv3, p3, _⟩ := I.tuple hqz
    have l1 : its.toArray.size = xs.length := by have := rv.length; simp; omega
    have l2 : its2.toArray.size = ys.length := by have := rv2.length; simp; omega
    have l3 : its3.toArray.size = zs.length := by have := rv3.length; simp; omega
    have d1 := Draws.tuple (prog := X.prog) (w := X.w) (A := X.A.in1) (I.ok.hd hc) i1 a S.na its.toArray
    have d2 := Draws.tuple (prog := X.prog) (w := X.w) (A := X.A.in1) (I.ok.hd hc) i2 b S.nb its2.toArray
    have d3 := Draws.tuple (prog := X.prog) (w := X.w) (A := X.A.in1) (I.ok.hd hc) i3 c S.nc its3.toArray
    exact wpAny_pyNext_zipD3_end S.toZipSep3 d1 d2 d3 hz hTI hTO ⟨h1, p⟩ ⟨h2, p2⟩ ⟨h3, p3⟩ (by rw [l1]; exact k1) (by rw [l2]; exact k2) (by rw [l3]; exact k3) (by rw [l1, l2, l3]; exact hend) fun h' tk hk =>
      ⟨rfl, I.turnedL (t' := tk) (ch := [z, TI, TO, i1, i2, i3]) (fun c o hb q => hk c o (fun q' => hb (by simp [q'])) (fun q' => hb (by simp [q'])) (fun q' => hb (by simp [q'])) (fun q' => hb (by simp [q'])) (fun q' => hb (by simp [q'])) q) hf⟩
  self := fun A i s Q E st h => wpAny_pyIter_zip st.1 h
theorem nne (x y : Nat) (h : x < y ∨ y < x) : @Ne Addr x y := fun z => by
  have z' : @Eq Nat x y := z
  omega
theorem nin (x y y2 : Nat) (h : x < y ∨ y < x) (h2 : x < y2 ∨ y2 < x) : @Membership.mem Addr (List Addr) _ [y, y2] x → False := fun m => by
  rcases List.mem_cons.mp m with z | m
  · exact nne _ _ h z
  · exact nne _ _ h2 (List.mem_singleton.mp m)
theorem sep (n a b c : Nat) (ha : a < n) (hb : b < n) (hc : c < n) : Sep (n + 5) (n + 3) (n + 4) n (n + 1) (n + 2) a b c :=
  { TIz := nne _ _ (by omega), TOz := nne _ _ (by omega), TITO := nne _ _ (by omega)
    TIi1 := nne _ _ (by omega), mem1 := List.mem_cons_self, zf1 := nin _ _ _ (by omega) (by omega), Tf1 := nin _ _ _ (by omega) (by omega)
    TIi2 := nne _ _ (by omega), mem2 := List.mem_cons_self, zf2 := nin _ _ _ (by omega) (by omega), Tf2 := nin _ _ _ (by omega) (by omega)
    TIi3 := nne _ _ (by omega), mem3 := List.mem_cons_self, zf3 := nin _ _ _ (by omega) (by omega), Tf3 := nin _ _ _ (by omega) (by omega)
    sep1_2 := nin _ _ _ (by omega) (by omega), sep1_3 := nin _ _ _ (by omega) (by omega), sep2_1 := nin _ _ _ (by omega) (by omega)
    sep2_3 := nin _ _ _ (by omega) (by omega), sep3_1 := nin _ _ _ (by omega) (by omega), sep3_2 := nin _ _ _ (by omega) (by omega)
    na := nne _ _ (by omega), nb := nne _ _ (by omega), nc := nne _ _ (by omega), n1 := nne _ _ (by omega), n2 := nne _ _ (by omega), n3 := nne _ _ (by omega) }
theorem six (n c : Nat) (h : c ∈ [n + 5, n + 3, n + 4, n, n + 1, n + 2]) : n ≤ c := by
  simp only [List.mem_cons, List.mem_nil_iff, or_false] at h
  omega
def iZip3 (K : PySem.W.Frag) (ta : TA) : TI := fun σ H R => ta σ H fun vs H1 => ∃ a b c xs ys zs, vs = [.ref a, .ref b, .ref c] ∧ SqT K H1 a xs ∧ SqT K H1 b ys ∧ SqT K H1 c zs ∧ R (It3 K a b c) H1
theorem pi_zip3 {X : Cx} {e e2 e3 : Expr} {ta : TA} {p pos tpos : Pos} {elts : List Expr} {kk : Nat} (hg : Gl X "zip") (hm : X.mg "zip" = none) (ha : PA X [e, e2, e3] ta)
    (hs : starEach [e, e2, e3] X.env = (false, eval e X.env) :: starEach [e2, e3] X.env := by rfl) (hpl : (backTo pos (starEach [e2, e3] X.env)).any (·.1) = false := by rfl) :
    PI X (.Tuple elts kk tpos) (.Call (.Name "zip" p) [e, e2, e3] [] pos) (iZip3 X.K ta) := by
  refine ⟨fun pins s σ H R I h => ?_⟩
  have run := ha.run pos pins s σ H _ I h
  refine Call_ (ld_blt I hg hm PyProof.Rows.boot_zip ?_)
  refine PyProof.Rows.callWith_type1 (thn run ?_) hs hpl
  rintro us s1 ⟨vs, H1, I1, r1, a, b, c, xs, ys, zs, rfl, hqx, hqy, hqz, q⟩
  cases r1 with
  | cons r rr =>
   cases rr with
   | cons r' rr =>
    cases rr with
    | cons r'' rr =>
     cases rr
     cases r
     cases r'
     cases r''
     obtain ⟨its, rv, p1, _⟩ := I1.tuple hqx
     obtain ⟨its2, rv2, p2, _⟩ := I1.tuple hqy
     obtain ⟨its3, rv3, p3, _⟩ := I1.tuple hqz
     have la : a < s1.heap.objs.size := by obtain ⟨o, ho, _⟩ := id p1; exact Heap.lt_size ho
     have lb : b < s1.heap.objs.size := by obtain ⟨o, ho, _⟩ := id p2; exact Heap.lt_size ho
     have lc : c < s1.heap.objs.size := by obtain ⟨o, ho, _⟩ := id p3; exact Heap.lt_size ho
     refine zip_begins3 (begins_tuple a its.toArray) (begins_tuple b its2.toArray) (begins_tuple c its3.toArray) p1 p2 p3 fun h' hz hTI hTO g1 g2 g3 hsz hk => wpAny_pyIter_zip hz ?_
     have I2 : Inv X pins σ H1 { s1 with heap := h' } := I1.kept (t' := s1.toks) hk
     refine ⟨_, [s1.heap.objs.size + 5, s1.heap.objs.size + 3, s1.heap.objs.size + 4, s1.heap.objs.size, s1.heap.objs.size + 1, s1.heap.objs.size + 2], _, _, H1, rfl, I2, turn3 (sep _ _ _ _ la lb lc), ⟨hz, hTI, ⟨_, _, _, hTO⟩, ⟨_, g1, rfl, rfl⟩, ⟨_, g2, rfl, rfl⟩, ⟨_, g3, rfl, rfl⟩⟩, fun c hcm => ?_, q⟩
     have hle : s1.heap.objs.size ≤ c := six _ _ hcm
     exact I1.fpOk hle (I1.hok.fresh hle)
theorem lc_zip3 {K : PySem.W.Frag} {a b c : Addr} {xs ys zs : List V} {g : TG} {tt : TT} {te : TE} {vs : List Nat} {σ : L2.St} {H1 : Hp} {D : Addr} {Qd : Hp → Prop} (hl1 : xs.length = ys.length) (hl2 : xs.length = zs.length) (Pv : Nat → Hp → Prop) (h0 : Pv 0 (upd H1 D (.lst []))) (hq : ∀ i H, i ≤ xs.length → Pv i H → SqT K H a xs ∧ SqT K H b ys ∧ SqT K H c zs)
    (hs : ∀ i x y z T H, xs[i]? = some x → ys[i]? = some y → zs[i]? = some z → H T = none → Pv i H → g (.ref T) (wipe σ vs) (upd H T (.tup [x, y, z])) fun σ2 H2 => wipe σ2 vs = wipe σ vs ∧ tt σ2 H2 fun b H3 =>
      if b = true then te σ2 H3 fun y H4 => ∃ acc, H4 D = some (.lst acc) ∧ acc.length < sizeLine ∧ Pv (i + 1) (upd H4 D (.lst (acc ++ [y]))) else Pv (i + 1) H3) (hd : ∀ H, Pv xs.length H → Qd H) :
    ∃ W : Nat → Nat → Hp → Prop, (∃ m, W 0 m (upd H1 D (.lst []))) ∧ ∀ i m H, W i m H →
      ((It3 K a b c).stop i H ∧ Qd H) ∨ ((It3 K a b c).go i H ∧ ∃ Nx : Hp → Prop, (∀ H', Nx H' → ∃ m', m' < m ∧ W (i + 1) m' H') ∧ ∀ x H', (It3 K a b c).yld i H x H' → g x (wipe σ vs) H' fun σ2 H2 => wipe σ2 vs = wipe σ vs ∧ tt σ2 H2 fun b H3 =>
        if b = true then te σ2 H3 fun y H4 => ∃ acc, H4 D = some (.lst acc) ∧ acc.length < sizeLine ∧ Nx (upd H4 D (.lst (acc ++ [y]))) else Nx H3) := by
  refine ⟨fun i m H => m = xs.length - i ∧ i ≤ xs.length ∧ Pv i H, ⟨xs.length, by simp, Nat.zero_le _, h0⟩, ?_⟩
  rintro i m H ⟨rfl, hi, p⟩
  obtain ⟨q1, q2, q3⟩ := hq i H hi p
  by_cases hlt : i < xs.length
  · have hlt2 : i < ys.length := by omega
    have hlt3 : i < zs.length := by omega
    refine .inr ⟨⟨xs, ys, zs, _, _, _, q1, q2, q3, List.getElem?_eq_getElem hlt, List.getElem?_eq_getElem hlt2, List.getElem?_eq_getElem hlt3⟩, Pv (i + 1), fun H' p' => ⟨xs.length - (i + 1), by omega, rfl, hlt, p'⟩, fun x H' y => ?_⟩
    obtain ⟨T, x', y', z', e1, e2, e3, e4, e5, e6⟩ := y
    subst e1 e3
    exact hs i x' y' z' T H (e4 xs q1) (e5 ys q2) (e6 zs q3) e2 p
  · have e : i = xs.length := by omega
    subst e
    exact .inl ⟨⟨xs, ys, zs, q1, q2, q3, Nat.le_refl _, by omega, by omega, .inl rfl⟩, hd H p⟩
end Z3
namespace K1
open PySem PySem.Spec PyProof.Rows L2
/-! ### replaced -/
def spRepl : Sp := fun vs H Q _ => ∃ (p : Addr) (xs : List V) (i : Nat) (v : V), vs = [.ref p, .int (i : Int), v] ∧ H p = some (.tup xs) ∧ i < xs.length ∧ xs.length ≤ 1000 ∧ ∀ q H', Same H H' → H' q = some (.tup (xs.set i v)) → Q (.ref q) H'
/-! ### webs -/
abbrev Prs := List (Nat × Nat)
def pV (p : Nat × Nat) : List V := [.int (p.1 : Int), .int (p.2 : Int)]
structure Wv (n : Nat) (ts : Prs) : Prop where
  n1 : 1 ≤ n
  n12 : n ≤ 12
  t20 : ts.length ≤ 20
  pr : ∀ p ∈ ts, p.1 < n ∧ p.2 < n ∧ p.1 ≠ p.2
theorem Wv.at_ {n : Nat} {ts : Prs} (h : Wv n ts) {i : Nat} {p : Nat × Nat} (e : ts[i]? = some p) : p.1 < n ∧ p.2 < n ∧ p.1 ≠ p.2 := h.pr p (List.mem_of_getElem? e)
def wf (ta : Addr) (n : Int) : List (Str × V) := putF "houses" (.int n) (putF "ties" (.ref ta) [])
theorem wf_t (ta : Addr) (n : Int) : (wf ta n).lookup ("ties" : Str) = some (.ref ta) := by
  unfold wf
  rw [lookup_putF, if_neg (by decide +kernel), lookup_putF, if_pos rfl]
theorem wf_h (ta : Addr) (n : Int) : (wf ta n).lookup ("houses" : Str) = some (.int n) := by
  unfold wf
  rw [lookup_putF, if_pos rfl]
/-- pairs as tuples -/
def PrsA (H : Hp) (as : List Addr) (ts : Prs) : Prop := as.length = ts.length ∧ ∀ (i : Nat) a t, as[i]? = some a → ts[i]? = some t → H a = some (.tup (pV t))
theorem PrsA.same {H H' : Hp} {as : List Addr} {ts : Prs} (h : PrsA H as ts) (s : Same H H') : PrsA H' as ts := ⟨h.1, fun i a t e1 e2 => s _ _ (h.2 i a t e1 e2)⟩
theorem PrsA.get {H : Hp} {as : List Addr} {ts : Prs} (h : PrsA H as ts) {i : Nat} {t : Nat × Nat} (e : ts[i]? = some t) : ∃ a, as[i]? = some a ∧ H a = some (.tup (pV t)) := by
  obtain ⟨a, ha⟩ := ex_at (l := as) (i := i) (by rw [h.1]; exact lt_at e)
  exact ⟨a, ha, h.2 i a t ha e⟩
theorem PrsA.get' {H : Hp} {as : List Addr} {ts : Prs} (h : PrsA H as ts) {i : Nat} {x : V} (e : (as.map V.ref)[i]? = some x) : ∃ a t, x = .ref a ∧ as[i]? = some a ∧ ts[i]? = some t ∧ H a = some (.tup (pV t)) := by
  obtain ⟨a, ha, rfl⟩ := at_map e
  obtain ⟨t, ht⟩ := ex_at (l := ts) (i := i) (by rw [← h.1]; exact lt_at ha)
  exact ⟨a, t, rfl, ha, ht, h.2 i a t ha ht⟩
def TiesT (H : Hp) (ta : Addr) (ts : Prs) : Prop := ∃ as : List Addr, H ta = some (.tup (as.map V.ref)) ∧ PrsA H as ts
theorem TiesT.same {H H' : Hp} {ta : Addr} {ts : Prs} (h : TiesT H ta ts) (s : Same H H') : TiesT H' ta ts := let ⟨as, h1, h2⟩ := h; ⟨as, s _ _ h1, h2.same s⟩
/-- the web at w -/
def WebAt (W : Addr) (H : Hp) (w : Addr) (n : Nat) (ts : Prs) : Prop := ∃ dx ta, H w = some (.ins W dx (wf ta (n : Int))) ∧ TiesT H ta ts
theorem WebAt.same {W : Addr} {H H' : Hp} {w : Addr} {n : Nat} {ts : Prs} (h : WebAt W H w n ts) (s : Same H H') : WebAt W H' w n ts := let ⟨dx, ta, h1, h2⟩ := h; ⟨dx, ta, s _ _ h1, h2.same s⟩
/-- what the walk asks of the class Web, at W -/
structure WcT (K : PySem.W.Frag) (mg : Str → Option Value) (W : Addr) : Prop where
  cl : Cls K W
  nT : NoAttr K W "ties"
  nH : NoAttr K W "houses"
  g : mg "Web" = some (.ref W)
/-- the module's numbers -/
structure Cw (mg : Str → Option Value) : Prop where
  houses : ∃ t, mg "MOST_HOUSES" = some (.int 12 t)
  ties : ∃ t, mg "MOST_TIES" = some (.int 20 t)
/-- a pair of unlike numbers below n -/
def pairB (o : Option (List V)) (n : Int) : Bool := match o with
  | some [x, y] => belowB x n && belowB y n && !decide (x = y)
  | _ => false
theorem fnb_two (x y : V) (n : Int) : decide (fnb [x, y] n = .non) = (belowB x n && belowB y n) := by
  unfold fnb
  rw [List.findIdx?_cons, List.findIdx?_cons, List.findIdx?_nil]
  cases belowB x n <;> cases belowB y n <;> rfl
theorem scal_int {x y : V} {n : Int} (h1 : belowB x n = true) (h2 : belowB y n = true) : scal x y = true := by
  cases x <;> first | (cases h1; done) | skip
  cases y <;> first | (cases h2; done) | rfl
def spPair (K : PySem.W.Frag) : Sp := fun vs H Q _ => ∃ v o n, vs = [v, .int n] ∧ Rw K H v o ∧ ∀ H', Same H H' → Q (.bl (pairB o n)) H'
/-- checked_ties of a good web -/
def spCTies : Sp := fun vs H Q _ => ∃ (n : Nat) (p : Addr) (as : List Addr) (ts : Prs), vs = [.int (n : Int), .ref p] ∧ SeqA H p (as.map V.ref) ∧ PrsA H as ts ∧ Wv n ts ∧ ∀ ta H', Same H H' → TiesT H' ta ts → Q (.ref ta) H'
def spWInit (W : Addr) : Sp := fun vs H Q _ => ∃ (w dx : Addr) (n : Nat) (p : Addr) (as : List Addr) (ts : Prs), vs = [.ref w, .int (n : Int), .ref p] ∧ H w = some (.ins W dx []) ∧ SeqA H p (as.map V.ref) ∧ PrsA H as ts ∧ Wv n ts ∧
  ∀ H', (∀ b u, H b = some u → b ≠ w → H' b = some u) → WebAt W H' w n ts → Q .non H'
def spNeedH (K : PySem.W.Frag) (W C : Addr) : Sp := fun vs H Q E => ∃ w v o n ts, vs = [.ref w, v] ∧ WebAt W H w n ts ∧ KV K H v o ∧ (belowB v (n : Int) = true → Q v H) ∧ (belowB v (n : Int) = false → Rz C "house" v H E)
def spNeedT (K : PySem.W.Frag) (W C : Addr) : Sp := fun vs H Q E => ∃ w v o n ts, vs = [.ref w, v] ∧ WebAt W H w n ts ∧ KV K H v o ∧ (belowB v (ts.length : Int) = true → Q v H) ∧ (belowB v (ts.length : Int) = false → Rz C "tie" v H E)
section
variable {P : Program} {w : World} {K : PySem.W.Frag} {mg : Str → Option Value} {base : Heap}
theorem scRe : FnScope ["items", "at", "item"] ["items", "at", "item"] (defScope sRepl) := ⟨rfl, rfl, rfl, by decide +kernel, rfl, by decide +kernel, by decide +kernel⟩
theorem ok_repl {f : Addr} {fd : FuncData} (D : Df K mg "replaced" sRepl ["items", "at", "item"] f fd) : FnOk P w K mg base CX0 1 f fd ["items", "at", "item"] spRepl := by
  refine D.F.ok scRe (fun vs H Q E h => ?_) (fun cdv A outer s H vs Q E hr h => ?_)
  · obtain ⟨p, xs, i, v, rfl, _⟩ := h
    rfl
  · obtain ⟨p, xs, i, v, rfl, hp, hi, hl, q⟩ := h
    refine ⟨_, pss_one (ps_ret (pe_op op_catA (pe_op op_catA (pe_slice sl_tupA (pv 0) po_none (po_some (pv 1))) (pe_tup (pa_cons (pv 2) pa_nil))) (pe_slice sl_tupA (pv 0) (po_some (pe_op op_add (pv 1) pe_int)) po_none))), ?_⟩
    refine ⟨_, rfl, noP ⟨_, rfl, _, rfl, slA_by hp fun p1 H1 s1 hp1 => ?_⟩⟩
    rw [cut_to (by omega)] at hp1
    refine ⟨_, rfl, (by show 1 ≤ sizeLine; decide), fun p2 hp2 => ?_⟩
    refine catA_by (same_new hp2 _ _ hp1) upd_same (sz (by rw [List.length_take]; simp only [List.length_cons, List.length_nil]; omega)) fun p3 H3 s3 hp3 => ?_
    have s03 := (s1.trans (same_new (o := HO.tup [v]) hp2)).trans s3
    refine ⟨_, rfl, _, rfl, _, _, rfl, rfl, _, rfl, noP (slA_by (s03 _ _ hp) fun p4 H4 s4 hp4 => ?_)⟩
    have e1 : ((i : Int) + 1) = ((i + 1 : Nat) : Int) := by omega
    rw [e1, cut_from (by omega)] at hp4
    refine catA_by (s4 _ _ hp3) hp4 (sz (by rw [List.length_append, List.length_take, List.length_drop]; simp only [List.length_cons, List.length_nil]; omega)) fun p5 H5 s5 hp5 => ?_
    refine q p5 H5 ((s03.trans s4).trans s5) ?_
    rw [hp5, List.set_eq_take_append_cons_drop, if_pos hi, List.append_assoc]; rfl
theorem scPr : FnScope ["value", "houses"] ["value", "houses"] (defScope sPair) := ⟨rfl, rfl, rfl, by decide +kernel, rfl, by decide +kernel, by decide +kernel⟩
theorem ok_pair {f fS fF : Addr} {fd fdS fdF : FuncData} (D : Df K mg "is_pair" sPair ["value", "houses"] f fd) (DS : Df K mg "is_sequence" sSeq ["value", "least", "most"] fS fdS) (DF : Df K mg "first_not_below" sFnb ["items", "limit"] fF fdF)
    (GS : FnOk P w K mg base CX0 1 fS fdS ["value", "least", "most"] (spSeq K)) (GF : FnOk P w K mg base CX0 3 fF fdF ["items", "limit"] (spFnb K)) : FnOk P w K mg base CX0 4 f fd ["value", "houses"] (spPair K) := by
  refine D.F.ok scPr (fun vs H Q E h => ?_) (fun cdv A outer s H vs Q E hr h => ?_)
  · obtain ⟨v, o, n, rfl, _⟩ := h
    rfl
  · obtain ⟨v, o, n, rfl, hw, q⟩ := h
    refine ⟨_, pss_cons (ps_if (PW.pt (pw_or (pt_not (pt_val (pc DS GS (hr.mono (by decide)) pass0 (pa_cons (pv 0) (pa_cons pe_int (pa_cons pe_int pa_nil)))))) (pw_or1 (pt_cmp (pc_notN (pc DF GF hr pass0 (pa_cons (pv 0) (pa_cons (pv 1) pa_nil)))))))) (pss_one (ps_ret pe_bl)) pss_nil)
      (pss_one (ps_ret (pe_cmpR op_ne (pe_ix ix_seq (pv 0) pe_int (fun _ _ => rfl)) (pe_ix ix_seq (pv 0) pe_int (fun _ _ => rfl)) (nomark _)))), ?_⟩
    refine ⟨_, rfl, _, o, 2, 2, rfl, hw.kv, fun H1 s1 => ⟨_, rfl, ?_⟩⟩
    by_cases e : seqB o 2 2 = true
    · rw [e]
      refine iteF ?_
      cases o with
      | none => cases e
      | some ys =>
        have hl : ys.length = 2 := by
          have z : (decide ((2 : Int) ≤ (ys.length : Int)) && decide ((ys.length : Int) ≤ 2)) = true := e
          simp only [Bool.and_eq_true, decide_eq_true_eq] at z
          omega
        obtain ⟨x, y, rfl⟩ : ∃ x y, ys = [x, y] := by
          match ys, hl with
          | [x, y], _ => exact ⟨x, y, rfl⟩
        obtain ⟨a, rfl, hS⟩ := hw.kv.seqA
        refine ⟨_, rfl, _, rfl, a, _, n, rfl, hS.same s1, (hw.ks _ rfl).same s1, fun H2 s2 => ⟨_, rfl, ?_⟩⟩
        have s12 := s1.trans s2
        have hS2 := hS.same s12
        have fe := fnb_two x y n
        rw [fe]
        by_cases e2 : (belowB x n && belowB y n) = true
        · have hb := e2
          simp only [Bool.and_eq_true] at hb
          rw [e2]
          refine iteF (nxP ?_)
          have rd : ∀ (j : Nat) (v : V) (Q : VK), [x, y][j]? = some v → Q v H2 → rIx K (.ref a) (.int (j : Int)) H2 Q := fun j v Q hj q => by
            rcases hS2 with h | h
            · exact .inl ⟨a, _, _, v, rfl, rfl, SqL.of h, at_i hj, q⟩
            · exact .inr (.inl ⟨a, _, _, v, rfl, rfl, SqT.of h, at_i hj, q⟩)
          refine ⟨_, rfl, rd 0 x _ rfl ⟨_, rfl, rd 1 y _ rfl ⟨scal_int hb.1 hb.2, qbl ?_ (q _ s12)⟩⟩⟩
          show _ = (belowB x n && belowB y n && !decide (x = y))
          rw [e2]; rfl
        · have e3 : (belowB x n && belowB y n) = false := by simpa using e2
          rw [e3]
          refine iteT (qbl ?_ (q _ s12))
          show _ = (belowB x n && belowB y n && !decide (x = y))
          rw [e3]; rfl
    · have e3 : seqB o 2 2 = false := by simpa using e
      rw [e3]
      refine iteT (iteT (qbl ?_ (q _ s1)))
      cases o with
      | none => rfl
      | some ys =>
        match ys, e3 with
        | [], _ => rfl
        | [x], _ => rfl
        | [x, y], e3 => cases e3
        | x :: y :: z :: r, _ => rfl
end
end K1
namespace K1
open PySem PySem.Spec PyProof.Rows L2
/-! ### walks over a list or a tuple -/
def iSeqA (K : PySem.W.Frag) (tl : TE) : TI := fun σ H R => tl σ H fun x H1 => ∃ a, x = .ref a ∧ ((∃ xs, SqL K H1 a xs ∧ R (Itl K a) H1) ∨ (∃ xs, SqT K H1 a xs ∧ R (Itt K a) H1))
theorem pi_seqA {X : Cx} {tg l : Expr} {tl : TE} (hl : PE X l tl) : PI X tg l (iSeqA X.K tl) := by
  refine ⟨fun pins s σ H R I h => ?_⟩
  refine thn (hl.run pins s σ H _ I h) fun v s1 ⟨x, H1, I1, r1, q1⟩ => ?_
  obtain ⟨a, e, q⟩ := q1
  subst e
  cases r1
  rcases q with ⟨xs, hq, q⟩ | ⟨xs, hq, q⟩
  · obtain ⟨its, rv, p, hz⟩ := I1.list hq
    refine wpAny_pyIter_list p.isList ?_
    refine ⟨s1.heap.objs.size, [s1.heap.objs.size], _, _, H1, rfl, I1.kept (t' := s1.toks) fun b o e => Heap.get?_push_of_some _ e, turn_list a _, ⟨_, Heap.get?_push_size _ rfl, rfl, rfl⟩, fun b hb => ?_, q⟩
    have e : b = s1.heap.objs.size := by simpa using hb
    subst e
    exact I1.fpOk (Nat.le_refl _) (I1.hok.fresh (Nat.le_refl _))
  · obtain ⟨its, rv, p, hz⟩ := I1.tuple hq
    refine wpAny_pyIter_tuple (show s1.heap.IsTuple a its.toArray from p) ?_
    refine ⟨s1.heap.objs.size, [s1.heap.objs.size], _, _, H1, rfl, I1.kept (t' := s1.toks) fun b o e => Heap.get?_push_of_some _ e, turn_tuple a _, ⟨_, Heap.get?_push_size _ rfl, rfl, rfl⟩, fun b hb => ?_, q⟩
    have e : b = s1.heap.objs.size := by simpa using hb
    subst e
    exact I1.fpOk (Nat.le_refl _) (I1.hok.fresh (Nat.le_refl _))
theorem pi_seqK {X : Cx} {K : PySem.W.Frag} {tg l : Expr} {tl : TE} (h : X.K = K) (hl : PE X l tl) : PI X tg l (iSeqA K tl) := by subst h; exact pi_seqA hl
theorem pi_enumK {X : Cx} {K : PySem.W.Frag} {e : Expr} {ta : TA} {p pos tpos : Pos} {elts : List Expr} {kk : Nat} (h : X.K = K) (hg : Gl X "enumerate") (hm : X.mg "enumerate" = none) (ha : PA X [e] ta) (hs : starEach [e] X.env = [(false, eval e X.env)] := by rfl) :
    PI X (.Tuple elts kk tpos) (.Call (.Name "enumerate" p) [e] [] pos) (iEnumA K ta) := by subst h; exact pi_enumA hg hm ha hs
/-- a list, or a tuple, at a wherever Pv holds -/
def AtA {α : Type} (Pv : α → Hp → Prop) (a : Addr) (xs : List V) : Prop := (∀ y H, Pv y H → H a = some (.lst xs)) ∨ (∀ y H, Pv y H → H a = some (.tup xs))
section
variable {K : PySem.W.Frag} {a : Addr} {xs : List V}
/-- a comprehension over enumerate of a tuple -/
theorem lc_enumT {g : TG} {tt : TT} {te : TE} {vs : List Nat} {σ : L2.St} {H1 : Hp} {D : Addr} {Qd : Hp → Prop} (Pv : Nat → Hp → Prop) (h0 : Pv 0 (upd H1 D (.lst []))) (hl : ∀ i H, i ≤ xs.length → Pv i H → SqT K H a xs)
    (hs : ∀ i x T H, xs[i]? = some x → H T = none → Pv i H → g (.ref T) (wipe σ vs) (upd H T (.tup [.int (i : Nat), x])) fun σ2 H2 => wipe σ2 vs = wipe σ vs ∧ tt σ2 H2 fun b H3 =>
      if b = true then te σ2 H3 fun y H4 => ∃ acc, H4 D = some (.lst acc) ∧ acc.length < sizeLine ∧ Pv (i + 1) (upd H4 D (.lst (acc ++ [y]))) else Pv (i + 1) H3) (hd : ∀ H, Pv xs.length H → Qd H) :
    ∃ W : Nat → Nat → Hp → Prop, (∃ m, W 0 m (upd H1 D (.lst []))) ∧ ∀ i m H, W i m H →
      ((IteT K a).stop i H ∧ Qd H) ∨ ((IteT K a).go i H ∧ ∃ Nx : Hp → Prop, (∀ H', Nx H' → ∃ m', m' < m ∧ W (i + 1) m' H') ∧ ∀ x H', (IteT K a).yld i H x H' → g x (wipe σ vs) H' fun σ2 H2 => wipe σ2 vs = wipe σ vs ∧ tt σ2 H2 fun b H3 =>
        if b = true then te σ2 H3 fun y H4 => ∃ acc, H4 D = some (.lst acc) ∧ acc.length < sizeLine ∧ Nx (upd H4 D (.lst (acc ++ [y]))) else Nx H3) := by
  refine ⟨fun i m H => m = xs.length - i ∧ i ≤ xs.length ∧ Pv i H, ⟨xs.length, by simp, Nat.zero_le _, h0⟩, ?_⟩
  rintro i m H ⟨rfl, hi, p⟩
  have q := hl i H hi p
  by_cases hlt : i < xs.length
  · refine .inr ⟨⟨xs, xs[i], q, by simp [hlt]⟩, Pv (i + 1), fun H' p' => ⟨xs.length - (i + 1), by omega, rfl, hlt, p'⟩, fun x H' y => ?_⟩
    obtain ⟨T, x', e1, e2, e3, e4⟩ := y
    subst e1 e3
    exact hs i x' T H (e4 xs q) e2 p
  · have e : i = xs.length := by omega
    subst e
    exact .inl ⟨⟨xs, q, Nat.le_refl _⟩, hd H p⟩
end
section
variable {P : Program} {w : World} {K : PySem.W.Frag} {mg : Str → Option Value} {base : Heap}
theorem pair_ok {n : Nat} {ts : Prs} (hW : Wv n ts) {i : Nat} {t : Nat × Nat} (ht : ts[i]? = some t) : pairB (some (pV t)) (n : Int) = true := by
  obtain ⟨h1, h2, h3⟩ := hW.at_ ht
  show ((decide (0 ≤ (t.1 : Int)) && decide ((t.1 : Int) < (n : Int))) && (decide (0 ≤ (t.2 : Int)) && decide ((t.2 : Int) < (n : Int))) && !decide (V.int (t.1 : Int) = V.int (t.2 : Int))) = true
  rw [decide_eq_true (by omega), decide_eq_true (by omega), decide_eq_true (by omega), decide_eq_true (by omega), decide_eq_false (by intro e; injection e with e; omega)]; rfl
theorem kinds_pV {H : Hp} (t : Nat × Nat) : Kinds K H (pV t) := fun x hx => by
  simp only [pV, List.mem_cons, List.mem_nil_iff, or_false] at hx
  rcases hx with rfl | rfl <;> exact ⟨_, .int _⟩
theorem rw_pV {H : Hp} {a : Addr} {t : Nat × Nat} (h : H a = some (.tup (pV t))) : Rw K H (.ref a) (some (pV t)) := ⟨.tup h, fun ys e => by obtain rfl := Option.some.inj e; exact kinds_pV t⟩
theorem scCT : FnScope ["houses", "ties", "at", "pair"] ["houses", "ties"] (defScope sCTies) := ⟨rfl, rfl, rfl, by decide +kernel, rfl, by decide +kernel, by decide +kernel⟩
theorem ok_cties {f fW fS fP C cI : Addr} {fd fdW fdS fdP : FuncData} {bm : List Value} {ql : Str} (D : Df K mg "checked_ties" sCTies ["houses", "ties"] f fd) (DW : Df K mg "is_whole" sWhole ["value"] fW fdW) (DS : Df K mg "is_sequence" sSeq ["value", "least", "most"] fS fdS) (DP : Df K mg "is_pair" sPair ["value", "houses"] fP fdP)
    (B : Bt mg) (c : Cw mg) (T : LAt.Txt K mg "BadWeb" ql bm C cI) (GW : FnOk P w K mg base CX0 1 fW fdW ["value"] (spWhole K)) (GS : FnOk P w K mg base CX0 1 fS fdS ["value", "least", "most"] (spSeq K)) (GP : FnOk P w K mg base CX0 4 fP fdP ["value", "houses"] (spPair K)) :
    FnOk P w K mg base (L2.CX P w) 5 f fd ["houses", "ties"] spCTies := by
  obtain ⟨t1, hc1⟩ := c.houses
  obtain ⟨t2, hc2⟩ := c.ties
  refine D.F.okX scCT (fun vs H Q E h => ?_) (fun cdv A outer s H vs Q E hr h => ?_)
  · obtain ⟨n, p, as, ts, rfl, _⟩ := h
    rfl
  · obtain ⟨n, p, as, ts, rfl, hS, hA, hW, q⟩ := h
    have hr1 : Room 1 _ := hr.mono (by decide)
    refine ⟨_, pss_cons (ps_if (PW.pt (pw_or (pt_not (pt_val (pc DW GW hr1 pass0 (pa_cons (pv 0) pa_nil)))) (pw_or (pt_not (pt_chain op_le op_le pe_int (pv 0) (pe_glob (v := .int 12) (by rfl) hc1 ⟨_, rfl⟩))) (pw_or1 (pt_not (pt_val (pc DS GS hr1 pass0 (pa_cons (pv 1) (pa_cons pe_int (pa_cons (pe_glob (v := .int 20) (by rfl) hc2 ⟨_, rfl⟩) pa_nil)))))))))) (pss_one (ps_raise_LAt rfl T hr (takes_of rfl rfl rfl rfl) (pa_cons (pe_un un_neg pe_int) pa_nil))) pss_nil)
      (pss_cons (ps_for (passes_of rfl) rfl (pi_enumA (by rfl) B.enumerate (pa_cons (pv 1) pa_nil)) (pg_tup rfl (pgs_cons (pg_name (i := 2) scCT.nd rfl (.inl rfl)) (pgs_cons (pg_name (i := 3) scCT.nd rfl (.inl rfl)) pgs_nil)))
        (pss_one (ps_if (pt_not (pt_val (pc DP GP hr pass0 (pa_cons (pv 3) (pa_cons (pv 0) pa_nil))))) (pss_one (ps_raise_LAt rfl T hr (takes_of rfl rfl rfl rfl) (pa_cons (pv 2) pa_nil))) pss_nil)))
      (pss_one (ps_ret (pe_callTy call_tuple_of (by rfl) B.tuple (by decide +kernel) (pa_cons
        (pe_lc (own := [("pair", 3)]) (g := gName 3) (tt := tYes) rfl scCT.nd (pi_seqA (pv 1)) (blkOk_by (N := ["houses", "ties", "at", "pair"]) (sc := defScope sCTies) (by decide +kernel)) (fun _ _ _ _ _ => pg_name (i := 3) scCT.nd rfl (Or.inl rfl)) (fun _ _ _ _ _ => pts_nil)
          (fun _ _ _ _ _ => pe_callTy (ctup (K := K) rfl) (by rfl) B.tuple PyProof.Rows.boot_tuple (pa_cons (pv 3) pa_nil))) pa_nil))))), ?_⟩
    have n1 := hW.n1
    have n12 := hW.n12
    have t20 := hW.t20
    have la : (as.map V.ref).length = ts.length := by rw [List.length_map, hA.1]
    have lt20 : (as.map V.ref).length ≤ 20 := by omega
    have sq : seqB (some (as.map V.ref)) 0 20 = true := by
      show (decide ((0 : Int) ≤ ((as.map V.ref).length : Int)) && decide (((as.map V.ref).length : Int) ≤ 20)) = true
      rw [decide_eq_true (by omega), decide_eq_true (by omega)]; rfl
    refine ⟨_, rfl, _, none, rfl, .int _, true, rfl, iteF ?_⟩
    refine ⟨_, rfl, _, _, rfl, rfl, _, rfl, iteY (decide_eq_true (by omega)) ⟨_, _, rfl, rfl, true, congrArg V.bl (decide_eq_true (show (n : Int) ≤ 12 by omega)), iteF ?_⟩⟩
    refine ⟨_, rfl, _, some (as.map V.ref), 0, 20, rfl, hS.kv, fun H1 s1 => ⟨_, rfl, ?_⟩⟩
    rw [sq]
    refine iteF (nxP ?_)
    refine ⟨_, rfl, p, rfl, ?_⟩
    rcases hS with hS | hS
    · refine .inl ⟨_, SqL.of (s1 _ _ hS), for_enumL (K := K) (fun (_ : Nat) (σ : L2.St) (H' : Hp) => ∃ v2 v3 : Option V, σ = [some (.int (n : Int)), some (.ref p), v2, v3] ∧ Same H H') ⟨none, none, rfl, s1⟩ (fun i σ H' _ ⟨_, _, _, sm⟩ => SqL.of (sm _ _ hS)) ?_ ?_⟩
      · rintro i x T σ H' hx hT ⟨v2, v3, rfl, sm⟩
        obtain ⟨a, t, rfl, ha, ht, hat⟩ := hA.get' hx
        have sm2 := sm.trans (same_new (o := HO.tup [.int (i : Nat), .ref a]) hT)
        refine ⟨T, _, rfl, SqT.of upd_same, rfl, _, _, rfl, _, _, rfl, rfl, ?_⟩
        refine ⟨_, rfl, _, rfl, .ref a, some (pV t), (n : Int), rfl, rw_pV (sm2 _ _ hat), fun H3 s3 => ⟨_, rfl, ?_⟩⟩
        rw [pair_ok hW ht]
        exact iteF ⟨_, _, rfl, sm2.trans s3⟩
      · rintro σ H' ⟨v2, v3, rfl, sm⟩
        refine ⟨_, rfl, p, rfl, .inl ⟨_, SqL.of (sm _ _ hS), fun D hD => lc_list (K := K) (a := p) (xs := as.map V.ref) (fun i H2 => Same H' H2 ∧ H2 D = some (.lst ((as.map V.ref).take i))) ⟨same_new hD, by rw [upd_same]; rfl⟩ (fun i H2 _ ⟨s5, _⟩ => SqL.of (s5 _ _ (sm _ _ hS))) ?_ ?_⟩⟩
        · rintro i x H2 hx ⟨s5, hD2⟩
          obtain ⟨a, t, e, ha, ht, hat⟩ := hA.get' hx
          subst e
          refine ⟨rfl, _, rfl, a, pV t, rfl, .inr ⟨SqT.of (s5 _ _ (sm _ _ hat)), _, hD2, szl (by rw [List.length_take]; omega), fun c o e => ?_, ?_⟩⟩
          · rw [upd_ne (ne_of_none e hD)]
            exact s5 _ _ e
          · rw [upd_same, take_succ hx]
        · rintro H2 ⟨s5, hD2⟩
          rw [List.take_of_length_le (Nat.le_refl _)] at hD2
          refine ⟨D, _, rfl, .inl ⟨SqL.of hD2, fun ta hta => ?_⟩⟩
          have s6 := (sm.trans s5).trans (same_new (o := HO.tup (as.map V.ref)) hta)
          exact q ta _ s6 ⟨as, upd_same, hA.same s6⟩
    · refine .inr ⟨_, SqT.of (s1 _ _ hS), for_enumT (K := K) (fun (_ : Nat) (σ : L2.St) (H' : Hp) => ∃ v2 v3 : Option V, σ = [some (.int (n : Int)), some (.ref p), v2, v3] ∧ Same H H') ⟨none, none, rfl, s1⟩ (fun i σ H' _ ⟨_, _, _, sm⟩ => SqT.of (sm _ _ hS)) ?_ ?_⟩
      · rintro i x T σ H' hx hT ⟨v2, v3, rfl, sm⟩
        obtain ⟨a, t, rfl, ha, ht, hat⟩ := hA.get' hx
        have sm2 := sm.trans (same_new (o := HO.tup [.int (i : Nat), .ref a]) hT)
        refine ⟨T, _, rfl, SqT.of upd_same, rfl, _, _, rfl, _, _, rfl, rfl, ?_⟩
        refine ⟨_, rfl, _, rfl, .ref a, some (pV t), (n : Int), rfl, rw_pV (sm2 _ _ hat), fun H3 s3 => ⟨_, rfl, ?_⟩⟩
        rw [pair_ok hW ht]
        exact iteF ⟨_, _, rfl, sm2.trans s3⟩
      · rintro σ H' ⟨v2, v3, rfl, sm⟩
        refine ⟨_, rfl, p, rfl, .inr ⟨_, SqT.of (sm _ _ hS), fun D hD => lc_tup (K := K) (a := p) (xs := as.map V.ref) (fun i H2 => Same H' H2 ∧ H2 D = some (.lst ((as.map V.ref).take i))) ⟨same_new hD, by rw [upd_same]; rfl⟩ (fun i H2 _ ⟨s5, _⟩ => SqT.of (s5 _ _ (sm _ _ hS))) ?_ ?_⟩⟩
        · rintro i x H2 hx ⟨s5, hD2⟩
          obtain ⟨a, t, e, ha, ht, hat⟩ := hA.get' hx
          subst e
          refine ⟨rfl, _, rfl, a, pV t, rfl, .inr ⟨SqT.of (s5 _ _ (sm _ _ hat)), _, hD2, szl (by rw [List.length_take]; omega), fun c o e => ?_, ?_⟩⟩
          · rw [upd_ne (ne_of_none e hD)]
            exact s5 _ _ e
          · rw [upd_same, take_succ hx]
        · rintro H2 ⟨s5, hD2⟩
          rw [List.take_of_length_le (Nat.le_refl _)] at hD2
          refine ⟨D, _, rfl, .inl ⟨SqL.of hD2, fun ta hta => ?_⟩⟩
          have s6 := (sm.trans s5).trans (same_new (o := HO.tup (as.map V.ref)) hta)
          exact q ta _ s6 ⟨as, upd_same, hA.same s6⟩
theorem scWI : FnScope ["self", "houses", "ties"] ["self", "houses", "ties"] (defScope sWInit) := ⟨rfl, rfl, rfl, by decide +kernel, rfl, by decide +kernel, by decide +kernel⟩
theorem ok_winit {f fC W : Addr} {fd fdC : FuncData} (F : Fun K "__init__" "Web.__init__" sWInit f fd) (DC : Df K mg "checked_ties" sCTies ["houses", "ties"] fC fdC) (T : WcT K mg W)
    (GC : FnOk P w K mg base (L2.CX P w) 5 fC fdC ["houses", "ties"] spCTies) : FnOk P w K mg base (L2.CX P w) 6 f fd ["self", "houses", "ties"] (spWInit W) := by
  refine F.okX scWI (fun vs H Q E h => ?_) (fun cdv A outer s H vs Q E hr h => ?_)
  · obtain ⟨w, dx, n, p, as, ts, rfl, _⟩ := h
    rfl
  · obtain ⟨w, dx, n, p, as, ts, rfl, hw, hS, hA, hW, q⟩ := h
    refine ⟨_, pss_cons (ps_fld (pv 0) (pc DC GC hr (pass1 (takes_of rfl rfl rfl rfl)) (pa_cons (pv 1) (pa_cons (pv 2) pa_nil))) rfl) (pss_one (ps_fld (pv 0) (pv 1) rfl)), ?_⟩
    refine ⟨_, rfl, _, rfl, n, p, as, ts, rfl, hS, hA, hW, fun ta H' sm hT => ?_⟩
    have hw1 := sm _ _ hw
    refine ⟨_, rfl, w, W, dx, [], rfl, hw1, T.cl, T.nT, (by show 0 < 1000; decide), ?_⟩
    refine ⟨_, rfl, _, rfl, w, W, dx, _, rfl, upd_same, T.cl, T.nH, (by show 1 < 1000; decide), ?_⟩
    rw [upd_upd]
    obtain ⟨bs, k1, k2⟩ := hT
    have kp : ∀ b u, H' b = some u → b ≠ w → (upd H' w (.ins W dx (wf ta (n : Int)))) b = some u := fun b u e nb => by rw [upd_ne nb]; exact e
    have nw : ∀ {c : Addr} {xs : List V}, H' c = some (.tup xs) → c ≠ w := fun h e => by rw [e, hw1] at h; cases h
    exact q _ (fun b u e nb => kp b u (sm _ _ e) nb) ⟨dx, ta, upd_same, bs, kp _ _ k1 (nw k1), k2.1, fun i a t e1 e2 => kp _ _ (k2.2 i a t e1 e2) (nw (k2.2 i a t e1 e2))⟩
theorem scNH : FnScope ["web", "house"] ["web", "house"] (defScope sNeedH) := ⟨rfl, rfl, rfl, by decide +kernel, rfl, by decide +kernel, by decide +kernel⟩
theorem ok_needH {f fB C W cI : Addr} {fd fdB : FuncData} {bm : List Value} {ql : Str} (D : Df K mg "need_house" sNeedH ["web", "house"] f fd) (DB : Df K mg "is_below" sBelow ["value", "limit"] fB fdB) (T : WcT K mg W) (TX : LHouse.Txt K mg "NoHouse" ql bm C cI)
    (GB : FnOk P w K mg base CX0 2 fB fdB ["value", "limit"] (spBelow K)) : FnOk P w K mg base (L2.CX P w) 3 f fd ["web", "house"] (spNeedH K W C) := by
  refine D.F.okX scNH (fun vs H Q E h => ?_) (fun cdv A outer s H vs Q E hr h => ?_)
  · obtain ⟨w, v, o, n, ts, rfl, _⟩ := h
    rfl
  · obtain ⟨w, v, o, n, ts, rfl, ⟨dx, ta, h1, _⟩, kv, q1, q2⟩ := h
    refine ⟨_, pss_cons (ps_if (pt_not (pt_val (pc DB GB hr pass0 (pa_cons (pv 1) (pa_cons (pe_fld (pv 0) rfl) pa_nil))))) (pss_one (ps_raise_LHouse rfl TX hr (takes_of rfl rfl rfl rfl) (pa_cons (pv 1) pa_nil))) pss_nil) (pss_one (ps_ret (pv 1))), ?_⟩
    refine ⟨_, rfl, _, rfl, w, W, dx, _, _, rfl, h1, T.cl, T.nH, wf_h _ _, v, o, _, rfl, kv, _, rfl, ifD (fun e => ?_) fun e => ?_⟩
    · exact ⟨_, rfl, _, rfl, fun d hd => q2 (by simpa using e) d _ (same_new hd) hd upd_same⟩
    · exact ⟨_, rfl, q1 (by simpa using e)⟩
theorem scNT : FnScope ["web", "tie"] ["web", "tie"] (defScope sNeedT) := ⟨rfl, rfl, rfl, by decide +kernel, rfl, by decide +kernel, by decide +kernel⟩
theorem ok_needT {f fB C W cI : Addr} {fd fdB : FuncData} {bm : List Value} {ql : Str} (D : Df K mg "need_tie" sNeedT ["web", "tie"] f fd) (DB : Df K mg "is_below" sBelow ["value", "limit"] fB fdB) (B : Bt mg) (T : WcT K mg W) (TX : LTie.Txt K mg "NoTie" ql bm C cI)
    (GB : FnOk P w K mg base CX0 2 fB fdB ["value", "limit"] (spBelow K)) : FnOk P w K mg base (L2.CX P w) 3 f fd ["web", "tie"] (spNeedT K W C) := by
  refine D.F.okX scNT (fun vs H Q E h => ?_) (fun cdv A outer s H vs Q E hr h => ?_)
  · obtain ⟨w, v, o, n, ts, rfl, _⟩ := h
    rfl
  · obtain ⟨w, v, o, n, ts, rfl, ⟨dx, ta, h1, as, g1, g2⟩, kv, q1, q2⟩ := h
    refine ⟨_, pss_cons (ps_if (pt_not (pt_val (pc DB GB hr pass0 (pa_cons (pv 1) (pa_cons (pe_callB call_len_seq (by rfl) B.len PySem.boot_len (pa_cons (pe_fld (pv 0) rfl) pa_nil)) pa_nil))))) (pss_one (ps_raise_LTie rfl TX hr (takes_of rfl rfl rfl rfl) (pa_cons (pv 1) pa_nil))) pss_nil) (pss_one (ps_ret (pv 1))), ?_⟩
    have el : ((as.map V.ref).length : Int) = (ts.length : Int) := by rw [List.length_map, g2.1]
    refine ⟨_, rfl, _, rfl, w, W, dx, _, _, rfl, h1, T.cl, T.nT, wf_t _ _, ta, _, rfl, .inr (SqT.of g1), v, o, _, rfl, kv, _, rfl, ?_⟩
    rw [el]
    refine ifD (fun e => ?_) fun e => ?_
    · exact ⟨_, rfl, _, rfl, fun d hd => q2 (by simpa using e) d _ (same_new hd) hd upd_same⟩
    · exact ⟨_, rfl, q1 (by simpa using e)⟩
end
end K1
namespace K1
/-! ### rows: the shorter ones ahead, then by their deeds -/
def LL : List Int → List Int → Prop
  | _, [] => False
  | [], _ :: _ => True
  | a :: r, b :: q => a < b ∨ (a = b ∧ LL r q)
theorem LL.irrefl : ∀ r, ¬ LL r r
  | [], h => h
  | a :: r, h => by
    rcases h with h | ⟨_, h⟩
    · omega
    · exact LL.irrefl r h
theorem LL.trans : ∀ {r q s : List Int}, LL r q → LL q s → LL r s
  | _, _, [], _, h => by
    cases ‹List Int› <;> exact absurd h (by simp [LL])
  | _, [], _ :: _, h, _ => by
    cases ‹List Int› <;> exact absurd h (by simp [LL])
  | [], _ :: _, _ :: _, _, _ => True.intro
  | a :: r, b :: q, c :: s, h1, h2 => by
    rcases h1 with h1 | ⟨rfl, h1⟩
    · rcases h2 with h2 | ⟨rfl, h2⟩
      · exact .inl (by omega)
      · exact .inl h1
    · rcases h2 with h2 | ⟨rfl, h2⟩
      · exact .inl h2
      · exact .inr ⟨rfl, h1.trans h2⟩
theorem LL.tri : ∀ {r q : List Int}, r.length = q.length → r = q ∨ LL r q ∨ LL q r
  | [], [], _ => .inl rfl
  | a :: r, b :: q, h => by
    by_cases e1 : a < b
    · exact .inr (.inl (.inl e1))
    · by_cases e2 : b < a
      · exact .inr (.inr (.inl e2))
      · obtain rfl : a = b := by omega
        rcases LL.tri (r := r) (q := q) (by simpa using h) with e | e | e
        · exact .inl (by rw [e])
        · exact .inr (.inl (.inr ⟨rfl, e⟩))
        · exact .inr (.inr (.inr ⟨rfl, e⟩))
  | [], _ :: _, h => by cases h
  | _ :: _, [], h => by cases h
theorem LL.app : ∀ {r q : List Int} (s t : List Int), r.length = q.length → LL r q → LL (r ++ s) (q ++ t)
  | [], [], _, _, _, h => h.elim
  | a :: r, b :: q, s, t, hl, h => by
    rcases h with h | ⟨e, h⟩
    · exact .inl h
    · exact .inr ⟨e, LL.app s t (by simpa using hl) h⟩
  | [], _ :: _, _, _, h, _ => by cases h
  | _ :: _, [], _, _, h, _ => by cases h
theorem LL.app' : ∀ (r : List Int) {s t : List Int}, LL s t → LL (r ++ s) (r ++ t)
  | [], _, _, h => h
  | _ :: r, _, _, h => .inr ⟨rfl, LL.app' r h⟩
def rlt (r q : List Int) : Prop := r.length < q.length ∨ (r.length = q.length ∧ LL r q)
theorem rlt.irrefl (r : List Int) : ¬ rlt r r := fun h => by
  rcases h with h | ⟨_, h⟩
  · omega
  · exact LL.irrefl r h
theorem rlt.trans {r q s : List Int} (a : rlt r q) (b : rlt q s) : rlt r s := by
  rcases a with a | ⟨a1, a2⟩ <;> rcases b with b | ⟨b1, b2⟩
  · exact .inl (by omega)
  · exact .inl (by omega)
  · exact .inl (by omega)
  · exact .inr ⟨by omega, a2.trans b2⟩
theorem rlt.tri (r q : List Int) : r = q ∨ rlt r q ∨ rlt q r := by
  by_cases e1 : r.length < q.length
  · exact .inr (.inl (.inl e1))
  · by_cases e2 : q.length < r.length
    · exact .inr (.inr (.inl e2))
    · have e : r.length = q.length := by omega
      rcases LL.tri e with h | h | h
      · exact .inl h
      · exact .inr (.inl (.inr ⟨e, h⟩))
      · exact .inr (.inr (.inr ⟨e.symm, h⟩))
theorem rlt.app {r q : List Int} (d e : Int) (h : rlt r q) : rlt (r ++ [d]) (q ++ [e]) := by
  rcases h with h | ⟨h1, h2⟩
  · exact .inl (by simp only [List.length_append, List.length_cons, List.length_nil]; omega)
  · exact .inr ⟨by simp only [List.length_append, List.length_cons, List.length_nil]; omega, LL.app _ _ h1 h2⟩
theorem rlt.last (r : List Int) {d e : Int} (h : d < e) : rlt (r ++ [d]) (r ++ [e]) := .inr ⟨by simp, LL.app' r (.inl h)⟩
theorem rlt.nil {r : List Int} (h : r ≠ []) : rlt [] r := .inl (by cases r with | nil => exact absurd rfl h | cons a r => simp)
def rle (r q : List Int) : Prop := r = q ∨ rlt r q
theorem rle.trans {r q s : List Int} (a : rle r q) (b : rle q s) : rle r s := by
  rcases a with rfl | a
  · exact b
  · rcases b with rfl | b
    · exact .inr a
    · exact .inr (a.trans b)
theorem rle.anti {r q : List Int} (a : rle r q) (b : rle q r) : r = q := by
  rcases a with rfl | a
  · rfl
  · rcases b with rfl | b
    · rfl
    · exact absurd (a.trans b) (rlt.irrefl _)
theorem rle.app {r q : List Int} (d : Int) (h : rle r q) : rle (r ++ [d]) (q ++ [d]) := by
  rcases h with rfl | h
  · exact .inl rfl
  · exact .inr (h.app d d)
/-! ### the search by rows, told without a heap -/
abbrev KR := List Int × List Int
def path {α : Type} (act : α → Int → α) (s : α) (r : List Int) : α := r.foldl act s
theorem path_snoc {α : Type} (act : α → Int → α) (s : α) (r : List Int) (d : Int) : path act s (r ++ [d]) = act (path act s r) d := by
  unfold path
  rw [List.foldl_append]; rfl
/-- all deeds of the first i things, and the first d deeds of the next one, are done -/
structure Bf {α : Type} (act : α → Int → α) (n : Nat) (s : α) (F : List (α × List Int)) (i d : Nat) : Prop where
  nd : (F.map (·.1)).Nodup
  h0 : F[0]? = some (s, [])
  pth : ∀ (j : Nat) k r, F[j]? = some (k, r) → k = path act s r ∧ (∀ e ∈ r, 0 ≤ e ∧ e < (n : Int)) ∧ r.length ≤ j
  asc : ∀ (j j' : Nat) k k' r r', j < j' → F[j]? = some (k, r) → F[j']? = some (k', r') → rlt r r'
  old : ∀ (j : Nat) k r, F[j]? = some (k, r) → r = [] ∨ ∃ (p : Nat) (kp : α) (rp : List Int) (e : Int), F[p]? = some (kp, rp) ∧ r = rp ++ [e] ∧ 0 ≤ e ∧ (p < i ∨ (p = i ∧ e < (d : Int)))
  cl : ∀ (p : Nat) kp rp (e : Int), F[p]? = some (kp, rp) → 0 ≤ e → e < (n : Int) → (p < i ∨ (p = i ∧ e < (d : Int))) → ∃ (j : Nat) (r : List Int), F[j]? = some (act kp e, r) ∧ rle r (rp ++ [e])
variable {α : Type} {act : α → Int → α} {n : Nat} {s : α} {F : List (α × List Int)} {i d : Nat}
theorem Bf.init : Bf act n s [(s, [])] 0 0 := by
  have one : ∀ (j : Nat) k r, ([(s, [])] : List (α × List Int))[j]? = some (k, r) → j = 0 ∧ k = s ∧ r = [] := fun j k r h => by
    cases j with
    | zero =>
      have e : (s, []) = (k, r) := Option.some.inj h
      injection e with e1 e2
      exact ⟨rfl, e1.symm, e2.symm⟩
    | succ j => cases h
  refine ⟨by simp, rfl, fun j k r h => ?_, fun j j' k k' r r' hj h h' => ?_, fun j k r h => .inl (one j k r h).2.2, fun p kp rp e h _ _ z => ?_⟩
  · obtain ⟨rfl, rfl, rfl⟩ := one j k r h
    exact ⟨rfl, fun e he => absurd he (by simp), Nat.zero_le _⟩
  · have := (one j' k' r' h').1
    omega
  · obtain ⟨rfl, rfl, rfl⟩ := one p kp rp h
    omega
/-- a row of the search against the row that is looked at -/
theorem Bf.ahead (b : Bf act n s F i d) {ki : α} {ri : List Int} (hi : F[i]? = some (ki, ri)) {j : Nat} {k : α} {r : List Int} (h : F[j]? = some (k, r)) : rlt r (ri ++ [(d : Int)]) := by
  rcases b.old j k r h with rfl | ⟨p, kp, rp, e, hp, rfl, _, z⟩
  · exact rlt.nil (by simp)
  · rcases z with z | ⟨rfl, z⟩
    · exact (b.asc p i kp ki rp ri z hp hi).app _ _
    · rw [hp] at hi
      have e2 : (kp, rp) = (ki, ri) := Option.some.inj hi
      injection e2 with _ e2
      subst e2
      exact rlt.last _ z
theorem Bf.more (b : Bf act n s F i d) {j : Nat} {k : α} {r : List Int} {ki : α} {ri : List Int} (hi : F[i]? = some (ki, ri)) (h : F[j]? = some (k, r)) (hk : k = act ki d) : Bf act n s F i (d + 1) := by
  refine ⟨b.nd, b.h0, b.pth, b.asc, fun j k r h => ?_, fun p kp rp e hp h0 hn z => ?_⟩
  · rcases b.old j k r h with e | ⟨p, kp, rp, e, hp, e1, e2, z⟩
    · exact .inl e
    · exact .inr ⟨p, kp, rp, e, hp, e1, e2, by omega⟩
  · by_cases q : p < i ∨ (p = i ∧ e < (d : Int))
    · exact b.cl p kp rp e hp h0 hn q
    · obtain ⟨rfl, rfl⟩ : p = i ∧ e = (d : Int) := by omega
      rw [hi] at hp
      have e2 : (ki, ri) = (kp, rp) := Option.some.inj hp
      injection e2 with e1 e2
      subst e1
      subst e2
      subst hk
      exact ⟨j, r, h, .inr (b.ahead hi h)⟩
theorem Bf.put (b : Bf act n s F i d) {ki : α} {ri : List Int} (hi : F[i]? = some (ki, ri)) (hn : act ki d ∉ F.map (·.1)) (hd : d < n) : Bf act n s (F ++ [(act ki d, ri ++ [(d : Int)])]) i (d + 1) := by
  have hil : i < F.length := (List.getElem?_eq_some_iff.mp hi).1
  have at_ : ∀ (j : Nat) k r, (F ++ [(act ki d, ri ++ [(d : Int)])])[j]? = some (k, r) → F[j]? = some (k, r) ∨ (j = F.length ∧ k = act ki d ∧ r = ri ++ [(d : Int)]) := fun j k r h => by
    by_cases hj : j < F.length
    · rw [List.getElem?_append_left hj] at h
      exact .inl h
    · rw [List.getElem?_append_right (by omega)] at h
      cases e : j - F.length with
      | zero =>
        rw [e] at h
        have e2 : (act ki d, ri ++ [(d : Int)]) = (k, r) := Option.some.inj h
        injection e2 with e1 e2
        exact .inr ⟨by omega, e1.symm, e2.symm⟩
      | succ q => rw [e] at h; cases h
  have up : ∀ (j : Nat) x, F[j]? = some x → (F ++ [(act ki d, ri ++ [(d : Int)])])[j]? = some x := fun j x h => by
    rw [List.getElem?_append_left (List.getElem?_eq_some_iff.mp h).1]; exact h
  have new : (F ++ [(act ki d, ri ++ [(d : Int)])])[F.length]? = some (act ki d, ri ++ [(d : Int)]) := by
    rw [List.getElem?_append_right (Nat.le_refl _), Nat.sub_self]; rfl
  refine ⟨?_, up _ _ b.h0, fun j k r h => ?_, fun j j' k k' r r' hj h h' => ?_, fun j k r h => ?_, fun p kp rp e hp h0 hne z => ?_⟩
  · rw [List.map_append, List.nodup_append]
    exact ⟨b.nd, by simp, fun y hy z hz e => by
      rw [List.map_cons, List.map_nil, List.mem_singleton] at hz
      rw [e, hz] at hy
      exact hn hy⟩
  · rcases at_ j k r h with h | ⟨rfl, rfl, rfl⟩
    · exact b.pth j k r h
    · obtain ⟨p1, p2, p3⟩ := b.pth i ki ri hi
      refine ⟨by rw [path_snoc, ← p1], fun e he => ?_, by simp only [List.length_append, List.length_cons, List.length_nil]; omega⟩
      rcases List.mem_append.mp he with he | he
      · exact p2 e he
      · rw [List.mem_singleton.mp he]; omega
  · rcases at_ j' k' r' h' with h' | ⟨rfl, rfl, rfl⟩
    · have hj' := (List.getElem?_eq_some_iff.mp h').1
      rcases at_ j k r h with h | ⟨rfl, _, _⟩
      · exact b.asc j j' k k' r r' hj h h'
      · omega
    · rcases at_ j k r h with h | ⟨rfl, _, _⟩
      · exact b.ahead hi h
      · omega
  · rcases at_ j k r h with h | ⟨rfl, rfl, rfl⟩
    · rcases b.old j k r h with e | ⟨p, kp, rp, e, hp, e1, e2, z⟩
      · exact .inl e
      · exact .inr ⟨p, kp, rp, e, up _ _ hp, e1, e2, by omega⟩
    · exact .inr ⟨i, ki, ri, d, up _ _ hi, rfl, by omega, by omega⟩
  · rcases at_ p kp rp hp with hp | ⟨rfl, _, _⟩
    · by_cases q : p < i ∨ (p = i ∧ e < (d : Int))
      · obtain ⟨j, r, h1, h2⟩ := b.cl p kp rp e hp h0 hne q
        exact ⟨j, r, up _ _ h1, h2⟩
      · obtain ⟨rfl, rfl⟩ : p = i ∧ e = (d : Int) := by omega
        rw [hi] at hp
        have e2 : (ki, ri) = (kp, rp) := Option.some.inj hp
        injection e2 with e1 e2
        subst e1
        subst e2
        exact ⟨F.length, _, new, .inl rfl⟩
    · omega
theorem Bf.next (b : Bf act n s F i n) : Bf act n s F (i + 1) 0 := by
  refine ⟨b.nd, b.h0, b.pth, b.asc, fun j k r h => ?_, fun p kp rp e hp h0 hn z => b.cl p kp rp e hp h0 hn (by omega)⟩
  rcases b.old j k r h with e | ⟨p, kp, rp, e, hp, e1, e2, z⟩
  · exact .inl e
  · exact .inr ⟨p, kp, rp, e, hp, e1, e2, by omega⟩
/-- all rows' first ones, ascending -/
structure Fst {α : Type} (act : α → Int → α) (n : Nat) (s : α) (F : List (α × List Int)) : Prop where
  nd : (F.map (·.1)).Nodup
  h0 : F[0]? = some (s, [])
  pth : ∀ (j : Nat) k r, F[j]? = some (k, r) → k = path act s r ∧ (∀ e ∈ r, 0 ≤ e ∧ e < (n : Int)) ∧ r.length ≤ j
  asc : ∀ (j j' : Nat) k k' r r', j < j' → F[j]? = some (k, r) → F[j']? = some (k', r') → rlt r r'
  all : ∀ r : List Int, (∀ e ∈ r, 0 ≤ e ∧ e < (n : Int)) → ∃ (j : Nat) (r' : List Int), F[j]? = some (path act s r, r') ∧ rle r' r
theorem Bf.done (b : Bf act n s F i 0) (hi : F.length ≤ i) : Fst act n s F := by
  refine ⟨b.nd, b.h0, b.pth, b.asc, fun r => ?_⟩
  generalize hm : r.length = m
  induction m generalizing r with
  | zero =>
    intro _
    obtain rfl : r = [] := List.eq_nil_of_length_eq_zero hm
    exact ⟨0, [], b.h0, .inl rfl⟩
  | succ m ih =>
    intro hr
    rcases List.eq_nil_or_concat r with rfl | ⟨q, e, rfl⟩
    · cases hm
    · have hq : q.length = m := by
        simp only [List.concat_eq_append, List.length_append, List.length_cons, List.length_nil] at hm
        omega
      rw [List.concat_eq_append] at hr ⊢
      obtain ⟨j, r', h1, h2⟩ := ih q hq fun x hx => hr x (List.mem_append_left _ hx)
      have he := hr e (List.mem_append_right _ (List.mem_singleton.mpr rfl))
      have hj := (List.getElem?_eq_some_iff.mp h1).1
      obtain ⟨j2, r2, h3, h4⟩ := b.cl j _ _ e h1 he.1 he.2 (.inl (by omega))
      exact ⟨j2, r2, by rw [path_snoc]; exact h3, h4.trans (h2.app e)⟩
end K1
namespace K1
open PySem PySem.Spec PyProof.Rows L2
/-! ### the ways on from a house -/
def inc (h : Nat) (p : Nat × Nat) : Bool := decide (h = p.1) || decide (h = p.2)
def oth (h : Nat) (p : Nat × Nat) : Nat := p.1 + p.2 - h
def wOnK (ts : Prs) (h k : Nat) : Prs := ((ts.take k).zipIdx.filter fun q => inc h q.1).map fun q => (q.2, oth h q.1)
def wOn (ts : Prs) (h : Nat) : Prs := wOnK ts h ts.length
theorem wOnK_succ {ts : Prs} {h k : Nat} {p : Nat × Nat} (e : ts[k]? = some p) : wOnK ts h (k + 1) = wOnK ts h k ++ if inc h p = true then [(k, oth h p)] else [] := by
  have hk := lt_at e
  have hl : (ts.take k).length = k := by rw [List.length_take]; omega
  unfold wOnK
  rw [take_succ e, List.zipIdx_append, hl, List.filter_append, List.map_append]
  congr 1
  show List.map _ (List.filter _ (List.zipIdx [p] (0 + k))) = _
  rw [Nat.zero_add]
  show List.map _ (List.filter _ [(p, k)]) = _
  rw [List.filter_cons]
  cases e2 : inc h p with
  | true => rfl
  | false => rfl
theorem wOnK_len (ts : Prs) (h k : Nat) : (wOnK ts h k).length ≤ ts.length := by
  unfold wOnK
  rw [List.length_map]
  refine Nat.le_trans (List.length_filter_le _ _) ?_
  rw [List.length_zipIdx, List.length_take]; omega
theorem wOn_mem {ts : Prs} {h : Nat} {q : Nat × Nat} : q ∈ wOn ts h ↔ ∃ p, ts[q.1]? = some p ∧ inc h p = true ∧ q.2 = oth h p := by
  unfold wOn wOnK
  rw [List.take_length, List.mem_map]
  constructor
  · rintro ⟨x, hx, e⟩
    obtain ⟨hx1, hx2⟩ := List.mem_filter.mp hx
    have hx1 := List.mem_zipIdx' hx1
    subst e
    exact ⟨x.1, by rw [List.getElem?_eq_getElem hx1.1]; exact congrArg some hx1.2.symm, hx2, rfl⟩
  · rintro ⟨p, e1, e2, e3⟩
    refine ⟨(p, q.1), List.mem_filter.mpr ⟨?_, e2⟩, by rw [← e3]⟩
    rw [List.mem_zipIdx_iff_getElem?]
    exact e1
/-- the ties of the ways on stand in their order -/
theorem wOn_asc (ts : Prs) (h : Nat) : ((wOn ts h).map (·.1)).Pairwise (· < ·) := by
  unfold wOn wOnK
  rw [List.take_length, List.map_map]
  have z : (ts.zipIdx.map (·.2)).Pairwise (· < ·) := by
    rw [List.zipIdx_map_snd]
    exact List.pairwise_lt_range'
  rw [List.pairwise_map] at z ⊢
  exact z.sublist List.filter_sublist
theorem inV_pV (h : Nat) (p : Nat × Nat) : inV (.int (h : Int)) (pV p) = inc h p := by
  show ((p.1 : Int) == (h : Int) || ((p.2 : Int) == (h : Int) || false)) = (decide (h = p.1) || decide (h = p.2))
  rw [Bool.or_false]
  have e : ∀ a : Nat, ((a : Int) == (h : Int)) = decide (h = a) := fun a => by
    by_cases z : h = a
    · rw [decide_eq_true z, z]; simp
    · rw [decide_eq_false z]
      simp only [beq_eq_false_iff_ne, ne_eq]
      omega
  rw [e, e]
theorem PrsA.snoc {H : Hp} {as : List Addr} {ts : Prs} {a : Addr} {t : Nat × Nat} (h : PrsA H as ts) (ha : H a = some (.tup (pV t))) : PrsA H (as ++ [a]) (ts ++ [t]) := by
  refine ⟨by rw [List.length_append, List.length_append, h.1]; rfl, fun i b u e1 e2 => ?_⟩
  by_cases hi : i < as.length
  · rw [List.getElem?_append_left hi] at e1
    rw [List.getElem?_append_left (by rw [← h.1]; exact hi)] at e2
    exact h.2 i b u e1 e2
  · rw [List.getElem?_append_right (by omega)] at e1
    rw [List.getElem?_append_right (by rw [← h.1]; omega), ← h.1] at e2
    cases z : i - as.length with
    | zero =>
      rw [z] at e1 e2
      obtain rfl : a = b := Option.some.inj e1
      obtain rfl : t = u := Option.some.inj e2
      exact ha
    | succ n => rw [z] at e1; cases e1
theorem PrsA.kp {H H' : Hp} {as : List Addr} {ts : Prs} (h : PrsA H as ts) (k : ∀ a xs, H a = some (.tup xs) → H' a = some (.tup xs)) : PrsA H' as ts := ⟨h.1, fun i a t e1 e2 => k _ _ (h.2 i a t e1 e2)⟩
def spWays (W : Addr) : Sp := fun vs H Q _ => ∃ (w : Addr) (n : Nat) (ts : Prs) (h : Nat), vs = [.ref w, .int (h : Int)] ∧ WebAt W H w n ts ∧ Wv n ts ∧ h < n ∧ ∀ l as H', Same H H' → H l = none → H' l = some (.lst (as.map V.ref)) → PrsA H' as (wOn ts h) → Q (.ref l) H'
section
variable {P : Program} {w : World} {K : PySem.W.Frag} {mg : Str → Option Value} {base : Heap}
abbrev nWy : List Str := ["web", "house", "tie", "pair"]
theorem scWy : FnScope nWy ["web", "house"] (defScope sWays) := ⟨rfl, rfl, rfl, by decide +kernel, rfl, by decide +kernel, by decide +kernel⟩
theorem ok_ways {f W : Addr} {fd : FuncData} (D : Df K mg "ways_on" sWays ["web", "house"] f fd) (B : Bt mg) (T : WcT K mg W) : FnOk P w K mg base CX0 1 f fd ["web", "house"] (spWays W) := by
  refine D.F.ok scWy (fun vs H Q E h => ?_) (fun cdv A outer s H vs Q E hr h => ?_)
  · obtain ⟨w, n, ts, h, rfl, _⟩ := h
    rfl
  · obtain ⟨w, n, ts, h, rfl, ⟨dx, ta, h1, tas, g1, g2⟩, hW, hn, q⟩ := h
    refine ⟨_, pss_one (ps_ret (pe_lc (own := [("tie", 2), ("pair", 3)]) (g := gTup K 2 (gCons (gName 2) (gCons (gName 3) gNil))) rfl scWy.nd (pi_enumA (by rfl) B.enumerate (pa_cons (pe_fld (pv 0) rfl) pa_nil)) (blkOk_by (N := nWy) (sc := defScope sWays) (by decide +kernel))
      (fun _ _ _ _ _ => pg_tup rfl (pgs_cons (pg_name (i := 2) scWy.nd rfl (.inl rfl)) (pgs_cons (pg_name (i := 3) scWy.nd rfl (.inl rfl)) pgs_nil)))
      (fun _ _ _ _ _ => pts_one (pt_cmpR (opInK (K := K) rfl) (pv 1) (pv 3) rfl))
      (fun _ _ _ _ _ => pe_tup (pa_cons (pv 2) (pa_cons (pe_op op_sub (pe_op op_add (pe_ix (ixTK (K := K) rfl) (pv 3) pe_int (fun _ _ => rfl)) (pe_ix (ixTK (K := K) rfl) (pv 3) pe_int (fun _ _ => rfl))) (pv 1)) pa_nil))))), ?_⟩
    refine ⟨_, rfl, w, W, dx, _, _, rfl, h1, T.cl, T.nT, wf_t _ _, ta, rfl, .inr ⟨_, SqT.of g1, fun D0 hD0 => lc_enumT (K := K) (a := ta) (xs := tas.map V.ref)
      (fun i H2 => ∃ as : List Addr, Same H H2 ∧ H2 D0 = some (.lst (as.map V.ref)) ∧ PrsA H2 as (wOnK ts h i)) ⟨[], same_new hD0, by rw [upd_same]; rfl, rfl, fun i a t e => by cases e⟩ (fun i H2 _ ⟨_, s2, _⟩ => SqT.of (s2 _ _ g1)) ?_ ?_⟩⟩
    · rintro i x T0 H2 hx hT0 ⟨as, s2, hD2, hA⟩
      obtain ⟨a, t, rfl, ha, ht, hat⟩ := g2.get' hx
      have sT := same_new (o := HO.tup [.int (i : Nat), .ref a]) hT0
      have hat2 := sT _ _ (s2 _ _ hat)
      have hD2' := sT _ _ hD2
      have s2' := s2.trans sT
      have hA' := hA.same sT
      have hT2 : (upd H2 T0 (.tup [.int (i : Nat), .ref a])) T0 = some (.tup [.int (i : Nat), .ref a]) := upd_same
      generalize upd H2 T0 (.tup [.int (i : Nat), .ref a]) = H3 at hat2 hD2' s2' hA' hT2 ⊢
      refine ⟨T0, _, rfl, SqT.of hT2, rfl, _, _, rfl, _, _, rfl, rfl, rfl, ?_⟩
      refine ⟨_, rfl, _, rfl, a, pV t, rfl, .inr (SqT.of hat2), rfl, rfl, _, rfl, ?_⟩
      rw [inV_pV]
      have ws := wOnK_succ (h := h) ht
      have lw := wOnK_len ts h i
      have t20 := hW.t20
      refine ifD (fun e => ?_) fun e => ?_
      · replace e : inc h t = true := by simpa using e
        rw [if_pos e] at ws
        refine ⟨_, rfl, _, rfl, a, _, 0, .int (t.1 : Int), rfl, rfl, SqT.of hat2, atI_nat (j := 0) rfl, _, rfl, a, _, 1, .int (t.2 : Int), rfl, rfl, SqT.of hat2, atI_nat (j := 1) rfl, _, _, rfl, rfl, _, rfl, _, _, rfl, rfl, (by show 2 ≤ sizeLine; decide), fun p hp => ?_⟩
        have sp := same_new (o := HO.tup [V.int (i : Nat), V.int ((t.1 : Int) + (t.2 : Int) - (h : Int))]) hp
        have eo : V.int ((t.1 : Int) + (t.2 : Int) - (h : Int)) = V.int ((oth h t : Nat) : Int) := by
          unfold oth
          unfold inc at e
          simp only [Bool.or_eq_true, decide_eq_true_eq] at e
          congr 1
          omega
        have hD4 := sp _ _ hD2'
        have keep : ∀ c ys, (upd H3 p (.tup [V.int (i : Nat), V.int ((t.1 : Int) + (t.2 : Int) - (h : Int))])) c = some (.tup ys) → (upd (upd H3 p (.tup [V.int (i : Nat), V.int ((t.1 : Int) + (t.2 : Int) - (h : Int))])) D0 (.lst (as.map V.ref ++ [.ref p]))) c = some (.tup ys) := fun c ys e => by
          rw [upd_ne (ne_of e hD4 (by intro z; cases z))]; exact e
        refine ⟨as.map V.ref, hD4, szl (by rw [List.length_map, hA.1]; omega), as ++ [p], fun c o eo => ?_, by rw [upd_same, List.map_append]; rfl, ?_⟩
        · rw [upd_ne (ne_of_none eo hD0)]
          exact sp _ _ (s2' _ _ eo)
        · rw [ws]
          refine ((hA'.same sp).kp keep).snoc (keep _ _ ?_)
          rw [upd_same, eo]; rfl
      · replace e : inc h t = false := by simpa using e
        rw [if_neg (by rw [e]; decide), List.append_nil] at ws
        exact ⟨as, s2', hD2', by rw [ws]; exact hA'⟩
    · rintro H2 ⟨as, s2, hD2, hA⟩
      rw [List.length_map, g2.1] at hA
      exact q D0 as H2 s2 hD0 hD2 hA
end
end K1
namespace K1
open PySem PySem.Spec PyProof.Rows L2
theorem nodup_le : ∀ (n : Nat) (L : List Int), L.Nodup → (∀ x ∈ L, 0 ≤ x ∧ x < (n : Int)) → L.length ≤ n
  | 0, L, _, h => by
    cases L with
    | nil => exact Nat.le_refl _
    | cons a r => have := h a List.mem_cons_self; omega
  | n + 1, L, nd, h => by
    have ih := nodup_le n (L.erase (n : Int)) (nd.erase _) fun x hx => by
      have h1 := h x (List.mem_of_mem_erase hx)
      have h2 : x ≠ (n : Int) := fun e => by
        rw [e] at hx
        exact (List.Nodup.mem_erase_iff nd).mp hx |>.1 rfl
      omega
    have h3 : L.length ≤ (L.erase (n : Int)).length + 1 := by
      by_cases hm : (n : Int) ∈ L
      · rw [List.length_erase_of_mem hm]; omega
      · rw [List.erase_of_not_mem hm]; omega
    omega
/-! ### dicts of numbers -/
theorem val_mem {k : Key} {v : V} : ∀ {kvs : List (Key × V)}, (kvs.map (·.1)).Nodup → (k, v) ∈ kvs → valV kvs k = some v
  | [], _, h => nomatch h
  | p :: r, nd, h => by
    rw [List.map_cons, List.nodup_cons] at nd
    rcases List.mem_cons.mp h with e | e
    · rw [← e, valV_pos (p := (k, v)) rfl]
    · rw [valV_neg fun z => nd.1 (by rw [z]; exact List.mem_map.mpr ⟨_, e, rfl⟩)]
      exact val_mem nd.2 e
theorem val_none {k : Key} {kvs : List (Key × V)} (h : k ∉ kvs.map (·.1)) : valV kvs k = none := by
  unfold valV
  rw [List.find?_eq_none.mpr fun x hx => ?_]; rfl
  intro e
  exact h (List.mem_map.mpr ⟨x, hx, of_decide_eq_true e⟩)
abbrev WR := Int × List Int
/-- the dict of the ways: each house with the tuple of its ties -/
def kvW (F : List WR) (ps : List Addr) : List (Key × V) := (F.zip ps).map fun e => (Sum.inl e.1.1, V.ref e.2)
theorem kvW_keys {F : List WR} {ps : List Addr} (h : ps.length = F.length) : (kvW F ps).map (·.1) = F.map fun e => (Sum.inl e.1 : Key) := by
  unfold kvW
  rw [List.map_map]
  have e : F.map (fun e => (Sum.inl e.1 : Key)) = ((F.zip ps).map (·.1)).map fun e => (Sum.inl e.1 : Key) := by rw [List.map_fst_zip (Nat.le_of_eq h.symm)]
  rw [e, List.map_map]; rfl
theorem kvW_len {F : List WR} {ps : List Addr} (h : ps.length = F.length) : (kvW F ps).length = F.length := by
  unfold kvW
  rw [List.length_map, List.length_zip, h, Nat.min_self]
theorem kvW_nd {F : List WR} {ps : List Addr} (h : ps.length = F.length) (nd : (F.map (·.1)).Nodup) : ((kvW F ps).map (·.1)).Nodup := by
  rw [kvW_keys h]
  have e : F.map (fun e => (Sum.inl e.1 : Key)) = (F.map (·.1)).map (Sum.inl : Int → Key) := by rw [List.map_map]; rfl
  rw [e]
  exact nd.map _ fun a b ne z => ne (by injection z)
theorem kvW_at {F : List WR} {ps : List Addr} {i : Nat} {x : Int} {r : List Int} {c : Addr} (h : ps.length = F.length) (nd : (F.map (·.1)).Nodup) (hi : F[i]? = some (x, r)) (hc : ps[i]? = some c) : valV (kvW F ps) (.inl x) = some (.ref c) := by
  refine val_mem (kvW_nd h nd) ?_
  unfold kvW
  refine List.mem_map.mpr ⟨((x, r), c), List.mem_of_getElem? (i := i) ?_, rfl⟩
  rw [List.getElem?_zip_eq_some]
  exact ⟨hi, hc⟩
theorem kvW_none {F : List WR} {ps : List Addr} {x : Int} (h : ps.length = F.length) (hx : x ∉ F.map (·.1)) : valV (kvW F ps) (.inl x) = none := by
  refine val_none ?_
  rw [kvW_keys h]
  intro z
  obtain ⟨e, he, ee⟩ := List.mem_map.mp z
  injection ee with ee
  exact hx (List.mem_map.mpr ⟨e, he, ee⟩)
theorem kvW_snoc {F : List WR} {ps : List Addr} {x : Int} {r : List Int} {c : Addr} (h : ps.length = F.length) : kvW (F ++ [(x, r)]) (ps ++ [c]) = kvW F ps ++ [(.inl x, .ref c)] := by
  unfold kvW
  rw [List.zip_append h.symm, List.map_append]; rfl
/-- how the search stands: the dict at d, the queue at q -/
structure WQ (H : Hp) (d q : Addr) (F : List WR) (ps : List Addr) : Prop where
  hd : H d = some (.dK (kvW F ps))
  hq : H q = some (.lst (F.map fun e => V.int e.1))
  ln : ps.length = F.length
  it : ∀ (i : Nat) c x r, ps[i]? = some c → F[i]? = some (x, r) → H c = some (.tup (vrow r))
theorem WQ.same {H H' : Hp} {d q : Addr} {F : List WR} {ps : List Addr} (b : WQ H d q F ps) (s : Same H H') : WQ H' d q F ps := ⟨s _ _ b.hd, s _ _ b.hq, b.ln, fun i c x r e1 e2 => s _ _ (b.it i c x r e1 e2)⟩
theorem snoc_at {α : Type} {l : List α} {i : Nat} {a b : α} (h : (l ++ [a])[i]? = some b) : l[i]? = some b ∨ (i = l.length ∧ a = b) := by
  by_cases hi : i < l.length
  · rw [List.getElem?_append_left hi] at h
    exact .inl h
  · rw [List.getElem?_append_right (by omega)] at h
    cases z : i - l.length with
    | zero =>
      rw [z] at h
      exact .inr ⟨by omega, Option.some.inj h⟩
    | succ n => rw [z] at h; cases h
theorem WQ.put {H : Hp} {d q : Addr} {F : List WR} {ps : List Addr} (b : WQ H d q F ps) {x : Int} {r : List Int} {c : Addr} (hx : x ∉ F.map (·.1)) (hc : H c = some (.tup (vrow r))) :
    (upd H d (.dK (putK (kvW F ps) (.inl x) (.ref c)))) q = some (.lst (F.map fun e => V.int e.1)) ∧ WQ (upd (upd H d (.dK (putK (kvW F ps) (.inl x) (.ref c)))) q (.lst ((F.map fun e => V.int e.1) ++ [.int x]))) d q (F ++ [(x, r)]) (ps ++ [c]) := by
  have ndq : d ≠ q := ne_of b.hd b.hq (by intro z; cases z)
  have h1 : (upd H d (.dK (putK (kvW F ps) (.inl x) (.ref c)))) q = some (.lst (F.map fun e => V.int e.1)) := by rw [upd_ne ndq.symm]; exact b.hq
  have keep : ∀ a ys, H a = some (.tup ys) → (upd (upd H d (.dK (putK (kvW F ps) (.inl x) (.ref c)))) q (.lst ((F.map fun e => V.int e.1) ++ [.int x]))) a = some (.tup ys) := fun a ys e => by
    rw [upd_ne (ne_of e b.hq (by intro z; cases z)), upd_ne (ne_of e b.hd (by intro z; cases z))]; exact e
  refine ⟨h1, by rw [upd_ne ndq, upd_same, kvW_snoc b.ln, putK_new _ (kvW_none b.ln hx)], by rw [upd_same, List.map_append]; rfl, by rw [List.length_append, List.length_append, b.ln]; rfl, fun i a y t e1 e2 => ?_⟩
  rcases snoc_at e1 with e1 | ⟨i1, rfl⟩
  · rcases snoc_at e2 with e2 | ⟨i2, _⟩
    · exact keep _ _ (b.it i a y t e1 e2)
    · have := lt_at e1
      have := b.ln
      omega
  · rcases snoc_at e2 with e2 | ⟨_, e2⟩
    · have := lt_at e2
      have := b.ln
      omega
    · injection e2 with _ e2
      subst e2
      exact keep _ _ hc
/-- where a tie leads a house (where it stands, if it is none of its ties, or the barred one) -/
def actW (ts : Prs) (bar : Option Nat) (x t : Int) : Int := match ts[t.toNat]? with
  | some p => if inc x.toNat p = true ∧ bar ≠ some t.toNat then (oth x.toNat p : Int) else x
  | none => x
def barV : Option Nat → V | none => .non | some b => .int (b : Int)
theorem actW_rng {n : Nat} {ts : Prs} {bar : Option Nat} {x t : Int} (hW : Wv n ts) (h : 0 ≤ x ∧ x < (n : Int)) : 0 ≤ actW ts bar x t ∧ actW ts bar x t < (n : Int) := by
  unfold actW
  cases e : ts[t.toNat]? with
  | none => exact h
  | some p =>
    obtain ⟨h1, h2, h3⟩ := hW.at_ e
    dsimp only
    split
    · rename_i hc
      have hi := hc.1
      unfold inc at hi
      simp only [Bool.or_eq_true, decide_eq_true_eq] at hi
      unfold oth
      omega
    · exact h
theorem pathW_rng {n : Nat} {ts : Prs} {bar : Option Nat} (hW : Wv n ts) : ∀ (r : List Int) (x : Int), 0 ≤ x ∧ x < (n : Int) → 0 ≤ path (actW ts bar) x r ∧ path (actW ts bar) x r < (n : Int)
  | [], _, h => h
  | t :: r, x, h => pathW_rng hW r (actW ts bar x t) (actW_rng hW h)
theorem Bf.skip {α : Type} {act : α → Int → α} {n : Nat} {s : α} {F : List (α × List Int)} {i : Nat} {x : α} {r : List Int} (hx : F[i]? = some (x, r)) : ∀ (k j : Nat), Bf act n s F i j → (∀ t, j ≤ t → t < j + k → act x (t : Int) = x) → Bf act n s F i (j + k)
  | 0, j, b, _ => b
  | k + 1, j, b, h => by
    have b1 := b.more (j := i) (k := x) (r := r) hx hx (h j (Nat.le_refl _) (by omega)).symm
    have := Bf.skip hx k (j + 1) b1 fun t h1 h2 => h t (by omega) (by omega)
    rw [show j + (k + 1) = j + 1 + k by omega]
    exact this
theorem Bf.fewW {n : Nat} {ts : Prs} {bar : Option Nat} {s : Int} {F : List WR} {i d : Nat} (b : Bf (actW ts bar) ts.length s F i d) (hW : Wv n ts) (hs : 0 ≤ s ∧ s < (n : Int)) : F.length ≤ n := by
  have := nodup_le n (F.map (·.1)) b.nd fun x hx => by
    obtain ⟨⟨k, r⟩, he, rfl⟩ := List.mem_map.mp hx
    obtain ⟨j, hj⟩ := List.getElem?_of_mem he
    rw [(b.pth j k r hj).1]
    exact pathW_rng hW r s hs
  rw [List.length_map] at this
  exact this
def spFWays (W : Addr) : Sp := fun vs H Q _ => ∃ (w : Addr) (n : Nat) (ts : Prs) (h : Nat) (bar : Option Nat), vs = [.ref w, .int (h : Int), barV bar] ∧ WebAt W H w n ts ∧ Wv n ts ∧ h < n ∧
  ∀ d q F ps H', Same H H' → H d = none → WQ H' d q F ps → Fst (actW ts bar) ts.length (h : Int) F → F.length ≤ n → Q (.ref d) H'
section
variable {P : Program} {w : World} {K : PySem.W.Frag} {mg : Str → Option Value} {base : Heap}
abbrev nFW : List Str := ["web", "house", "barred", "ways", "queue", "at", "here", "tie", "other"]
theorem scFW : FnScope nFW ["web", "house", "barred"] (defScope sFWays) := ⟨rfl, rfl, rfl, by decide +kernel, rfl, by decide +kernel, by decide +kernel⟩
theorem ok_fways {f fW W : Addr} {fd fdW : FuncData} (D : Df K mg "first_ways" sFWays ["web", "house", "barred"] f fd) (DW : Df K mg "ways_on" sWays ["web", "house"] fW fdW) (B : Bt mg)
    (GW : FnOk P w K mg base CX0 1 fW fdW ["web", "house"] (spWays W)) : FnOk P w K mg base CX0 2 f fd ["web", "house", "barred"] (spFWays W) := by
  refine D.F.ok scFW (fun vs H Q E h => ?_) (fun cdv A outer s H vs Q E hr h => ?_)
  · obtain ⟨w, n, ts, h, bar, rfl, _⟩ := h
    rfl
  · obtain ⟨w, n, ts, h, bar, rfl, hw, hW, hn, q⟩ := h
    have hu := hu_of hr
    refine ⟨_, pss_cons (ps_set (i := 3) scFW.nd rfl (.inl rfl) (pe_disp (pps_cons (pv 1) (pe_tup pa_nil) pps_nil) rfl rfl (List.cons_ne_nil _ _) (by decide)))
      (pss_cons (ps_set (i := 4) scFW.nd rfl (.inl rfl) (pe_lst (pa_cons (pv 1) pa_nil)))
      (pss_cons (ps_set (i := 5) scFW.nd rfl (.inl rfl) pe_int)
      (pss_cons (ps_while PassesOwn.never (pt_cmpR op_lt (pv 5) (pe_callB call_len_seq (by rfl) B.len PySem.boot_len (pa_cons (pv 4) pa_nil)) (nomark _))
        (pss_cons (ps_set (i := 6) scFW.nd rfl (.inl rfl) (pe_ix ix_list (pv 4) (pv 5) (fun _ _ => rfl)))
        (pss_cons (ps_for PassesOwn.never rfl (pi_list (pc DW GW hr pass0 (pa_cons (pv 0) (pa_cons (pv 6) pa_nil)))) (pg_tup rfl (pgs_cons (pg_name (i := 7) scFW.nd rfl (.inl rfl)) (pgs_cons (pg_name (i := 8) scFW.nd rfl (.inl rfl)) pgs_nil)))
          (pss_one (ps_if (PW.pt (pw_and (pt_cmpR op_ne (pv 7) (pv 2) (nomark _)) (pw_and1 (pt_cmp (pc_dnotin hu (pv 8) (pv 3))))))
            (pss_cons (ps_dput hu (pv 3) (pv 8) (pe_op op_catA (pe_dget hu (pv 3) (pv 6) (fun _ _ => rfl)) (pe_tup (pa_cons (pv 7) pa_nil))) rfl)
            (pss_one (ps_expr (pe_bm PySem.F.plainAttrs_list PySem.F.slot_list_append PySem.F.type_list_append mt_append (pv 4) (pa_cons (pv 8) pa_nil))))) pss_nil)))
        (pss_one (ps_aug (i := 5) scFW.nd rfl (.inl rfl) pe_int ip_add)))))
      (pss_one (ps_ret (pv 3)))))), ?_⟩
    intro d hd
    refine ⟨_, rfl, (by show 0 ≤ sizeLine; decide), fun e0 he0 => ?_⟩
    have ned : e0 ≠ d := fun z => by rw [z, upd_same] at he0; cases he0
    refine ⟨by rw [upd_ne ned.symm, upd_same], [(.inl (h : Int), .ref e0)], rfl, (by show 1 ≤ 15; decide), ?_⟩
    generalize hH1 : upd (upd (upd H d (.dK [])) e0 (.tup [])) d (.dK (mergeK [] [(.inl (h : Int), .ref e0)])) = H1
    have se : Same H (upd (upd H d (.dK [])) e0 (.tup [])) := (same_new hd).trans (same_new he0)
    have s1 : Same H H1 := fun b o e => by
      rw [← hH1, upd_ne (ne_of_none e hd)]
      exact se _ _ e
    have hd1 : H1 d = some (.dK (kvW [((h : Int), [])] [e0])) := by rw [← hH1, upd_same]; rfl
    have he1 : H1 e0 = some (.tup []) := by rw [← hH1, upd_ne ned, upd_same]
    refine ⟨_, rfl, (by show 1 ≤ sizeLine; decide), fun q0 hq0 => ?_⟩
    have s2 : Same H (upd H1 q0 (.lst [.int (h : Int)])) := s1.trans (same_new hq0)
    have b0 : WQ (upd H1 q0 (.lst [.int (h : Int)])) d q0 [((h : Int), [])] [e0] := by
      have sm := same_new (o := HO.lst [V.int (h : Int)]) hq0
      refine ⟨sm _ _ hd1, upd_same, rfl, fun i c x r e1 e2 => ?_⟩
      match i, e1, e2 with
      | 0, e1, e2 =>
        obtain rfl : e0 = c := Option.some.inj e1
        have z : ((h : Int), ([] : List Int)) = (x, r) := Option.some.inj e2
        injection z with _ z
        subst z
        exact sm _ _ he1
      | i + 1, e1, _ => cases e1
    have hh : 0 ≤ (h : Int) ∧ (h : Int) < (n : Int) := by omega
    have n12 := hW.n12
    have nq0 : H q0 = none := s1.free hq0
    refine while_by (fun σ H' => ∃ (i : Nat) (F : List WR) (ps : List Addr) (v6 v7 v8 : Option V), σ = [some (.ref w), some (.int (h : Int)), some (barV bar), some (.ref d), some (.ref q0), some (.int (i : Int)), v6, v7, v8] ∧ Same H H' ∧ WQ H' d q0 F ps ∧ Bf (actW ts bar) ts.length (h : Int) F i 0 ∧ i ≤ F.length)
      (fun (σ : L2.St) _ => match σ[5]? with | some (some (V.int i)) => 1000 - i.toNat | _ => 0) ⟨0, _, _, none, none, none, rfl, s2, b0, Bf.init, Nat.zero_le _⟩ ?_
      (fun σ H Q Q' hQ ⟨v, h1, v3, h2, p, ys, h3, h4, i, j, h5, h6, k, h7, h8⟩ => ⟨v, h1, v3, h2, p, ys, h3, h4, i, j, h5, h6, k, h7, hQ _ _ h8⟩)
    rintro σ H' ⟨i, F, ps, v6, v7, v8, rfl, sm, b, bf, hi⟩
    have fF := bf.fewW hW hh
    refine ⟨_, rfl, _, rfl, q0, _, rfl, .inl (SqL.of b.hq), _, _, rfl, rfl, _, rfl, ifD (fun ec => ?_) fun ec => ?_⟩
    · have hlt : i < F.length := by
        have z : (i : Int) < ((F.map fun e => V.int e.1).length : Int) := of_decide_eq_true ec
        rw [List.length_map] at z
        omega
      obtain ⟨⟨x, rx⟩, hx⟩ := ex_at (l := F) hlt
      obtain ⟨px, pv', pl⟩ := bf.pth i x rx hx
      have xr : 0 ≤ x ∧ x < (n : Int) := by rw [px]; exact pathW_rng hW rx _ hh
      refine ⟨_, rfl, _, rfl, q0, _, (i : Int), .int x, rfl, rfl, SqL.of b.hq, at_i (map_at hx), ?_⟩
      refine gn ?_
      dsimp only [List.set]
      have ex : ((x.toNat : Nat) : Int) = x := by omega
      refine ⟨_, rfl, _, rfl, w, n, ts, x.toNat, (by rw [ex]; rfl), hw.same sm, hW, by omega, fun l as H2 sm2 hl0 hl hA => ⟨l, rfl, ⟨_, SqL.of hl⟩, ?_⟩⟩
      have lq : l ≠ q0 := fun z => by rw [z, b.hq] at hl0; cases hl0
      have lwo : (wOn ts x.toNat).length ≤ 20 := Nat.le_trans (wOnK_len ts _ _) hW.t20
      have asc := wOn_asc ts x.toNat
      refine for_list (K := K) (a := l) (xs := as.map V.ref) (fun k σ H' => ∃ (F : List WR) (ps : List Addr) (j : Nat) (v7 v8 : Option V), σ = [some (.ref w), some (.int (h : Int)), some (barV bar), some (.ref d), some (.ref q0), some (.int (i : Int)), some (.int x), v7, v8] ∧ Same H H' ∧ WQ H' d q0 F ps ∧ Bf (actW ts bar) ts.length (h : Int) F i j ∧ F[i]? = some (x, rx) ∧ H' l = some (.lst (as.map V.ref)) ∧ PrsA H' as (wOn ts x.toNat) ∧
          j ≤ ts.length ∧ (∀ (k' : Nat) (e : Nat × Nat), k ≤ k' → (wOn ts x.toNat)[k']? = some e → j ≤ e.1) ∧ (∀ (k' : Nat) (e : Nat × Nat), k' < k → (wOn ts x.toNat)[k']? = some e → e.1 < j))
        ⟨F, ps, 0, _, _, rfl, sm.trans sm2, b.same sm2, bf, hx, hl, hA, Nat.zero_le _, fun _ _ _ _ => Nat.zero_le _, fun k' e hk => absurd hk (Nat.not_lt_zero _)⟩ (fun k σ H' _ ⟨_, _, _, _, _, _, _, _, _, _, hl', _⟩ => SqL.of hl') ?_ ?_
      · rintro k y σ H3 hy ⟨F, ps, j, v7, v8, rfl, sm, b, bf, hx, hl, hA, jn, j1, j2⟩
        obtain ⟨a, ⟨t, o⟩, rfl, ha, hto, hat⟩ := hA.get' hy
        obtain ⟨p, tp, ti, to_⟩ := wOn_mem.mp (List.mem_of_getElem? hto)
        replace to_ : o = oth x.toNat p := to_
        have jt := j1 k (t, o) (Nat.le_refl _) hto
        have tl := lt_at tp
        have fF := bf.fewW hW hh
        -- no way on between
        have gap : ∀ t', j ≤ t' → t' < t → actW ts bar x (t' : Int) = x := fun t' g1 g2 => by
          unfold actW
          rw [Int.toNat_natCast]
          cases e : ts[t']? with
          | none => rfl
          | some p' =>
            dsimp only
            refine if_neg fun hc => ?_
            obtain ⟨k', hk'⟩ := List.getElem?_of_mem (wOn_mem.mpr ⟨p', e, hc.1, rfl⟩ : (t', oth x.toNat p') ∈ wOn ts x.toNat)
            by_cases kk : k' < k
            · have := j2 k' _ kk hk'
              dsimp only at this
              omega
            · by_cases ke : k' = k
              · subst ke
                rw [hto] at hk'
                have z := Option.some.inj hk'
                injection z with z _
                omega
              · rw [List.pairwise_iff_getElem] at asc
                have l1 := lt_at hk'
                have l2 := lt_at hto
                have := asc k k' (by rw [List.length_map]; exact l2) (by rw [List.length_map]; exact l1) (by omega)
                rw [List.getElem_map, List.getElem_map] at this
                rw [List.getElem?_eq_getElem l1] at hk'
                rw [List.getElem?_eq_getElem l2] at hto
                rw [Option.some.inj hk', Option.some.inj hto] at this
                dsimp only at this
                omega
        have bft : Bf (actW ts bar) ts.length (h : Int) F i t := by
          have := Bf.skip hx (t - j) j bf fun t' g1 g2 => gap t' g1 (by omega)
          rw [show j + (t - j) = t by omega] at this
          exact this
        have nj1 : ∀ (k' : Nat) (e : Nat × Nat), k + 1 ≤ k' → (wOn ts x.toNat)[k']? = some e → t + 1 ≤ e.1 := fun k' e hk he => by
          rw [List.pairwise_iff_getElem] at asc
          have l1 := lt_at he
          have l2 := lt_at hto
          have := asc k k' (by rw [List.length_map]; exact l2) (by rw [List.length_map]; exact l1) (by omega)
          rw [List.getElem_map, List.getElem_map] at this
          rw [List.getElem?_eq_getElem l1] at he
          rw [List.getElem?_eq_getElem l2] at hto
          rw [Option.some.inj he, Option.some.inj hto] at this
          exact this
        have nj2 : ∀ (k' : Nat) (e : Nat × Nat), k' < k + 1 → (wOn ts x.toNat)[k']? = some e → e.1 < t + 1 := fun k' e hk he => by
          by_cases kk : k' = k
          · subst kk
            rw [hto] at he
            rw [← Option.some.inj he]
            exact Nat.lt_succ_self _
          · have := j2 k' e (by omega) he
            omega
        have hact : bar ≠ some t → actW ts bar x (t : Int) = (o : Int) := fun hb => by
          unfold actW
          rw [Int.toNat_natCast, tp]
          dsimp only
          rw [if_pos ⟨ti, hb⟩, ← to_]
        have hact' : bar = some t → actW ts bar x (t : Int) = x := fun hb => by
          unfold actW
          rw [Int.toNat_natCast, tp]
          dsimp only
          rw [if_neg fun z => z.2 hb]
        have hat' : H3 a = some (.tup [.int (t : Int), .int (o : Int)]) := hat
        refine ⟨a, _, rfl, SqT.of hat', rfl, _, _, rfl, _, _, rfl, rfl, ?_⟩
        have scb : scal (.int (t : Int)) (barV bar) = true := by cases bar <;> rfl
        refine ⟨_, rfl, _, rfl, scb, _, rfl, ifD (fun e1 => ?_) fun e1 => ?_⟩
        · have hb : bar ≠ some t := fun z => by
            rw [z] at e1
            have : decide (V.int (t : Int) = barV (some t)) = true := decide_eq_true rfl
            rw [this] at e1
            cases e1
          refine ⟨_, rfl, _, rfl, d, _, rfl, DGet.k (k := .inl (o : Int)) b.hd, _, rfl, ?_⟩
          by_cases hin : (o : Int) ∈ F.map (·.1)
          · obtain ⟨⟨o', ro⟩, he, e2⟩ := List.mem_map.mp hin
            obtain ⟨j3, hj3⟩ := List.getElem?_of_mem he
            dsimp only at e2
            subst e2
            obtain ⟨c, hc⟩ := ex_at (l := ps) (i := j3) (by rw [b.ln]; exact lt_at hj3)
            rw [kvW_at b.ln bf.nd hj3 hc]
            refine iteF ?_
            exact ⟨F, ps, t + 1, _, _, rfl, sm, b, bft.more (j := j3) (k := (o : Int)) (r := ro) hx hj3 (hact hb).symm, hx, hl, hA, tl, nj1, nj2⟩
          · rw [kvW_none b.ln hin]
            refine iteT ?_
            obtain ⟨c, hc⟩ := ex_at (l := ps) (i := i) (by rw [b.ln]; exact lt_at hx)
            have hcr := b.it i c x rx hc hx
            refine ⟨_, rfl, _, rfl, d, .ref c, rfl, by rw [← kvW_at b.ln bf.nd hx hc]; exact DGet.k (k := .inl x) b.hd, _, rfl, (by show 1 ≤ sizeLine; decide), fun dt hdt => ?_⟩
            have s5 := same_new (o := HO.tup [V.int (t : Int)]) hdt
            obtain ⟨_, _, pl'⟩ := bft.pth i x rx hx
            have li := lt_at hx
            refine catA_by (s5 _ _ hcr) upd_same (sz (by rw [vrow_len]; simp only [List.length_cons, List.length_nil]; omega)) fun rb H6 s6 hrb => ?_
            have s56 := s5.trans s6
            have b6 := b.same s56
            have hrb' : H6 rb = some (.tup (vrow (rx ++ [(t : Int)]))) := by rw [hrb, vrow, vrow, List.map_append]; rfl
            obtain ⟨g1, g2⟩ := b6.put (x := (o : Int)) hin hrb'
            refine ⟨_, rfl, _, rfl, d, _, rfl, DPut.k (k := .inl (o : Int)) b6.hd (szl (by rw [kvW_len b.ln]; omega)), ?_⟩
            refine ⟨_, rfl, .inl ⟨rfl, _, SqL.of g1⟩, _, rfl, q0, _, _, rfl, rfl, g1, szl (by rw [List.length_map]; omega), ?_⟩
            have keep : ∀ a ys, H6 a = some (.tup ys) → (upd (upd H6 d (.dK (putK (kvW F ps) (.inl (o : Int)) (.ref rb)))) q0 (.lst ((F.map fun e => V.int e.1) ++ [.int (o : Int)]))) a = some (.tup ys) := fun a ys e => by
              rw [upd_ne (ne_of e b6.hq (by intro z; cases z)), upd_ne (ne_of e b6.hd (by intro z; cases z))]; exact e
            have hl6 := s56 _ _ hl
            refine ⟨_, _, t + 1, _, _, rfl, fun c' u e => ?_, g2, ?_, ?_, ?_, (hA.same s56).kp keep, tl, nj1, nj2⟩
            · rw [upd_ne (ne_of_none e nq0), upd_ne (ne_of_none e hd)]
              exact s56 _ _ (sm _ _ e)
            · rw [← hact hb]
              exact bft.put hx (by rw [hact hb]; exact hin) tl
            · rw [List.getElem?_append_left li]; exact hx
            · rw [upd_ne lq, upd_ne (ne_of hl6 b6.hd (by intro z; cases z))]
              exact hl6
        · have hb : bar = some t := by
            cases bar with
            | none => cases e1
            | some b' =>
              have z : ¬ (V.int (t : Int) = V.int (b' : Int)) → False := fun ne => by
                rw [show decide (V.int (t : Int) = barV (some b')) = false from decide_eq_false ne] at e1
                cases e1
              by_cases tb : t = b'
              · rw [tb]
              · exact (z fun e => by injection e with e; omega).elim
          exact ⟨F, ps, t + 1, _, _, rfl, sm, b, bft.more (j := i) (k := x) (r := rx) hx hx (hact' hb).symm, hx, hl, hA, tl, nj1, nj2⟩
      · rintro σ H3 ⟨F, ps, j, v7, v8, rfl, sm, b, bf, hx, hl, hA, jn, j1, j2⟩
        rw [List.length_map, hA.1] at j1 j2
        have gap : ∀ t', j ≤ t' → t' < j + (ts.length - j) → actW ts bar x (t' : Int) = x := fun t' g1 g2 => by
          unfold actW
          rw [Int.toNat_natCast]
          cases e : ts[t']? with
          | none => rfl
          | some p' =>
            dsimp only
            refine if_neg fun hc => ?_
            obtain ⟨k', hk'⟩ := List.getElem?_of_mem (wOn_mem.mpr ⟨p', e, hc.1, rfl⟩ : (t', oth x.toNat p') ∈ wOn ts x.toNat)
            have := j2 k' _ (lt_at hk') hk'
            dsimp only at this
            omega
        have bfn := Bf.skip hx (ts.length - j) j bf gap
        rw [show j + (ts.length - j) = ts.length by omega] at bfn
        have li := lt_at hx
        refine ⟨_, rfl, _, _, rfl, rfl, ?_⟩
        refine ⟨⟨i + 1, F, ps, some (.int x), v7, v8, ?_, sm, b, bfn.next, by omega⟩, ?_⟩
        · have z : ((i + 1 : Nat) : Int) = (i : Int) + 1 := by omega
          rw [z]; rfl
        · have fF := bf.fewW hW hh
          show 1000 - ((i : Int) + 1).toNat < 1000 - (i : Int).toNat
          omega
    · have hge : F.length ≤ i := by
        have z : ¬ ((i : Int) < ((F.map fun e => V.int e.1).length : Int)) := of_decide_eq_false ec
        rw [List.length_map] at z
        omega
      exact ⟨_, rfl, q d q0 F ps H' sm hd b (bf.done hge) fF⟩
end
end K1
namespace K1
open PySem PySem.Spec PyProof.Rows L2
/-! ### parts -/
def vn (ns : List Nat) : List V := ns.map fun (x : Nat) => V.int (x : Int)
theorem vn_len (ns : List Nat) : (vn ns).length = ns.length := List.length_map _
theorem vn_at {ns : List Nat} {i : Nat} {x : Nat} (h : ns[i]? = some x) : (vn ns)[i]? = some (.int (x : Int)) := map_at h
theorem at_vn {ns : List Nat} {i : Nat} {v : V} (h : (vn ns)[i]? = some v) : ∃ x, ns[i]? = some x ∧ v = .int (x : Int) := at_map h
theorem flat_vn (ns : List Nat) : (vn ns).all flatV = true := by
  rw [List.all_eq_true]
  intro x hx
  obtain ⟨y, _, rfl⟩ := List.mem_map.mp hx
  rfl
theorem inV_vn (a : Nat) (ns : List Nat) : inV (.int (a : Int)) (vn ns) = decide (a ∈ ns) := by
  unfold inV vn
  rw [List.any_map]
  induction ns with
  | nil => rfl
  | cons b r ih =>
    rw [List.any_cons, ih]
    have e : (eqV (V.int (b : Int)) (V.int (a : Int))) = decide (a = b) := by
      show ((b : Int) == (a : Int)) = _
      by_cases z : a = b
      · rw [decide_eq_true z, z]; simp
      · rw [decide_eq_false z]
        simp only [beq_eq_false_iff_ne, ne_eq]
        omega
    show (eqV (V.int (b : Int)) (V.int (a : Int)) || _) = _
    rw [e]
    by_cases z : a = b
    · rw [decide_eq_true z, decide_eq_true (show a ∈ b :: r by rw [z]; exact List.mem_cons_self)]; rfl
    · rw [decide_eq_false z, Bool.false_or]
      congr 1
      exact propext ⟨fun h => List.mem_cons_of_mem _ h, fun h => (List.mem_cons.mp h).resolve_left z⟩
/-- house b stands in one tie with c -/
def Jn (ts : Prs) (b c : Nat) : Prop := ∃ p ∈ ts, (b = p.1 ∧ c = p.2) ∨ (b = p.2 ∧ c = p.1)
theorem Jn.sym {ts : Prs} {b c : Nat} (h : Jn ts b c) : Jn ts c b := by
  obtain ⟨p, hp, h | h⟩ := h
  · exact ⟨p, hp, .inr ⟨h.2, h.1⟩⟩
  · exact ⟨p, hp, .inl ⟨h.2, h.1⟩⟩
/-- ties lead from a to b -/
inductive Cn (ts : Prs) (a : Nat) : Nat → Prop
  | refl : Cn ts a a
  | step {b c : Nat} (h : Cn ts a b) (j : Jn ts b c) : Cn ts a c
theorem Cn.trans {ts : Prs} {a b c : Nat} (h : Cn ts a b) (k : Cn ts b c) : Cn ts a c := by
  induction k with
  | refl => exact h
  | step _ j ih => exact ih.step j
theorem Cn.sym {ts : Prs} {a b : Nat} (h : Cn ts a b) : Cn ts b a := by
  induction h with
  | refl => exact .refl
  | step _ j ih => exact (Cn.refl.step j.sym).trans ih
theorem Cn.lt {n : Nat} {ts : Prs} {a b : Nat} (hW : Wv n ts) (ha : a < n) (h : Cn ts a b) : b < n := by
  induction h with
  | refl => exact ha
  | step _ j _ =>
    obtain ⟨p, hp, h | h⟩ := j
    · have := hW.pr p hp; omega
    · have := hW.pr p hp; omega
theorem Jn.tie {n : Nat} {ts : Prs} {b c : Nat} (hW : Wv n ts) (h : Jn ts b c) : ∃ (t : Nat) (p : Nat × Nat), ts[t]? = some p ∧ inc b p = true ∧ c = oth b p := by
  obtain ⟨p, hp, h⟩ := h
  obtain ⟨t, ht⟩ := List.getElem?_of_mem hp
  have := hW.pr p hp
  refine ⟨t, p, ht, ?_, ?_⟩
  · unfold inc
    simp only [Bool.or_eq_true, decide_eq_true_eq]
    omega
  · unfold oth
    omega
theorem Jn.of {n : Nat} {ts : Prs} {b t : Nat} {p : Nat × Nat} (hW : Wv n ts) (ht : ts[t]? = some p) (hi : inc b p = true) : Jn ts b (oth b p) := by
  have := hW.at_ ht
  unfold inc at hi
  simp only [Bool.or_eq_true, decide_eq_true_eq] at hi
  refine ⟨p, List.mem_of_getElem? ht, ?_⟩
  unfold oth
  omega
theorem actW_cn {n : Nat} {ts : Prs} {x t : Int} (hW : Wv n ts) (hx : 0 ≤ x) : Cn ts x.toNat (actW ts none x t).toNat := by
  unfold actW
  cases e : ts[t.toNat]? with
  | none => exact .refl
  | some p =>
    dsimp only
    split
    · rename_i hc
      rw [Int.toNat_natCast]
      exact Cn.refl.step (Jn.of hW e hc.1)
    · exact .refl
theorem path_cn {n : Nat} {ts : Prs} (hW : Wv n ts) : ∀ (r : List Int) (x : Int), 0 ≤ x ∧ x < (n : Int) → Cn ts x.toNat (path (actW ts none) x r).toNat
  | [], _, _ => .refl
  | t :: r, x, h => (actW_cn hW h.1).trans (path_cn hW r (actW ts none x t) (actW_rng hW h))
theorem cn_path {n : Nat} {ts : Prs} (hW : Wv n ts) {a b : Nat} (h : Cn ts a b) : ∃ r : List Int, (∀ e ∈ r, 0 ≤ e ∧ e < (ts.length : Int)) ∧ path (actW ts none) (a : Int) r = (b : Int) := by
  induction h with
  | refl => exact ⟨[], fun e he => (by cases he), rfl⟩
  | step _ j ih =>
    obtain ⟨r, h1, h2⟩ := ih
    obtain ⟨t, p, ht, hi, hc⟩ := j.tie hW
    refine ⟨r ++ [(t : Int)], fun e he => ?_, ?_⟩
    · rcases List.mem_append.mp he with he | he
      · exact h1 e he
      · have := lt_at ht
        rw [List.mem_singleton.mp he]; omega
    · rw [path_snoc, h2]
      unfold actW
      rw [Int.toNat_natCast, ht]
      dsimp only
      rw [Int.toNat_natCast, if_pos ⟨hi, by intro z; cases z⟩, ← hc]
/-- the part of a house, ascending -/
structure PartL (ts : Prs) (h : Nat) (ns : List Nat) : Prop where
  asc : ns.Pairwise (· < ·)
  mem : ∀ x, x ∈ ns ↔ Cn ts h x
theorem PartL.lt {n : Nat} {ts : Prs} {h : Nat} {ns : List Nat} (p : PartL ts h ns) (hW : Wv n ts) (hn : h < n) {x : Nat} (hx : x ∈ ns) : x < n := ((p.mem x).mp hx).lt hW hn
/-- the ties whose first house is among ns -/
def tInK (ts : Prs) (ns : List Nat) (k : Nat) : List Nat := ((ts.take k).zipIdx.filter fun q => decide (q.1.1 ∈ ns)).map (·.2)
def tIn (ts : Prs) (ns : List Nat) : List Nat := tInK ts ns ts.length
theorem tInK_succ {ts : Prs} {ns : List Nat} {k : Nat} {p : Nat × Nat} (e : ts[k]? = some p) : tInK ts ns (k + 1) = tInK ts ns k ++ if p.1 ∈ ns then [k] else [] := by
  have hk := lt_at e
  have hl : (ts.take k).length = k := by rw [List.length_take]; omega
  unfold tInK
  rw [take_succ e, List.zipIdx_append, hl, List.filter_append, List.map_append]
  congr 1
  show List.map _ (List.filter _ (List.zipIdx [p] (0 + k))) = _
  rw [Nat.zero_add]
  show List.map _ (List.filter _ [(p, k)]) = _
  rw [List.filter_cons]
  by_cases e2 : p.1 ∈ ns
  · rw [if_pos e2, if_pos (decide_eq_true e2)]; rfl
  · rw [if_neg e2, if_neg (by simpa using e2)]; rfl
theorem tInK_len (ts : Prs) (ns : List Nat) (k : Nat) : (tInK ts ns k).length ≤ ts.length := by
  unfold tInK
  rw [List.length_map]
  refine Nat.le_trans (List.length_filter_le _ _) ?_
  rw [List.length_zipIdx, List.length_take]; omega
theorem tIn_mem {ts : Prs} {ns : List Nat} {t : Nat} : t ∈ tIn ts ns ↔ ∃ p, ts[t]? = some p ∧ p.1 ∈ ns := by
  unfold tIn tInK
  rw [List.take_length, List.mem_map]
  constructor
  · rintro ⟨x, hx, e⟩
    obtain ⟨hx1, hx2⟩ := List.mem_filter.mp hx
    have hx1 := List.mem_zipIdx' hx1
    subst e
    exact ⟨x.1, by rw [List.getElem?_eq_getElem hx1.1]; exact congrArg some hx1.2.symm, of_decide_eq_true hx2⟩
  · rintro ⟨p, e1, e2⟩
    refine ⟨(p, t), List.mem_filter.mpr ⟨?_, decide_eq_true e2⟩, rfl⟩
    rw [List.mem_zipIdx_iff_getElem?]
    exact e1
def spPart (K : PySem.W.Frag) (W C : Addr) : Sp := fun vs H Q E => ∃ (w : Addr) (v : V) (o : Option (List V)) (n : Nat) (ts : Prs), vs = [.ref w, v] ∧ WebAt W H w n ts ∧ Wv n ts ∧ KV K H v o ∧ (belowB v (n : Int) = false → Rz C "house" v H E) ∧
  (∀ h : Nat, v = .int (h : Int) → h < n → ∀ ns p H', Same H H' → H' p = some (.tup (vn ns)) → PartL ts h ns → Q (.ref p) H')
def spTiesIn (K : PySem.W.Frag) (W : Addr) : Sp := fun vs H Q _ => ∃ (w p : Addr) (n : Nat) (ts : Prs) (ns : List Nat), vs = [.ref w, .ref p] ∧ WebAt W H w n ts ∧ Wv n ts ∧ SeqA H p (vn ns) ∧ ∀ l H', Same H H' → H l = none → H' l = some (.lst (vn (tIn ts ns))) → Q (.ref l) H'
section
variable {P : Program} {w : World} {K : PySem.W.Frag} {mg : Str → Option Value} {base : Heap}
theorem scPa : FnScope ["web", "house"] ["web", "house"] (defScope sPart) := ⟨rfl, rfl, rfl, by decide +kernel, rfl, by decide +kernel, by decide +kernel⟩
theorem ok_part {f fN fF W C : Addr} {fd fdN fdF : FuncData} (D : Df K mg "part_of" sPart ["web", "house"] f fd) (DN : Df K mg "need_house" sNeedH ["web", "house"] fN fdN) (DF : Df K mg "first_ways" sFWays ["web", "house", "barred"] fF fdF) (B : Bt mg)
    (GN : FnOk P w K mg base (L2.CX P w) 3 fN fdN ["web", "house"] (spNeedH K W C)) (GF : FnOk P w K mg base CX0 2 fF fdF ["web", "house", "barred"] (spFWays W)) : FnOk P w K mg base (L2.CX P w) 4 f fd ["web", "house"] (spPart K W C) := by
  refine D.F.okX scPa (fun vs H Q E h => ?_) (fun cdv A outer s H vs Q E hr h => ?_)
  · obtain ⟨w, v, o, n, ts, rfl, _⟩ := h
    rfl
  · obtain ⟨w, v, o, n, ts, rfl, hw, hW, kv, q1, q2⟩ := h
    refine ⟨_, pss_cons (ps_expr (pc DN GN hr (pass1 (takes_of rfl rfl rfl rfl)) (pa_cons (pv 0) (pa_cons (pv 1) pa_nil))))
      (pss_one (ps_ret (pe_callTy call_tuple_of (by rfl) B.tuple PyProof.Rows.boot_tuple (pa_cons (pe_callB (call_sortedDI rfl) (by rfl) B.sorted (by decide +kernel) (pa_cons (pc DF GF (hr.mono (by decide)) pass0 (pa_cons (pv 0) (pa_cons (pv 1) (pa_cons pe_non pa_nil)))) pa_nil)) pa_nil)))), ?_⟩
    refine ⟨_, rfl, _, rfl, w, v, o, n, ts, rfl, hw, kv, fun hb => ?_, fun hb => q1 hb⟩
    obtain ⟨h, rfl, hn⟩ : ∃ h : Nat, v = .int (h : Int) ∧ h < n := by
      cases v <;> first | (cases hb; done) | skip
      rename_i i
      have z : (decide (0 ≤ i) && decide (i < (n : Int))) = true := hb
      simp only [Bool.and_eq_true, decide_eq_true_eq] at z
      exact ⟨i.toNat, by congr 1; omega, by omega⟩
    refine ⟨_, rfl, _, rfl, w, n, ts, h, none, rfl, hw, hW, hn, fun d q0 F ps H1 s1 hd0 b fs fF => ?_⟩
    have n12 := hW.n12
    have hh : 0 ≤ (h : Int) ∧ (h : Int) < (n : Int) := by omega
    refine ⟨d, _, F.map (·.1), rfl, .inl b.hd, by rw [kvW_keys b.ln, List.map_map]; rfl, by rw [List.length_map]; omega, fun ys p hp asc np => ?_⟩
    refine ⟨p, _, rfl, .inl ⟨SqL.of upd_same, fun l hl => ?_⟩⟩
    have mem : ∀ y, y ∈ ys ↔ 0 ≤ y ∧ Cn ts h y.toNat := fun y => by
      rw [hp.mem_iff]
      constructor
      · intro hy
        obtain ⟨⟨x, r⟩, he, rfl⟩ := List.mem_map.mp hy
        obtain ⟨j, hj⟩ := List.getElem?_of_mem he
        obtain ⟨p1, p2, _⟩ := fs.pth j x r hj
        have := pathW_rng (bar := none) hW r _ hh
        have c := path_cn hW r (h : Int) hh
        rw [Int.toNat_natCast] at c
        rw [p1]
        exact ⟨this.1, c⟩
      · rintro ⟨y0, c⟩
        obtain ⟨r, r1, r2⟩ := cn_path hW c
        obtain ⟨j, r', e1, _⟩ := fs.all r r1
        rw [r2, show ((y.toNat : Nat) : Int) = y by omega] at e1
        exact List.mem_map.mpr ⟨_, List.mem_of_getElem? e1, rfl⟩
    have nd : ys.Nodup := hp.nodup_iff.mpr fs.nd
    have eys : ys.map V.int = vn (ys.map Int.toNat) := by
      unfold vn
      rw [List.map_map]
      refine List.map_congr_left fun y hy => ?_
      have := ((mem y).mp hy).1
      show V.int y = V.int ((y.toNat : Nat) : Int)
      congr 1; omega
    refine q2 h rfl hn (ys.map Int.toNat) l _ ((s1.trans (same_new np)).trans (same_new hl)) (by rw [upd_same, eys]) ⟨?_, fun x => ?_⟩
    · rw [List.pairwise_map]
      refine (asc.and nd).imp_of_mem fun {a b} ha hb hab => ?_
      have := ((mem a).mp ha).1
      have := ((mem b).mp hb).1
      have := hab.1
      have := hab.2
      omega
    · rw [List.mem_map]
      constructor
      · rintro ⟨y, hy, rfl⟩
        exact ((mem y).mp hy).2
      · intro c
        exact ⟨(x : Int), (mem _).mpr ⟨by omega, by rw [Int.toNat_natCast]; exact c⟩, Int.toNat_natCast x⟩
abbrev nTi : List Str := ["web", "part", "tie", "pair"]
theorem scTi : FnScope nTi ["web", "part"] (defScope sTiesIn) := ⟨rfl, rfl, rfl, by decide +kernel, rfl, by decide +kernel, by decide +kernel⟩
theorem ok_tiesIn {f W : Addr} {fd : FuncData} (D : Df K mg "ties_in" sTiesIn ["web", "part"] f fd) (B : Bt mg) (T : WcT K mg W) : FnOk P w K mg base CX0 1 f fd ["web", "part"] (spTiesIn K W) := by
  refine D.F.ok scTi (fun vs H Q E h => ?_) (fun cdv A outer s H vs Q E hr h => ?_)
  · obtain ⟨w, p, n, ts, ns, rfl, _⟩ := h
    rfl
  · obtain ⟨w, p, n, ts, ns, rfl, ⟨dx, ta, h1, tas, g1, g2⟩, hW, hp, q⟩ := h
    refine ⟨_, pss_one (ps_ret (pe_lc (own := [("tie", 2), ("pair", 3)]) (g := gTup K 2 (gCons (gName 2) (gCons (gName 3) gNil))) rfl scTi.nd (pi_enumA (by rfl) B.enumerate (pa_cons (pe_fld (pv 0) rfl) pa_nil)) (blkOk_by (N := nTi) (sc := defScope sTiesIn) (by decide +kernel))
      (fun _ _ _ _ _ => pg_tup rfl (pgs_cons (pg_name (i := 2) scTi.nd rfl (.inl rfl)) (pgs_cons (pg_name (i := 3) scTi.nd rfl (.inl rfl)) pgs_nil)))
      (fun _ _ _ _ _ => pts_one (pt_cmpR (opInK (K := K) rfl) (pe_ix (ixTK (K := K) rfl) (pv 3) pe_int (fun _ _ => rfl)) (pv 1) rfl))
      (fun _ _ _ _ _ => pv 2))), ?_⟩
    refine ⟨_, rfl, w, W, dx, _, _, rfl, h1, T.cl, T.nT, wf_t _ _, ta, rfl, .inr ⟨_, SqT.of g1, fun D0 hD0 => lc_enumT (K := K) (a := ta) (xs := tas.map V.ref)
      (fun i H2 => Same H H2 ∧ H2 D0 = some (.lst (vn (tInK ts ns i)))) ⟨same_new hD0, by rw [upd_same]; rfl⟩ (fun i H2 _ ⟨s2, _⟩ => SqT.of (s2 _ _ g1)) ?_ ?_⟩⟩
    · rintro i x T0 H2 hx hT0 ⟨s2, hD2⟩
      obtain ⟨a, t, rfl, ha, ht, hat⟩ := g2.get' hx
      have sT := same_new (o := HO.tup [.int (i : Nat), .ref a]) hT0
      have hat2 := sT _ _ (s2 _ _ hat)
      have hD2' := sT _ _ hD2
      have s2' := s2.trans sT
      have hT2 : (upd H2 T0 (.tup [.int (i : Nat), .ref a])) T0 = some (.tup [.int (i : Nat), .ref a]) := upd_same
      generalize upd H2 T0 (.tup [.int (i : Nat), .ref a]) = H3 at hat2 hD2' s2' hT2 ⊢
      refine ⟨T0, _, rfl, SqT.of hT2, rfl, _, _, rfl, _, _, rfl, rfl, rfl, ?_⟩
      have hp3 := hp.same s2'
      refine ⟨_, rfl, a, _, 0, .int (t.1 : Int), rfl, rfl, SqT.of hat2, atI_nat (j := 0) rfl, _, rfl, p, vn ns, rfl, hp3.elim (fun h => .inl (SqL.of h)) (fun h => .inr (SqT.of h)), rfl, flat_vn ns, _, rfl, ?_⟩
      rw [inV_vn]
      have ws := tInK_succ (ns := ns) ht
      have lw := tInK_len ts ns i
      have t20 := hW.t20
      refine ifD (fun e => ?_) fun e => ?_
      · replace e : t.1 ∈ ns := by simpa using e
        rw [if_pos e] at ws
        refine ⟨_, rfl, _, hD2', szl (by rw [vn_len]; omega), fun c o eo => ?_, ?_⟩
        · rw [upd_ne (ne_of_none eo hD0)]
          exact s2' _ _ eo
        · rw [upd_same, ws, vn, vn, List.map_append]; rfl
      · replace e : t.1 ∉ ns := by simpa using e
        rw [if_neg e, List.append_nil] at ws
        exact ⟨s2', by rw [ws]; exact hD2'⟩
    · rintro H2 ⟨s2, hD2⟩
      rw [List.length_map, g2.1] at hD2
      exact q D0 H2 s2 hD0 hD2
end
end K1
namespace K1
open PySem PySem.Spec PyProof.Rows L2
/-! ### lists without repetition -/
theorem nodup_sub {α : Type} [DecidableEq α] : ∀ (a b : List α), a.Nodup → (∀ x ∈ a, x ∈ b) → a.length ≤ b.length
  | [], _, _, _ => Nat.zero_le _
  | x :: a, b, nd, h => by
    rw [List.nodup_cons] at nd
    have hb := h x List.mem_cons_self
    have := nodup_sub a (b.erase x) nd.2 fun y hy => by
      have ne : y ≠ x := fun z => nd.1 (z ▸ hy)
      exact (List.mem_erase_of_ne ne).mpr (h y (List.mem_cons_of_mem _ hy))
    rw [List.length_erase_of_mem hb] at this
    have : 0 < b.length := List.length_pos_of_mem hb
    rw [List.length_cons]
    omega
theorem nodup_perm {α : Type} [DecidableEq α] {a b : List α} (ha : a.Nodup) (hb : b.Nodup) (h : ∀ x ∈ a, x ∈ b) (l : b.length ≤ a.length) : a.Perm b := by
  refine (List.perm_ext_iff_of_nodup ha hb).mpr fun x => ⟨h x, fun hx => ?_⟩
  by_cases z : x ∈ a
  · exact z
  · have := nodup_sub (x :: a) b (List.nodup_cons.mpr ⟨z, ha⟩) fun y hy => by
      rcases List.mem_cons.mp hy with e | e
      · rw [e]; exact hx
      · exact h y e
    rw [List.length_cons] at this
    omega
theorem perm_sumI {a b : List Int} (h : a.Perm b) : a.sum = b.sum := by
  induction h with
  | nil => rfl
  | cons x _ ih => rw [List.sum_cons, List.sum_cons, ih]
  | swap x y l => simp only [List.sum_cons]; omega
  | trans _ _ h1 h2 => rw [h1, h2]
/-! ### ways: each but the first comes by its last tie from an earlier one -/
theorem Fst.par {ts : Prs} {n : Nat} {s : Int} {F : List WR} (f : Fst (actW ts none) n s F) {j : Nat} {x : Int} {r : List Int} (h : F[j]? = some (x, r)) (j0 : 0 < j) :
    ∃ (p : Nat) (y : Int) (q : List Int) (t : Int), p < j ∧ F[p]? = some (y, q) ∧ r = q ++ [t] ∧ 0 ≤ t ∧ t < (n : Int) ∧ x = actW ts none y t ∧ x ≠ y := by
  obtain ⟨ex, hr, hl⟩ := f.pth j x r h
  have rn : r ≠ [] := fun z => by
    have := f.asc 0 j s x [] r j0 f.h0 h
    rw [z] at this
    exact rlt.irrefl _ this
  obtain ⟨q, t, rfl⟩ : ∃ q t, r = q ++ [t] := by
    rcases List.eq_nil_or_concat r with e | ⟨q, t, e⟩
    · exact absurd e rn
    · exact ⟨q, t, by rw [e, List.concat_eq_append]⟩
  obtain ⟨p, r', hp, hle⟩ := f.all q fun e he => hr e (List.mem_append_left _ he)
  have ht := hr t (List.mem_append_right _ (List.mem_singleton.mpr rfl))
  obtain ⟨ey, hr', _⟩ := f.pth p _ r' hp
  obtain ⟨j', r'', hj', hle'⟩ := f.all (r' ++ [t]) fun e he => by
    rcases List.mem_append.mp he with he | he
    · exact hr' e he
    · rw [List.mem_singleton.mp he]; exact ht
  have eq1 : path (actW ts none) s (r' ++ [t]) = x := by rw [path_snoc, ← ey, ex, path_snoc]
  rw [eq1] at hj'
  have jj : j' = j := by
    have n1 := f.nd
    rw [List.nodup_iff_pairwise_ne, List.pairwise_map, List.pairwise_iff_getElem] at n1
    have l1 := lt_at hj'
    have l2 := lt_at h
    rw [List.getElem?_eq_getElem l1] at hj'
    rw [List.getElem?_eq_getElem l2] at h
    by_cases c1 : j' < j
    · have := n1 j' j l1 l2 c1
      rw [Option.some.inj hj', Option.some.inj h] at this
      exact absurd rfl this
    · by_cases c2 : j < j'
      · have := n1 j j' l2 l1 c2
        rw [Option.some.inj hj', Option.some.inj h] at this
        exact absurd rfl this
      · omega
  subst jj
  have er : r'' = q ++ [t] := by
    rw [h] at hj'
    have z := Option.some.inj hj'
    injection z with _ z
    exact z.symm
  subst er
  have eqr : r' = q := by
    have a := rle.anti (hle.app t) hle'
    exact List.append_cancel_right a
  subst eqr
  have pj : p < j' := by
    by_cases c1 : p < j'
    · exact c1
    · by_cases c2 : p = j'
      · rw [c2, h] at hp
        have z := Option.some.inj hp
        injection z with _ z
        have := congrArg List.length z
        simp at this
      · have a1 := f.asc j' p _ _ _ _ (by omega) h hp
        have a2 : rlt r' (r' ++ [t]) := .inl (by simp)
        exact absurd (a2.trans a1) (rlt.irrefl _)
  refine ⟨p, _, r', t, pj, hp, rfl, ht.1, ht.2, by rw [ex, path_snoc], fun z => ?_⟩
  have n1 := f.nd
  rw [List.nodup_iff_pairwise_ne, List.pairwise_map, List.pairwise_iff_getElem] at n1
  have l1 := lt_at hp
  have l2 := lt_at h
  have := n1 p j' l1 l2 pj
  rw [List.getElem?_eq_getElem l1] at hp
  rw [List.getElem?_eq_getElem l2] at h
  rw [Option.some.inj hp, Option.some.inj h] at this
  exact this z.symm
/-- the part of a house, as the ways lead through it: houses xs, from each but the first the tie (of tl) that leads to it -/
structure Tree (ts : Prs) (h : Nat) (xs tl : List Nat) : Prop where
  nd : xs.Nodup
  h0 : xs[0]? = some h
  len : xs.length = tl.length + 1
  mem : ∀ x, x ∈ xs ↔ Cn ts h x
  par : ∀ (j t : Nat), tl[j]? = some t → ∃ (i x y : Nat) (p : Nat × Nat), i ≤ j ∧ xs[i]? = some y ∧ xs[j + 1]? = some x ∧ ts[t]? = some p ∧ ((p.1 = x ∧ p.2 = y) ∨ (p.1 = y ∧ p.2 = x))
  tnd : tl.Nodup
/-- the last ties of the ways -/
def lastT (F : List WR) : List Nat := (F.drop 1).map fun e => (e.2.getLast?.getD 0).toNat
theorem Fst.tree {ts : Prs} {n h : Nat} {F : List WR} (hW : Wv n ts) (hn : h < n) (f : Fst (actW ts none) ts.length (h : Int) F) : Tree ts h (F.map fun e => e.1.toNat) (lastT F) := by
  have hh : 0 ≤ (h : Int) ∧ (h : Int) < (n : Int) := by omega
  have lF : 0 < F.length := lt_at f.h0
  have pos : ∀ (j : Nat) x r, F[j]? = some (x, r) → 0 ≤ x := fun j x r e => by
    obtain ⟨p1, _⟩ := f.pth j x r e
    rw [p1]; exact (pathW_rng (bar := none) hW r _ hh).1
  have xsAt : ∀ (j : Nat) x r, F[j]? = some (x, r) → (F.map fun e => e.1.toNat)[j]? = some x.toNat := fun j x r e => map_at e
  have nd : (F.map fun e => e.1.toNat).Nodup := by
    have n1 := f.nd
    rw [List.nodup_iff_pairwise_ne, List.pairwise_map] at n1 ⊢
    refine n1.imp_of_mem fun {a b} ha hb hab => ?_
    obtain ⟨i, hi⟩ := List.getElem?_of_mem ha
    obtain ⟨k, hk⟩ := List.getElem?_of_mem hb
    have := pos i a.1 a.2 hi
    have := pos k b.1 b.2 hk
    omega
  have par : ∀ (j t : Nat), (lastT F)[j]? = some t → ∃ (i x y : Nat) (p : Nat × Nat), i ≤ j ∧ (F.map fun e => e.1.toNat)[i]? = some y ∧ (F.map fun e => e.1.toNat)[j + 1]? = some x ∧ ts[t]? = some p ∧ ((p.1 = x ∧ p.2 = y) ∨ (p.1 = y ∧ p.2 = x)) := fun j t e => by
    obtain ⟨⟨x, r⟩, hj, et⟩ := at_map e
    rw [List.getElem?_drop, Nat.add_comm] at hj
    obtain ⟨i, y, q, t', ij, hi, er, t0, t1, ea, ne⟩ := f.par hj (Nat.succ_pos _)
    have et' : t = t'.toNat := by
      rw [et]
      show (r.getLast?.getD 0).toNat = _
      rw [er, List.getLast?_concat]; rfl
    have hx := pos _ _ _ hj
    have hy := pos _ _ _ hi
    unfold actW at ea
    rw [← et'] at ea
    cases hp : ts[t]? with
    | none =>
      rw [hp] at ea
      exact absurd ea ne
    | some p =>
      rw [hp] at ea
      dsimp only at ea
      split at ea
      · rename_i hc
        refine ⟨i, x.toNat, y.toNat, p, by omega, xsAt _ _ _ hi, xsAt _ _ _ hj, rfl, ?_⟩
        have hi' := hc.1
        unfold inc at hi'
        simp only [Bool.or_eq_true, decide_eq_true_eq] at hi'
        unfold oth at ea
        have := hW.at_ hp
        omega
      · exact absurd ea ne
  refine ⟨nd, by rw [xsAt 0 _ _ f.h0]; rfl, by unfold lastT; rw [List.length_map, List.length_map, List.length_drop]; omega, fun x => ?_, par, ?_⟩
  · rw [List.mem_map]
    constructor
    · rintro ⟨⟨y, r⟩, hy, rfl⟩
      obtain ⟨j, hj⟩ := List.getElem?_of_mem hy
      obtain ⟨p1, p2, _⟩ := f.pth j y r hj
      have c := path_cn hW r (h : Int) hh
      rw [Int.toNat_natCast, ← p1] at c
      exact c
    · intro c
      obtain ⟨r, r1, r2⟩ := cn_path hW c
      obtain ⟨j, r', e1, _⟩ := f.all r r1
      rw [r2] at e1
      exact ⟨_, List.mem_of_getElem? e1, Int.toNat_natCast x⟩
  · rw [List.nodup_iff_pairwise_ne, List.pairwise_iff_getElem]
    intro a b ha hb ab e
    obtain ⟨i1, x1, y1, p1, g1, g2, g3, g4, g5⟩ := par a _ (List.getElem?_eq_getElem ha)
    obtain ⟨i2, x2, y2, p2, k1, k2, k3, k4, k5⟩ := par b _ (List.getElem?_eq_getElem hb)
    rw [e] at g4
    obtain rfl := lookup_same g4 k4
    have inj : ∀ {i j v : Nat}, (F.map fun e => e.1.toNat)[i]? = some v → (F.map fun e => e.1.toNat)[j]? = some v → i = j := fun {i j v} e1 e2 => by
      rw [List.nodup_iff_pairwise_ne, List.pairwise_iff_getElem] at nd
      have l1 := lt_at e1
      have l2 := lt_at e2
      rw [List.getElem?_eq_getElem l1] at e1
      rw [List.getElem?_eq_getElem l2] at e2
      by_cases c1 : i < j
      · exact absurd ((Option.some.inj e1).trans (Option.some.inj e2).symm) (nd i j l1 l2 c1)
      · by_cases c2 : j < i
        · exact absurd ((Option.some.inj e2).trans (Option.some.inj e1).symm) (nd j i l2 l1 c2)
        · omega
    have xx : x1 ≠ x2 := fun z => by
      rw [z] at g3
      have := inj g3 k3
      omega
    obtain ⟨z1, z2⟩ : x1 = y2 ∧ x2 = y1 := by
      rcases g5 with ⟨u1, u2⟩ | ⟨u1, u2⟩ <;> rcases k5 with ⟨v1, v2⟩ | ⟨v1, v2⟩ <;> omega
    rw [← z2] at g2
    have := inj g2 k3
    omega
/-! ### webs without rings -/
def lat (rk : Nat → Nat) (p : Nat × Nat) : Nat := if rk p.2 < rk p.1 then p.1 else p.2
structure Fo (rk : Nat → Nat) (ts : Prs) : Prop where
  ne : ∀ p ∈ ts, rk p.1 ≠ rk p.2
  nd : (ts.map (lat rk)).Nodup
theorem tIn_nd (ts : Prs) (ns : List Nat) : (tIn ts ns).Nodup := by
  unfold tIn tInK
  have h : ((ts.take ts.length).zipIdx.map (·.2)).Nodup := by
    rw [List.zipIdx_map_snd]
    exact List.nodup_range'
  exact h.sublist (List.Sublist.map _ List.filter_sublist)
theorem exists_min (rk : Nat → Nat) : ∀ ns : List Nat, ns ≠ [] → ∃ x ∈ ns, ∀ y ∈ ns, rk x ≤ rk y
  | [], h => absurd rfl h
  | [a], _ => ⟨a, List.mem_singleton.mpr rfl, fun y hy => by rw [List.mem_singleton.mp hy]; exact Nat.le_refl _⟩
  | a :: b :: r, _ => by
    obtain ⟨x, hx, m⟩ := exists_min rk (b :: r) (List.cons_ne_nil _ _)
    by_cases c : rk a ≤ rk x
    · exact ⟨a, List.mem_cons_self, fun y hy => by
        rcases List.mem_cons.mp hy with e | e
        · rw [e]; exact Nat.le_refl _
        · exact Nat.le_trans c (m y e)⟩
    · exact ⟨x, List.mem_cons_of_mem _ hx, fun y hy => by
        rcases List.mem_cons.mp hy with e | e
        · rw [e]; omega
        · exact m y e⟩
/-- a part of such a web has fewer ties than houses -/
theorem Fo.few {rk : Nat → Nat} {ts : Prs} {h : Nat} {ns : List Nat} (fo : Fo rk ts) (mem : ∀ x, x ∈ ns ↔ Cn ts h x) : (tIn ts ns).length + 1 ≤ ns.length := by
  have hh : h ∈ ns := (mem h).mpr .refl
  obtain ⟨m, hm, mn⟩ := exists_min rk ns fun z => by rw [z] at hh; cases hh
  have l0 : 0 < ns.length := List.length_pos_of_mem hh
  have nd : ((tIn ts ns).map fun t => lat rk (ts.getD t (0, 0))).Nodup := by
    rw [List.nodup_iff_pairwise_ne, List.pairwise_map]
    have := tIn_nd ts ns
    rw [List.nodup_iff_pairwise_ne] at this
    refine this.imp_of_mem fun {a b} ha hb hab e => ?_
    obtain ⟨p, hp, _⟩ := tIn_mem.mp ha
    obtain ⟨q, hq, _⟩ := tIn_mem.mp hb
    rw [List.getD_eq_getElem?_getD, List.getD_eq_getElem?_getD, hp, hq] at e
    have n1 := fo.nd
    rw [List.nodup_iff_pairwise_ne, List.pairwise_map, List.pairwise_iff_getElem] at n1
    have l1 := lt_at hp
    have l2 := lt_at hq
    rw [List.getElem?_eq_getElem l1] at hp
    rw [List.getElem?_eq_getElem l2] at hq
    replace e : lat rk p = lat rk q := e
    by_cases c1 : a < b
    · have := n1 a b l1 l2 c1
      rw [Option.some.inj hp, Option.some.inj hq] at this
      exact this e
    · have := n1 b a l2 l1 (by omega)
      rw [Option.some.inj hp, Option.some.inj hq] at this
      exact this e.symm
  have := nodup_sub _ (ns.erase m) nd fun y hy => by
    obtain ⟨t, ht, rfl⟩ := List.mem_map.mp hy
    obtain ⟨p, hp, hpn⟩ := tIn_mem.mp ht
    rw [List.getD_eq_getElem?_getD, hp]
    show lat rk p ∈ _
    have hpm := List.mem_of_getElem? hp
    have hp2 : p.2 ∈ ns := (mem _).mpr (((mem _).mp hpn).step ⟨p, hpm, .inl ⟨rfl, rfl⟩⟩)
    have ne := fo.ne p hpm
    have m1 := mn _ hpn
    have m2 := mn _ hp2
    unfold lat
    by_cases c : rk p.2 < rk p.1
    · rw [if_pos c]
      exact (List.mem_erase_of_ne fun z => by rw [z] at c; omega).mpr hpn
    · rw [if_neg c]
      exact (List.mem_erase_of_ne fun z => by rw [z] at c ne; omega).mpr hp2
  rw [List.length_map, List.length_erase_of_mem hm] at this
  omega
theorem Fo.perm {rk : Nat → Nat} {a b : Prs} (f : Fo rk a) (h : a.Perm b) : Fo rk b := ⟨fun p hp => f.ne p (h.mem_iff.mpr hp), ((h.map _).nodup_iff).mp f.nd⟩
/-- the ties of the part are those by which the ways lead -/
theorem Tree.ties {rk : Nat → Nat} {ts : Prs} {h : Nat} {xs tl ns : List Nat} (T : Tree ts h xs tl) (fo : Fo rk ts) (pl : PartL ts h ns) : tl.Perm (tIn ts ns) ∧ xs.Perm ns ∧ (tIn ts ns).length + 1 = ns.length := by
  have nn : ns.Nodup := pl.asc.imp fun {a b} h => by omega
  have px : xs.Perm ns := (List.perm_ext_iff_of_nodup T.nd nn).mpr fun x => by rw [T.mem, pl.mem]
  have few := fo.few pl.mem
  have lx := px.length_eq
  have sub : ∀ t ∈ tl, t ∈ tIn ts ns := fun t ht => by
    obtain ⟨j, hj⟩ := List.getElem?_of_mem ht
    obtain ⟨i, x, y, p, _, g2, g3, g4, g5⟩ := T.par j t hj
    have hx : x ∈ ns := px.mem_iff.mp (List.mem_of_getElem? g3)
    have hy : y ∈ ns := px.mem_iff.mp (List.mem_of_getElem? g2)
    refine tIn_mem.mpr ⟨p, g4, ?_⟩
    rcases g5 with ⟨e, _⟩ | ⟨e, _⟩ <;> rw [e] <;> assumption
  have := T.len
  have pt := nodup_perm T.tnd (tIn_nd ts ns) sub (by omega)
  exact ⟨pt, px, by have := pt.length_eq; omega⟩
end K1
namespace K1
open PySem PySem.Spec PyProof.Rows L2
/-! ### numbers of counters -/
structure Cn2 (mg : Str → Option Value) : Prop where
  mod : ∃ t, mg "MOST_MODULUS" = some (.int 1000000 t)
  num : ∃ t, mg "MOST_NUMBER" = some (.int 1000000000000000000 t)
def modB : V → Bool | .int i => decide (0 ≤ i) && decide (i < 1000001) && !decide (i = 1) | _ => false
def amtB : V → Bool | .int i => decide (-1000000000000000000 ≤ i) && decide (i ≤ 1000000000000000000) | _ => false
def cntB (m : Int) (v : V) : Bool := if m = 0 then amtB v else belowB v m
def cofB (m k : Int) (o : Option (List V)) : Bool := seqB o k k && (o.getD []).all (cntB m)
def cby (m x : Int) : Int := if m = 0 then x else x % m
def spNeedM (K : PySem.W.Frag) (C : Addr) : Sp := fun vs H Q E => ∃ v o, vs = [v] ∧ KV K H v o ∧ (modB v = true → Q v H) ∧ (modB v = false → Rz C "at" v H E)
def spAmt (K : PySem.W.Frag) : Sp := fun vs H Q _ => ∃ v o, vs = [v] ∧ KV K H v o ∧ Q (.bl (amtB v)) H
def spIsCnt (K : PySem.W.Frag) : Sp := fun vs H Q _ => ∃ m v o, vs = [.int m, v] ∧ KV K H v o ∧ Q (.bl (cntB m v)) H
def spCOf (K : PySem.W.Frag) (C : Addr) : Sp := fun vs H Q E => ∃ (m : Int) (k : Int) (v : V) (o : Option (List V)), vs = [.int m, .int k, v] ∧ k ≤ 1000 ∧ Rw K H v o ∧ (cofB m k o = false → Rz C "at" v H E) ∧ (cofB m k o = true → ∀ xs, o = some xs → ∀ p H', Same H H' → H' p = some (.tup xs) → Q (.ref p) H')
def spCBy : Sp := fun vs H Q _ => ∃ (m x : Int), vs = [.int m, .int x] ∧ 0 ≤ m ∧ Q (.int (cby m x)) H
section
variable {P : Program} {w : World} {K : PySem.W.Frag} {mg : Str → Option Value} {base : Heap}
theorem scNM : FnScope ["value"] ["value"] (defScope sNeedM) := ⟨rfl, rfl, rfl, by decide +kernel, rfl, by decide +kernel, by decide +kernel⟩
theorem ok_needM {f fB C cI : Addr} {fd fdB : FuncData} {bm : List Value} {ql : Str} (D : Df K mg "need_modulus" sNeedM ["value"] f fd) (DB : Df K mg "is_below" sBelow ["value", "limit"] fB fdB) (c : Cn2 mg) (TX : LAt.Txt K mg "Refused" ql bm C cI)
    (GB : FnOk P w K mg base CX0 2 fB fdB ["value", "limit"] (spBelow K)) : FnOk P w K mg base (L2.CX P w) 3 f fd ["value"] (spNeedM K C) := by
  obtain ⟨t1, hc1⟩ := c.mod
  refine D.F.okX scNM (fun vs H Q E h => ?_) (fun cdv A outer s H vs Q E hr h => ?_)
  · obtain ⟨v, o, rfl, _⟩ := h
    rfl
  · obtain ⟨v, o, rfl, kv, q1, q2⟩ := h
    refine ⟨_, pss_cons (ps_if (PW.pt (pw_or (pt_not (pt_val (pc DB GB hr pass0 (pa_cons (pv 0) (pa_cons (pe_op op_add (pe_glob (v := .int 1000000) (by rfl) hc1 ⟨_, rfl⟩) pe_int) pa_nil))))) (pw_or1 (pt_cmpR op_eq (pv 0) pe_int (nomark _))))) (pss_one (ps_raise_LAt rfl TX hr (takes_of rfl rfl rfl rfl) (pa_cons (pv 0) pa_nil))) pss_nil) (pss_one (ps_ret (pv 0))), ?_⟩
    refine ⟨_, rfl, _, _, rfl, rfl, v, o, _, rfl, kv, _, rfl, ifD (fun e => ?_) fun e => ?_⟩
    · refine iteT ⟨_, rfl, _, rfl, fun d hd => q2 ?_ d _ (same_new hd) hd upd_same⟩
      replace e : belowB v 1000001 = false := by simpa using e
      cases v <;> first | rfl | skip
      rename_i i
      have e' : (decide (0 ≤ i) && decide (i < 1000001)) = false := e
      show (decide (0 ≤ i) && decide (i < 1000001) && !decide (i = 1)) = false
      rw [e']; rfl
    · replace e : belowB v 1000001 = true := by simpa using e
      obtain ⟨i, rfl⟩ : ∃ i, v = .int i := by
        cases v <;> first | exact ⟨_, rfl⟩ | cases e
      have e' : (decide (0 ≤ i) && decide (i < 1000001)) = true := e
      refine ⟨_, rfl, rfl, _, rfl, ifD (fun e2 => ?_) fun e2 => ?_⟩
      · refine ⟨_, rfl, _, rfl, fun d hd => q2 ?_ d _ (same_new hd) hd upd_same⟩
        show (decide (0 ≤ i) && decide (i < 1000001) && !decide (i = 1)) = false
        have e3 : i = 1 := by
          have z : V.int i = V.int 1 := of_decide_eq_true e2
          injection z
        rw [e', decide_eq_true e3]; rfl
      · refine ⟨_, rfl, q1 ?_⟩
        show (decide (0 ≤ i) && decide (i < 1000001) && !decide (i = 1)) = true
        have e3 : ¬ i = 1 := fun z => by
          have y : ¬ (V.int i = V.int 1) := of_decide_eq_false e2
          exact y (by rw [z])
        rw [e', decide_eq_false e3]; rfl
theorem scAm : FnScope ["value"] ["value"] (defScope sAmt) := ⟨rfl, rfl, rfl, by decide +kernel, rfl, by decide +kernel, by decide +kernel⟩
theorem ok_amt {f fW : Addr} {fd fdW : FuncData} (D : Df K mg "is_amount" sAmt ["value"] f fd) (DW : Df K mg "is_whole" sWhole ["value"] fW fdW) (c : Cn2 mg) (GW : FnOk P w K mg base CX0 1 fW fdW ["value"] (spWhole K)) : FnOk P w K mg base CX0 2 f fd ["value"] (spAmt K) := by
  obtain ⟨t1, hc1⟩ := c.num
  refine D.F.ok scAm (fun vs H Q E h => ?_) (fun cdv A outer s H vs Q E hr h => ?_)
  · obtain ⟨v, o, rfl, _⟩ := h
    rfl
  · obtain ⟨v, o, rfl, kv, q⟩ := h
    refine ⟨_, pss_one (ps_ret (pe_and (pc DW GW hr pass0 (pa_cons (pv 0) pa_nil)) (pe_one (pe_chain op_le op_le (pe_un un_neg (pe_glob (v := .int 1000000000000000000) (by rfl) hc1 ⟨_, rfl⟩)) (pv 0) (pe_glob (v := .int 1000000000000000000) (by rfl) hc1 ⟨_, rfl⟩))))), ?_⟩
    refine ⟨_, rfl, _, _, rfl, kv, _, rfl, ifD (fun e => ?_) fun e => ?_⟩
    · obtain ⟨i, rfl⟩ : ∃ i, v = .int i := by
        cases v <;> first | exact ⟨_, rfl⟩ | cases e
      refine ⟨_, rfl, _, rfl, _, _, rfl, rfl, _, rfl, ifD (fun e2 => ?_) fun e2 => ?_⟩
      · refine ⟨_, _, rfl, rfl, ?_⟩
        have z : decide (i ≤ 1000000000000000000) = amtB (.int i) := by
          show _ = (decide (-1000000000000000000 ≤ i) && decide (i ≤ 1000000000000000000))
          rw [e2]; rfl
        exact qbl z q
      · have z : false = amtB (.int i) := by
          show _ = (decide (-1000000000000000000 ≤ i) && decide (i ≤ 1000000000000000000))
          rw [e2]; rfl
        exact qbl z q
    · have z : false = amtB v := by cases v <;> first | rfl | cases e
      exact qbl z q
theorem scIC : FnScope ["modulus", "value"] ["modulus", "value"] (defScope sIsCnt) := ⟨rfl, rfl, rfl, by decide +kernel, rfl, by decide +kernel, by decide +kernel⟩
theorem ok_isCnt {f fA fB : Addr} {fd fdA fdB : FuncData} (D : Df K mg "is_counter" sIsCnt ["modulus", "value"] f fd) (DA : Df K mg "is_amount" sAmt ["value"] fA fdA) (DB : Df K mg "is_below" sBelow ["value", "limit"] fB fdB)
    (GA : FnOk P w K mg base CX0 2 fA fdA ["value"] (spAmt K)) (GB : FnOk P w K mg base CX0 2 fB fdB ["value", "limit"] (spBelow K)) : FnOk P w K mg base CX0 3 f fd ["modulus", "value"] (spIsCnt K) := by
  refine D.F.ok scIC (fun vs H Q E h => ?_) (fun cdv A outer s H vs Q E hr h => ?_)
  · obtain ⟨m, v, o, rfl, _⟩ := h
    rfl
  · obtain ⟨m, v, o, rfl, kv, q⟩ := h
    refine ⟨_, pss_one (ps_ret (pe_ifExp (pt_cmpR op_eq (pv 0) pe_int (nomark _)) (pc DA GA hr pass0 (pa_cons (pv 1) pa_nil)) (pc DB GB hr pass0 (pa_cons (pv 1) (pa_cons (pv 0) pa_nil))))), ?_⟩
    refine ⟨_, rfl, rfl, _, rfl, ifD (fun e => ?_) fun e => ?_⟩
    · have e3 : m = 0 := by
        have z : V.int m = V.int 0 := of_decide_eq_true e
        injection z
      refine ⟨_, rfl, v, o, rfl, kv, qbl ?_ q⟩
      unfold cntB
      rw [if_pos e3]
    · have e3 : ¬ m = 0 := fun z => by
        have y : ¬ (V.int m = V.int 0) := of_decide_eq_false e
        exact y (by rw [z])
      refine ⟨_, rfl, _, rfl, v, o, m, rfl, kv, qbl ?_ q⟩
      unfold cntB
      rw [if_neg e3]
theorem scCB : FnScope ["modulus", "number"] ["modulus", "number"] (defScope sCBy) := ⟨rfl, rfl, rfl, by decide +kernel, rfl, by decide +kernel, by decide +kernel⟩
theorem ok_cby {f : Addr} {fd : FuncData} (D : Df K mg "counted_by" sCBy ["modulus", "number"] f fd) : FnOk P w K mg base CX0 1 f fd ["modulus", "number"] spCBy := by
  refine D.F.ok scCB (fun vs H Q E h => ?_) (fun cdv A outer s H vs Q E hr h => ?_)
  · obtain ⟨m, x, rfl, _⟩ := h
    rfl
  · obtain ⟨m, x, rfl, h0, q⟩ := h
    refine ⟨_, pss_one (ps_ret (pe_ifExp (pt_cmpR op_eq (pv 0) pe_int (nomark _)) (pv 1) (pe_op op_mod (pv 1) (pv 0)))), ?_⟩
    refine ⟨_, rfl, rfl, _, rfl, ifD (fun e => ?_) fun e => ?_⟩
    · have e3 : m = 0 := by
        have z : V.int m = V.int 0 := of_decide_eq_true e
        injection z
      refine ⟨_, rfl, ?_⟩
      unfold cby at q
      rw [if_pos e3] at q
      exact q
    · have e3 : ¬ m = 0 := fun z => by
        have y : ¬ (V.int m = V.int 0) := of_decide_eq_false e
        exact y (by rw [z])
      unfold cby at q
      rw [if_neg e3] at q
      exact ⟨_, rfl, _, rfl, _, _, rfl, rfl, by omega, q⟩
abbrev nCO : List Str := ["modulus", "many", "value", "item"]
theorem scCO : FnScope nCO ["modulus", "many", "value"] (defScope sCOf) := ⟨rfl, rfl, rfl, by decide +kernel, rfl, by decide +kernel, by decide +kernel⟩
theorem ok_cof {f fS fI C cI : Addr} {fd fdS fdI : FuncData} {bm : List Value} {ql : Str} (D : Df K mg "counters_of" sCOf ["modulus", "many", "value"] f fd) (DS : Df K mg "is_sequence" sSeq ["value", "least", "most"] fS fdS) (DI : Df K mg "is_counter" sIsCnt ["modulus", "value"] fI fdI) (B : Bt mg) (TX : LAt.Txt K mg "Refused" ql bm C cI)
    (GS : FnOk P w K mg base CX0 1 fS fdS ["value", "least", "most"] (spSeq K)) (GI : FnOk P w K mg base CX0 3 fI fdI ["modulus", "value"] (spIsCnt K)) : FnOk P w K mg base (L2.CX P w) 4 f fd ["modulus", "many", "value"] (spCOf K C) := by
  refine D.F.okX scCO (fun vs H Q E h => ?_) (fun cdv A outer s H vs Q E hr h => ?_)
  · obtain ⟨m, k, v, o, rfl, _⟩ := h
    rfl
  · obtain ⟨m, k, v, o, rfl, k1000, rw_, q1, q2⟩ := h
    refine ⟨_, pss_cons (ps_if (PW.pt (pw_or (pt_not (pt_val (pc DS GS (hr.mono (by decide)) pass0 (pa_cons (pv 2) (pa_cons (pv 1) (pa_cons (pv 1) pa_nil)))))) (pw_or1 (pt_not (pt_val (pe_callB (cr_all rfl) (by rfl) B.all (by decide +kernel) (pa_cons
        (pe_lc (own := [("item", 3)]) (g := gName 3) (tt := tYes) rfl scCO.nd (pi_seqK (K := K) rfl (pv 2)) (blkOk_by (N := nCO) (sc := defScope sCOf) (by decide +kernel)) (fun _ _ _ _ _ => pg_name (i := 3) scCO.nd rfl (Or.inl rfl)) (fun _ _ _ _ _ => pts_nil)
          (fun _ _ _ _ _ => pc DI GI hr pass0 (pa_cons (pv 0) (pa_cons (pv 3) pa_nil)))) pa_nil))))))) (pss_one (ps_raise_LAt rfl TX hr (takes_of rfl rfl rfl rfl) (pa_cons (pv 2) pa_nil))) pss_nil)
      (pss_one (ps_ret (pe_callTy call_tuple_of (by rfl) B.tuple PyProof.Rows.boot_tuple (pa_cons (pv 2) pa_nil)))), ?_⟩
    refine ⟨_, rfl, _, rfl, _, rfl, v, o, k, k, rfl, rw_.kv, fun H1 s1 => ⟨_, rfl, ifD (fun e => ?_) fun e => ?_⟩⟩
    · replace e : seqB o k k = false := by simpa using e
      have z : cofB m k o = false := by unfold cofB; rw [e]; rfl
      exact iteT ⟨_, rfl, _, rfl, fun d hd => q1 z d _ (s1.trans (same_new hd)) (s1.free hd) upd_same⟩
    · replace e : seqB o k k = true := by simpa using e
      cases o with
      | none => cases e
      | some xs =>
        obtain ⟨a, rfl, hS⟩ := rw_.kv.seqA
        have hks := rw_.ks xs rfl
        have hl : xs.length ≤ 1000 := by
          have z : (decide (k ≤ (xs.length : Int)) && decide ((xs.length : Int) ≤ k)) = true := e
          simp only [Bool.and_eq_true, decide_eq_true_eq] at z
          omega
        have eall : cofB m k (some xs) = (xs.map (cntB m)).all id := by
          unfold cofB
          rw [e, Bool.true_and, List.all_map]; rfl
        have emap : (xs.map fun x => V.bl (cntB m x)) = (xs.map (cntB m)).map V.bl := by rw [List.map_map]; rfl
        refine ⟨_, rfl, a, rfl, ?_⟩
        rcases hS.same s1 with hS1 | hS1
        · refine .inl ⟨xs, SqL.of hS1, fun D0 hD0 => lc_list (K := K) (a := a) (xs := xs) (fun i H2 => Same H1 H2 ∧ H2 D0 = some (.lst ((xs.map fun x => V.bl (cntB m x)).take i))) ⟨same_new hD0, by rw [upd_same]; rfl⟩ (fun i H2 _ ⟨s2, _⟩ => SqL.of (s2 _ _ hS1)) ?_ ?_⟩
          · rintro i x H2 hx ⟨s2, hD⟩
            obtain ⟨o', kv'⟩ := hks x (List.mem_of_getElem? hx)
            refine ⟨rfl, _, rfl, _, rfl, m, x, o', rfl, kv'.same (s1.trans s2), _, hD, szl (by rw [List.length_take, List.length_map]; omega), fun c o e => ?_, ?_⟩
            · rw [upd_ne (ne_of_none e hD0)]
              exact s2 _ _ e
            · rw [upd_same, take_succ (map_at hx)]
          · rintro H2 ⟨s2, hD⟩
            rw [List.take_of_length_le (by rw [List.length_map]; exact Nat.le_refl _), emap] at hD
            refine ⟨D0, xs.map (cntB m), rfl, SqL.of hD, _, rfl, ?_⟩
            rw [← eall]
            refine ifD (fun e2 => ?_) fun e2 => ?_
            · have z : cofB m k (some xs) = false := by simpa using e2
              exact ⟨_, rfl, _, rfl, fun d hd => q1 z d _ ((s1.trans s2).trans (same_new hd)) ((s1.trans s2).free hd) upd_same⟩
            · have z : cofB m k (some xs) = true := by simpa using e2
              exact ⟨_, rfl, a, xs, rfl, .inl ⟨SqL.of (s2 _ _ hS1), fun l hl => q2 z xs rfl l _ ((s1.trans s2).trans (same_new hl)) upd_same⟩⟩
        · refine .inr ⟨xs, SqT.of hS1, fun D0 hD0 => lc_tup (K := K) (a := a) (xs := xs) (fun i H2 => Same H1 H2 ∧ H2 D0 = some (.lst ((xs.map fun x => V.bl (cntB m x)).take i))) ⟨same_new hD0, by rw [upd_same]; rfl⟩ (fun i H2 _ ⟨s2, _⟩ => SqT.of (s2 _ _ hS1)) ?_ ?_⟩
          · rintro i x H2 hx ⟨s2, hD⟩
            obtain ⟨o', kv'⟩ := hks x (List.mem_of_getElem? hx)
            refine ⟨rfl, _, rfl, _, rfl, m, x, o', rfl, kv'.same (s1.trans s2), _, hD, szl (by rw [List.length_take, List.length_map]; omega), fun c o e => ?_, ?_⟩
            · rw [upd_ne (ne_of_none e hD0)]
              exact s2 _ _ e
            · rw [upd_same, take_succ (map_at hx)]
          · rintro H2 ⟨s2, hD⟩
            rw [List.take_of_length_le (by rw [List.length_map]; exact Nat.le_refl _), emap] at hD
            refine ⟨D0, xs.map (cntB m), rfl, SqL.of hD, _, rfl, ?_⟩
            rw [← eall]
            refine ifD (fun e2 => ?_) fun e2 => ?_
            · have z : cofB m k (some xs) = false := by simpa using e2
              exact ⟨_, rfl, _, rfl, fun d hd => q1 z d _ ((s1.trans s2).trans (same_new hd)) ((s1.trans s2).free hd) upd_same⟩
            · have z : cofB m k (some xs) = true := by simpa using e2
              exact ⟨_, rfl, a, xs, rfl, .inr ⟨SqT.of (s2 _ _ hS1), q2 z xs rfl a _ (s1.trans s2) (s2 _ _ hS1)⟩⟩
end
end K1
namespace K1
open PySem PySem.Spec PyProof.Rows L2
/-! ### nets of counters -/
def nf (m : Int) (sa aa w : Addr) : List (Str × V) := [("modulus", .int m), ("states", .ref sa), ("archives", .ref aa), ("web", .ref w)]
theorem nf_m (m : Int) (sa aa w : Addr) : (nf m sa aa w).lookup ("modulus" : Str) = some (.int m) := by rfl
theorem nf_s (m : Int) (sa aa w : Addr) : (nf m sa aa w).lookup ("states" : Str) = some (.ref sa) := by rfl
theorem nf_a (m : Int) (sa aa w : Addr) : (nf m sa aa w).lookup ("archives" : Str) = some (.ref aa) := by rfl
theorem nf_w (m : Int) (sa aa w : Addr) : (nf m sa aa w).lookup ("web" : Str) = some (.ref w) := by rfl
theorem nf_ps (m : Int) (sa aa w x : Addr) : putF ("states" : Str) (.ref x) (nf m sa aa w) = nf m x aa w := by rfl
theorem nf_pa (m : Int) (sa aa w x : Addr) : putF ("archives" : Str) (.ref x) (nf m sa aa w) = nf m sa x w := by rfl
structure NetAt (N W : Addr) (H : Hp) (c : Addr) (m : Int) (ss ar : List Int) (w : Addr) (n : Nat) (ts : Prs) : Prop where
  ob : ∃ dx sa aa, H c = some (.ins N dx (nf m sa aa w)) ∧ H sa = some (.tup (vrow ss)) ∧ H aa = some (.tup (vrow ar))
  wb : WebAt W H w n ts
  ls : ss.length = n
  la : ar.length = ts.length
  m0 : 0 ≤ m
theorem NetAt.same {N W : Addr} {H H' : Hp} {c : Addr} {m : Int} {ss ar : List Int} {w : Addr} {n : Nat} {ts : Prs} (h : NetAt N W H c m ss ar w n ts) (s : Same H H') : NetAt N W H' c m ss ar w n ts :=
  ⟨let ⟨dx, sa, aa, h1, h2, h3⟩ := h.ob; ⟨dx, sa, aa, s _ _ h1, s _ _ h2, s _ _ h3⟩, h.wb.same s, h.ls, h.la, h.m0⟩
structure NcT (K : PySem.W.Frag) (mg : Str → Option Value) (N : Addr) : Prop where
  cl : Cls K N
  nM : NoAttr K N "modulus"
  nS : NoAttr K N "states"
  nA : NoAttr K N "archives"
  nW : NoAttr K N "web"
  g : mg "CounterNet" = some (.ref N)
/-- all stands but c -/
def But (c : Addr) (H H' : Hp) : Prop := ∀ b u, H b = some u → b ≠ c → H' b = some u
theorem But.refl {c : Addr} {H : Hp} : But c H H := fun _ _ e _ => e
theorem But.trans {c : Addr} {H H1 H2 : Hp} (a : But c H H1) (b : But c H1 H2) : But c H H2 := fun d u e n => b d u (a d u e n) n
theorem But.same {c : Addr} {H H1 H2 : Hp} (a : But c H H1) (s : Same H1 H2) : But c H H2 := fun d u e n => s _ _ (a d u e n)
theorem Same.but {c : Addr} {H H1 : Hp} (s : Same H H1) : But c H H1 := fun d u e _ => s _ _ e
theorem But.upd {c : Addr} {H : Hp} {o : HO} : But c H (upd H c o) := fun d u e n => by rw [upd_ne n]; exact e
theorem But.put {c : Addr} {H H' : Hp} {o : HO} (s : Same H H') : But c H (L2.upd H' c o) := fun d u e n => by rw [upd_ne n]; exact s _ _ e
/-- a web's things are no net -/
theorem WebAt.but {N W : Addr} {H H' : Hp} {c w : Addr} {n : Nat} {ts : Prs} {dx : Addr} {fs : List (Str × V)} (h : WebAt W H w n ts) (hc : H c = some (.ins N dx fs)) (nw : w ≠ c) (b : But c H H') : WebAt W H' w n ts := by
  obtain ⟨dx', ta, h1, as, h2, h3⟩ := h
  have nt : ∀ {a : Addr} {xs : List V}, H a = some (.tup xs) → a ≠ c := fun e z => by rw [z, hc] at e; cases e
  exact ⟨dx', ta, b _ _ h1 nw, as, b _ _ h2 (nt h2), h3.1, fun i a t e1 e2 => b _ _ (h3.2 i a t e1 e2) (nt (h3.2 i a t e1 e2))⟩
/-- an error, all but c as it was -/
def Rzx (C c : Addr) (f : Str) (v : V) (H : Hp) (E : XK) : Prop := ∀ d H', But c H H' → H d = none → H' d = some (.xd [(f, v)]) → E (.ref C) (some d) H'
def spCInit (K : PySem.W.Frag) (N W C : Addr) : Sp := fun vs H Q E => ∃ (c dx w : Addr) (vm vst va : V) (om o1 o2 : Option (List V)) (n : Nat) (ts : Prs), vs = [.ref c, .ref w, vm, vst, va] ∧ H c = some (.ins N dx []) ∧ WebAt W H w n ts ∧ w ≠ c ∧ Wv n ts ∧ KV K H vm om ∧ Rw K H vst o1 ∧ Rw K H va o2 ∧
  (modB vm = false → Rzx C c "at" vm H E) ∧ (∀ m, vm = .int m → modB vm = true → (cofB m n o1 = false → Rzx C c "at" vst H E) ∧ (cofB m n o1 = true → (cofB m ts.length o2 = false → Rzx C c "at" va H E) ∧
    (cofB m ts.length o2 = true → ∀ ss ar, o1 = some (vrow ss) → o2 = some (vrow ar) → ∀ H', But c H H' → NetAt N W H' c m ss ar w n ts → Q .non H')))
def metN (m : Int) (ss ar : List Int) (p : Nat × Nat) (t : Nat) : Int := cby m (ss.getD p.1 0 + ss.getD p.2 0 - ar.getD t 0)
def spMeet (K : PySem.W.Frag) (N W CT : Addr) : Sp := fun vs H Q E => ∃ (c w : Addr) (v : V) (o1 : Option (List V)) (m : Int) (ss ar : List Int) (n : Nat) (ts : Prs), vs = [.ref c, v] ∧ NetAt N W H c m ss ar w n ts ∧ w ≠ c ∧ Wv n ts ∧ KV K H v o1 ∧
  (belowB v (ts.length : Int) = false → Rz CT "tie" v H E) ∧ (∀ (t : Nat) p, v = .int (t : Int) → ts[t]? = some p → ∀ H', But c H H' → NetAt N W H' c m ((ss.set p.1 (metN m ss ar p t)).set p.2 (metN m ss ar p t)) (ar.set t (metN m ss ar p t)) w n ts → Q (.int (metN m ss ar p t)) H')
def bookN (m : Int) (ss ar : List Int) (ts : Prs) (ns : List Nat) : Int := cby m ((ns.map fun x => ss.getD x 0).sum - ((tIn ts ns).map fun t => ar.getD t 0).sum)
def spBook (K : PySem.W.Frag) (N W CH : Addr) : Sp := fun vs H Q E => ∃ (c w : Addr) (v : V) (o1 : Option (List V)) (m : Int) (ss ar : List Int) (n : Nat) (ts : Prs), vs = [.ref c, v] ∧ NetAt N W H c m ss ar w n ts ∧ Wv n ts ∧ KV K H v o1 ∧
  (belowB v (n : Int) = false → Rz CH "house" v H E) ∧ (∀ h : Nat, v = .int (h : Int) → h < n → ∀ ns H', Same H H' → PartL ts h ns → Q (.int (bookN m ss ar ts ns)) H')
theorem below_nat {v : V} {n : Nat} (hb : belowB v (n : Int) = true) : ∃ h : Nat, v = .int (h : Int) ∧ h < n := by
  cases v <;> first | (cases hb; done) | skip
  rename_i i
  have z : (decide (0 ≤ i) && decide (i < (n : Int))) = true := hb
  simp only [Bool.and_eq_true, decide_eq_true_eq] at z
  exact ⟨i.toNat, by congr 1; omega, by omega⟩
theorem NetAt.upd {N W : Addr} {H H' : Hp} {c w dx sa aa : Addr} {m : Int} {ss ar ss' ar' : List Int} {n : Nat} {ts : Prs} (h : NetAt N W H c m ss ar w n ts) (nw : w ≠ c) (s : Same H H') (h1 : H' sa = some (.tup (vrow ss'))) (h2 : H' aa = some (.tup (vrow ar'))) (l1 : ss'.length = n) (l2 : ar'.length = ts.length) :
    NetAt N W (L2.upd H' c (.ins N dx (nf m sa aa w))) c m ss' ar' w n ts := by
  obtain ⟨dx0, sa0, aa0, g1, g2, g3⟩ := h.ob
  have g1' := s _ _ g1
  have nt : ∀ {a : Addr} {xs : List V}, H' a = some (.tup xs) → a ≠ c := fun e z => by rw [z, g1'] at e; cases e
  exact ⟨⟨dx, sa, aa, upd_same, by rw [upd_ne (nt h1)]; exact h1, by rw [upd_ne (nt h2)]; exact h2⟩, (h.wb.same s).but g1' nw But.upd, l1, l2, h.m0⟩
section
variable {P : Program} {w : World} {K : PySem.W.Frag} {mg : Str → Option Value} {base : Heap}
theorem cof_ints {m k : Int} {xs : List V} (h : cofB m k (some xs) = true) : ∃ ss : List Int, xs = vrow ss ∧ (ss.length : Int) = k := by
  unfold cofB at h
  simp only [Bool.and_eq_true, Option.getD_some, List.all_eq_true] at h
  obtain ⟨h1, h2⟩ := h
  have z : (decide (k ≤ (xs.length : Int)) && decide ((xs.length : Int) ≤ k)) = true := h1
  simp only [Bool.and_eq_true, decide_eq_true_eq] at z
  have key : ∀ ys : List V, (∀ x ∈ ys, cntB m x = true) → ∃ ss : List Int, ys = vrow ss := fun ys => by
    induction ys with
    | nil => intro _; exact ⟨[], rfl⟩
    | cons y r ih =>
      intro hy
      obtain ⟨ss, rfl⟩ := ih fun x hx => hy x (List.mem_cons_of_mem _ hx)
      have hc := hy y List.mem_cons_self
      obtain ⟨i, rfl⟩ : ∃ i, y = .int i := by
        unfold cntB at hc
        cases y <;> first | exact ⟨_, rfl⟩ | skip
        all_goals (split at hc <;> cases hc)
      exact ⟨i :: ss, rfl⟩
  obtain ⟨ss, rfl⟩ := key xs h2
  rw [vrow_len] at z
  exact ⟨ss, rfl, by omega⟩
theorem scCI : FnScope ["self", "web", "modulus", "states", "archives"] ["self", "web", "modulus", "states", "archives"] (defScope sCInit) := ⟨rfl, rfl, rfl, by decide +kernel, rfl, by decide +kernel, by decide +kernel⟩
theorem ok_cinit {f fM fO C W N : Addr} {fd fdM fdO : FuncData} (F : Fun K "__init__" "CounterNet.__init__" sCInit f fd) (DM : Df K mg "need_modulus" sNeedM ["value"] fM fdM) (DO : Df K mg "counters_of" sCOf ["modulus", "many", "value"] fO fdO) (B : Bt mg) (T : NcT K mg N) (TW : WcT K mg W)
    (GM : FnOk P w K mg base (L2.CX P w) 3 fM fdM ["value"] (spNeedM K C)) (GO : FnOk P w K mg base (L2.CX P w) 4 fO fdO ["modulus", "many", "value"] (spCOf K C)) : FnOk P w K mg base (L2.CX P w) 5 f fd ["self", "web", "modulus", "states", "archives"] (spCInit K N W C) := by
  refine F.okX scCI (fun vs H Q E h => ?_) (fun cdv A outer s H vs Q E hr h => ?_)
  · obtain ⟨c, dx, w, vm, vst, va, om, o1, o2, n, ts, rfl, _⟩ := h
    rfl
  · obtain ⟨c, dx, w, vm, vst, va, om, o1, o2, n, ts, rfl, hc, hw, nw, hW, kvm, r1, r2, q1, q2⟩ := h
    refine ⟨_, pss_cons (ps_fld (pv 0) (pc DM GM (hr.mono (by decide)) (pass1 (takes_of rfl rfl rfl rfl)) (pa_cons (pv 2) pa_nil)) rfl)
      (pss_cons (ps_fld (pv 0) (pc DO GO hr (pass1 (takes_of rfl rfl rfl rfl)) (pa_cons (pv 2) (pa_cons (pe_fld (pv 1) rfl) (pa_cons (pv 3) pa_nil)))) rfl)
      (pss_cons (ps_fld (pv 0) (pc DO GO hr (pass1 (takes_of rfl rfl rfl rfl)) (pa_cons (pv 2) (pa_cons (pe_callB call_len_seq (by rfl) B.len PySem.boot_len (pa_cons (pe_fld (pv 1) rfl) pa_nil)) (pa_cons (pv 4) pa_nil)))) rfl)
      (pss_one (ps_fld (pv 0) (pv 1) rfl)))), ?_⟩
    have n12 := hW.n12
    have t20 := hW.t20
    refine ⟨_, rfl, vm, om, rfl, kvm, fun hm => ?_, fun hm d H' sm hd he => q1 hm d H' (Same.but sm) hd he⟩
    obtain ⟨m, rfl⟩ : ∃ m, vm = .int m := by
      cases vm <;> first | exact ⟨_, rfl⟩ | cases hm
    have m0 : 0 ≤ m := by
      have z : (decide (0 ≤ m) && decide (m < 1000001) && !decide (m = 1)) = true := hm
      simp only [Bool.and_eq_true, decide_eq_true_eq] at z
      exact z.1.1
    obtain ⟨qa, qb⟩ := q2 m rfl hm
    refine ⟨_, rfl, c, N, dx, [], rfl, hc, T.cl, T.nM, (by show 0 < 1000; decide), ?_⟩
    have hc1 : (upd H c (.ins N dx (putF "modulus" (.int m) []))) c = some (.ins N dx (putF "modulus" (.int m) [])) := upd_same
    have b1 : But c H (upd H c (.ins N dx (putF "modulus" (.int m) []))) := But.upd
    generalize upd H c (.ins N dx (putF "modulus" (.int m) [])) = H1 at hc1 b1 ⊢
    have nc : ∀ {a : Addr} {o : HO}, H a = some o → (∀ dx fs, o ≠ .ins N dx fs) → a ≠ c := fun e ne z => by
      rw [z, hc] at e
      exact ne _ _ (Option.some.inj e).symm
    have hw1 := hw.but hc nw b1
    have kv1 : ∀ {v : V} {o : Option (List V)}, Rw K H v o → Rw K H1 v o := fun {v o} r => by
      have kk : ∀ {v : V} {o : Option (List V)}, KV K H v o → KV K H1 v o := fun {v o} k => by
        cases k with
        | int i => exact .int i
        | bl b => exact .bl b
        | non => exact .non
        | str x => exact .str x
        | lst h => exact .lst (b1 _ _ h (nc h fun _ _ z => by cases z))
        | tup h => exact .tup (b1 _ _ h (nc h fun _ _ z => by cases z))
      exact ⟨kk r.kv, fun ys e y hy => let ⟨o', k'⟩ := r.ks ys e y hy; ⟨o', kk k'⟩⟩
    have r1' := kv1 r1
    have r2' := kv1 r2
    obtain ⟨dxw, ta, w1, tas, w2, w3⟩ := id hw1
    have hfree : ∀ {d : Addr}, H1 d = none → H d = none := fun {d} hd => by
      by_cases z : d = c
      · rw [z, hc1] at hd; cases hd
      · cases e : H d with
        | none => rfl
        | some u => rw [b1 _ _ e z] at hd; cases hd
    refine ⟨_, rfl, _, rfl, w, W, dxw, _, _, rfl, w1, TW.cl, TW.nH, wf_h _ _, _, rfl, m, (n : Int), vst, o1, rfl, by omega, r1', fun hf d H' sm hd he => qa hf d H' (b1.same sm) (hfree hd) he, fun ht xs exs sa H2 s2 hsa => ?_⟩
    obtain ⟨qc, qd⟩ := qb ht
    refine ⟨_, rfl, c, N, dx, _, rfl, s2 _ _ hc1, T.cl, T.nS, (by show 1 < 1000; decide), ?_⟩
    generalize hH3 : upd H2 c (.ins N dx (putF "states" (.ref sa) (putF "modulus" (.int m) []))) = H3
    have hc3 : H3 c = some (.ins N dx (putF "states" (.ref sa) (putF "modulus" (.int m) []))) := by rw [← hH3]; exact upd_same
    have b3 : But c H1 H3 := by rw [← hH3]; exact But.put s2
    have nsa : sa ≠ c := fun z => by rw [z, s2 _ _ hc1] at hsa; cases hsa
    have hsa3 : H3 sa = some (.tup xs) := by rw [← hH3, upd_ne nsa]; exact hsa
    have nt1 : ∀ {a : Addr} {xs : List V}, H1 a = some (.tup xs) → a ≠ c := fun e z => by rw [z, hc1] at e; cases e
    have hfree3 : ∀ {d : Addr}, H3 d = none → H1 d = none := fun {d} hd => by
      by_cases z : d = c
      · rw [z, hc3] at hd; cases hd
      · cases e : H1 d with
        | none => rfl
        | some u => rw [b3 _ _ e z] at hd; cases hd
    have nc1 : ∀ {a : Addr} {o : HO}, H1 a = some o → (∀ dx fs, o ≠ .ins N dx fs) → a ≠ c := fun e ne z => by
      rw [z, hc1] at e
      exact ne _ _ (Option.some.inj e).symm
    have r23 : Rw K H3 va o2 := by
      have kk : ∀ {v : V} {o : Option (List V)}, KV K H1 v o → KV K H3 v o := fun {v o} k => by
        cases k with
        | int i => exact .int i
        | bl b => exact .bl b
        | non => exact .non
        | str x => exact .str x
        | lst h => exact .lst (b3 _ _ h (nc1 h fun _ _ z => by cases z))
        | tup h => exact .tup (b3 _ _ h (nc1 h fun _ _ z => by cases z))
      exact ⟨kk r2'.kv, fun ys e y hy => let ⟨o', k'⟩ := r2'.ks ys e y hy; ⟨o', kk k'⟩⟩
    have el : ((tas.map V.ref).length : Int) = (ts.length : Int) := by rw [List.length_map, w3.1]
    refine ⟨_, rfl, _, rfl, w, W, dxw, _, _, rfl, b3 _ _ w1 nw, TW.cl, TW.nT, wf_t _ _, ta, _, rfl, .inr (SqT.of (b3 _ _ w2 (nt1 w2))), ?_⟩
    rw [el]
    refine ⟨_, rfl, m, (ts.length : Int), va, o2, rfl, by omega, r23, fun hf d H' sm hd he => qc hf d H' ((b1.trans b3).same sm) (hfree (hfree3 hd)) he, fun ht2 ys eys aa H4 s4 haa => ?_⟩
    refine ⟨_, rfl, c, N, dx, _, rfl, s4 _ _ hc3, T.cl, T.nA, (by show 2 < 1000; decide), ?_⟩
    refine ⟨_, rfl, _, rfl, c, N, dx, _, rfl, upd_same, T.cl, T.nW, (by show 3 < 1000; decide), ?_⟩
    rw [upd_upd]
    have enf : putF ("web" : Str) (.ref w) (putF ("archives" : Str) (.ref aa) (putF ("states" : Str) (.ref sa) (putF ("modulus" : Str) (.int m) []))) = nf m sa aa w := by rfl
    rw [enf]
    subst exs
    subst eys
    obtain ⟨ss, rfl, ls⟩ := cof_ints ht
    obtain ⟨ar, rfl, la⟩ := cof_ints ht2
    have hc4 := s4 _ _ hc3
    have nt4 : ∀ {a : Addr} {xs : List V}, H4 a = some (.tup xs) → a ≠ c := fun e z => by rw [z, hc4] at e; cases e
    have hw4 : WebAt W (upd H4 c (.ins N dx (nf m sa aa w))) w n ts := (hw.but hc nw (b1.trans b3)).same s4 |>.but hc4 nw But.upd
    exact qd ht2 ss ar rfl rfl _ ((b1.trans b3).trans (But.put s4)) ⟨⟨dx, sa, aa, upd_same, by rw [upd_ne nsa]; exact s4 _ _ hsa3, by rw [upd_ne (nt4 haa)]; exact haa⟩, hw4, by omega, by omega, m0⟩
theorem scCM : FnScope ["self", "tie", "one", "other", "number"] ["self", "tie"] (defScope sCMeet) := ⟨rfl, rfl, rfl, by decide +kernel, rfl, by decide +kernel, by decide +kernel⟩
theorem ok_cmeet {f fT fC fR CT W N : Addr} {fd fdT fdC fdR : FuncData} (F : Fun K "meet" "CounterNet.meet" sCMeet f fd) (DT : Df K mg "need_tie" sNeedT ["web", "tie"] fT fdT) (DC : Df K mg "counted_by" sCBy ["modulus", "number"] fC fdC) (DR : Df K mg "replaced" sRepl ["items", "at", "item"] fR fdR)
    (T : NcT K mg N) (TW : WcT K mg W) (GT : FnOk P w K mg base (L2.CX P w) 3 fT fdT ["web", "tie"] (spNeedT K W CT)) (GC : FnOk P w K mg base CX0 1 fC fdC ["modulus", "number"] spCBy) (GR : FnOk P w K mg base CX0 1 fR fdR ["items", "at", "item"] spRepl) :
    FnOk P w K mg base (L2.CX P w) 4 f fd ["self", "tie"] (spMeet K N W CT) := by
  refine F.okX scCM (fun vs H Q E h => ?_) (fun cdv A outer s H vs Q E hr h => ?_)
  · obtain ⟨c, w, v, o1, m, ss, ar, n, ts, rfl, _⟩ := h
    rfl
  · obtain ⟨c, w, v, o1, m, ss, ar, n, ts, rfl, hN, nw, hW, kv, q1, q2⟩ := h
    have hr1 := hr.mono (show 1 ≤ 3 by decide)
    refine ⟨_, pss_cons (ps_asg (pe_ix ix_tup (pe_fld (pe_fld (pv 0) rfl) rfl) (pc DT GT hr (pass1 (takes_of rfl rfl rfl rfl)) (pa_cons (pe_fld (pv 0) rfl) (pa_cons (pv 1) pa_nil))) (fun _ _ => rfl)) (pg_tup rfl (pgs_cons (pg_name (i := 2) scCM.nd rfl (.inl rfl)) (pgs_cons (pg_name (i := 3) scCM.nd rfl (.inl rfl)) pgs_nil))))
      (pss_cons (ps_set (i := 4) scCM.nd rfl (.inl rfl) (pc DC GC hr1 pass0 (pa_cons (pe_fld (pv 0) rfl) (pa_cons (pe_op op_sub (pe_op op_add (pe_ix ix_tup (pe_fld (pv 0) rfl) (pv 2) (fun _ _ => rfl)) (pe_ix ix_tup (pe_fld (pv 0) rfl) (pv 3) (fun _ _ => rfl))) (pe_ix ix_tup (pe_fld (pv 0) rfl) (pv 1) (fun _ _ => rfl))) pa_nil))))
      (pss_cons (ps_fld (pv 0) (pc DR GR hr1 pass0 (pa_cons (pc DR GR hr1 pass0 (pa_cons (pe_fld (pv 0) rfl) (pa_cons (pv 2) (pa_cons (pv 4) pa_nil)))) (pa_cons (pv 3) (pa_cons (pv 4) pa_nil)))) rfl)
      (pss_cons (ps_fld (pv 0) (pc DR GR hr1 pass0 (pa_cons (pe_fld (pv 0) rfl) (pa_cons (pv 1) (pa_cons (pv 4) pa_nil)))) rfl)
      (pss_one (ps_ret (pv 4)))))), ?_⟩
    obtain ⟨dx, sa, aa, h1, h2, h3⟩ := hN.ob
    have n12 := hW.n12
    have t20 := hW.t20
    have ls := hN.ls
    have la := hN.la
    obtain ⟨dxw, ta, w1, tas, w2, w3⟩ := hN.wb
    refine ⟨_, rfl, c, N, dx, _, _, rfl, h1, T.cl, T.nW, nf_w _ _ _ _, w, W, dxw, _, _, rfl, w1, TW.cl, TW.nT, wf_t _ _, _, rfl, c, N, dx, _, _, rfl, h1, T.cl, T.nW, nf_w _ _ _ _, _, rfl, w, v, o1, n, ts, rfl, hN.wb, kv, fun hb => ?_, fun hb => q1 hb⟩
    obtain ⟨t, rfl, tn⟩ := below_nat hb
    obtain ⟨p, hp⟩ := ex_at tn
    obtain ⟨p1, p2, p3⟩ := hW.at_ hp
    obtain ⟨pa, ha, hpa⟩ := w3.get hp
    have hpa' : H pa = some (.tup [.int (p.1 : Int), .int (p.2 : Int)]) := hpa
    refine ⟨ta, _, (t : Int), .ref pa, rfl, rfl, SqT.of w2, at_i (map_at ha), pa, _, rfl, SqT.of hpa', rfl, _, _, rfl, _, _, rfl, rfl, ?_⟩
    have rdS : ∀ {j : Nat}, j < n → atI (vrow ss) (j : Int) = some (.int (ss.getD j 0)) := fun hj => at_i (vrow_get (by omega))
    have rdA : atI (vrow ar) (t : Int) = some (.int (ar.getD t 0)) := at_i (vrow_get (by omega))
    refine ⟨_, rfl, c, N, dx, _, _, rfl, h1, T.cl, T.nM, nf_m _ _ _ _, _, rfl, c, N, dx, _, _, rfl, h1, T.cl, T.nS, nf_s _ _ _ _, _, rfl, sa, _, (p.1 : Int), _, rfl, rfl, SqT.of h2, rdS p1, _, rfl, c, N, dx, _, _, rfl, h1, T.cl, T.nS, nf_s _ _ _ _, _, rfl, sa, _, (p.2 : Int), _, rfl, rfl, SqT.of h2, rdS p2, _, _, rfl, rfl,
      _, rfl, c, N, dx, _, _, rfl, h1, T.cl, T.nA, nf_a _ _ _ _, _, rfl, aa, _, (t : Int), _, rfl, rfl, SqT.of h3, rdA, _, _, rfl, rfl, m, _, rfl, hN.m0, ?_⟩
    have z := q2 t p rfl hp
    generalize hx : metN m ss ar p t = x at z
    have hx' : cby m (ss.getD p.1 0 + ss.getD p.2 0 - ar.getD t 0) = x := hx
    rw [hx']
    refine gn ?_
    dsimp only [List.set]
    refine ⟨_, rfl, c, N, dx, _, _, rfl, h1, T.cl, T.nS, nf_s _ _ _ _, _, rfl, _, rfl, sa, _, p.1, .int x, rfl, h2, by rw [vrow_len]; omega, by rw [vrow_len]; omega, fun y1 H1 s1 hy1 => ?_⟩
    rw [← vrow_set] at hy1
    refine ⟨_, rfl, _, rfl, y1, _, p.2, .int x, rfl, hy1, by rw [vrow_len, List.length_set]; omega, by rw [vrow_len, List.length_set]; omega, fun y2 H2 s2 hy2 => ?_⟩
    rw [← vrow_set] at hy2
    have s12 := s1.trans s2
    refine ⟨_, rfl, c, N, dx, _, rfl, s12 _ _ h1, T.cl, T.nS, (by show 4 < 1000; decide), ?_⟩
    rw [nf_ps]
    have N2 : NetAt N W (upd H2 c (.ins N dx (nf m y2 aa w))) c m ((ss.set p.1 x).set p.2 x) ar w n ts := hN.upd nw s12 hy2 (s12 _ _ h3) (by rw [List.length_set, List.length_set]; exact ls) la
    have b2 : But c H (upd H2 c (.ins N dx (nf m y2 aa w))) := But.put s12
    have hc2 : (upd H2 c (.ins N dx (nf m y2 aa w))) c = some (.ins N dx (nf m y2 aa w)) := upd_same
    have nc : ∀ {a : Addr} {xs : List V}, H2 a = some (.tup xs) → a ≠ c := fun e z => by rw [z, s12 _ _ h1] at e; cases e
    have hy2' : (upd H2 c (.ins N dx (nf m y2 aa w))) y2 = some (.tup (vrow ((ss.set p.1 x).set p.2 x))) := by rw [upd_ne (nc hy2)]; exact hy2
    have h3' : (upd H2 c (.ins N dx (nf m y2 aa w))) aa = some (.tup (vrow ar)) := by rw [upd_ne (nc (s12 _ _ h3))]; exact s12 _ _ h3
    generalize upd H2 c (.ins N dx (nf m y2 aa w)) = H3 at N2 b2 hc2 hy2' h3' ⊢
    refine ⟨_, rfl, c, N, dx, _, _, rfl, hc2, T.cl, T.nA, nf_a _ _ _ _, _, rfl, _, rfl, aa, _, t, .int x, rfl, h3', by rw [vrow_len]; omega, by rw [vrow_len]; omega, fun y4 H4 s4 hy4 => ?_⟩
    rw [← vrow_set] at hy4
    refine ⟨_, rfl, c, N, dx, _, rfl, s4 _ _ hc2, T.cl, T.nA, (by show 4 < 1000; decide), ?_⟩
    rw [nf_pa]
    refine ⟨_, rfl, ?_⟩
    exact z _ (b2.trans (But.put s4)) (N2.upd nw s4 (s4 _ _ hy2') hy4 (by rw [List.length_set, List.length_set]; exact ls) (by rw [List.length_set]; exact la))
end
end K1
namespace K1
open PySem PySem.Spec PyProof.Rows L2
/-! ### numbers counted by a modulus -/
theorem cby_cong {m : Int} (x k : Int) : cby m (x + m * k) = cby m x := by
  unfold cby
  split
  · rename_i h; rw [h, Int.zero_mul, Int.add_zero]
  · exact Int.add_mul_emod_self_left x m k
theorem cby_is (m x : Int) : ∃ k, cby m x = x + m * k := by
  unfold cby
  split
  · exact ⟨0, by rw [Int.mul_zero, Int.add_zero]⟩
  · refine ⟨-(x / m), ?_⟩
    have := Int.emod_add_mul_ediv x m
    have e : m * -(x / m) = -(m * (x / m)) := Int.mul_neg _ _
    omega
theorem cby_cby (m x : Int) : cby m (cby m x) = cby m x := by
  obtain ⟨k, e⟩ := cby_is m x
  rw [e, cby_cong]
  exact e
/-! ### lists of numbers -/
theorem getD_set {l : List Int} {i j : Nat} {x : Int} (h : i < l.length) : (l.set i x).getD j 0 = if j = i then x else l.getD j 0 := by
  rw [List.getD_eq_getElem?_getD, List.getElem?_set]
  by_cases e : i = j
  · rw [if_pos e, if_pos h, if_pos e.symm]; rfl
  · rw [if_neg e, if_neg (fun z => e z.symm), List.getD_eq_getElem?_getD]
theorem set_self {l : List Int} {i : Nat} {x : Int} (h : l.getD i 0 = x) (hi : i < l.length) : l.set i x = l := by
  refine List.ext_getElem? fun j => ?_
  rw [List.getElem?_set]
  by_cases e : i = j
  · subst e
    rw [if_pos rfl, if_pos hi]
    rw [List.getD_eq_getElem?_getD, List.getElem?_eq_getElem hi] at h
    rw [List.getElem?_eq_getElem hi, ← h]; rfl
  · rw [if_neg e]
theorem sum_point {s s' : Nat → Int} {y : Nat} : ∀ (L : List Nat), L.Nodup → y ∈ L → (∀ z ∈ L, z ≠ y → s' z = s z) → (L.map s').sum = (L.map s).sum - s y + s' y
  | [], _, h, _ => nomatch h
  | a :: r, nd, h, e => by
    rw [List.nodup_cons] at nd
    rw [List.map_cons, List.map_cons, List.sum_cons, List.sum_cons]
    by_cases z : y = a
    · subst z
      have : r.map s' = r.map s := List.map_congr_left fun b hb => e b (List.mem_cons_of_mem _ hb) fun q => nd.1 (q ▸ hb)
      rw [this]; omega
    · have hr : y ∈ r := (List.mem_cons.mp h).resolve_left z
      have := sum_point r nd.2 hr fun b hb => e b (List.mem_cons_of_mem _ hb)
      rw [this, e a List.mem_cons_self fun q => z q.symm]; omega
abbrev NSt := List Int × List Int
def metS (m : Int) (ts : Prs) (st : NSt) (t : Nat) : NSt := match ts[t]? with
  | some p => ((st.1.set p.1 (metN m st.1 st.2 p t)).set p.2 (metN m st.1 st.2 p t), st.2.set t (metN m st.1 st.2 p t))
  | none => st
structure Ln (n : Nat) (ts : Prs) (st : NSt) : Prop where
  s : st.1.length = n
  a : st.2.length = ts.length
theorem Ln.met {m : Int} {n : Nat} {ts : Prs} {st : NSt} (l : Ln n ts st) (t : Nat) : Ln n ts (metS m ts st t) := by
  unfold metS
  split
  · exact ⟨by rw [List.length_set, List.length_set]; exact l.s, by rw [List.length_set]; exact l.a⟩
  · exact l
theorem met_s {m : Int} {n : Nat} {ts : Prs} {st : NSt} (hW : Wv n ts) (l : Ln n ts st) {t : Nat} {p : Nat × Nat} (hp : ts[t]? = some p) (z : Nat) : (metS m ts st t).1.getD z 0 = if z = p.1 ∨ z = p.2 then metN m st.1 st.2 p t else st.1.getD z 0 := by
  obtain ⟨h1, h2, h3⟩ := hW.at_ hp
  have e := l.s
  unfold metS
  rw [hp]
  dsimp only
  rw [getD_set (by rw [List.length_set]; omega), getD_set (by omega)]
  by_cases c1 : z = p.2
  · rw [if_pos c1, if_pos (.inr c1)]
  · rw [if_neg c1]
    by_cases c2 : z = p.1
    · rw [if_pos c2, if_pos (.inl c2)]
    · rw [if_neg c2, if_neg (by omega)]
theorem met_a {m : Int} {n : Nat} {ts : Prs} {st : NSt} (l : Ln n ts st) {t : Nat} {p : Nat × Nat} (hp : ts[t]? = some p) (z : Nat) : (metS m ts st t).2.getD z 0 = if z = t then metN m st.1 st.2 p t else st.2.getD z 0 := by
  have := lt_at hp
  have e := l.a
  unfold metS
  rw [hp]
  dsimp only
  rw [getD_set (by omega)]
/-- the states are counted -/
def Rdc (m : Int) (st : NSt) : Prop := ∀ x, cby m (st.1.getD x 0) = st.1.getD x 0
theorem Rdc.met {m : Int} {n : Nat} {ts : Prs} {st : NSt} (hW : Wv n ts) (l : Ln n ts st) (r : Rdc m st) (t : Nat) : Rdc m (metS m ts st t) := fun x => by
  cases hp : ts[t]? with
  | none =>
    have : metS m ts st t = st := by unfold metS; rw [hp]
    rw [this]; exact r x
  | some p =>
    rw [met_s hW l hp]
    split
    · exact cby_cby _ _
    · exact r x
def runS (m : Int) (ts : Prs) (st : NSt) (o : List Nat) : NSt := o.foldl (metS m ts) st
theorem runS_snoc (m : Int) (ts : Prs) (st : NSt) (o : List Nat) (t : Nat) : runS m ts st (o ++ [t]) = metS m ts (runS m ts st o) t := by unfold runS; rw [List.foldl_append]; rfl
theorem runS_app (m : Int) (ts : Prs) (st : NSt) (o q : List Nat) : runS m ts st (o ++ q) = runS m ts (runS m ts st o) q := by unfold runS; rw [List.foldl_append]
theorem Ln.run {m : Int} {n : Nat} {ts : Prs} : ∀ {st : NSt} (o : List Nat), Ln n ts st → Ln n ts (runS m ts st o)
  | _, [], l => l
  | _, t :: o, l => Ln.run o (l.met t)
theorem Rdc.run {m : Int} {n : Nat} {ts : Prs} (hW : Wv n ts) : ∀ {st : NSt} (o : List Nat), Ln n ts st → Rdc m st → Rdc m (runS m ts st o)
  | _, [], _, r => r
  | _, t :: o, l, r => Rdc.run hW o (l.met t) (r.met hW l t)
def SwO (tl : List Nat) : List Nat := tl.reverse ++ tl.drop 1
section
variable {m : Int} {n h : Nat} {ts : Prs} {xs tl : List Nat} {B : Int} {st0 : NSt}
theorem Tree.inj (T : Tree ts h xs tl) {i j v : Nat} (e1 : xs[i]? = some v) (e2 : xs[j]? = some v) : i = j := by
  have nd := T.nd
  rw [List.nodup_iff_pairwise_ne, List.pairwise_iff_getElem] at nd
  have l1 := lt_at e1
  have l2 := lt_at e2
  rw [List.getElem?_eq_getElem l1] at e1
  rw [List.getElem?_eq_getElem l2] at e2
  by_cases c1 : i < j
  · exact absurd ((Option.some.inj e1).trans (Option.some.inj e2).symm) (nd i j l1 l2 c1)
  · by_cases c2 : j < i
    · exact absurd ((Option.some.inj e2).trans (Option.some.inj e1).symm) (nd j i l2 l1 c2)
    · omega
theorem Tree.injT (T : Tree ts h xs tl) {i j v : Nat} (e1 : tl[i]? = some v) (e2 : tl[j]? = some v) : i = j := by
  have nd := T.tnd
  rw [List.nodup_iff_pairwise_ne, List.pairwise_iff_getElem] at nd
  have l1 := lt_at e1
  have l2 := lt_at e2
  rw [List.getElem?_eq_getElem l1] at e1
  rw [List.getElem?_eq_getElem l2] at e2
  by_cases c1 : i < j
  · exact absurd ((Option.some.inj e1).trans (Option.some.inj e2).symm) (nd i j l1 l2 c1)
  · by_cases c2 : j < i
    · exact absurd ((Option.some.inj e2).trans (Option.some.inj e1).symm) (nd j i l2 l1 c2)
    · omega
/-- what stands outside of the part -/
structure Off (xs tl : List Nat) (st0 st : NSt) : Prop where
  s : ∀ z, z ∉ xs → st.1.getD z 0 = st0.1.getD z 0
  a : ∀ t, t ∉ tl → st.2.getD t 0 = st0.2.getD t 0
theorem Off.met {st : NSt} (hW : Wv n ts) (T : Tree ts h xs tl) (l : Ln n ts st) (o : Off xs tl st0 st) {j t : Nat} (ht : tl[j]? = some t) : Off xs tl st0 (metS m ts st t) := by
  obtain ⟨i, x, y, p, _, g2, g3, g4, g5⟩ := T.par j t ht
  have hx := List.mem_of_getElem? g3
  have hy := List.mem_of_getElem? g2
  refine ⟨fun z hz => ?_, fun u hu => ?_⟩
  · rw [met_s hW l g4, if_neg (by
      rintro (e | e) <;> rcases g5 with ⟨e1, e2⟩ | ⟨e1, e2⟩ <;> first | (rw [e, e1] at hz; exact hz (by assumption)) | (rw [e, e2] at hz; exact hz (by assumption)))]
    exact o.s z hz
  · rw [met_a l g4, if_neg (by rintro rfl; exact hu (List.mem_of_getElem? ht))]
    exact o.a u hu
/-- inward, j ties are left -/
structure InP (m : Int) (xs tl : List Nat) (B : Int) (st0 : NSt) (j : Nat) (st : NSt) : Prop where
  sum : ∃ k, ((xs.take (j + 1)).map fun x => st.1.getD x 0).sum - ((tl.take j).map fun t => st.2.getD t 0).sum = B + m * k
  eq : ∀ (i x t : Nat), j ≤ i → xs[i + 1]? = some x → tl[i]? = some t → st.1.getD x 0 = st.2.getD t 0
  top : ∀ (x t : Nat), j = 0 → xs[0]? = some x → tl[0]? = some t → st.1.getD x 0 = st.2.getD t 0
  off : Off xs tl st0 st
theorem InP.step {st : NSt} (hW : Wv n ts) (T : Tree ts h xs tl) (l : Ln n ts st) {j t : Nat} (ht : tl[j]? = some t) (I : InP m xs tl B st0 (j + 1) st) : InP m xs tl B st0 j (metS m ts st t) := by
  obtain ⟨i, x, y, p, ij, g2, g3, g4, g5⟩ := T.par j t ht
  have xy : x ≠ y := fun z => by
    rw [z] at g3
    have := T.inj g2 g3
    omega
  have ev : metN m st.1 st.2 p t = cby m (st.1.getD y 0 + st.1.getD x 0 - st.2.getD t 0) := by
    unfold metN
    rcases g5 with ⟨e1, e2⟩ | ⟨e1, e2⟩
    · rw [e1, e2, Int.add_comm]
    · rw [e1, e2]
  have ms : ∀ z, (metS m ts st t).1.getD z 0 = if z = x ∨ z = y then metN m st.1 st.2 p t else st.1.getD z 0 := fun z => by
    rw [met_s hW l g4]
    rcases g5 with ⟨e1, e2⟩ | ⟨e1, e2⟩
    · rw [e1, e2]
    · rw [e1, e2]
      by_cases c : z = y ∨ z = x
      · rw [if_pos c, if_pos c.symm]
      · rw [if_neg c, if_neg fun q => c q.symm]
  have ma : ∀ z, (metS m ts st t).2.getD z 0 = if z = t then metN m st.1 st.2 p t else st.2.getD z 0 := fun z => met_a l g4 z
  have nx : x ∉ xs.take (j + 1) := fun q => by
    obtain ⟨k, hk⟩ := List.getElem?_of_mem q
    rw [List.getElem?_take] at hk
    split at hk
    · have := T.inj hk g3; omega
    · cases hk
  have hy : y ∈ xs.take (j + 1) := List.mem_of_getElem? (i := i) (by rw [List.getElem?_take, if_pos (by omega)]; exact g2)
  have nt : t ∉ tl.take j := fun q => by
    obtain ⟨k, hk⟩ := List.getElem?_of_mem q
    rw [List.getElem?_take] at hk
    split at hk
    · have := T.injT hk ht; omega
    · cases hk
  refine ⟨?_, fun k x' t' hk hx ht' => ?_, fun x' t' j0 hx ht' => ?_, I.off.met hW T l ht⟩
  · obtain ⟨k, hk⟩ := I.sum
    rw [take_succ g3, take_succ ht, List.map_append, List.map_append, List.sum_append, List.sum_append] at hk
    simp only [List.map_cons, List.map_nil, List.sum_cons, List.sum_nil, Int.add_zero] at hk
    obtain ⟨k2, hk2⟩ := cby_is m (st.1.getD y 0 + st.1.getD x 0 - st.2.getD t 0)
    have e1 := sum_point (s := fun x => st.1.getD x 0) (s' := fun x => (metS m ts st t).1.getD x 0) (y := y) (xs.take (j + 1)) (T.nd.sublist (List.take_sublist _ _)) hy fun z hz ne => by
      rw [ms, if_neg (by rintro (e | e); exact nx (e ▸ hz); exact ne e)]
    have e2 : (tl.take j).map (fun t' => (metS m ts st t).2.getD t' 0) = (tl.take j).map fun t' => st.2.getD t' 0 := List.map_congr_left fun z hz => by
      rw [ma, if_neg (fun (e : z = t) => nt (e ▸ hz))]
    refine ⟨k + k2, ?_⟩
    rw [e1, e2]
    rw [ms y, if_pos (.inr rfl), ev, hk2, Int.mul_add]
    omega
  · by_cases kj : k = j
    · subst kj
      obtain rfl := lookup_same hx g3
      obtain rfl := lookup_same ht' ht
      rw [ms, ma, if_pos (.inl rfl), if_pos rfl]
    · have e1 : x' ≠ x := fun e => by
        rw [e] at hx
        have := T.inj hx g3; omega
      have e2 : x' ≠ y := fun e => by
        rw [e] at hx
        have := T.inj hx g2; omega
      have e3 : t' ≠ t := fun e => by
        rw [e] at ht'
        have := T.injT ht' ht; omega
      rw [ms, ma, if_neg (by rintro (e | e); exact e1 e; exact e2 e), if_neg e3]
      exact I.eq k x' t' (by omega) hx ht'
  · subst j0
    obtain rfl : i = 0 := by omega
    obtain rfl := lookup_same hx g2
    obtain rfl := lookup_same ht' ht
    rw [ms, ma, if_pos (.inr rfl), if_pos rfl]
/-- outward, i ties are done -/
structure OutP (m : Int) (xs tl : List Nat) (b : Int) (st0 : NSt) (i : Nat) (st : NSt) : Prop where
  s : ∀ (l x : Nat), l ≤ i → xs[l]? = some x → st.1.getD x 0 = b
  a : ∀ (l t : Nat), l < i → tl[l]? = some t → st.2.getD t 0 = b
  eq : ∀ (l x t : Nat), i ≤ l → xs[l + 1]? = some x → tl[l]? = some t → st.1.getD x 0 = st.2.getD t 0
  off : Off xs tl st0 st
theorem OutP.step {st : NSt} {b : Int} (hb : cby m b = b) (hW : Wv n ts) (T : Tree ts h xs tl) (l : Ln n ts st) {j t : Nat} (ht : tl[j]? = some t) (I : OutP m xs tl b st0 j st) : OutP m xs tl b st0 (j + 1) (metS m ts st t) := by
  obtain ⟨i, x, y, p, ij, g2, g3, g4, g5⟩ := T.par j t ht
  have sy := I.s i y ij g2
  have sx := I.eq j x t (Nat.le_refl _) g3 ht
  have ev : metN m st.1 st.2 p t = b := by
    unfold metN
    rcases g5 with ⟨e1, e2⟩ | ⟨e1, e2⟩
    · rw [e1, e2, sx, sy]
      rw [show st.2.getD t 0 + b - st.2.getD t 0 = b by omega, hb]
    · rw [e1, e2, sx, sy]
      rw [show b + st.2.getD t 0 - st.2.getD t 0 = b by omega, hb]
  have ms : ∀ z, (metS m ts st t).1.getD z 0 = if z = x ∨ z = y then b else st.1.getD z 0 := fun z => by
    rw [met_s hW l g4, ev]
    rcases g5 with ⟨e1, e2⟩ | ⟨e1, e2⟩
    · rw [e1, e2]
    · rw [e1, e2]
      by_cases c : z = y ∨ z = x
      · rw [if_pos c, if_pos c.symm]
      · rw [if_neg c, if_neg fun q => c q.symm]
  have ma : ∀ z, (metS m ts st t).2.getD z 0 = if z = t then b else st.2.getD z 0 := fun z => by rw [met_a l g4, ev]
  refine ⟨fun k x' hk hx => ?_, fun k t' hk ht' => ?_, fun k x' t' hk hx ht' => ?_, I.off.met hW T l ht⟩
  · rw [ms]
    split
    · rfl
    · rename_i ne
      by_cases kj : k = j + 1
      · subst kj
        exact absurd (.inl (lookup_same hx g3)) ne
      · exact I.s k x' (by omega) hx
  · rw [ma]
    split
    · rfl
    · rename_i ne
      by_cases kj : k = j
      · subst kj
        exact absurd (lookup_same ht' ht) ne
      · exact I.a k t' (by omega) ht'
  · have e1 : x' ≠ x := fun e => by
      rw [e] at hx
      have := T.inj hx g3; omega
    have e2 : x' ≠ y := fun e => by
      rw [e] at hx
      have := T.inj hx g2; omega
    have e3 : t' ≠ t := fun e => by
      rw [e] at ht'
      have := T.injT ht' ht; omega
    rw [ms, ma, if_neg (by rintro (e | e); exact e1 e; exact e2 e), if_neg e3]
    exact I.eq k x' t' (by omega) hx ht'
/-- a sweep leaves the whole part at its book, and all else as it was -/
structure Swept (ts : Prs) (ns : List Nat) (b : Int) (st0 st : NSt) : Prop where
  s : ∀ x ∈ ns, st.1.getD x 0 = b
  a : ∀ t ∈ tIn ts ns, st.2.getD t 0 = b
  os : ∀ x, x ∉ ns → st.1.getD x 0 = st0.1.getD x 0
  oa : ∀ t, t ∉ tIn ts ns → st.2.getD t 0 = st0.2.getD t 0
theorem Tree.sweep {rk : Nat → Nat} {ns : List Nat} (hW : Wv n ts) (T : Tree ts h xs tl) (fo : Fo rk ts) (pl : PartL ts h ns) (l : Ln n ts st0) (rd : Rdc m st0) :
    Swept ts ns (bookN m st0.1 st0.2 ts ns) st0 (runS m ts st0 (SwO tl)) := by
  obtain ⟨pt, px, lt⟩ := T.ties fo pl
  have len := T.len
  have i0 : InP m xs tl ((ns.map fun x => st0.1.getD x 0).sum - ((tIn ts ns).map fun t => st0.2.getD t 0).sum) st0 tl.length st0 := by
    refine ⟨⟨0, ?_⟩, fun i x t hi _ ht => absurd (lt_at ht) (by omega), fun x t j0 _ ht => absurd (lt_at ht) (by omega), ⟨fun _ _ => rfl, fun _ _ => rfl⟩⟩
    rw [← len, List.take_length, List.take_length, perm_sumI (px.map _), perm_sumI (pt.map _)]
    omega
  have inw : ∀ d, d ≤ tl.length → InP m xs tl ((ns.map fun x => st0.1.getD x 0).sum - ((tIn ts ns).map fun t => st0.2.getD t 0).sum) st0 (tl.length - d) (runS m ts st0 (tl.drop (tl.length - d)).reverse) := fun d => by
    induction d with
    | zero =>
      intro _
      rw [Nat.sub_zero, List.drop_length]
      exact i0
    | succ d ih =>
      intro hd
      have I := ih (by omega)
      obtain ⟨t, ht⟩ := ex_at (l := tl) (i := tl.length - (d + 1)) (by omega)
      have e1 : tl.length - d = tl.length - (d + 1) + 1 := by omega
      rw [e1] at I
      have e2 : tl.drop (tl.length - (d + 1)) = t :: tl.drop (tl.length - (d + 1) + 1) := by
        have hl := lt_at ht
        rw [List.drop_eq_getElem_cons hl]
        rw [List.getElem?_eq_getElem hl] at ht
        rw [Option.some.inj ht]
      rw [e2, List.reverse_cons, runS_snoc]
      exact I.step hW T (l.run _) ht
  have I := inw tl.length (Nat.le_refl _)
  rw [Nat.sub_self, List.drop_zero] at I
  have l1 : Ln n ts (runS m ts st0 tl.reverse) := l.run _
  have r1 : Rdc m (runS m ts st0 tl.reverse) := rd.run hW _ l
  -- the house itself holds the book
  have top : (runS m ts st0 tl.reverse).1.getD h 0 = bookN m st0.1 st0.2 ts ns := by
    obtain ⟨k, hk⟩ := I.sum
    rw [take_succ T.h0] at hk
    simp only [List.take_zero, List.nil_append, List.map_cons, List.map_nil, List.sum_cons, List.sum_nil, Int.add_zero, Int.sub_zero] at hk
    have := r1 h
    rw [hk, cby_cong] at this
    rw [hk, ← this]; rfl
  have hb : cby m (bookN m st0.1 st0.2 ts ns) = bookN m st0.1 st0.2 ts ns := cby_cby _ _
  generalize bookN m st0.1 st0.2 ts ns = b at top hb ⊢
  have fin : ∀ st : NSt, OutP m xs tl b st0 tl.length st → Swept ts ns b st0 st := fun st O => by
    refine ⟨fun x hx => ?_, fun t ht => ?_, fun x hx => O.off.s x fun q => hx (px.mem_iff.mp q), fun t ht => O.off.a t fun q => ht (pt.mem_iff.mp q)⟩
    · obtain ⟨j, hj⟩ := List.getElem?_of_mem (px.mem_iff.mpr hx)
      exact O.s j x (by have := lt_at hj; omega) hj
    · obtain ⟨j, hj⟩ := List.getElem?_of_mem (pt.mem_iff.mpr ht)
      exact O.a j t (lt_at hj) hj
  unfold SwO
  rw [runS_app]
  by_cases z : tl.length = 0
  · obtain rfl : tl = [] := List.eq_nil_of_length_eq_zero z
    refine fin _ ⟨fun k x hk hx => ?_, fun k t hk => absurd hk (Nat.not_lt_zero _), fun k x t _ _ ht => (by cases ht), I.off⟩
    obtain rfl : k = 0 := by rw [List.length_nil] at hk; omega
    obtain rfl := lookup_same hx T.h0
    exact top
  · have o1 : OutP m xs tl b st0 1 (runS m ts st0 tl.reverse) := by
      obtain ⟨t0, ht0⟩ := ex_at (l := tl) (i := 0) (by omega)
      have a0 : (runS m ts st0 tl.reverse).2.getD t0 0 = b := by rw [← I.top h t0 rfl T.h0 ht0]; exact top
      refine ⟨fun k x hk hx => ?_, fun k t hk ht => ?_, fun k x t hk hx ht => I.eq k x t (Nat.zero_le _) hx ht, I.off⟩
      · by_cases k0 : k = 0
        · subst k0
          obtain rfl := lookup_same hx T.h0
          exact top
        · obtain rfl : k = 1 := by omega
          rw [I.eq 0 x t0 (Nat.le_refl _) hx ht0]; exact a0
      · obtain rfl : k = 0 := by omega
        obtain rfl := lookup_same ht ht0
        exact a0
    have outw : ∀ d, d + 1 ≤ tl.length → OutP m xs tl b st0 (d + 1) (runS m ts (runS m ts st0 tl.reverse) ((tl.take (d + 1)).drop 1)) := fun d => by
      induction d with
      | zero =>
        intro _
        have : (tl.take (0 + 1)).drop 1 = [] := by
          rw [List.drop_eq_nil_iff, List.length_take]; omega
        rw [this]
        exact o1
      | succ d ih =>
        intro hd
        have O := ih (by omega)
        obtain ⟨t, ht⟩ := ex_at (l := tl) (i := d + 1) (by omega)
        have e2 : (tl.take (d + 1 + 1)).drop 1 = (tl.take (d + 1)).drop 1 ++ [t] := by
          rw [take_succ ht, List.drop_append_of_le_length (by rw [List.length_take]; omega)]
        rw [e2, runS_snoc]
        exact O.step hb hW T (l1.run _) ht
    have O := outw (tl.length - 1) (by omega)
    rw [show tl.length - 1 + 1 = tl.length by omega, List.take_length] at O
    exact fin _ O
theorem SwO_len (tl : List Nat) : (SwO tl).length = 2 * tl.length - 1 := by
  unfold SwO
  rw [List.length_append, List.length_reverse, List.length_drop]; omega
theorem SwO_mem {tl : List Nat} {t : Nat} (h : t ∈ SwO tl) : t ∈ tl := by
  rcases List.mem_append.mp h with q | q
  · exact List.mem_reverse.mp q
  · exact List.mem_of_mem_drop q
end
theorem sum_const (b : Int) (f : Nat → Int) : ∀ L : List Nat, (∀ x ∈ L, f x = b) → (L.map f).sum = (L.length : Int) * b
  | [], _ => by rw [List.map_nil, List.sum_nil, List.length_nil]; omega
  | a :: r, h => by
    rw [List.map_cons, List.sum_cons, sum_const b f r fun x hx => h x (List.mem_cons_of_mem _ hx), h a List.mem_cons_self, List.length_cons]
    rw [Int.natCast_add, Int.add_mul]
    omega
/-- the book behind a sweep -/
theorem Swept.book {m : Int} {ts : Prs} {ns : List Nat} {b : Int} {st0 st : NSt} (w : Swept ts ns b st0 st) (hb : cby m b = b) (l : (tIn ts ns).length + 1 = ns.length) : bookN m st.1 st.2 ts ns = b := by
  unfold bookN
  rw [sum_const b _ ns w.s, sum_const b _ (tIn ts ns) w.a, ← l, Int.natCast_add, Int.add_mul]
  rw [show ((tIn ts ns).length : Int) * b + ((1 : Nat) : Int) * b - ((tIn ts ns).length : Int) * b = b by omega]
  exact hb
/-- all ties among the houses joined with h are at rest -/
def RestAt (ts : Prs) (st : NSt) (h : Nat) : Prop := ∀ (t : Nat) (p : Nat × Nat), ts[t]? = some p → Cn ts h p.1 → st.1.getD p.1 0 = st.2.getD t 0 ∧ st.1.getD p.2 0 = st.2.getD t 0
theorem Swept.rest {ts : Prs} {h : Nat} {ns : List Nat} {b : Int} {st0 st : NSt} (w : Swept ts ns b st0 st) (pl : PartL ts h ns) : RestAt ts st h := fun t p hp c => by
  have m1 := (pl.mem _).mpr c
  have m2 := (pl.mem _).mpr (c.step ⟨p, List.mem_of_getElem? hp, .inl ⟨rfl, rfl⟩⟩)
  have m3 : t ∈ tIn ts ns := tIn_mem.mpr ⟨p, hp, m1⟩
  rw [w.s _ m1, w.s _ m2, w.a _ m3]
  exact ⟨rfl, rfl⟩
theorem Swept.keep {ts : Prs} {h x : Nat} {ns : List Nat} {b : Int} {st0 st : NSt} (w : Swept ts ns b st0 st) (pl : PartL ts h ns) (r : RestAt ts st0 x) : RestAt ts st x := fun t p hp c => by
  by_cases z : Cn ts h p.1
  · exact w.rest pl t p hp z
  · have m1 : p.1 ∉ ns := fun q => z ((pl.mem _).mp q)
    have m2 : p.2 ∉ ns := fun q => z (((pl.mem _).mp q).step ⟨p, List.mem_of_getElem? hp, .inr ⟨rfl, rfl⟩⟩)
    have m3 : t ∉ tIn ts ns := fun q => by
      obtain ⟨p', hp', q'⟩ := tIn_mem.mp q
      rw [lookup_same hp hp'] at m1
      exact m1 q'
    rw [w.os _ m1, w.os _ m2, w.oa _ m3]
    exact r t p hp c
/-- at rest a meeting changes nothing -/
theorem RestAt.met {m : Int} {n : Nat} {ts : Prs} {st : NSt} (hW : Wv n ts) (l : Ln n ts st) (rd : Rdc m st) (r : ∀ h, h < n → RestAt ts st h) {t : Nat} {p : Nat × Nat} (hp : ts[t]? = some p) : metS m ts st t = st := by
  obtain ⟨h1, h2, h3⟩ := hW.at_ hp
  obtain ⟨e1, e2⟩ := r p.1 h1 t p hp .refl
  have tl := lt_at hp
  have ls := l.s
  have la := l.a
  have ev : metN m st.1 st.2 p t = st.2.getD t 0 := by
    unfold metN
    rw [e1, e2, show st.2.getD t 0 + st.2.getD t 0 - st.2.getD t 0 = st.2.getD t 0 by omega]
    have := rd p.1
    rw [e1] at this
    exact this
  unfold metS
  rw [hp]
  dsimp only
  rw [ev, set_self e1 (by omega), set_self e2 (by omega), set_self rfl (by omega)]
end K1
namespace K1
open PySem PySem.Spec PyProof.Rows L2
/-! ### trees without a walk -/
theorem clo_all {ts : Prs} {fs : List Nat} {a b : Nat} (c : ∀ p ∈ ts, (p.1 ∈ fs ↔ p.2 ∈ fs)) (ha : a ∈ fs) (h : Cn ts a b) : b ∈ fs := by
  induction h with
  | refl => exact ha
  | step _ j ih =>
    obtain ⟨p, hp, ⟨e1, e2⟩ | ⟨e1, e2⟩⟩ := j
    · rw [e2]; exact (c p hp).mp (e1 ▸ ih)
    · rw [e2]; exact (c p hp).mpr (e1 ▸ ih)
structure PreT (ts : Prs) (h : Nat) (xs tl : List Nat) : Prop where
  nd : xs.Nodup
  h0 : xs[0]? = some h
  len : xs.length = tl.length + 1
  cn : ∀ x ∈ xs, Cn ts h x
  par : ∀ (j t : Nat), tl[j]? = some t → ∃ (i x y : Nat) (p : Nat × Nat), i ≤ j ∧ xs[i]? = some y ∧ xs[j + 1]? = some x ∧ ts[t]? = some p ∧ ((p.1 = x ∧ p.2 = y) ∨ (p.1 = y ∧ p.2 = x))
  tnd : tl.Nodup
theorem PreT.add {ts : Prs} {h : Nat} {xs tl : List Nat} (T : PreT ts h xs tl) {t y z : Nat} {p : Nat × Nat} (hp : ts[t]? = some p) (hy : y ∈ xs) (hz : z ∉ xs) (e : (p.1 = z ∧ p.2 = y) ∨ (p.1 = y ∧ p.2 = z)) : PreT ts h (xs ++ [z]) (tl ++ [t]) := by
  have len := T.len
  have lt0 := lt_at T.h0
  refine ⟨?_, by rw [List.getElem?_append_left lt0]; exact T.h0, by rw [List.length_append, List.length_append, len]; rfl, fun x hx => ?_, fun j u hu => ?_, ?_⟩
  · rw [List.nodup_append]
    exact ⟨T.nd, by simp, fun a ha b hb ab => by rw [List.mem_singleton] at hb; rw [ab, hb] at ha; exact hz ha⟩
  · rcases List.mem_append.mp hx with m | m
    · exact T.cn x m
    · rw [List.mem_singleton.mp m]
      refine (T.cn y hy).step ⟨p, List.mem_of_getElem? hp, ?_⟩
      rcases e with ⟨e1, e2⟩ | ⟨e1, e2⟩
      · exact .inr ⟨e2.symm, e1.symm⟩
      · exact .inl ⟨e1.symm, e2.symm⟩
  · rcases snoc_at hu with hu | ⟨rfl, rfl⟩
    · obtain ⟨i, x, y', p', g1, g2, g3, g4, g5⟩ := T.par j u hu
      exact ⟨i, x, y', p', g1, by rw [List.getElem?_append_left (lt_at g2)]; exact g2, by rw [List.getElem?_append_left (lt_at g3)]; exact g3, g4, g5⟩
    · obtain ⟨i, hi⟩ := List.getElem?_of_mem hy
      have li := lt_at hi
      refine ⟨i, z, y, p, by omega, by rw [List.getElem?_append_left li]; exact hi, by rw [← len, List.getElem?_append_right (Nat.le_refl _), Nat.sub_self]; rfl, hp, e⟩
  · rw [List.nodup_append]
    refine ⟨T.tnd, by simp, fun a ha b hb ab => ?_⟩
    rw [List.mem_singleton] at hb
    rw [ab, hb] at ha
    obtain ⟨j, hj⟩ := List.getElem?_of_mem ha
    obtain ⟨i, x, y', p', g1, g2, g3, g4, g5⟩ := T.par j t hj
    obtain rfl := lookup_same hp g4
    have m1 := List.mem_of_getElem? g2
    have m2 := List.mem_of_getElem? g3
    rcases e with ⟨e1, e2⟩ | ⟨e1, e2⟩ <;> rcases g5 with ⟨u1, u2⟩ | ⟨u1, u2⟩
    · rw [← e1, u1] at hz; exact hz m2
    · rw [← e1, u1] at hz; exact hz m1
    · rw [← e2, u2] at hz; exact hz m1
    · rw [← e2, u2] at hz; exact hz m2
theorem nodup_leN {n : Nat} {L : List Nat} (nd : L.Nodup) (h : ∀ x ∈ L, x < n) : L.length ≤ n := by
  have := nodup_sub L (List.range n) nd fun x hx => List.mem_range.mpr (h x hx)
  rw [List.length_range] at this
  exact this
theorem tree_grow {n h : Nat} {ts : Prs} (hW : Wv n ts) (hn : h < n) : ∀ (k : Nat) (xs tl : List Nat), n - xs.length ≤ k → PreT ts h xs tl → ∃ xs tl, Tree ts h xs tl := fun k => by
  induction k with
  | zero =>
    intro xs tl hk T
    by_cases c : ∀ p ∈ ts, (p.1 ∈ xs ↔ p.2 ∈ xs)
    · exact ⟨xs, tl, T.nd, T.h0, T.len, fun x => ⟨T.cn x, fun q => clo_all c (List.mem_of_getElem? T.h0) q⟩, T.par, T.tnd⟩
    · exfalso
      simp only [Classical.not_forall] at c
      obtain ⟨p, hp, c⟩ := c
      obtain ⟨p1, p2, _⟩ := hW.pr p hp
      have lt : ∀ x ∈ xs, x < n := fun x hx => (T.cn x hx).lt hW hn
      have key : ∀ z, z < n → z ∉ xs → False := fun z h1 h2 => by
        have := nodup_leN (n := n) (L := z :: xs) (List.nodup_cons.mpr ⟨h2, T.nd⟩) fun x hx => by
          rcases List.mem_cons.mp hx with e | e
          · rw [e]; exact h1
          · exact lt x e
        rw [List.length_cons] at this
        omega
      by_cases m1 : p.1 ∈ xs
      · exact key p.2 p2 fun m2 => c ⟨fun _ => m2, fun _ => m1⟩
      · exact key p.1 p1 m1
  | succ k ih =>
    intro xs tl hk T
    by_cases c : ∀ p ∈ ts, (p.1 ∈ xs ↔ p.2 ∈ xs)
    · exact ⟨xs, tl, T.nd, T.h0, T.len, fun x => ⟨T.cn x, fun q => clo_all c (List.mem_of_getElem? T.h0) q⟩, T.par, T.tnd⟩
    · simp only [Classical.not_forall] at c
      obtain ⟨p, hp, c⟩ := c
      obtain ⟨t, ht⟩ := List.getElem?_of_mem hp
      by_cases m1 : p.1 ∈ xs
      · have m2 : p.2 ∉ xs := fun m2 => c ⟨fun _ => m2, fun _ => m1⟩
        exact ih _ _ (by rw [List.length_append]; simp only [List.length_cons, List.length_nil]; omega) (T.add ht m1 m2 (.inr ⟨rfl, rfl⟩))
      · have m2 : p.2 ∈ xs := Classical.byContradiction fun m2 => c ⟨fun q => absurd q m1, fun q => absurd q m2⟩
        exact ih _ _ (by rw [List.length_append]; simp only [List.length_cons, List.length_nil]; omega) (T.add ht m2 m1 (.inl ⟨rfl, rfl⟩))
theorem tree_exists {n h : Nat} {ts : Prs} (hW : Wv n ts) (hn : h < n) : ∃ xs tl, Tree ts h xs tl :=
  tree_grow hW hn n [h] [] (by omega) ⟨by simp, rfl, rfl, fun x hx => by rw [List.mem_singleton.mp hx]; exact .refl, fun j t e => (by cases e), by simp⟩
theorem Tree.tie {rk : Nat → Nat} {ts : Prs} {h : Nat} {xs tl : List Nat} (T : Tree ts h xs tl) (fo : Fo rk ts) {t : Nat} {p : Nat × Nat} (hp : ts[t]? = some p) (c : Cn ts h p.1) : t ∈ tl := by
  have few := fo.few T.mem
  have len := T.len
  have sub : ∀ u ∈ tl, u ∈ tIn ts xs := fun u hu => by
    obtain ⟨j, hj⟩ := List.getElem?_of_mem hu
    obtain ⟨i, x, y, p', _, g2, g3, g4, g5⟩ := T.par j u hj
    refine tIn_mem.mpr ⟨p', g4, ?_⟩
    rcases g5 with ⟨e, _⟩ | ⟨e, _⟩ <;> rw [e]
    · exact List.mem_of_getElem? g3
    · exact List.mem_of_getElem? g2
  have := nodup_perm T.tnd (tIn_nd ts xs) sub (by omega)
  exact this.mem_iff.mpr (tIn_mem.mpr ⟨p, hp, (T.mem _).mpr c⟩)
theorem Tree.lenN {n h : Nat} {ts : Prs} {xs tl : List Nat} (T : Tree ts h xs tl) (hW : Wv n ts) (hn : h < n) : xs.length ≤ n := nodup_leN T.nd fun x hx => ((T.mem x).mp hx).lt hW hn
/-! ### one house's mark goes through a web without rings -/
structure Spread (ts : Prs) (h : Nat) (xs tl : List Nat) (s : Int) (st : NSt) : Prop where
  root : st.1.getD h 0 = s
  off : ∀ x, x ∉ xs → st.1.getD x 0 = 0
  offT : ∀ t, t ∉ tl → st.2.getD t 0 = 0
  val : ∀ x, st.1.getD x 0 = 0 ∨ st.1.getD x 0 = s
  tie : ∀ (j t x y : Nat) (p : Nat × Nat), tl[j]? = some t → xs[j + 1]? = some x → ts[t]? = some p → ((p.1 = x ∧ p.2 = y) ∨ (p.1 = y ∧ p.2 = x)) → st.2.getD t 0 = st.1.getD x 0 ∧ (st.1.getD y 0 = 0 → st.1.getD x 0 = 0)
theorem cby0 (x : Int) : cby 0 x = x := rfl
section
variable {rk : Nat → Nat} {n h : Nat} {ts : Prs} {xs tl : List Nat} {s : Int} {st : NSt}
theorem Spread.met (hW : Wv n ts) (fo : Fo rk ts) (T : Tree ts h xs tl) (s0 : s ≠ 0) (l : Ln n ts st) (S : Spread ts h xs tl s st) (t : Nat) :
    Spread ts h xs tl s (metS 0 ts st t) ∧ (∀ x, st.1.getD x 0 = s → (metS 0 ts st t).1.getD x 0 = s) ∧ (∀ j x y p, tl[j]? = some t → xs[j + 1]? = some x → ts[t]? = some p → ((p.1 = x ∧ p.2 = y) ∨ (p.1 = y ∧ p.2 = x)) → st.1.getD y 0 = s → (metS 0 ts st t).1.getD x 0 = s) := by
  cases hp : ts[t]? with
  | none =>
    have : metS 0 ts st t = st := by unfold metS; rw [hp]
    rw [this]
    exact ⟨S, fun x e => e, fun j x y p _ _ e => by cases e⟩
  | some p =>
    by_cases ht : t ∈ tl
    · obtain ⟨j, hj⟩ := List.getElem?_of_mem ht
      obtain ⟨i, x, y, p', ij, g2, g3, g4, g5⟩ := T.par j t hj
      obtain rfl := lookup_same hp g4
      obtain ⟨ea, ez⟩ := S.tie j t x y p hj g3 hp g5
      have xy : x ≠ y := fun z => by
        rw [z] at g3
        have := T.inj g2 g3
        omega
      have ev : metN 0 st.1 st.2 p t = st.1.getD y 0 := by
        unfold metN
        rw [cby0]
        rcases g5 with ⟨e1, e2⟩ | ⟨e1, e2⟩ <;> rw [e1, e2] <;> omega
      have ms : ∀ z, (metS 0 ts st t).1.getD z 0 = if z = x then st.1.getD y 0 else st.1.getD z 0 := fun z => by
        rw [met_s hW l hp, ev]
        by_cases c : z = x
        · rw [if_pos c, if_pos (by rcases g5 with ⟨e1, e2⟩ | ⟨e1, e2⟩ <;> omega)]
        · rw [if_neg c]
          by_cases d : z = y
          · rw [if_pos (by rcases g5 with ⟨e1, e2⟩ | ⟨e1, e2⟩ <;> omega), d]
          · rw [if_neg (by rcases g5 with ⟨e1, e2⟩ | ⟨e1, e2⟩ <;> omega)]
      have ma : ∀ z, (metS 0 ts st t).2.getD z 0 = if z = t then st.1.getD y 0 else st.2.getD z 0 := fun z => by rw [met_a l hp, ev]
      have hx := List.mem_of_getElem? g3
      have xh : x ≠ h := fun z => by
        rw [z] at g3
        have := T.inj T.h0 g3
        omega
      refine ⟨⟨by rw [ms, if_neg (fun z => xh z.symm)]; exact S.root, fun z hz => ?_, fun z hz => ?_, fun z => ?_, fun j' t' x' y' p' k1 k2 k3 k4 => ?_⟩, fun z hz => ?_, fun j' x' y' p' k1 k2 k3 k4 hy => ?_⟩
      · rw [ms, if_neg (fun (q : z = x) => hz (q ▸ hx))]
        exact S.off z hz
      · rw [ma, if_neg (fun (q : z = t) => hz (q ▸ ht))]
        exact S.offT z hz
      · rw [ms]
        split
        · exact S.val y
        · exact S.val z
      · by_cases c : t' = t
        · subst c
          have := T.injT hj k1
          subst this
          obtain rfl := lookup_same g3 k2
          obtain rfl := lookup_same hp k3
          have yy : y' = y := by
            rcases k4 with ⟨e1, e2⟩ | ⟨e1, e2⟩ <;> rcases g5 with ⟨u1, u2⟩ | ⟨u1, u2⟩ <;> omega
          subst yy
          rw [ma, if_pos rfl, ms, if_pos rfl, ms, if_neg xy.symm]
          exact ⟨rfl, fun q => q⟩
        · have jj : j' ≠ j := fun q => by
            subst q
            exact c (lookup_same k1 hj)
          have xx : x' ≠ x := fun q => by
            subst q
            have := T.inj g3 k2
            omega
          obtain ⟨a1, a2⟩ := S.tie j' t' x' y' p' k1 k2 k3 k4
          rw [ma, if_neg c, ms, if_neg xx, ms]
          refine ⟨a1, ?_⟩
          split
          · rename_i q
            rw [q] at a2
            intro z
            exact a2 (ez z)
          · exact a2
      · rw [ms]
        split
        · rename_i q
          rw [q] at hz
          rcases S.val y with v | v
          · rw [ez v] at hz
            exact absurd hz.symm s0
          · exact v
        · exact hz
      · obtain rfl := Option.some.inj k3
        have := T.injT hj k1
        subst this
        obtain rfl := lookup_same g3 k2
        have yy : y' = y := by
          rcases k4 with ⟨e1, e2⟩ | ⟨e1, e2⟩ <;> rcases g5 with ⟨u1, u2⟩ | ⟨u1, u2⟩ <;> omega
        subst yy
        rw [ms, if_pos rfl]
        exact hy
    · have n1 : p.1 ∉ xs := fun q => ht (T.tie fo hp ((T.mem _).mp q))
      have n2 : p.2 ∉ xs := fun q => ht (T.tie fo hp (((T.mem _).mp q).step ⟨p, List.mem_of_getElem? hp, .inr ⟨rfl, rfl⟩⟩))
      have ev : metN 0 st.1 st.2 p t = 0 := by
        unfold metN
        rw [cby0, S.off _ n1, S.off _ n2, S.offT _ ht]; rfl
      have ms : ∀ z, (metS 0 ts st t).1.getD z 0 = st.1.getD z 0 := fun z => by
        rw [met_s hW l hp, ev]
        split
        · rename_i q
          rcases q with q | q <;> rw [q]
          · rw [S.off _ n1]
          · rw [S.off _ n2]
        · rfl
      have ma : ∀ z, (metS 0 ts st t).2.getD z 0 = st.2.getD z 0 := fun z => by
        rw [met_a l hp, ev]
        split
        · rename_i q
          rw [q, S.offT _ ht]
        · rfl
      refine ⟨⟨by rw [ms]; exact S.root, fun z hz => by rw [ms]; exact S.off z hz, fun z hz => by rw [ma]; exact S.offT z hz, fun z => by rw [ms]; exact S.val z, fun j' t' x' y' p' k1 k2 k3 k4 => by rw [ms, ms, ma]; exact S.tie j' t' x' y' p' k1 k2 k3 k4⟩, fun z hz => by rw [ms]; exact hz, fun j' x' y' p' k1 => absurd (List.mem_of_getElem? k1) ht⟩
theorem Spread.run (hW : Wv n ts) (fo : Fo rk ts) (T : Tree ts h xs tl) (s0 : s ≠ 0) : ∀ (o : List Nat) {st : NSt}, Ln n ts st → Spread ts h xs tl s st → Spread ts h xs tl s (runS 0 ts st o) ∧ ∀ x, st.1.getD x 0 = s → (runS 0 ts st o).1.getD x 0 = s
  | [], _, _, S => ⟨S, fun _ e => e⟩
  | t :: o, st, l, S => by
    obtain ⟨a, b, _⟩ := S.met hW fo T s0 l t
    obtain ⟨c, d⟩ := Spread.run hW fo T s0 o (l.met t) a
    exact ⟨c, fun x e => d x (b x e)⟩
/-- a meeting over the tie that leads to the j-th house brings the mark there -/
theorem Spread.reach (hW : Wv n ts) (fo : Fo rk ts) (T : Tree ts h xs tl) (s0 : s ≠ 0) {j t x y : Nat} {p : Nat × Nat} (k1 : tl[j]? = some t) (k2 : xs[j + 1]? = some x) (k3 : ts[t]? = some p) (k4 : (p.1 = x ∧ p.2 = y) ∨ (p.1 = y ∧ p.2 = x)) : ∀ (o : List Nat) {st : NSt}, Ln n ts st → Spread ts h xs tl s st → st.1.getD y 0 = s → t ∈ o → (runS 0 ts st o).1.getD x 0 = s
  | [], _, _, _, _, m => nomatch m
  | u :: o, st, l, S, hy, m => by
    obtain ⟨a, b, c⟩ := S.met hW fo T s0 l u
    rcases List.mem_cons.mp m with e | e
    · subst e
      exact (Spread.run hW fo T s0 o (l.met t) a).2 x (c j x y p k1 k2 k3 k4 hy)
    · exact Spread.reach hW fo T s0 k1 k2 k3 k4 o (l.met u) a (b y hy) e
theorem Spread.round (hW : Wv n ts) (fo : Fo rk ts) (T : Tree ts h xs tl) (s0 : s ≠ 0) {o : List Nat} (ho : ∀ t, t < ts.length → t ∈ o) {k : Nat} (l : Ln n ts st) (S : Spread ts h xs tl s st) (hk : ∀ (i x : Nat), i ≤ k → xs[i]? = some x → st.1.getD x 0 = s) :
    ∀ (i x : Nat), i ≤ k + 1 → xs[i]? = some x → (runS 0 ts st o).1.getD x 0 = s := fun i x hi hx => by
  have R := Spread.run hW fo T s0 o l S
  by_cases c : i ≤ k
  · exact R.2 x (hk i x c hx)
  · obtain rfl : i = k + 1 := by omega
    have lx := lt_at hx
    have := T.len
    obtain ⟨t, ht⟩ := ex_at (l := tl) (i := k) (by omega)
    obtain ⟨i', x', y, p, g1, g2, g3, g4, g5⟩ := T.par k t ht
    obtain rfl := lookup_same hx g3
    exact Spread.reach hW fo T s0 ht g3 g4 g5 o l S (hk i' y g1 g2) (ho t (lt_at g4))
/-- all alike -/
def Alk (ts : Prs) (st : NSt) : Prop := ∀ (t : Nat) (p : Nat × Nat), ts[t]? = some p → st.1.getD p.1 0 = st.2.getD t 0 ∧ st.1.getD p.2 0 = st.2.getD t 0
theorem Spread.alk (fo : Fo rk ts) (T : Tree ts h xs tl) (S : Spread ts h xs tl s st) (hk : ∀ (i x : Nat), xs[i]? = some x → st.1.getD x 0 = s) : Alk ts st := fun t p hp => by
  by_cases ht : t ∈ tl
  · obtain ⟨j, hj⟩ := List.getElem?_of_mem ht
    obtain ⟨i, x, y, p', ij, g2, g3, g4, g5⟩ := T.par j t hj
    obtain rfl := lookup_same hp g4
    obtain ⟨ea, _⟩ := S.tie j t x y p hj g3 hp g5
    rw [ea, hk _ _ g3]
    rcases g5 with ⟨e1, e2⟩ | ⟨e1, e2⟩ <;> rw [e1, e2]
    · exact ⟨hk _ _ g3, hk _ _ g2⟩
    · exact ⟨hk _ _ g2, hk _ _ g3⟩
  · have n1 : p.1 ∉ xs := fun q => ht (T.tie fo hp ((T.mem _).mp q))
    have n2 : p.2 ∉ xs := fun q => ht (T.tie fo hp (((T.mem _).mp q).step ⟨p, List.mem_of_getElem? hp, .inr ⟨rfl, rfl⟩⟩))
    rw [S.off _ n1, S.off _ n2, S.offT _ ht]
    exact ⟨rfl, rfl⟩
end
/-! ### the turns -/
def cyc (o : List Nat) (k : Nat) : List Nat := (List.range k).map fun i => o.getD (i % o.length) 0
theorem cyc_succ (o : List Nat) (k : Nat) : cyc o (k + 1) = cyc o k ++ [o.getD (k % o.length) 0] := by unfold cyc; rw [List.range_succ, List.map_append]; rfl
theorem cyc_round (o : List Nat) (r : Nat) : cyc o ((r + 1) * o.length) = cyc o (r * o.length) ++ o := by
  unfold cyc
  rw [Nat.add_mul, Nat.one_mul, List.range_add, List.map_append, List.map_map]
  congr 1
  refine List.ext_getElem? fun i => ?_
  rw [List.getElem?_map]
  by_cases h : i < o.length
  · rw [List.getElem?_range h]
    show some (o.getD ((r * o.length + i) % o.length) 0) = _
    rw [Nat.add_comm, Nat.add_mul_mod_self_right, Nat.mod_eq_of_lt h, List.getD_eq_getElem?_getD, List.getElem?_eq_getElem h]; rfl
  · rw [List.getElem?_eq_none (by rw [List.length_range]; omega), List.getElem?_eq_none (by omega)]; rfl
theorem cyc_zero (o : List Nat) : cyc o 0 = [] := rfl
/-- the standing in which the i-th alone (houses, then ties) is 1 -/
def unS (n L i : Nat) : NSt := ((List.range n).map fun x => if x = i then 1 else 0, (List.range L).map fun t => if n + t = i then 1 else 0)
theorem map_getD {n x : Nat} {f : Nat → Int} : ((List.range n).map f).getD x 0 = if x < n then f x else 0 := by
  rw [List.getD_eq_getElem?_getD, List.getElem?_map]
  by_cases h : x < n
  · rw [List.getElem?_range h, if_pos h]; rfl
  · rw [List.getElem?_eq_none (by rw [List.length_range]; omega), if_neg h]; rfl
theorem un_s (n L i x : Nat) : (unS n L i).1.getD x 0 = if x < n then (if x = i then 1 else 0) else 0 := map_getD
theorem un_a (n L i t : Nat) : (unS n L i).2.getD t 0 = if t < L then (if n + t = i then 1 else 0) else 0 := map_getD
theorem un_ln (n : Nat) (ts : Prs) (i : Nat) : Ln n ts (unS n ts.length i) := ⟨by simp [unS], by simp [unS]⟩
def U (n : Nat) (ts : Prs) (i : Nat) (o : List Nat) : NSt := runS 0 ts (unS n ts.length i) o
section
variable {rk : Nat → Nat} {n : Nat} {ts : Prs}
theorem un_spread {h : Nat} {xs tl : List Nat} (T : Tree ts h xs tl) (hn : h < n) : Spread ts h xs tl 1 (unS n ts.length h) := by
  have hh := List.mem_of_getElem? T.h0
  refine ⟨by rw [un_s, if_pos hn, if_pos rfl], fun x hx => ?_, fun t _ => ?_, fun x => ?_, fun j t x y p k1 k2 k3 k4 => ?_⟩
  · rw [un_s]
    split
    · rw [if_neg fun (z : x = h) => hx (z ▸ hh)]
    · rfl
  · rw [un_a]
    split
    · rw [if_neg (by omega)]
    · rfl
  · rw [un_s]
    split
    · split
      · exact .inr rfl
      · exact .inl rfl
    · exact .inl rfl
  · have xh : x ≠ h := fun z => by
      rw [z] at k2
      have := T.inj T.h0 k2
      omega
    have e0 : (unS n ts.length h).1.getD x 0 = 0 := by
      rw [un_s, if_neg xh]
      split <;> rfl
    rw [e0, un_a]
    refine ⟨?_, fun _ => rfl⟩
    split
    · rw [if_neg (by omega)]
    · rfl
/-- not yet met over the tie -/
structure Rest0 (ts : Prs) (u : Nat) (st : NSt) : Prop where
  s : ∀ x, st.1.getD x 0 = 0
  a : ∀ t, st.2.getD t 0 = if t = u then 1 else 0
theorem un_rest0 {u : Nat} (hu : u < ts.length) : Rest0 ts u (unS n ts.length (n + u)) := ⟨fun x => by
  rw [un_s]
  split
  · rw [if_neg (by omega)]
  · rfl, fun t => by
  rw [un_a]
  by_cases c : t = u
  · rw [if_pos (by omega), if_pos (by omega), if_pos c]
  · rw [if_neg c]
    split
    · rw [if_neg (by omega)]
    · rfl⟩
theorem Rest0.met {u : Nat} {st : NSt} (hW : Wv n ts) (l : Ln n ts st) (R : Rest0 ts u st) {t : Nat} (ht : t ≠ u) : Rest0 ts u (metS 0 ts st t) := by
  cases hp : ts[t]? with
  | none =>
    have : metS 0 ts st t = st := by unfold metS; rw [hp]
    rw [this]; exact R
  | some p =>
    have ev : metN 0 st.1 st.2 p t = 0 := by
      unfold metN
      rw [cby0, R.s, R.s, R.a, if_neg ht]; rfl
    refine ⟨fun x => ?_, fun z => ?_⟩
    · rw [met_s hW l hp, ev]
      split
      · rfl
      · exact R.s x
    · rw [met_a l hp, ev]
      split
      · rename_i q
        rw [q, if_neg ht]
      · exact R.a z
theorem Rest0.first {u : Nat} {st : NSt} {p : Nat × Nat} {xs tl : List Nat} (hW : Wv n ts) (fo : Fo rk ts) (l : Ln n ts st) (R : Rest0 ts u st) (hp : ts[u]? = some p) (T : Tree ts p.1 xs tl) : Spread ts p.1 xs tl (-1) (metS 0 ts st u) := by
  have ev : metN 0 st.1 st.2 p u = -1 := by
    unfold metN
    rw [cby0, R.s, R.s, R.a, if_pos rfl]; rfl
  have ms : ∀ z, (metS 0 ts st u).1.getD z 0 = if z = p.1 ∨ z = p.2 then -1 else 0 := fun z => by
    rw [met_s hW l hp, ev, R.s]
  have ma : ∀ z, (metS 0 ts st u).2.getD z 0 = if z = u then -1 else 0 := fun z => by
    rw [met_a l hp, ev, R.a]
    by_cases c : z = u
    · rw [if_pos c, if_pos c]
    · rw [if_neg c, if_neg c, if_neg c]
  have u0 := T.tie fo hp .refl
  have m1 := List.mem_of_getElem? T.h0
  have m2 : p.2 ∈ xs := (T.mem _).mpr (Cn.refl.step ⟨p, List.mem_of_getElem? hp, .inl ⟨rfl, rfl⟩⟩)
  obtain ⟨_, _, pp⟩ := hW.at_ hp
  refine ⟨by rw [ms, if_pos (.inl rfl)], fun x hx => ?_, fun t ht => ?_, fun x => ?_, fun j t x y q k1 k2 k3 k4 => ?_⟩
  · rw [ms, if_neg (by rintro (e | e) <;> rw [e] at hx <;> first | exact hx m1 | exact hx m2)]
  · rw [ma, if_neg fun (e : t = u) => ht (e ▸ u0)]
  · rw [ms]
    split
    · exact .inr rfl
    · exact .inl rfl
  · have x1 : x ≠ p.1 := fun z => by
      rw [z] at k2
      have := T.inj T.h0 k2
      omega
    by_cases c : t = u
    · subst c
      obtain rfl := lookup_same hp k3
      have : x = p.2 ∧ y = p.1 := by omega
      obtain ⟨e1, e2⟩ := this
      rw [ma, if_pos rfl, ms, if_pos (.inr e1), ms, if_pos (.inl e2)]
      exact ⟨rfl, fun z => z⟩
    · have x2 : x ≠ p.2 := fun z => by
        obtain ⟨j', hj'⟩ := List.getElem?_of_mem u0
        obtain ⟨i, x', y', p', g1, g2, g3, g4, g5⟩ := T.par j' u hj'
        obtain rfl := lookup_same hp g4
        have x'1 : x' ≠ p.1 := fun w => by
          rw [w] at g3
          have := T.inj T.h0 g3
          omega
        have e : x' = p.2 := by omega
        rw [e, ← z] at g3
        have := T.inj k2 g3
        have e3 : j = j' := by omega
        subst e3
        exact c (lookup_same k1 hj')
      have e0 : (metS 0 ts st u).1.getD x 0 = 0 := by rw [ms, if_neg (by rintro (e | e) <;> first | exact x1 e | exact x2 e)]
      rw [ma, if_neg c, e0]
      exact ⟨rfl, fun _ => rfl⟩
theorem Rest0.run {u : Nat} {p : Nat × Nat} {xs tl : List Nat} (hW : Wv n ts) (fo : Fo rk ts) (hp : ts[u]? = some p) (T : Tree ts p.1 xs tl) : ∀ (o : List Nat) {st : NSt}, Ln n ts st → Rest0 ts u st → (Rest0 ts u (runS 0 ts st o) ∧ u ∉ o) ∨ Spread ts p.1 xs tl (-1) (runS 0 ts st o)
  | [], _, _, R => .inl ⟨R, fun h => nomatch h⟩
  | t :: o, st, l, R => by
    by_cases c : t = u
    · subst c
      exact .inr (Spread.run hW fo T (by decide) o (l.met t) (R.first hW fo l hp T)).1
    · rcases Rest0.run hW fo hp T o (l.met t) (R.met hW l c) with ⟨a, b⟩ | a
      · exact .inl ⟨a, fun h => (by rcases List.mem_cons.mp h with e | e <;> first | exact c e.symm | exact b e)⟩
      · exact .inr a
/-- each number stays -1, 0 or 1 -/
def Sm (x : Int) : Prop := -1 ≤ x ∧ x ≤ 1
theorem Spread.sm {h : Nat} {xs tl : List Nat} {s : Int} {st : NSt} (T : Tree ts h xs tl) (hs : Sm s) (S : Spread ts h xs tl s st) : (∀ x, Sm (st.1.getD x 0)) ∧ ∀ t, Sm (st.2.getD t 0) := by
  have a : ∀ x, Sm (st.1.getD x 0) := fun x => by
    rcases S.val x with e | e <;> rw [e]
    · exact ⟨by decide, by decide⟩
    · exact hs
  refine ⟨a, fun t => ?_⟩
  by_cases ht : t ∈ tl
  · obtain ⟨j, hj⟩ := List.getElem?_of_mem ht
    obtain ⟨i, x, y, p, ij, g2, g3, g4, g5⟩ := T.par j t hj
    rw [(S.tie j t x y p hj g3 g4 g5).1]
    exact a x
  · rw [S.offT t ht]
    exact ⟨by decide, by decide⟩
theorem U_sm (hW : Wv n ts) (fo : Fo rk ts) {i : Nat} (hi : i < n + ts.length) (o : List Nat) : (∀ x, Sm ((U n ts i o).1.getD x 0)) ∧ ∀ t, Sm ((U n ts i o).2.getD t 0) := by
  by_cases c : i < n
  · obtain ⟨xs, tl, T⟩ := tree_exists hW c
    exact (Spread.run hW fo T (by decide) o (un_ln n ts i) (un_spread T c)).1.sm T ⟨by decide, by decide⟩
  · obtain ⟨p, hp⟩ := ex_at (l := ts) (i := i - n) (by omega)
    obtain ⟨xs, tl, T⟩ := tree_exists hW (hW.at_ hp).1
    have e : i = n + (i - n) := by omega
    have R : Rest0 ts (i - n) (unS n ts.length i) := by
      have := un_rest0 (n := n) (ts := ts) (u := i - n) (by omega)
      rw [← e] at this
      exact this
    rcases Rest0.run hW fo hp T o (un_ln n ts i) R with ⟨a, _⟩ | a
    · refine ⟨fun x => ?_, fun t => ?_⟩
      · show Sm ((runS 0 ts (unS n ts.length i) o).1.getD x 0)
        rw [a.s]; exact ⟨by decide, by decide⟩
      · show Sm ((runS 0 ts (unS n ts.length i) o).2.getD t 0)
        rw [a.a]
        split <;> exact ⟨by decide, by decide⟩
    · exact a.sm T ⟨by decide, by decide⟩
theorem Spread.rounds {h : Nat} {xs tl : List Nat} {s : Int} (hW : Wv n ts) (fo : Fo rk ts) (T : Tree ts h xs tl) (s0 : s ≠ 0) {o : List Nat} (ho : ∀ t, t < ts.length → t ∈ o) {st0 : NSt} (l0 : Ln n ts st0) {r0 : Nat} (S : Spread ts h xs tl s (runS 0 ts st0 (cyc o (r0 * o.length)))) : ∀ r, Spread ts h xs tl s (runS 0 ts st0 (cyc o ((r0 + r) * o.length))) ∧ ∀ (i x : Nat), i ≤ r → xs[i]? = some x → (runS 0 ts st0 (cyc o ((r0 + r) * o.length))).1.getD x 0 = s := fun r => by
  induction r with
  | zero =>
    refine ⟨S, fun i x hi hx => ?_⟩
    obtain rfl : i = 0 := by omega
    obtain rfl := lookup_same hx T.h0
    exact S.root
  | succ r ih =>
    rw [← Nat.add_assoc, cyc_round, runS_app]
    exact ⟨(Spread.run hW fo T s0 o (l0.run _) ih.1).1, Spread.round hW fo T s0 ho (l0.run _) ih.1 ih.2⟩
theorem U_rest (hW : Wv n ts) (fo : Fo rk ts) {o : List Nat} (ho : ∀ t, t < ts.length → t ∈ o) {i : Nat} (hi : i < n + ts.length) : Alk ts (U n ts i (cyc o (n * o.length))) := by
  have n1 := hW.n1
  by_cases c : i < n
  · obtain ⟨xs, tl, T⟩ := tree_exists hW c
    have R := Spread.rounds hW fo T (s := 1) (by decide) ho (un_ln n ts i) (r0 := 0) (by rw [Nat.zero_mul]; exact un_spread T c) n
    rw [Nat.zero_add] at R
    exact R.1.alk fo T fun j x hx => R.2 j x (by have := lt_at hx; have := T.lenN hW c; omega) hx
  · obtain ⟨p, hp⟩ := ex_at (l := ts) (i := i - n) (by omega)
    have hp1 := (hW.at_ hp).1
    obtain ⟨xs, tl, T⟩ := tree_exists hW hp1
    have e : i = n + (i - n) := by omega
    have R : Rest0 ts (i - n) (unS n ts.length i) := by
      have := un_rest0 (n := n) (ts := ts) (u := i - n) (by omega)
      rw [← e] at this
      exact this
    have S1 : Spread ts p.1 xs tl (-1) (runS 0 ts (unS n ts.length i) (cyc o (1 * o.length))) := by
      rcases Rest0.run hW fo hp T (cyc o (1 * o.length)) (un_ln n ts i) R with ⟨_, b⟩ | a
      · refine absurd ?_ b
        have z := cyc_round o 0
        rw [Nat.zero_add, Nat.zero_mul, cyc_zero, List.nil_append] at z
        rw [z]
        exact ho _ (by omega)
      · exact a
    have Q := Spread.rounds hW fo T (s := -1) (by decide) ho (un_ln n ts i) S1 (n - 1)
    rw [show 1 + (n - 1) = n by omega] at Q
    exact Q.1.alk fo T fun j x hx => Q.2 j x (by have := lt_at hx; have := T.lenN hW hp1; omega) hx
end
/-! ### any numbers are sums of these -/
def lin (N : Nat) (c f : Nat → Int) : Int := ((List.range N).map fun i => c i * f i).sum
theorem lin_succ (N : Nat) (c f : Nat → Int) : lin (N + 1) c f = lin N c f + c N * f N := by
  unfold lin
  rw [List.range_succ, List.map_append, List.sum_append]
  simp
theorem lin_cong {N : Nat} {c f g : Nat → Int} (h : ∀ i, i < N → f i = g i) : lin N c f = lin N c g := by
  unfold lin
  rw [List.map_congr_left fun i hi => by rw [h i (List.mem_range.mp hi)]]
theorem lin_unit {N x : Nat} (c : Nat → Int) (hx : x < N) : lin N c (fun i => if x = i then 1 else 0) = c x := by
  induction N with
  | zero => omega
  | succ N ih =>
    rw [lin_succ]
    by_cases e : x = N
    · subst e
      have : lin x c (fun i => if x = i then 1 else 0) = 0 := by
        have : ∀ M, M ≤ x → lin M c (fun i => if x = i then 1 else 0) = 0 := fun M => by
          induction M with
          | zero => intro _; rfl
          | succ M ih2 => intro h; rw [lin_succ, ih2 (by omega), if_neg (by omega)]; simp
        exact this x (Nat.le_refl _)
      rw [this, if_pos rfl]; omega
    · rw [ih (by omega), if_neg e]; omega
theorem lin_met (N : Nat) (c f g h : Nat → Int) : lin N c (fun i => f i + g i - h i) = lin N c f + lin N c g - lin N c h := by
  induction N with
  | zero => rfl
  | succ N ih =>
    simp only [lin_succ, ih]
    have : c N * (f N + g N - h N) = c N * f N + c N * g N - c N * h N := by rw [Int.mul_sub, Int.mul_add]
    omega
theorem lin_lin {n : Nat} {m : Int} {ts : Prs} (hW : Wv n ts) (c : Nat → Int) : ∀ (o : List Nat) {st : NSt} (us : Nat → NSt), Ln n ts st → (∀ i, Ln n ts (us i)) → (∀ x, x < n → st.1.getD x 0 = cby m (lin (n + ts.length) c fun i => (us i).1.getD x 0)) → (∀ t, t < ts.length → st.2.getD t 0 = cby m (lin (n + ts.length) c fun i => (us i).2.getD t 0)) →
    (∀ x, x < n → (runS m ts st o).1.getD x 0 = cby m (lin (n + ts.length) c fun i => (runS 0 ts (us i) o).1.getD x 0)) ∧ (∀ t, t < ts.length → (runS m ts st o).2.getD t 0 = cby m (lin (n + ts.length) c fun i => (runS 0 ts (us i) o).2.getD t 0))
  | [], st, us, l, lu, h1, h2 => ⟨h1, h2⟩
  | t :: o, st, us, l, lu, h1, h2 => by
    refine lin_lin hW c o (fun i => metS 0 ts (us i) t) (l.met t) (fun i => (lu i).met t) (fun x hx => ?_) fun u hu => ?_
    · cases hp : ts[t]? with
      | none =>
        have : ∀ m st, metS m ts st t = st := fun m st => by unfold metS; rw [hp]
        rw [this, lin_cong fun i _ => by rw [this]]
        exact h1 x hx
      | some p =>
        obtain ⟨p1, p2, _⟩ := hW.at_ hp
        rw [met_s hW l hp, lin_cong fun i _ => met_s hW (lu i) hp x]
        by_cases c1 : x = p.1 ∨ x = p.2
        · rw [if_pos c1]
          simp only [if_pos c1]
          unfold metN
          rw [h1 _ p1, h1 _ p2, h2 _ (lt_at hp)]
          simp only [cby0]
          rw [lin_met]
          obtain ⟨k1, e1⟩ := cby_is m (lin (n + ts.length) c fun i => (us i).1.getD p.1 0)
          obtain ⟨k2, e2⟩ := cby_is m (lin (n + ts.length) c fun i => (us i).1.getD p.2 0)
          obtain ⟨k3, e3⟩ := cby_is m (lin (n + ts.length) c fun i => (us i).2.getD t 0)
          rw [e1, e2, e3]
          generalize lin (n + ts.length) c (fun i => (us i).1.getD p.1 0) = a1
          generalize lin (n + ts.length) c (fun i => (us i).1.getD p.2 0) = a2
          generalize lin (n + ts.length) c (fun i => (us i).2.getD t 0) = a3
          have e : a1 + m * k1 + (a2 + m * k2) - (a3 + m * k3) = (a1 + a2 - a3) + m * (k1 + k2 - k3) := by
            rw [Int.mul_sub, Int.mul_add]; omega
          rw [e, cby_cong]
        · rw [if_neg c1]
          simp only [if_neg c1]
          exact h1 x hx
    · cases hp : ts[t]? with
      | none =>
        have : ∀ m st, metS m ts st t = st := fun m st => by unfold metS; rw [hp]
        rw [this, lin_cong fun i _ => by rw [this]]
        exact h2 u hu
      | some p =>
        obtain ⟨p1, p2, _⟩ := hW.at_ hp
        rw [met_a l hp, lin_cong fun i _ => met_a (lu i) hp u]
        by_cases c1 : u = t
        · rw [if_pos c1]
          simp only [if_pos c1]
          unfold metN
          rw [h1 _ p1, h1 _ p2, h2 _ (lt_at hp)]
          simp only [cby0]
          rw [lin_met]
          obtain ⟨k1, e1⟩ := cby_is m (lin (n + ts.length) c fun i => (us i).1.getD p.1 0)
          obtain ⟨k2, e2⟩ := cby_is m (lin (n + ts.length) c fun i => (us i).1.getD p.2 0)
          obtain ⟨k3, e3⟩ := cby_is m (lin (n + ts.length) c fun i => (us i).2.getD t 0)
          rw [e1, e2, e3]
          generalize lin (n + ts.length) c (fun i => (us i).1.getD p.1 0) = a1
          generalize lin (n + ts.length) c (fun i => (us i).1.getD p.2 0) = a2
          generalize lin (n + ts.length) c (fun i => (us i).2.getD t 0) = a3
          have e : a1 + m * k1 + (a2 + m * k2) - (a3 + m * k3) = (a1 + a2 - a3) + m * (k1 + k2 - k3) := by
            rw [Int.mul_sub, Int.mul_add]; omega
          rw [e, cby_cong]
        · rw [if_neg c1]
          simp only [if_neg c1]
          exact h2 u hu
/-- the numbers of a standing, houses ahead -/
def coef (n : Nat) (st : NSt) (i : Nat) : Int := if i < n then st.1.getD i 0 else st.2.getD (i - n) 0
theorem run_lin {n : Nat} {m : Int} {ts : Prs} {st : NSt} (hW : Wv n ts) (l : Ln n ts st) (rs : Rdc m st) (ra : ∀ t, t < ts.length → cby m (st.2.getD t 0) = st.2.getD t 0) (o : List Nat) :
    (∀ x, x < n → (runS m ts st o).1.getD x 0 = cby m (lin (n + ts.length) (coef n st) fun i => (U n ts i o).1.getD x 0)) ∧ (∀ t, t < ts.length → (runS m ts st o).2.getD t 0 = cby m (lin (n + ts.length) (coef n st) fun i => (U n ts i o).2.getD t 0)) := by
  refine lin_lin hW (coef n st) o (fun i => unS n ts.length i) l (fun i => un_ln n ts i) (fun x hx => ?_) fun t ht => ?_
  · rw [lin_cong (g := fun i => if x = i then 1 else 0) fun i _ => by rw [un_s, if_pos hx], lin_unit _ (by omega)]
    unfold coef
    rw [if_pos hx, rs]
  · rw [lin_cong (g := fun i => if n + t = i then 1 else 0) fun i _ => by rw [un_a, if_pos ht], lin_unit _ (by omega)]
    unfold coef
    rw [if_neg (by omega), Nat.add_sub_cancel_left, ra t ht]
/-- when all marks are at rest, all is -/
theorem alk_all {n : Nat} {m : Int} {ts : Prs} {st : NSt} (hW : Wv n ts) (l : Ln n ts st) (rs : Rdc m st) (ra : ∀ t, t < ts.length → cby m (st.2.getD t 0) = st.2.getD t 0) {o : List Nat} (h : ∀ i, i < n + ts.length → Alk ts (U n ts i o)) : Alk ts (runS m ts st o) := fun t p hp => by
  obtain ⟨a, b⟩ := run_lin hW l rs ra o
  obtain ⟨p1, p2, _⟩ := hW.at_ hp
  rw [a _ p1, a _ p2, b _ (lt_at hp)]
  exact ⟨congrArg _ (lin_cong fun i hi => (h i hi t p hp).1), congrArg _ (lin_cong fun i hi => (h i hi t p hp).2)⟩
/-! ### digits -/
theorem lin_tens {d : Nat → Int} : ∀ N : Nat, (∀ i, i < N → -2 ≤ d i ∧ d i ≤ 2) → lin N (fun i => (10 : Int) ^ i) d = 0 → ∀ i, i < N → d i = 0 := fun N => by
  induction N generalizing d with
  | zero => intro _ _ i hi; omega
  | succ N ih =>
    intro h e
    have e2 : lin (N + 1) (fun i => (10 : Int) ^ i) d = d 0 + 10 * lin N (fun i => (10 : Int) ^ i) (fun i => d (i + 1)) := by
      have : ∀ M : Nat, lin (M + 1) (fun i => (10 : Int) ^ i) d = d 0 + 10 * lin M (fun i => (10 : Int) ^ i) (fun i => d (i + 1)) := fun M => by
        induction M with
        | zero => rw [lin_succ]; show lin 0 _ _ + 10 ^ 0 * d 0 = d 0 + 10 * lin 0 _ _; simp [lin]
        | succ M ihM =>
          rw [lin_succ (M + 1), ihM, lin_succ M, Int.mul_add, ← Int.mul_assoc]
          show _ + 10 ^ (M + 1) * d (M + 1) = _
          rw [show (10 : Int) ^ (M + 1) = 10 * 10 ^ M by rw [Int.pow_succ]; omega]
          omega
      exact this N
    rw [e2] at e
    have h0 := h 0 (by omega)
    have d0 : d 0 = 0 := by omega
    rw [d0] at e
    have e3 : lin N (fun i => (10 : Int) ^ i) (fun i => d (i + 1)) = 0 := by omega
    have r := ih (d := fun i => d (i + 1)) (fun i hi => h (i + 1) (by omega)) e3
    intro i hi
    cases i with
    | zero => exact d0
    | succ i => exact r i (by omega)
theorem lin_sub (N : Nat) (c f g : Nat → Int) : lin N c (fun i => f i - g i) = lin N c f - lin N c g := by
  induction N with
  | zero => rfl
  | succ N ih =>
    simp only [lin_succ, ih, Int.mul_sub]
    omega
/-- the law's standing: powers of ten -/
def tens (n L : Nat) : NSt := ((List.range n).map fun x => (10 : Int) ^ x, (List.range L).map fun t => (10 : Int) ^ (n + t))
theorem tens_ln (n : Nat) (ts : Prs) : Ln n ts (tens n ts.length) := ⟨by simp [tens], by simp [tens]⟩
theorem tens_alk {rk : Nat → Nat} {n : Nat} {ts : Prs} (hW : Wv n ts) (fo : Fo rk ts) (o : List Nat) : Alk ts (runS 0 ts (tens n ts.length) o) ↔ ∀ i, i < n + ts.length → Alk ts (U n ts i o) := by
  have l := tens_ln n ts
  have rs : Rdc 0 (tens n ts.length) := fun x => rfl
  have ra : ∀ t, t < ts.length → cby 0 ((tens n ts.length).2.getD t 0) = (tens n ts.length).2.getD t 0 := fun t _ => rfl
  refine ⟨fun h => ?_, fun h => alk_all hW l rs ra h⟩
  obtain ⟨a, b⟩ := run_lin hW l rs ra o
  have ec : ∀ f : Nat → Int, lin (n + ts.length) (coef n (tens n ts.length)) f = lin (n + ts.length) (fun i => (10 : Int) ^ i) f := fun f => by
    unfold lin
    refine congrArg _ (List.map_congr_left fun i hi => ?_)
    have hi' := List.mem_range.mp hi
    have : coef n (tens n ts.length) i = 10 ^ i := by
      unfold coef tens
      by_cases c : i < n
      · rw [if_pos c, map_getD, if_pos c]
      · rw [if_neg c, map_getD, if_pos (by omega), show n + (i - n) = i by omega]
    rw [this]
  intro i hi t p hp
  obtain ⟨p1, p2, _⟩ := hW.at_ hp
  obtain ⟨h1, h2⟩ := h t p hp
  rw [a _ p1, b _ (lt_at hp), cby0, cby0, ec, ec] at h1
  rw [a _ p2, b _ (lt_at hp), cby0, cby0, ec, ec] at h2
  have key : ∀ f g : Nat → Int, (∀ i, i < n + ts.length → Sm (f i) ∧ Sm (g i)) → lin (n + ts.length) (fun i => (10 : Int) ^ i) f = lin (n + ts.length) (fun i => (10 : Int) ^ i) g → f i = g i := fun f g hfg e => by
    have := lin_tens (d := fun i => f i - g i) (n + ts.length) (fun i hi => by
      obtain ⟨⟨u1, u2⟩, v1, v2⟩ := hfg i hi
      show -2 ≤ f i - g i ∧ f i - g i ≤ 2
      omega) (by rw [lin_sub, e]; omega) i hi
    have z : f i - g i = 0 := this
    omega
  exact ⟨key _ _ (fun i hi => ⟨(U_sm hW fo hi o).1 _, (U_sm hW fo hi o).2 _⟩) h1, key _ _ (fun i hi => ⟨(U_sm hW fo hi o).1 _, (U_sm hW fo hi o).2 _⟩) h2⟩
end K1
namespace K1
open PySem PySem.Spec PyProof.Rows L2
section
variable {P : Program} {w : World} {A : Around} {E : Value → Shared → Prop} {s : Shared}
theorem call_set_lstI {l : Addr} {items : Array Value} (ns : List Int) {Q : Value → Shared → Prop} (hh : A.handled = none) (hl : s.heap.IsList l items) (hit : IntsAre items.toList ns) (hb : ns.length + 1 < scanBound)
    (h : ∀ (h' : Heap) (tk c : Nat), SetR w h' s.heap.objs.size (fun j => decide (j ∈ ns)) c → c ≤ ns.length → (∀ b o, s.heap.get? b = some o → h'.get? b = some o) → Q (.ref s.heap.objs.size) { s with heap := h', toks := tk }) :
    wpAny (model P w) A (call (.type "set") [.ref l]) Q E s := by
  have hisz : items.size = ns.length := by
    have q := IntsAre.length hit
    rw [Array.length_toList] at q
    exact q
  obtain ⟨c, tl, hmro⟩ := F.called_set.mro
  have hmade := F.called_set.made
  have hsub := F.called_set.sub
  refine wpAny_call (codeAny_of_tree ?_)
  show wpAny _ _ (callAny (.type "set") _) _ _ _
  refine wpAny_pure ⟨Code.quiet_builtin _ (by decide +kernel), codeAny_builtin F.entry_type_call ?_⟩
  rw [Around.under_plain (weight_type_call_type "set" [.ref l] []) rfl]
  have h1 := F.called_set.notType
  have h2 := F.called_set.canCreate
  have hct := F.typeCall_set_1 (.ref l)
  repeat (any_goals (first | assumption | wp_step))

  refine codeAny_mono (code_set_led1 (.ref l) (E := E) (Q₁ := fun obj s₁ => obj = .ref s.heap.objs.size ∧ s₁ = { s with heap := s.heap.push { cls := .type "set", dict := none, data := .set #[] 0 (.fresh 0 0 (!w.params.followText "set-order")) } }) ⟨rfl, rfl⟩) fun r s₁ hr => ?_
  cases r with
  | error e => exact hr
  | ok fl =>
    cases fl with
    | ret obj =>
      obtain ⟨rfl, rfl⟩ := hr
      have hS : (s.heap.push { cls := .type "set", dict := none, data := .set #[] 0 (.fresh 0 0 (!w.params.followText "set-order")) }).get? s.heap.objs.size = some { cls := .type "set", dict := none, data := .set #[] 0 (.fresh 0 0 (!w.params.followText "set-order")) } := Heap.get?_push_size _ rfl
      have hT : Shared.TypeIs { s with heap := s.heap.push { cls := .type "set", dict := none, data := .set #[] 0 (.fresh 0 0 (!w.params.followText "set-order")) } } (.ref s.heap.objs.size) "set" := ⟨_, hS, rfl⟩
      have hli := F.called_set.init.lookup
      have hbi := F.called_set.init.bind (.ref s.heap.objs.size)
      repeat (any_goals (first | assumption | wp_step))

      refine codeAny_mono (codeAny_call_builtin (R := wants (fun r s₂ => r = .none ∧ ∃ h' tk c, s₂ = { s with heap := h', toks := tk } ∧ SetR w h' s.heap.objs.size (fun j => decide (j ∈ ns)) c ∧ c ≤ ns.length ∧
          (∀ b o, s.heap.get? b = some o → h'.get? b = some o)) E) F.called_set.init.plain F.entry_set_init (check_set_init_1 hT ?_)) fun r₂ s₂ hr₂ => ?_
      · obtain ⟨ol, hol, hcl, nl, hdl⟩ := hl
        obtain ⟨ocls, odict, odata, oslots⟩ := ol
        simp only at hcl hdl
        subst hcl; subst hdl
        have hol' : (s.heap.push { cls := .type "set", dict := none, data := .set #[] 0 (.fresh 0 0 (!w.params.followText "set-order")) }).get? l = some { cls := .type "list", dict := odict, data := .seq items nl, slots := oslots } := Heap.get?_push_of_some _ hol
        have hsls := F.sub_list_set
        have hslf := F.sub_list_frozenset
        have hne : (Value.type "list" == Value.type "dict") = false := by decide
        have hl1 : (s.heap.push { cls := .type "set", dict := none, data := .set #[] 0 (.fresh 0 0 (!w.params.followText "set-order")) }).IsList l items := ⟨_, hol', rfl, nl, rfl⟩
        unfold Builtin.«set.__init__» noKeywords Builtin.Frozenset.updateFrom
        generalize hPI : pyIter = PI
        wp_walk
        subst hPI

        refine wpAny_pyIter_list hl1 ?_
        refine wpAny_bind (wpAny_runValue ?_)
        have hlS : l < s.heap.objs.size := Heap.lt_size hol
        have hh3 : A.in1.in1.in1.handled = none := by simp [hh]
        have hz1 : (s.heap.push { cls := .type "set", dict := none, data := .set #[] 0 (.fresh 0 0 (!w.params.followText "set-order")) }).objs.size = s.heap.objs.size + 1 := Heap.size_push ..
        have hneI : l ≠ (s.heap.push { cls := .type "set", dict := none, data := .set #[] 0 (.fresh 0 0 (!w.params.followText "set-order")) }).objs.size := by
          rw [Heap.size_push]; exact Nat.ne_of_lt (Nat.lt_succ_of_lt hlS)
        have hSf : s.heap.objs.size ∉ [(s.heap.push { cls := .type "set", dict := none, data := .set #[] 0 (.fresh 0 0 (!w.params.followText "set-order")) }).objs.size, l] := by
          rw [Heap.size_push]; simp only [List.mem_cons, List.mem_singleton, List.not_mem_nil, or_false, not_or]
          exact ⟨Nat.ne_of_lt (Nat.lt_succ_self _), Nat.ne_of_gt hlS⟩
        have hval : ∀ (i : Nat) (v : Value), items[i]? = some v → ∃ k t, ns[i]? = some k ∧ v = .int k t := fun i v hv => by
          have hi : i < ns.length := by rw [← hisz]; exact (Array.getElem?_eq_some_iff.mp hv).1
          obtain ⟨t, e⟩ := PyProof.Rows.IntsAre.int_at hit i v (by rw [Array.getElem?_toList]; exact hv)
          refine ⟨ns[i], t, List.getElem?_eq_getElem hi, ?_⟩
          rw [e, List.getD_eq_getElem?_getD, List.getElem?_eq_getElem hi] <;> rfl
        refine set_update_ints ((Walks.list hh3 _ l hneI items).toS) s.heap.objs.size
          hSf ns hisz hb hval (items.size - 0) 0 _ (by omega) (Nat.zero_le _)
          ⟨⟨_, Heap.get?_push_size _ rfl, rfl, rfl⟩, (hl1.push _)⟩ ?hS0 ?hR
        case hS0 =>
          have hget : ((s.heap.push { cls := .type "set", dict := none, data := .set #[] 0 (.fresh 0 0 (!w.params.followText "set-order")) }).push { cls := .type "list_iterator", data := .fields #[.ref l, .int 0 0] }).get? s.heap.objs.size
              = some { cls := .type "set", dict := none, data := .set #[] 0 (.fresh 0 0 (!w.params.followText "set-order")) } := Heap.get?_push_of_some _ hS
          exact ⟨0, Nat.le_refl 0, setR_new_at hget⟩
        case hR =>
          intro s' c' hm hc' hS'
          obtain ⟨h', g2, d', tk', os'⟩ := s'
          have eg : g2 = s.gens := hm.gens
          have ed : d' = s.drawn := hm.drawn
          have eo : os' = s.os := hm.os
          subst eg; subst ed; subst eo
          show wpAny _ _ _ _ _ _
          refine wpAny_pure ?_
          show wpAny _ _ (ret Value.none) _ _ _
          rw [hisz] at hc'
          refine wpAny_pure ⟨rfl, h', tk', c', rfl, hS', hc', fun b o e => ?_⟩
          have hb0 : b < s.heap.objs.size := Heap.lt_size e
          have hb1 : b ≠ s.heap.objs.size := Nat.ne_of_lt hb0
          have hb2 : b ≠ (s.heap.push { cls := .type "set", dict := none, data := .set #[] 0 (.fresh 0 0 (!w.params.followText "set-order")) }).objs.size := by
            rw [Heap.size_push]; exact Nat.ne_of_lt (Nat.lt_succ_of_lt hb0)
          exact hm.heap b o (by simp only [List.mem_cons, List.mem_singleton, List.not_mem_nil, or_false, not_or]; exact ⟨hb1, hb2⟩) (Heap.get?_push_of_some _ (Heap.get?_push_of_some _ e))

      · cases r₂ with
        | error e => exact hr₂
        | ok fl₂ =>
          cases fl₂ with
          | ret r =>
            obtain ⟨rfl, h', tk, c', rfl, hS', hc', hk'⟩ := hr₂
            repeat (any_goals (first | assumption | wp_step))
            exact h _ _ _ hS' hc' hk'
          | _ => exact hr₂.elim
    | _ => exact hr.elim

end

theorem dup_erase : ∀ ns : List Int, ¬ ns.Nodup → ∃ a, a ∈ ns ∧ a ∈ ns.erase a
  | [], h => absurd List.nodup_nil h
  | x :: r, h => by
    by_cases m : x ∈ r
    · exact ⟨x, List.mem_cons_self, by rw [List.erase_cons_head]; exact m⟩
    · have hr : ¬ r.Nodup := fun q => h (List.nodup_cons.mpr ⟨m, q⟩)
      obtain ⟨a, h1, h2⟩ := dup_erase r hr
      have ne : x ≠ a := fun e => m (e ▸ h1)
      exact ⟨a, List.mem_cons_of_mem _ h1, by rw [List.erase_cons_tail (by simpa using ne)]; exact List.mem_cons_of_mem _ h2⟩
theorem setR_cnt {w : World} {h : Heap} {a : Addr} {ns : List Int} {c : Nat} (R : SetR w h a (fun j => decide (j ∈ ns)) c) : (ns.Nodup → c = ns.length) ∧ (¬ ns.Nodup → c < ns.length) := by
  obtain ⟨o, es, ep, t, ho, hx, hd, hg, nd, mem, _, _, hn, _⟩ := R
  have lc : (es.toList.map keyOf).length = c := by rw [List.length_map, Array.length_toList]; exact hn
  have sub : ∀ x ∈ es.toList.map keyOf, x ∈ ns := fun x hx => of_decide_eq_true ((mem x).mpr hx)
  refine ⟨fun q => ?_, fun q => ?_⟩
  · have h1 := nodup_sub _ _ nd sub
    have h2 := nodup_sub ns (es.toList.map keyOf) q fun x hx => (mem x).mp (decide_eq_true hx)
    omega
  · obtain ⟨b, h1, h2⟩ := dup_erase ns q
    have h3 := nodup_sub _ (ns.erase b) nd fun x hx => by
      by_cases e : x = b
      · rw [e]; exact h2
      · exact (List.mem_erase_of_ne e).mpr (sub x hx)
    rw [List.length_erase_of_mem h1] at h3
    have := List.length_pos_of_mem h1
    omega
def tLenSetQ (K : PySem.W.Frag) (ta : TE) : TE := fun σ H Q => ta σ H fun x H1 => ∃ (l : Addr) (ns : List Int), x = .ref l ∧ (SqL K H1 l (ns.map V.int) ∨ SqT K H1 l (ns.map V.int)) ∧ ns.length ≤ 1000 ∧ ∀ c : Nat, (ns.Nodup → c = ns.length) → (¬ ns.Nodup → c < ns.length) → Q (.int (c : Nat)) H1
theorem pe_lenSetQ {X : Cx} {a : Expr} {ta : TE} {p p2 q pos : Pos} (hg : Gl X "len") (hm : X.mg "len" = none) (hg2 : Gl X "set") (hm2 : X.mg "set" = none) (ha : PE X a ta) (hc : X.calm = true := by rfl)
    (na : starEach [a] X.env = (false, eval a X.env) :: starEach [] X.env := by rfl) : PE X (.Call (.Name "len" p) [.Call (.Name "set" p2) [a] [] q] [] pos) (tLenSetQ X.K ta) := by
  refine ⟨fun pins s σ H Q I h => ?_⟩
  refine Call_ (ld_blt I hg hm PySem.boot_len ?_)
  refine PyProof.Rows.callWith_builtin1 (PyProof.Rows.args_cons ?_ rfl) rfl rfl
  refine Call_ (ld_blt I hg2 hm2 PyProof.Rows.boot_set ?_)
  refine PyProof.Rows.callWith_type1 (PyProof.Rows.args_cons (thn (ha.run pins s σ H _ I h) fun v s1 ⟨x, H1, I1, r1, q1⟩ => PyProof.Rows.args_nil ?_) na) na rfl
  obtain ⟨l, ns, rfl, hq, hl, q1⟩ := q1
  cases r1
  rcases hq with hq | hq
  · obtain ⟨its, r, pl, hz⟩ := I1.list hq
    refine call_set_lstI ns (I1.ok.hd hc) pl.isList (by simpa using r.ints) (by unfold scanBound; omega) fun h' tk c R hcn hk => ?_
    refine PyProof.Rows.args_nil ?_
    obtain ⟨c1, c2⟩ := setR_cnt R
    obtain ⟨o, es, ep, t, ho, hex, hd, _, _, _, _, hf, hn, _⟩ := R
    have I2 : Inv X pins σ H1 { s1 with heap := h', toks := tk } := I1.kept fun b o e => hk b o e
    exact call_len_set ho hex hd hf (by omega) ⟨.int c, H1, I2.tok _, ⟨_, by rw [hn]⟩, q1 c c1 c2⟩
  · obtain ⟨its, r, pl, hz⟩ := I1.tuple hq
    refine call_set_tupI ns (I1.ok.hd hc) pl (by simpa using r.ints) (by unfold scanBound; omega) fun h' tk c R hcn hk => ?_
    refine PyProof.Rows.args_nil ?_
    obtain ⟨c1, c2⟩ := setR_cnt R
    obtain ⟨o, es, ep, t, ho, hex, hd, _, _, _, _, hf, hn, _⟩ := R
    have I2 : Inv X pins σ H1 { s1 with heap := h', toks := tk } := I1.kept fun b o e => hk b o e
    exact call_len_set ho hex hd hf (by omega) ⟨.int c, H1, I2.tok _, ⟨_, by rw [hn]⟩, q1 c c1 c2⟩
end K1
namespace K1
open PySem PySem.Spec PyProof.Rows L2
/-- a source of draws -/
def BoxO (H : Hp) (b : Addr) : Prop := ∃ x y : Int, H b = some (.lst [.int x, .int y])
/-- all but the source stands, which is one again -/
def Bx (b : Addr) (H H' : Hp) : Prop := BoxO H' b ∧ ∀ c o, H c = some o → c ≠ b → H' c = some o
theorem Bx.refl {b : Addr} {H : Hp} (h : BoxO H b) : Bx b H H := ⟨h, fun _ _ e _ => e⟩
theorem Bx.trans {b : Addr} {H H1 H2 : Hp} (a : Bx b H H1) (c : Bx b H1 H2) : Bx b H H2 := ⟨c.1, fun d o e n => c.2 d o (a.2 d o e n) n⟩
theorem BoxO.same {b : Addr} {H H' : Hp} (h : BoxO H b) (s : Same H H') : BoxO H' b := let ⟨x, y, e⟩ := h; ⟨x, y, s _ _ e⟩
theorem Bx.same {b : Addr} {H H1 H2 : Hp} (a : Bx b H H1) (s : Same H1 H2) : Bx b H H2 := ⟨a.1.same s, fun d o e n => s _ _ (a.2 d o e n)⟩
theorem Same.bx {b : Addr} {H H1 H2 : Hp} (s : Same H H1) (a : Bx b H1 H2) : Bx b H H2 := ⟨a.1, fun d o e n => a.2 d o (s _ _ e) n⟩
theorem Bx.set {b : Addr} {H : Hp} {x y : Int} : Bx b H (upd H b (.lst [.int x, .int y])) := ⟨⟨x, y, upd_same⟩, fun c o e n => by rw [upd_ne n]; exact e⟩
theorem Bx.free {b c : Addr} {H H' : Hp} (a : Bx b H H') (hb : c ≠ b) (h : H' c = none) : H c = none := by
  cases q : H c with
  | none => rfl
  | some o => rw [a.2 c o q hb] at h; cases h
theorem BoxO.ne {b c : Addr} {H : Hp} {o : HO} (h : BoxO H b) (e : H c = some o) (n : ∀ xs, o ≠ .lst xs) : c ≠ b := fun z => by
  obtain ⟨x, y, hb⟩ := h
  rw [z, hb] at e
  exact n _ (Option.some.inj e).symm
theorem Bx.ne {b c : Addr} {H H' : Hp} (a : Bx b H H') (h : H' c = none) : c ≠ b := fun z => by
  obtain ⟨x, y, hb⟩ := a.1
  rw [z, hb] at h
  cases h
theorem Bx.new {b p : Addr} {H H' : Hp} {o : HO} (a : Bx b H H') (h : H' p = none) : Bx b H (upd H' p o) := a.same (same_new h)
theorem Bx.put {b p : Addr} {H H' : Hp} {o : HO} (a : Bx b H H') (hp : H p = none) (n : p ≠ b) : Bx b H (upd H' p o) := ⟨let ⟨x, y, e⟩ := a.1; ⟨x, y, by rw [upd_ne n.symm]; exact e⟩, fun c o' e n' => by rw [upd_ne (ne_of_none e hp)]; exact a.2 c o' e n'⟩
theorem Bx.tup {b c : Addr} {H H' : Hp} {xs : List V} (x : Bx b H H') (hb : BoxO H b) (h : H c = some (.tup xs)) : H' c = some (.tup xs) := x.2 _ _ h (hb.ne h fun xs => by intro z; cases z)
def spTake : Sp := fun vs H Q _ => ∃ b n, vs = [.ref b, .int n] ∧ BoxO H b ∧ 1 ≤ n ∧ n < 1073741824 ∧ ∀ r H', 0 ≤ r → r < n → Bx b H H' → Q (.int r) H'
def spPick : Sp := fun vs H Q _ => ∃ (b l : Addr) (xs : List V), vs = [.ref b, .ref l] ∧ BoxO H b ∧ H l = some (.lst xs) ∧ l ≠ b ∧ 1 ≤ xs.length ∧ xs.length ≤ 1000 ∧ ∀ (i : Nat) v H', xs[i]? = some v → Bx b H H' → Q v H'
def spBox (K : PySem.W.Frag) : Sp := fun vs H Q _ => ∃ (a : Addr) (ns : List Int) (k : Int), vs = [.ref a, .int k] ∧ SqL K H a (ns.map V.int) ∧ ns.length ≤ 63 ∧ 0 ≤ k ∧ k ≤ 10 ∧ ∀ b H', Same H H' → H b = none → BoxO H' b → Q (.ref b) H'
section
variable {P : Program} {w : World} {K : PySem.W.Frag} {mg : Str → Option Value} {base : Heap}
theorem scTk : FnScope ["_law_box_here", "_law_many", "_law_digit", "_law_raw"] ["_law_box_here", "_law_many"] (defScope sLTake) := ⟨rfl, rfl, rfl, by decide +kernel, rfl, by decide +kernel, by decide +kernel⟩
theorem ok_take {f : Addr} {fd : FuncData} (D : Df K mg "_law_take" sLTake ["_law_box_here", "_law_many"] f fd) (B : Bt mg) : FnOk P w K mg base CX0 1 f fd ["_law_box_here", "_law_many"] spTake := by
  refine D.F.ok scTk (fun vs H Q E h => ?_) (fun cdv A outer s H vs Q E hr h => ?_)
  · obtain ⟨b, n, rfl, _⟩ := h
    rfl
  · obtain ⟨b, n, rfl, ⟨x, y, hb⟩, h1, h2, q⟩ := h
    refine ⟨_, pss_cons (ps_if (pt_cmpR op_gt (pe_ix ix_list (pv 0) pe_int (fun _ _ => rfl)) pe_int (nomark _))
        (pss_cons (ps_set (i := 2) scTk.nd rfl (.inl rfl) (pe_op op_mod (pe_callTy call_int1 (by rfl) B.int PyProof.Rows.boot_int (pa_cons (pe_ix ix_list (pv 0) pe_int (fun _ _ => rfl)) pa_nil)) (pv 1)))
        (pss_cons (ps_asg (pe_op op_fdivN (pe_ix ix_list (pv 0) pe_int (fun _ _ => rfl)) (pv 1)) (pg_sub (pv 0) pe_int set_list))
        (pss_one (ps_ret (pv 2))))) pss_nil)
      (pss_cons (ps_set (i := 3) scTk.nd rfl (.inl rfl) (pe_op op_mod (pe_callTy call_int1 (by rfl) B.int PyProof.Rows.boot_int (pa_cons (pe_op op_add (pe_op op_mul (pe_ix ix_list (pv 0) pe_int (fun _ _ => rfl)) pe_int) pe_int) pa_nil)) pe_int))
      (pss_cons (ps_asg (pe_op op_add (pe_op op_mod (pe_callTy call_int1 (by rfl) B.int PyProof.Rows.boot_int (pa_cons (pe_op op_add (pe_op op_mul (pv 3) pe_int) pe_int) pa_nil)) pe_int) pe_int) (pg_sub (pv 0) pe_int set_list))
      (pss_one (ps_ret (pe_op op_mod (pe_callTy call_int1 (by rfl) B.int PyProof.Rows.boot_int (pa_cons (pe_op op_fdivN (pe_op op_add (pe_op op_mul (pv 3) pe_int) (pe_ix ix_list (pv 0) pe_int (fun _ _ => rfl))) pe_int) pa_nil)) (pv 1)))))), ?_⟩
    have a0 : ∀ {u v : Int}, atI [V.int u, V.int v] 0 = some (V.int u) := fun {u v} => atI_nat (j := 0) rfl
    have a1 : ∀ {u v : Int}, atI [V.int u, V.int v] 1 = some (V.int v) := fun {u v} => atI_nat (j := 1) rfl
    have np : 0 < n := by omega
    refine ⟨_, rfl, b, _, 0, .int x, rfl, rfl, SqL.of hb, a0, _, _, rfl, rfl, _, rfl, ifD (fun e => ?_) fun e => ?_⟩
    · refine ⟨_, rfl, b, _, 0, .int x, rfl, rfl, SqL.of hb, a0, .inl ⟨x, rfl, _, rfl, _, _, rfl, rfl, np, ?_⟩⟩
      refine ⟨_, rfl, b, _, 0, .int x, rfl, rfl, SqL.of hb, a0, _, rfl, _, _, rfl, rfl, ⟨by omega, by omega⟩, _, rfl, b, _, 0, 0, rfl, rfl, hb, rfl, ?_⟩
      exact ⟨_, rfl, q _ _ (Int.emod_nonneg _ (by omega)) (Int.emod_lt_of_pos _ np) Bx.set⟩
    · refine ⟨_, rfl, b, _, 1, .int y, rfl, rfl, SqL.of hb, a1, _, _, rfl, rfl, .inr ⟨by decide, by decide⟩, _, _, rfl, rfl, .inl ⟨_, rfl, _, _, rfl, rfl, (by decide : (0 : Int) < 2147483399), ?_⟩⟩
      refine ⟨_, rfl, _, _, rfl, rfl, .inr ⟨by decide, by decide⟩, _, _, rfl, rfl, .inl ⟨_, rfl, _, _, rfl, rfl, (by decide : (0 : Int) < 2147483587), _, _, rfl, rfl, _, rfl, b, _, 1, 1, rfl, rfl, hb, rfl, ?_⟩⟩
      generalize hH2 : upd H b _ = H2
      have hb2 : ∃ y', H2 b = some (.lst [.int x, .int y']) := ⟨_, by rw [← hH2, upd_same]; rfl⟩
      obtain ⟨y', hb2⟩ := hb2
      have bx : Bx b H H2 := ⟨⟨_, _, hb2⟩, fun c o e n => by rw [← hH2, upd_ne n]; exact e⟩
      refine ⟨_, rfl, _, _, rfl, rfl, .inr ⟨by decide, by decide⟩, _, rfl, b, _, 1, .int y', rfl, rfl, SqL.of hb2, a1, _, _, rfl, rfl, _, _, rfl, rfl, ⟨by decide, by decide⟩, .inl ⟨_, rfl, _, rfl, _, _, rfl, rfl, np, ?_⟩⟩
      exact q _ _ (Int.emod_nonneg _ (by omega)) (Int.emod_lt_of_pos _ np) bx
theorem scPi : FnScope ["_law_box_here", "_law_some"] ["_law_box_here", "_law_some"] (defScope sLPick) := ⟨rfl, rfl, rfl, by decide +kernel, rfl, by decide +kernel, by decide +kernel⟩
theorem ok_pick {f fT : Addr} {fd fdT : FuncData} (D : Df K mg "_law_pick" sLPick ["_law_box_here", "_law_some"] f fd) (DT : Df K mg "_law_take" sLTake ["_law_box_here", "_law_many"] fT fdT) (B : Bt mg) (GT : FnOk P w K mg base CX0 1 fT fdT ["_law_box_here", "_law_many"] spTake) :
    FnOk P w K mg base CX0 2 f fd ["_law_box_here", "_law_some"] spPick := by
  refine D.F.ok scPi (fun vs H Q E h => ?_) (fun cdv A outer s H vs Q E hr h => ?_)
  · obtain ⟨b, l, xs, rfl, _⟩ := h
    rfl
  · obtain ⟨b, l, xs, rfl, hb, hl, hne, h1, h2, q⟩ := h
    refine ⟨_, pss_one (ps_ret (pe_ix ix_list (pv 1) (pc DT GT hr pass0 (pa_cons (pv 0) (pa_cons (pe_callB call_len_seq (by rfl) B.len PySem.boot_len (pa_cons (pv 1) pa_nil)) pa_nil))) (fun _ _ => rfl))), ?_⟩
    refine ⟨_, rfl, _, rfl, _, rfl, l, xs, rfl, .inl (SqL.of hl), b, _, rfl, hb, by omega, by omega, fun r H' r0 r1 bx => ?_⟩
    have hi : r.toNat < xs.length := by omega
    refine ⟨l, xs, r, xs[r.toNat], rfl, rfl, SqL.of (bx.2 _ _ hl hne), at_of (j := r.toNat) (by omega) (List.getElem?_eq_getElem hi), q r.toNat _ H' (List.getElem?_eq_getElem hi) bx⟩
theorem scBx : FnScope ["_law_script", "_law_k", "_law_cell", "_law_great"] ["_law_script", "_law_k"] (defScope sLBox) := ⟨rfl, rfl, rfl, by decide +kernel, rfl, by decide +kernel, by decide +kernel⟩
theorem ok_box {f : Addr} {fd : FuncData} (D : Df K mg "_law_box" sLBox ["_law_script", "_law_k"] f fd) (B : Bt mg) : FnOk P w K mg base CX0 1 f fd ["_law_script", "_law_k"] (spBox K) := by
  refine D.F.ok scBx (fun vs H Q E h => ?_) (fun cdv A outer s H vs Q E hr h => ?_)
  · obtain ⟨a, ns, k, rfl, _⟩ := h
    rfl
  · obtain ⟨a, ns, k, rfl, hS, hl, k0, k1, q⟩ := h
    refine ⟨_, pss_cons (ps_set (i := 2) scBx.nd rfl (.inl rfl) (pe_op op_add (pe_op op_mul pe_int (pv 1)) pe_int))
      (pss_cons (ps_if (pt_cmpR op_lt (pv 1) (pe_callB call_len_seq (by rfl) B.len PySem.boot_len (pa_cons (pv 0) pa_nil)) (nomark _))
        (pss_one (ps_set (i := 2) scBx.nd rfl (.inl rfl) (pe_callB call_abs (by rfl) B.abs (by decide +kernel) (pa_cons (pe_callTy call_int1 (by rfl) B.int PyProof.Rows.boot_int (pa_cons (pe_ix ix_list (pv 0) (pv 1) (fun _ _ => rfl)) pa_nil)) pa_nil))))
        (pss_one (ps_if (pt_cmpR op_gt (pe_callB call_len_seq (by rfl) B.len PySem.boot_len (pa_cons (pv 0) pa_nil)) pe_int (nomark _))
          (pss_one (ps_set (i := 2) scBx.nd rfl (.inl rfl) (pe_op op_add (pv 2) (pe_op op_mul (pe_op op_mod (pe_callTy call_int1 (by rfl) B.int PyProof.Rows.boot_int (pa_cons (pe_callB call_abs (by rfl) B.abs (by decide +kernel) (pa_cons (pe_callTy call_int1 (by rfl) B.int PyProof.Rows.boot_int (pa_cons (pe_ix ix_list (pv 0)
            (pe_op op_mod (pe_callTy call_int1 (by rfl) B.int PyProof.Rows.boot_int (pa_cons (pv 1) pa_nil)) (pe_callB call_len_seq (by rfl) B.len PySem.boot_len (pa_cons (pv 0) pa_nil))) (fun _ _ => rfl)) pa_nil)) pa_nil)) pa_nil)) pe_int) pe_int)))) pss_nil)))
      (pss_cons (ps_set (i := 3) scBx.nd rfl (.inl rfl) (pe_ifExp (pt_cmpR op_ge (pv 2) (pe_op op_pow pe_int pe_int) (nomark _)) (pv 2) pe_int))
      (pss_one (ps_ret (pe_lst (pa_cons (pv 3)
        (pa_cons (pe_op op_add (pe_op op_mod (pe_callTy call_int1 (by rfl) B.int PyProof.Rows.boot_int (pa_cons (pe_op op_add (pe_op op_mul (pe_op op_mod (pe_callTy call_int1 (by rfl) B.int PyProof.Rows.boot_int (pa_cons (pv 2) pa_nil)) pe_int) pe_int) (pe_op op_mul pe_int (pv 1))) pa_nil)) pe_int) pe_int) pa_nil))))))), ?_⟩
    have hget : ∀ (j : Int), 0 ≤ j → j < (ns.length : Int) → ∃ z : Int, atI (ns.map V.int) j = some (V.int z) := fun j h0 h1 => by
      have hj : j.toNat < ns.length := by omega
      exact ⟨ns[j.toNat], at_of (j := j.toNat) (by omega) (by rw [List.getElem?_map, List.getElem?_eq_getElem hj]; rfl)⟩
    refine ⟨_, rfl, _, _, rfl, rfl, .inl ⟨by decide, by decide⟩, _, _, rfl, rfl, ?_⟩
    refine gn ?_
    dsimp only
    refine seqG (fun σ H' => ∃ c : Int, σ = [some (.ref a), some (.int k), some (.int c), none] ∧ H' = H) ?_ (fun kk => ?_)
    · rintro σ H' ⟨c, rfl, rfl⟩
      refine seqG (fun σ H'' => ∃ g : Int, σ = [some (.ref a), some (.int k), some (.int c), some (.int g)] ∧ H'' = H') ?_ (fun k2 => ⟨_, rfl, _, _, rfl, rfl, ⟨by decide, by decide, by decide⟩, _, _, rfl, rfl, _, rfl, ifD (fun e => ⟨_, rfl, k2 _ _ ⟨_, rfl, rfl⟩⟩) fun e => k2 _ _ ⟨_, rfl, rfl⟩⟩)
      rintro σ H'' ⟨g, rfl, e⟩
      subst e
      refine ⟨_, rfl, _, rfl, .inl ⟨_, rfl, _, _, rfl, rfl, (by decide : (0 : Int) < 2147483587), _, _, rfl, rfl, .inr ⟨by decide, by decide⟩, _, rfl, _, _, rfl, rfl, .inl ⟨by decide, by decide⟩, _, _, rfl, rfl, .inl ⟨_, rfl, _, _, rfl, rfl, (by decide : (0 : Int) < 2147483587), _, _, rfl, rfl, (by show 2 ≤ sizeLine; decide), fun p hp => ?_⟩⟩⟩
      exact q p _ (same_new hp) hp ⟨_, _, upd_same⟩
    · refine ⟨_, rfl, _, rfl, a, _, rfl, .inl (hS), _, _, rfl, rfl, _, rfl, ifD (fun e => ?_) fun e => ?_⟩
      · have e' : k < (ns.length : Int) := by
          have z := of_decide_eq_true e
          rw [List.length_map] at z
          exact z
        obtain ⟨z, hz⟩ := hget k k0 e'
        refine ⟨_, rfl, _, rfl, a, _, k, _, rfl, rfl, hS, hz, ?_⟩
        refine .inl ⟨z, rfl, _, rfl, ?_⟩
        exact kk _ _ ⟨_, rfl, rfl⟩
      · refine ⟨_, rfl, a, _, rfl, .inl hS, _, _, rfl, rfl, _, rfl, ifD (fun e => ?_) fun e => ?_⟩
        · have e' : 0 < (ns.length : Int) := by
            have z := of_decide_eq_true e
            rw [List.length_map] at z
            omega
          have em : (k % ((ns.map V.int).length : Int)) = k % (ns.length : Int) := by rw [List.length_map]
          obtain ⟨z, hz⟩ := hget (k % (ns.length : Int)) (Int.emod_nonneg _ (by omega)) (Int.emod_lt_of_pos _ e')
          refine ⟨_, rfl, _, rfl, _, rfl, .inl ⟨_, rfl, _, rfl, a, _, rfl, .inl hS, _, _, rfl, rfl, (by rw [List.length_map]; exact e'), a, _, _, _, rfl, rfl, hS, (by rw [em]; exact hz), ?_⟩⟩
          refine .inl ⟨z, rfl, _, rfl, .inl ⟨_, rfl, _, _, rfl, rfl, (by decide : (0 : Int) < 2147483587), _, _, rfl, rfl, .inr ⟨by decide, by decide⟩, _, _, rfl, rfl, ?_⟩⟩
          exact kk _ _ ⟨_, rfl, rfl⟩
        · exact kk _ _ ⟨_, rfl, rfl⟩
end
end K1
/-! several clauses 'except x as n', the same n -/
namespace K1
open PySem PySem.Spec PyProof.Rows L2
/-- what the clauses wish of an exception of the body, one after the other; slot i is the name's -/
def wAll (K : PySem.W.Frag) (i : Nat) (Wout : WX) (D : Ends) : List (Value × (Addr → Value → Option Addr → TS)) → WX
  | [] => Wout
  | (c, ts) :: r => fun cls d σ H => ∃ b, PySem.W.exmOne K cls c = some b ∧ (b = true → ∀ a, H a = none → ts a cls d { nx := fun σ' H' => D.nx (σ'.set i none) H', rt := D.rt, bk := fun σ' H' => D.bk (σ'.set i none) H', ct := fun σ' H' => D.ct (σ'.set i none) H' } (σ.set i (some (.ref a))) H) ∧
      (b = false → wAll K i Wout D r cls d σ H)
inductive HdsA (X : Cx) (n : Str) : List ExceptHandler → List (Value × (Addr → Value → Option Addr → TS)) → Prop
  | nil : HdsA X n [] []
  | cons {x : Str} {c : Value} {ts : Addr → Value → Option Addr → TS} {b₀ : Stmt} {suite : List Stmt} {np pos' : Pos} {hds : List ExceptHandler} {l : List (Value × (Addr → Value → Option Addr → TS))} (hc : Names X x c)
      (hsu : ∀ (a : Addr) (oe : Obj) (cls : Value) (d : Option Addr) (pn : List (Addr × Obj)), Zc cls d oe → (∃ vs, oe.data = .fields vs) → PSs (X.suite a ((a, oe) :: pn)) (b₀ :: suite) (ts a cls d)) (r : HdsA X n hds l) :
      HdsA X n (.ExceptHandler (some (.Name x np)) (some n) (b₀ :: suite) pos' :: hds) ((c, ts) :: l)
section
variable {X : Cx} {n : Str} {i : Nat} {body : List Stmt} {h₀ : ExceptHandler} {hds : List ExceptHandler} {l : List (Value × (Addr → Value → Option Addr → TS))} {pos : Pos} {tb : WX → TS} {Wout : WX}
theorem ps_try_all (hs : X.stack = X.env :: X.outer) (hf : X.env.frame = some X.env.locals) (hN : X.N.Nodup) (hi : X.N[i]? = some n) (hln : X.env.kindOf n = some .local) (tk : Takes X Wout)
    (hb : ∀ (W : WX) (pn : List (Addr × Obj)) (xe : Value → Shared → Prop), Takes (X.tr pn xe) W → PassesOwn (model X.prog X.w) X.A X.env xe → PSs (X.tr pn xe) body (tb W))
    (hh : HdsA X n (h₀ :: hds) l) : PS X (.Try body (h₀ :: hds) [] [] pos) (fun D σ H => tb (wAll X.K i Wout D l) D σ H) := by
  refine ⟨fun pins s σ H D I h => ?_⟩
  have ok := I.ok
  have hfr : X.A.frames = some (X.env :: X.outer) := by rw [ok.frames, hs]
  have hloc : Loc X.env.scope n := .inl hln
  refine wpAny_Try_except ?_
  refine wpAny_mono ((hb (wAll X.K i Wout D l) (X.pn ++ pins) (fun e s₁ => wpAny (model X.prog X.w) X.A (noteFrame e X.env) (fun _ s₂ => wpAny (model X.prog X.w) X.A (setFlight e none) (fun _ s₃ =>
    wpAny (model X.prog X.w) X.A (handleBy e X.env (h₀ :: hds)) (SP X pins D) X.xe s₃) X.xe s₂) X.xe s₁) (fun u s' xx => ?_) PassesOwn.looking).run [] s σ H D (I.toTry _) h) (fun f s1 hsp => ?_) (fun e s1 he => he)
  · -- the catch
    obtain ⟨a, B, sI, pins', σ', H', cls, d, rfl, J', nb, up, sky, na, os, ag, w⟩ := xx
    have J : Inv X pins σ' H' sI := J'.ofTry ok
    have sky' : Sky B (X.env :: X.outer) a (Zc cls d) X.env.locals s'.heap := by rw [← hs]; exact sky
    show wpAny (model X.prog X.w) X.A (noteFrame (.ref a) X.env) _ _ _
    refine Sky.land Zc.steady hfr hf sky' fun h3 fl3 up3 => ?_
    have J3 : Inv X pins σ' H' { s' with heap := h3 } := J.landed nb fl3.1 (up.trans up3) os ag
    obtain ⟨oe3, vs3, he3, hz3, hd3⟩ := fl3.there
    have notFr : ∀ {h : Heap} {o : Obj} {vs : Array Value}, h.FunFrames B (X.env :: X.outer) → h.get? a = some o → o.data = .fields vs → a ∉ frs (X.env :: X.outer) := fun {h o vs} ff e dd hm => by
      obtain ⟨_, o', e', hnf⟩ := ff.mem hm
      rw [e] at e'; cases e'
      exact hnf _ dd
    have nfr := notFr fl3.2.2.1 he3 hd3
    have nL : a ≠ X.env.locals := fun z => nfr (List.mem_filterMap.mpr ⟨X.env, List.mem_cons_self, by rw [hf, z]⟩)
    have nF : a ∉ X.fs := fun hm => by
      obtain ⟨e, he, q⟩ := List.mem_filterMap.mp hm
      exact nfr (List.mem_filterMap.mpr ⟨e, List.mem_cons_of_mem _ he, q⟩)
    have S3 := J3.suite he3 hd3 na nL nF
    have go : ∀ {hds' : List ExceptHandler} {l' : List (Value × (Addr → Value → Option Addr → TS))}, HdsA X n hds' l' → wAll X.K i Wout D l' cls d σ' H' →
        wpAny (model X.prog X.w) X.A (handleBy (.ref a) X.env hds') (SP X pins D) X.xe { s' with heap := h3 } := by
      intro hds' l' hk
      induction hk with
      | nil =>
        intro w
        refine wpAny_handleBy_nil ?_
        obtain ⟨k1, k2, k3, oe, vs, T, oT, ts', he, hz, hd, h1, hr⟩ := id fl3
        unfold PySem.passOn
        refine wpAny_bind (wpAny_field he hd h1 ?_)
        rw [if_neg (show ¬ ((Value.ref T == Value.none) = true) from by simp)]
        have fin : wpAny (model X.prog X.w) X.A (setFlight (.ref a) X.env.frame) (fun _ s4 => wpAny (model X.prog X.w) X.A (throw (.ref a) : Sem Flow) (SP X pins D) X.xe s4) X.xe { s' with heap := h3 } := by
          rw [hf]
          refine HandSPX.setFlight_upZ fl3 fun h4 hh4 up4 => wpAny_throw (tk _ _ ?_)
          exact ⟨a, B, sI, pins, σ', H', cls, d, rfl, J, nb, (up.trans up3).trans up4, .inr (.inr (by rw [hs]; exact hh4)), na, os, ag, w⟩
        first
          | exact wpAny_bind (wpAny_pure (wpAny_bind fin))
          | exact wpAny_bind fin
      | @cons x c ts b₀ suite np pos' hds2 l2 hc hsu r ih =>
        intro w
        obtain ⟨b, hb1, hyes, hno⟩ := w
        refine wpAny_handleBy_cons (codeAny_handlers_test ?_) (by intro q; cases q)
        have LT : PySem.W.Looks (model X.prog X.w) h3 (typeOf (.ref a)) cls := fun A Q E s k q => wpAny_typeOf_ref (k _ _ he3) (by rw [hz3.1]; exact q)
        have LM := PySem.W.exm_one (M := model X.prog X.w) (J3.kIn) LT hb1
        have test : ∀ {Q : Value → Shared → Prop} {E : Value → Shared → Prop}, Q c { s' with heap := h3 } → wpAny (model X.prog X.w) (X.A.mark (some (.ref a))) (eval (.Name x np) X.env) Q E { s' with heap := h3 } := fun {Q E} q => by
          obtain ⟨hg, hdbg, hm | ⟨hm, hv, hnn⟩⟩ := hc
          · exact ld_glob (X := X.suite a ((a, oe3) :: (X.pn ++ pins))) S3 hg hm q hdbg
          · exact ld_blt (X := X.suite a ((a, oe3) :: (X.pn ++ pins))) S3 hg hm hv q hnn hdbg
        refine test (LM.here ?_)
        cases b with
        | true =>
          refine codeAny_handlers_suite_as ?_
          refine HandSPX.lands_againZ fl3 fun h4 fl4 up4 => ?_
          have J4 : Inv X pins σ' H' { s' with heap := h4 } := J.landed nb fl4.1 ((up.trans up3).trans up4) os ag
          obtain ⟨oe4, vs4, he4, hz4, hd4⟩ := fl4.there
          have S4 := J4.suite he4 hd4 na nL nF
          refine store_ok (X := X.suite a ((a, oe4) :: (X.pn ++ pins))) (v := .ref a) S4 hN hi hloc rfl (fun s5 S5 => ?_) (.inr hln)
          refine wpAny_mono ((hsu a oe4 cls d (X.pn ++ pins) hz4 ⟨_, hd4⟩).run [] s5 _ H' _ S5 (hyes rfl a na)) (fun f s6 hsp => ?_) (fun _ _ z => False.elim z)
          have end_ : ∀ {σ6 : L2.St} {H6 : Hp} {Q : Shared → Prop}, Inv (X.suite a ((a, oe4) :: (X.pn ++ pins))) [] σ6 H6 s6 → (∀ s7, Inv X pins (σ6.set i none) H6 s7 → Q s7) →
              wpAny (model X.prog X.w) X.A (do bindName X.env n .none; unbindBehindTheSuite X.env n pos') (fun _ s7 => Q s7) X.xe s6 := fun {σ6 H6 Q} S6 hq => gone_ok (S6.unsuite ok) hN hi hln hq
          cases f with
          | next =>
            obtain ⟨σ6, H6, S6, q6⟩ := hsp
            exact end_ S6 fun s7 J7 => ⟨_, _, J7, q6⟩
          | brk =>
            obtain ⟨σ6, H6, S6, q6⟩ := hsp
            exact end_ S6 fun s7 J7 => ⟨_, _, J7, q6⟩
          | cont =>
            obtain ⟨σ6, H6, S6, q6⟩ := hsp
            exact end_ S6 fun s7 J7 => ⟨_, _, J7, q6⟩
          | ret u =>
            obtain ⟨v6, σ6, H6, S6, r6, q6⟩ := hsp
            exact end_ S6 fun s7 J7 => ⟨_, _, _, J7, r6, q6⟩
        | false =>
          show wpAny _ X.A (handleBy (.ref a) X.env hds2) _ _ _
          exact ih (hno rfl)
    exact go hh w
  · cases f with
    | next =>
      obtain ⟨σ', H', J', q⟩ := hsp
      exact wpAny_execs_nil ⟨σ', H', J'.ofTry ok, q⟩
    | brk =>
      obtain ⟨σ', H', J', q⟩ := hsp
      exact ⟨σ', H', J'.ofTry ok, q⟩
    | cont =>
      obtain ⟨σ', H', J', q⟩ := hsp
      exact ⟨σ', H', J'.ofTry ok, q⟩
    | ret u =>
      obtain ⟨v, σ', H', J', r, q⟩ := hsp
      exact ⟨v, σ', H', J'.ofTry ok, r, q⟩
end
end K1
namespace K1
open PySem PySem.Spec PyProof.Rows L2
/-! ### x != y of instances whose class has an __eq__ of its own and object's __ne__ -/
section
variable {prog : Program} {w : World} {A : Around} {E : Value → Shared → Prop} {s : Shared} {K : PySem.W.Frag} {x C f : Addr} {ox : Obj} {od : Option Obj} {b : Value}
end
/-! ### methods by names of their arguments -/
abbrev gM : List Value → List Value → List Value := fun us ws => us ++ ws.reverse
abbrev gMV : List V → List V → List V := fun us ws => us ++ ws.reverse
section
variable {X : Cx} {k : Nat} {f C : Addr} {fd : FuncData} {ps ks : List Str} {sp : Sp} {x m : Str} {st : Stmt} {p pos apos : Pos} {o : Expr} {kws : List Keyword} {tk : TA} {ta : TE}
theorem pe_callW {CX : CXT} {E : XK} {g : List Value → List Value → List Value} {gV : List V → List V → List V} (D : Df X.K X.mg x st ps f fd) (G : FnOk X.prog X.w X.K X.mg X.base CX k f fd ps sp) (hr : Room k X.A) (hb : KBn X.K fd ps 0 ks g gV) (hx : Passes CX X E) (hkw : PK X kws tk) (hg : Gl X x := by rfl)
    (hall : (backToKw pos (keywordEach kws X.env)).all (·.1.isSome) = true := by rfl) (hks : (backToKw pos (keywordEach kws X.env)).filterMap (·.1) = ks := by rfl) (hdb : (x == ("__debug__" : Str)) = false := by decide)
    (hpl : ((backTo pos (starEach [] X.env)).any (·.1) || (backToKw pos (keywordEach kws X.env)).any (·.1.isNone)) = false := by rfl) :
    PE X (.Call (.Name x p) [] kws pos) (fun σ H Q => tk σ H fun zs H1 => zs.length = ks.length ∧ sp (gV [] zs) H1 Q E) := by
  refine ⟨fun pins s σ H Q I h => ?_⟩
  refine wpAny_Call_Name_kw (ld_glob I hg D.g ?_ hdb)
  refine PySem.W.callWith_KW0 (h₀ := X.base) I.ok.mod.kin D.F.kp hall ?_ hpl
  refine thn (hkw.run pos pins s σ H _ I h) fun ws s2 ⟨zs, H2, I2, rz, l2, q2⟩ => ⟨I2.kIn, ?_⟩
  rw [hks]
  exact run_fnN (us := []) (vs := []) G hr hb hx I2 .nil rz rfl l2 q2
end
/-! ### the pairs of a dict that nobody else sees -/
end K1
namespace K1
open PySem PySem.Spec PyProof.Rows L2
/-! ### pairs as data -/
def dTi (ts : Prs) : PyData := .tuple (ts.map fun p => .tuple [.int (p.1 : Int), .int (p.2 : Int)])
theorem dp_prs {K : PySem.W.Frag} {H : Hp} : ∀ {as : List Addr} {ts : Prs}, PrsA H as ts → DpAll K H (as.map V.ref) (ts.map fun p => .tuple [.int (p.1 : Int), .int (p.2 : Int)])
  | [], [], _ => .nil
  | a :: as, t :: ts, h => .cons (.tup (SqT.of (h.2 0 a t rfl rfl)) (.cons (.int _) (.cons (.int _) .nil))) (dp_prs ⟨Nat.succ.inj h.1, fun i b u e1 e2 => h.2 (i + 1) b u e1 e2⟩)
  | [], _ :: _, h => nomatch h.1
  | _ :: _, [], h => nomatch h.1
theorem TiesT.dp {K : PySem.W.Frag} {H : Hp} {ta : Addr} {ts : Prs} (h : TiesT H ta ts) : Dp K H (.ref ta) (dTi ts) := let ⟨_, h1, h2⟩ := h; .tup (SqT.of h1) (dp_prs h2)
theorem pla_prs {n : Nat} : ∀ ts : Prs, (∀ p ∈ ts, p.1 < 1000 ∧ p.2 < 1000) → PlA (ts.map fun p => PyData.tuple [.int (p.1 : Int), .int (p.2 : Int)]) 1 (ts.length * 131)
  | [], _ => PlA.nil.mono (by decide) (by decide)
  | t :: r, h => by
    have := h t List.mem_cons_self
    refine (PlA.cons (Pl.tuple (PlA.cons (Pl.int (i := (t.1 : Int)) (by omega)) (PlA.cons (Pl.int (i := (t.2 : Int)) (by omega)) PlA.nil))) (pla_prs (n := n) r fun u hu => h u (List.mem_cons_of_mem _ hu))).mono (by omega) ?_
    show (64 + 1 + (64 + 1 + 0)) + 1 + r.length * 131 ≤ (r.length + 1) * 131
    omega
theorem pl_dTi {n : Nat} {ts : Prs} (hW : Wv n ts) : Pl (dTi ts) 2 100000 := (Pl.tuple (pla_prs (n := n) ts fun p hp => by have := hW.pr p hp; have := hW.n12; omega)).mono (by decide) (by have := hW.t20; omega)
/-! ### web == web -/
structure WcI (K : PySem.W.Frag) (W : Addr) : Prop where
  y : PySem.W.kitOne K (.ref W) (.ref W) = some true
  ca : PySem.W.findIn K (.ref W) "__class__" = some (some (.builtin "object.__class__"))
  sp : PySem.W.specialIn K (.builtin "object.__class__") "__get__" = some (some (.builtin "getset_descriptor.__get__"))
  tk : PySem.W.takesIn K (.builtin "object.__class__") = some true
  mo : PySem.W.mroIn K W (.type "object") = some true
  ne : PySem.W.findIn K (.ref W) "__ne__" = some (some (.builtin "object.__ne__"))
  eq : ∃ f fd, Fun K "__eq__" "Web.__eq__" sWEq f fd ∧ PySem.W.findIn K (.ref W) "__eq__" = some (some (.ref f)) ∧ PySem.W.isFn K (.ref f) = true ∧ Binds K fd ["self", "other"] []
def spWEq (W : Addr) : Sp := fun vs H Q _ => ∃ (w w2 : Addr) (n : Nat) (ts : Prs), vs = [.ref w, .ref w2] ∧ WebAt W H w n ts ∧ WebAt W H w2 n ts ∧ Wv n ts ∧ Q (.bl true) H
/-! ### parts that are told -/
theorem asc_eq : ∀ {a b : List Nat}, a.Pairwise (· < ·) → b.Pairwise (· < ·) → (∀ x, x ∈ a ↔ x ∈ b) → a = b
  | [], [], _, _, _ => rfl
  | [], y :: b, _, _, h => nomatch (h y).mpr List.mem_cons_self
  | x :: a, [], _, _, h => nomatch (h x).mp List.mem_cons_self
  | x :: a, y :: b, ha, hb, h => by
    rw [List.pairwise_cons] at ha hb
    have e : x = y := by
      rcases List.mem_cons.mp ((h x).mp List.mem_cons_self) with e | e
      · exact e
      · rcases List.mem_cons.mp ((h y).mpr List.mem_cons_self) with e2 | e2
        · exact e2.symm
        · have := hb.1 x e
          have := ha.1 y e2
          omega
    subst e
    rw [asc_eq ha.2 hb.2 fun z => ?_]
    constructor
    · intro hz
      rcases List.mem_cons.mp ((h z).mp (List.mem_cons_of_mem _ hz)) with e | e
      · have := ha.1 z hz; omega
      · exact e
    · intro hz
      rcases List.mem_cons.mp ((h z).mpr (List.mem_cons_of_mem _ hz)) with e | e
      · have := hb.1 z hz; omega
      · exact e
theorem PartL.uniq {ts : Prs} {h h' : Nat} {a b : List Nat} (p : PartL ts h a) (q : PartL ts h' b) (c : Cn ts h h') : a = b := asc_eq p.asc q.asc fun x => by
  rw [p.mem, q.mem]
  exact ⟨fun z => c.sym.trans z, fun z => c.trans z⟩
theorem PartL.len {n : Nat} {ts : Prs} {h : Nat} {ns : List Nat} (p : PartL ts h ns) (hW : Wv n ts) (hn : h < n) : 1 ≤ ns.length ∧ ns.length ≤ n := by
  refine ⟨List.length_pos_of_mem ((p.mem h).mpr .refl), ?_⟩
  have := nodup_le n (ns.map fun (x : Nat) => (x : Int)) (by
    rw [List.nodup_iff_pairwise_ne, List.pairwise_map]
    exact p.asc.imp fun {a b} hab => by omega) fun y hy => by
    obtain ⟨x, hx, rfl⟩ := List.mem_map.mp hy
    have := p.lt hW hn hx
    omega
  rw [List.length_map] at this
  exact this
theorem vn_row (ns : List Nat) : vn ns = vrow (ns.map fun (x : Nat) => (x : Int)) := by unfold vn vrow; rw [List.map_map]; rfl
theorem kinds_vn {K : PySem.W.Frag} {H : Hp} (ns : List Nat) : Kinds K H (vn ns) := fun x hx => by
  obtain ⟨y, _, rfl⟩ := List.mem_map.mp hx
  exact ⟨_, .int _⟩
theorem dp_vn {K : PySem.W.Frag} {H : Hp} {a : Addr} {ns : List Nat} (h : H a = some (.tup (vn ns))) : Dp K H (.ref a) (.tuple (dI (ns.map fun (x : Nat) => (x : Int)))) := dp_tup (by rw [← vn_row]; exact h)
def spIsPart (W : Addr) : Sp := fun vs H Q _ => ∃ (w p : Addr) (n : Nat) (ts : Prs) (h : Nat) (ns : List Nat), vs = [.ref w, .ref p] ∧ WebAt W H w n ts ∧ Wv n ts ∧ h < n ∧ H p = some (.tup (vn ns)) ∧ PartL ts h ns ∧ ∀ H', Same H H' → Q (.bl true) H'
def spRings (W : Addr) : Sp := fun vs H Q _ => ∃ (w p : Addr) (n : Nat) (ts : Prs) (h : Nat) (ns : List Nat), vs = [.ref w, .ref p] ∧ WebAt W H w n ts ∧ Wv n ts ∧ h < n ∧ H p = some (.tup (vn ns)) ∧ PartL ts h ns ∧ ∀ H', Same H H' → Q (.int (((tIn ts ns).length : Int) - (ns.length : Int) + 1)) H'
/-- what is_rest tells -/
def rB (ts : Prs) (ss ar : List Int) (t : Nat) : Bool := match ts[t]? with
  | some p => decide (V.int (ss.getD p.1 0) = V.int (ss.getD p.2 0)) && decide (V.int (ss.getD p.2 0) = V.int (ar.getD t 0))
  | none => true
def restB (ts : Prs) (ss ar : List Int) : Bool := ((List.range ts.length).map (rB ts ss ar)).all id
def spAlike (W : Addr) : Sp := fun vs H Q _ => ∃ (w sa aa : Addr) (n : Nat) (ts : Prs) (ss ar : List Int), vs = [.ref w, .ref sa, .ref aa] ∧ WebAt W H w n ts ∧ Wv n ts ∧ H sa = some (.tup (vrow ss)) ∧ H aa = some (.tup (vrow ar)) ∧ ss.length = n ∧ ar.length = ts.length ∧ ∀ H', Same H H' → Q (.bl (restB ts ss ar)) H'
def spRest (N W : Addr) : Sp := fun vs H Q _ => ∃ (c w : Addr) (m : Int) (ss ar : List Int) (n : Nat) (ts : Prs), vs = [.ref c] ∧ NetAt N W H c m ss ar w n ts ∧ Wv n ts ∧ ∀ H', Same H H' → Q (.bl (restB ts ss ar)) H'
def tTruthK (K : PySem.W.Frag) (ta : TE) : TT := fun σ H Q => ta σ H fun x H' => ∃ k, TruV K x H' k ∧ Q k H'
section
variable {X : Cx} {K : PySem.W.Frag}
theorem pt_truthK {a : Expr} {ta : TE} (h : X.K = K) (he : PE X a ta) (hw : ∀ whole, isTrue a X.env whole = (do let v ← whole; standAt a.pos; holding [v] (truthy v)) := by intro whole; rfl) : PT X a (tTruthK K ta) := by subst h; exact pt_truth he hw
end
theorem kvW_get {F : List WR} {ps : List Addr} {i : Nat} {k : Key} {v : V} (h : (kvW F ps)[i]? = some (k, v)) : ∃ x r c, F[i]? = some (x, r) ∧ ps[i]? = some c ∧ k = .inl x ∧ v = .ref c := by
  unfold kvW at h
  obtain ⟨⟨⟨x, r⟩, c⟩, h1, h2⟩ := at_map h
  rw [List.getElem?_zip_eq_some] at h1
  injection h2 with h2 h3
  exact ⟨x, r, c, h1.1, h1.2, h2, h3⟩
section
variable {P : Program} {w : World} {K : PySem.W.Frag} {mg : Str → Option Value} {base : Heap}
theorem scWE : FnScope ["self", "other"] ["self", "other"] (defScope sWEq) := ⟨rfl, rfl, rfl, by decide +kernel, rfl, by decide +kernel, by decide +kernel⟩
theorem ok_weq {f W : Addr} {fd : FuncData} (F : Fun K "__eq__" "Web.__eq__" sWEq f fd) (B : Bt mg) (T : WcT K mg W) (I : WcI K W) : FnOk P w K mg base CX0 1 f fd ["self", "other"] (spWEq W) := by
  refine F.ok scWE (fun vs H Q E h => ?_) (fun cdv A outer s H vs Q E hr h => ?_)
  · obtain ⟨w, w2, n, ts, rfl, _⟩ := h
    rfl
  · obtain ⟨w, w2, n, ts, rfl, ⟨dx, ta, h1, h2⟩, ⟨dx2, ta2, g1, g2⟩, hW, q⟩ := h
    refine ⟨_, pss_one (ps_ret (pe_and (pe_callB call_isi (by rfl) B.isinstance (by decide +kernel) (pa_cons (pv 1) (pa_cons (pe_glob (v := .ref W) (by rfl) T.g rfl) pa_nil)))
      (pe_and (pe_cmpR op_eq (pe_fld (pv 0) rfl) (pe_fld (pv 1) rfl) (nomark _)) (pe_one (pe_cmpR (op_eqD hr.units) (pe_fld (pv 0) rfl) (pe_fld (pv 1) rfl) (nomark _)))))), ?_⟩
    have pl := pl_dTi hW
    refine ⟨_, rfl, _, _, _, _, _, rfl, .own W, .base (.ins g1 T.cl I.ca I.sp I.tk I.mo), I.y, _, rfl, iteT ?_⟩
    refine ⟨_, rfl, w, W, dx, _, _, rfl, h1, T.cl, T.nH, wf_h _ _, _, rfl, w2, W, dx2, _, _, rfl, g1, T.cl, T.nH, wf_h _ _, eqVV rfl ⟨_, rfl, iteT ?_⟩⟩
    exact ⟨_, rfl, w, W, dx, _, _, rfl, h1, T.cl, T.nT, wf_t _ _, _, rfl, w2, W, dx2, _, _, rfl, g1, T.cl, T.nT, wf_t _ _, eqDP h2.dp g2.dp pl (by decide) q⟩
theorem scIP : FnScope ["web", "value"] ["web", "value"] (defScope sIsPart) := ⟨rfl, rfl, rfl, by decide +kernel, rfl, by decide +kernel, by decide +kernel⟩
theorem ok_isPart {f fS fF fP W C : Addr} {fd fdS fdF fdP : FuncData} (D : Df K mg "is_part" sIsPart ["web", "value"] f fd) (DS : Df K mg "is_sequence" sSeq ["value", "least", "most"] fS fdS) (DF : Df K mg "first_not_below" sFnb ["items", "limit"] fF fdF) (DP : Df K mg "part_of" sPart ["web", "house"] fP fdP) (B : Bt mg) (T : WcT K mg W)
    (GS : FnOk P w K mg base CX0 1 fS fdS ["value", "least", "most"] (spSeq K)) (GF : FnOk P w K mg base CX0 3 fF fdF ["items", "limit"] (spFnb K)) (GP : FnOk P w K mg base (L2.CX P w) 4 fP fdP ["web", "house"] (spPart K W C)) : FnOk P w K mg base (L2.CX P w) 5 f fd ["web", "value"] (spIsPart W) := by
  refine D.F.okX scIP (fun vs H Q E h => ?_) (fun cdv A outer s H vs Q E hr h => ?_)
  · obtain ⟨w, p, n, ts, h, ns, rfl, _⟩ := h
    rfl
  · obtain ⟨w, p, n, ts, h, ns, rfl, hw, hW, hn, hp, PL, q⟩ := h
    refine ⟨_, pss_cons (ps_if (PW.pt (pw_or (pt_not (pt_val (pc DS GS (hr.mono (by decide)) pass0 (pa_cons (pv 1) (pa_cons pe_int (pa_cons (pe_fld (pv 0) rfl) pa_nil)))))) (pw_or1 (pt_cmp (pc_notN (pc DF GF (hr.mono (by decide)) pass0 (pa_cons (pv 1) (pa_cons (pe_fld (pv 0) rfl) pa_nil)))))))) (pss_one (ps_ret pe_bl)) pss_nil)
      (pss_one (ps_ret (pe_cmpR (op_eqD hr.units) (pe_callTy call_tuple_of (by rfl) B.tuple PyProof.Rows.boot_tuple (pa_cons (pv 1) pa_nil)) (pc DP GP hr (pass1 (takes_of rfl rfl rfl rfl)) (pa_cons (pv 0) (pa_cons (pe_ix ix_tup (pv 1) pe_int (fun _ _ => rfl)) pa_nil))) (nomark _)))), ?_⟩
    obtain ⟨l1, l2⟩ := PL.len hW hn
    have n12 := hW.n12
    obtain ⟨dx, ta, h1, h2⟩ := id hw
    refine ⟨_, rfl, _, rfl, w, W, dx, _, _, rfl, h1, T.cl, T.nH, wf_h _ _, _, some (vn ns), 1, (n : Int), rfl, .tup hp, fun H1 s1 => ⟨_, rfl, ?_⟩⟩
    have sq : seqB (some (vn ns)) 1 (n : Int) = true := by
      show (decide ((1 : Int) ≤ ((vn ns).length : Int)) && decide (((vn ns).length : Int) ≤ (n : Int))) = true
      rw [vn_len, decide_eq_true (by omega), decide_eq_true (by omega)]; rfl
    rw [sq]
    refine iteF ?_
    have hw1 := hw.same s1
    refine ⟨_, rfl, _, rfl, w, W, dx, _, _, rfl, s1 _ _ h1, T.cl, T.nH, wf_h _ _, p, vn ns, (n : Int), rfl, .inr (s1 _ _ hp), kinds_vn ns, fun H2 s2 => ⟨_, rfl, ?_⟩⟩
    have s12 := s1.trans s2
    rw [fnb_all fun x hx => by
      obtain ⟨y, hy, rfl⟩ := List.mem_map.mp hx
      have := PL.lt hW hn hy
      show (decide (0 ≤ (y : Int)) && decide ((y : Int) < (n : Int))) = true
      rw [decide_eq_true (by omega), decide_eq_true (by omega)]; rfl]
    refine iteF (nxP ?_)
    have hp2 := s12 _ _ hp
    obtain ⟨x0, hx0⟩ := ex_at (l := ns) (i := 0) (by omega)
    have c0 : Cn ts h x0 := (PL.mem _).mp (List.mem_of_getElem? hx0)
    have x0n : x0 < n := PL.lt hW hn (List.mem_of_getElem? hx0)
    refine ⟨_, rfl, p, _, rfl, .inr ⟨SqT.of hp2, ?_⟩⟩
    refine ⟨_, rfl, _, rfl, p, _, 0, .int (x0 : Int), rfl, rfl, SqT.of hp2, atI_nat (j := 0) (vn_at hx0), w, .int (x0 : Int), none, n, ts, rfl, hw.same s12, hW, .int _, fun hb => ?_, fun h' eh hn' ns' p' H3 s3 hp3 PL' => ?_⟩
    · have : (decide (0 ≤ (x0 : Int)) && decide ((x0 : Int) < (n : Int))) = false := hb
      rw [decide_eq_true (by omega), decide_eq_true (by omega)] at this
      cases this
    · injection eh with eh
      obtain rfl : x0 = h' := by omega
      obtain rfl := PL.uniq PL' c0
      refine eqDP (dp_vn (s3 _ _ hp2)) (dp_vn hp3) (Pl.tuple (pla_ints _ fun i hi => ?_)) (by decide) (q _ (s12.trans s3))
      obtain ⟨y, hy, rfl⟩ := List.mem_map.mp hi
      have := PL.lt hW hn hy
      omega
theorem scRg : FnScope ["web", "part"] ["web", "part"] (defScope sRingsOf) := ⟨rfl, rfl, rfl, by decide +kernel, rfl, by decide +kernel, by decide +kernel⟩
theorem ok_rings {f fI fT W C cI : Addr} {fd fdI fdT : FuncData} {bm : List Value} {ql : Str} (D : Df K mg "rings_of" sRingsOf ["web", "part"] f fd) (DI : Df K mg "is_part" sIsPart ["web", "value"] fI fdI) (DT : Df K mg "ties_in" sTiesIn ["web", "part"] fT fdT) (B : Bt mg) (TX : LAt.Txt K mg "Refused" ql bm C cI)
    (GI : FnOk P w K mg base (L2.CX P w) 5 fI fdI ["web", "value"] (spIsPart W)) (GT : FnOk P w K mg base CX0 1 fT fdT ["web", "part"] (spTiesIn K W)) : FnOk P w K mg base (L2.CX P w) 6 f fd ["web", "part"] (spRings W) := by
  refine D.F.okX scRg (fun vs H Q E h => ?_) (fun cdv A outer s H vs Q E hr h => ?_)
  · obtain ⟨w, p, n, ts, h, ns, rfl, _⟩ := h
    rfl
  · obtain ⟨w, p, n, ts, h, ns, rfl, hw, hW, hn, hp, PL, q⟩ := h
    refine ⟨_, pss_cons (ps_if (pt_not (pt_val (pc DI GI hr passF (pa_cons (pv 0) (pa_cons (pv 1) pa_nil))))) (pss_one (ps_raise_LAt rfl TX hr (takes_of rfl rfl rfl rfl) (pa_cons (pv 1) pa_nil))) pss_nil)
      (pss_one (ps_ret (pe_op op_add (pe_op op_sub (pe_callB call_len_seq (by rfl) B.len PySem.boot_len (pa_cons (pc DT GT (hr.mono (by decide)) pass0 (pa_cons (pv 0) (pa_cons (pv 1) pa_nil))) pa_nil)) (pe_callB call_len_seq (by rfl) B.len PySem.boot_len (pa_cons (pv 1) pa_nil))) pe_int))), ?_⟩
    refine ⟨_, rfl, _, rfl, w, p, n, ts, h, ns, rfl, hw, hW, hn, hp, PL, fun H1 s1 => ⟨true, rfl, iteF (nxP ?_)⟩⟩
    refine ⟨_, rfl, _, rfl, w, p, n, ts, ns, rfl, hw.same s1, hW, .inr (s1 _ _ hp), fun l H2 s2 hl0 hl => ?_⟩
    have s12 := s1.trans s2
    refine ⟨l, _, rfl, .inl (SqL.of hl), _, rfl, p, _, rfl, .inr (SqT.of (s12 _ _ hp)), _, _, rfl, rfl, _, _, rfl, rfl, ?_⟩
    rw [vn_len, vn_len]
    exact q _ s12
abbrev nAk : List Str := ["web", "houses", "ties", "tie", "one", "other"]
theorem scAk : FnScope nAk ["web", "houses", "ties"] (defScope sIsAlike) := ⟨rfl, rfl, rfl, by decide +kernel, rfl, by decide +kernel, by decide +kernel⟩
theorem opEqI {X : Cx} : OpR X (compareOp .Eq) (rEq) := op_eq
theorem ok_alike {f W : Addr} {fd : FuncData} (D : Df K mg "is_alike" sIsAlike ["web", "houses", "ties"] f fd) (B : Bt mg) (T : WcT K mg W) : FnOk P w K mg base CX0 1 f fd ["web", "houses", "ties"] (spAlike W) := by
  refine D.F.ok scAk (fun vs H Q E h => ?_) (fun cdv A outer s H vs Q E hr h => ?_)
  · obtain ⟨w, sa, aa, n, ts, ss, ar, rfl, _⟩ := h
    rfl
  · obtain ⟨w, sa, aa, n, ts, ss, ar, rfl, ⟨dx, ta, h1, tas, g1, g2⟩, hW, hs, ha, ls, la, q⟩ := h
    refine ⟨_, pss_one (ps_ret (pe_callB (cr_all rfl) (by rfl) B.all (by decide +kernel) (pa_cons (pe_lc (own := [("tie", 3), ("one", 4), ("other", 5)]) (g := gTup K 2 (gCons (gName 3) (gCons (gTup K 2 (gCons (gName 4) (gCons (gName 5) gNil))) gNil))) (tt := tYes) rfl scAk.nd (pi_enumA (by rfl) B.enumerate (pa_cons (pe_fld (pv 0) rfl) pa_nil)) (blkOk_by (N := nAk) (sc := defScope sIsAlike) (by decide +kernel))
      (fun _ _ _ _ _ => pg_tup rfl (pgs_cons (pg_name (i := 3) scAk.nd rfl (.inl rfl)) (pgs_cons (pg_tup rfl (pgs_cons (pg_name (i := 4) scAk.nd rfl (.inl rfl)) (pgs_cons (pg_name (i := 5) scAk.nd rfl (.inl rfl)) pgs_nil))) pgs_nil)))
      (fun _ _ _ _ _ => pts_nil)
      (fun _ _ _ _ _ => pe_chain op_eq op_eq (pe_ix (ixTK (K := K) rfl) (pv 1) (pv 4) (fun _ _ => rfl)) (pe_ix (ixTK (K := K) rfl) (pv 1) (pv 5) (fun _ _ => rfl)) (pe_ix (ixTK (K := K) rfl) (pv 2) (pv 3) (fun _ _ => rfl)))) pa_nil))), ?_⟩
    have n12 := hW.n12
    have t20 := hW.t20
    refine ⟨_, rfl, w, W, dx, _, _, rfl, h1, T.cl, T.nT, wf_t _ _, ta, rfl, .inr ⟨_, SqT.of g1, fun D0 hD0 => lc_enumT (K := K) (a := ta) (xs := tas.map V.ref)
      (fun i H2 => Same H H2 ∧ H2 D0 = some (.lst (((List.range i).map (rB ts ss ar)).map V.bl))) ⟨same_new hD0, by rw [upd_same]; rfl⟩ (fun i H2 _ ⟨s2, _⟩ => SqT.of (s2 _ _ g1)) ?_ ?_⟩⟩
    · rintro i x T0 H2 hx hT0 ⟨s2, hD2⟩
      obtain ⟨a, t, rfl, ha', ht, hat⟩ := g2.get' hx
      obtain ⟨p1, p2, p3⟩ := hW.at_ ht
      have sT := same_new (o := HO.tup [.int (i : Nat), .ref a]) hT0
      have hat2 : (upd H2 T0 (.tup [.int (i : Nat), .ref a])) a = some (.tup [.int (t.1 : Int), .int (t.2 : Int)]) := sT _ _ (s2 _ _ hat)
      have hD2' := sT _ _ hD2
      have s2' := s2.trans sT
      have hT2 : (upd H2 T0 (.tup [.int (i : Nat), .ref a])) T0 = some (.tup [.int (i : Nat), .ref a]) := upd_same
      generalize upd H2 T0 (.tup [.int (i : Nat), .ref a]) = H3 at hat2 hD2' s2' hT2 ⊢
      have it := lt_at ht
      refine ⟨T0, _, rfl, SqT.of hT2, rfl, _, _, rfl, _, _, rfl, ⟨a, _, rfl, SqT.of hat2, rfl, _, _, rfl, _, _, rfl, rfl, rfl, rfl, ?_⟩⟩
      have hs3 := s2' _ _ hs
      have ha3 := s2' _ _ ha
      refine ⟨_, rfl, _, rfl, sa, _, (t.1 : Int), _, rfl, rfl, SqT.of hs3, at_i (vrow_get (by omega)), _, rfl, _, rfl, sa, _, (t.2 : Int), _, rfl, rfl, SqT.of hs3, at_i (vrow_get (by omega)), rfl, _, rfl, ?_⟩
      have eR : rB ts ss ar i = (decide (V.int (ss.getD t.1 0) = V.int (ss.getD t.2 0)) && decide (V.int (ss.getD t.2 0) = V.int (ar.getD i 0))) := by unfold rB; rw [ht]
      have fin : ∀ b : Bool, b = rB ts ss ar i → ∃ acc, H3 D0 = some (.lst acc) ∧ acc.length < sizeLine ∧ Same H (upd H3 D0 (.lst (acc ++ [V.bl b]))) ∧ (upd H3 D0 (.lst (acc ++ [V.bl b]))) D0 = some (.lst (((List.range (i + 1)).map (rB ts ss ar)).map V.bl)) := fun b eb => by
        refine ⟨_, hD2', szl (by rw [List.length_map, List.length_map, List.length_range]; omega), fun c o eo => ?_, ?_⟩
        · rw [upd_ne (ne_of_none eo hD0)]
          exact s2' _ _ eo
        · rw [upd_same, List.range_succ, List.map_append, List.map_append, eb]; rfl
      by_cases e : V.int (ss.getD t.1 0) = V.int (ss.getD t.2 0)
      · rw [decide_eq_true e]
        refine iteT ⟨_, rfl, _, rfl, aa, _, (i : Int), _, rfl, rfl, SqT.of ha3, at_i (vrow_get (by omega)), rfl, fin _ ?_⟩
        rw [eR, decide_eq_true e, Bool.true_and]
      · rw [decide_eq_false e]
        refine iteF (fin _ ?_)
        rw [eR, decide_eq_false e, Bool.false_and]
    · rintro H2 ⟨s2, hD2⟩
      rw [List.length_map, g2.1] at hD2
      exact ⟨D0, _, rfl, SqL.of hD2, q H2 s2⟩
theorem scIR : FnScope ["net"] ["net"] (defScope sIsRest) := ⟨rfl, rfl, rfl, by decide +kernel, rfl, by decide +kernel, by decide +kernel⟩
theorem ok_rest {f fA W N : Addr} {fd fdA : FuncData} (D : Df K mg "is_rest" sIsRest ["net"] f fd) (DA : Df K mg "is_alike" sIsAlike ["web", "houses", "ties"] fA fdA) (T : NcT K mg N) (GA : FnOk P w K mg base CX0 1 fA fdA ["web", "houses", "ties"] (spAlike W)) : FnOk P w K mg base CX0 2 f fd ["net"] (spRest N W) := by
  refine D.F.ok scIR (fun vs H Q E h => ?_) (fun cdv A outer s H vs Q E hr h => ?_)
  · obtain ⟨c, w, m, ss, ar, n, ts, rfl, _⟩ := h
    rfl
  · obtain ⟨c, w, m, ss, ar, n, ts, rfl, hN, hW, q⟩ := h
    refine ⟨_, pss_one (ps_ret (pc DA GA hr pass0 (pa_cons (pe_fld (pv 0) rfl) (pa_cons (pe_fld (pv 0) rfl) (pa_cons (pe_fld (pv 0) rfl) pa_nil))))), ?_⟩
    obtain ⟨dx, sa, aa, h1, h2, h3⟩ := hN.ob
    exact ⟨_, rfl, c, N, dx, _, _, rfl, h1, T.cl, T.nW, nf_w _ _ _ _, _, rfl, c, N, dx, _, _, rfl, h1, T.cl, T.nS, nf_s _ _ _ _, _, rfl, c, N, dx, _, _, rfl, h1, T.cl, T.nA, nf_a _ _ _ _, w, sa, aa, n, ts, ss, ar, rfl, hN.wb, hW, h2, h3, hN.ls, hN.la, q⟩
end
end K1
namespace K1
open PySem PySem.Spec PyProof.Rows L2
theorem takes_len {X : Cx} {W : WX} (tk : Takes X W) : Takes X (fun cls d σ H => σ.length = X.N.length → W cls d σ H) := fun u s' ⟨a, B, sI, pins', σ', H', cls, d, e, J, nb, up, sky, na, os, ag, w⟩ =>
  tk u s' ⟨a, B, sI, pins', σ', H', cls, d, e, J, nb, up, sky, na, os, ag, w J.len⟩
/-- isinstance(e, N) in a suite, the exception's dict with any fields -/
def rIsF (K : PySem.W.Frag) (C : Addr) (cls : Value) (d : Option Addr) (a : Addr) : List V → Hp → VK → Prop := fun xs H Q => ∃ (dd N : Addr) (fs : List (Str × V)) (b : Bool), cls = .ref C ∧ d = some dd ∧ xs = [.ref a, .ref N] ∧ H dd = some (.xd fs) ∧ PySem.W.kitOne K (.ref C) (.ref N) = some b ∧ Q (.bl b) H
theorem call_isF {X : Cx} {a C : Addr} {cls : Value} {d : Option Addr} {oe : Obj} {pn : List (Addr × Obj)} (T : ExcK X.K C) (hz : Zc cls d oe) (hf : ∃ vs, oe.data = .fields vs) : CallR (X.suite a ((a, oe) :: pn)) (.builtin "isinstance") (rIsF X.K C cls d a) := by
  intro pins s σ H xs us Q I r h
  obtain ⟨dd, N, fs, b, rfl, rfl, rfl, hx, e, q⟩ := h
  obtain ⟨u1, u2, rfl, r1, r2⟩ := vals2 r
  cases r1
  cases r2
  obtain ⟨hget, _⟩ := I.pin (a, oe) (List.mem_append.mpr (.inl List.mem_cons_self))
  obtain ⟨vs, hd⟩ := hf
  have hx' : ObjOk X.prog X.w H s.heap dd (.xd fs) := I.hok dd _ hx
  obtain ⟨mA, hns, hr⟩ := hx'
  obtain ⟨od, ho, hl⟩ := lookIn_ns hns
  have J : PySem.W.InstAt s.heap a oe C (some od) := ⟨hget, hz.1, by unfold PySem.W.notCls; rw [hd] <;> rfl, by rw [hz.2]; exact ho⟩
  exact PySem.W.kia_one (PySem.W.kitx_exc T.cl T.ga T.gt T.sb T.ca T.sp T.tk T.mo) I.kIn J e (fun z => nomatch z) fun tk => ⟨.bl b, H, I.kept (t' := tk) fun _ _ z => z, rfl, q⟩
/-- isinstance(e, N), N a class of the language -/
def rIsT (K : PySem.W.Frag) (C : Addr) (n : String) (cls : Value) (d : Option Addr) (a : Addr) : List V → Hp → VK → Prop := fun xs H Q => ∃ (dd : Addr) (fs : List (Str × V)) (b : Bool), cls = .ref C ∧ d = some dd ∧ xs = [.ref a, .ty n] ∧ H dd = some (.xd fs) ∧ PySem.W.kitOne K (.ref C) (.type n) = some b ∧ Q (.bl b) H
theorem call_isT {X : Cx} {a C : Addr} {n : String} {cls : Value} {d : Option Addr} {oe : Obj} {pn : List (Addr × Obj)} (T : ExcK X.K C) (hz : Zc cls d oe) (hf : ∃ vs, oe.data = .fields vs) : CallR (X.suite a ((a, oe) :: pn)) (.builtin "isinstance") (rIsT X.K C n cls d a) := by
  intro pins s σ H xs us Q I r h
  obtain ⟨dd, fs, b, rfl, rfl, rfl, hx, e, q⟩ := h
  obtain ⟨u1, u2, rfl, r1, r2⟩ := vals2 r
  cases r1
  cases r2
  obtain ⟨hget, _⟩ := I.pin (a, oe) (List.mem_append.mpr (.inl List.mem_cons_self))
  obtain ⟨vs, hd⟩ := hf
  have hx' : ObjOk X.prog X.w H s.heap dd (.xd fs) := I.hok dd _ hx
  obtain ⟨mA, hns, hr⟩ := hx'
  obtain ⟨od, ho, hl⟩ := lookIn_ns hns
  have J : PySem.W.InstAt s.heap a oe C (some od) := ⟨hget, hz.1, by unfold PySem.W.notCls; rw [hd] <;> rfl, by rw [hz.2]; exact ho⟩
  exact PySem.W.kia_one (PySem.W.kitx_exc T.cl T.ga T.gt T.sb T.ca T.sp T.tk T.mo) I.kIn J e (fun z => nomatch z) fun tk => ⟨.bl b, H, I.kept (t' := tk) fun _ _ z => z, rfl, q⟩
structure Exm (K : PySem.W.Frag) (CH CR N : Addr) : Prop where
  hh : PySem.W.exmOne K (.ref CH) (.ref CH) = some true
  rh : PySem.W.exmOne K (.ref CR) (.ref CH) = some false
  rr : PySem.W.exmOne K (.ref CR) (.ref CR) = some true
  ih : PySem.W.kitOne K (.ref CH) (.type "KeyError") = some true
  ir : PySem.W.kitOne K (.ref CR) (.ref N) = some true
  xh : ExcK K CH
  xr : ExcK K CR
/-- x is the text that repr gives for v -/
def RS (v : V) (x : Str) : Prop := ∀ (H : Hp) (Q : VK), Q (.str x) H → rReprS [v] H Q
/-- as much, for a tuple of numbers too -/
def RSo (K : PySem.W.Frag) (H0 : Hp) (v : V) (x : Str) : Prop := ∀ (H : Hp) (Q : VK), Same H0 H → Q (.str x) H → rReprS [v] H Q ∨ rRepr K [v] H Q
section
theorem call_or2 {X : Cx} {c : Value} {r q : List V → Hp → VK → Prop} (a : CallR X c r) (b : CallR X c q) : CallR X c (fun xs H Q => r xs H Q ∨ q xs H Q) := fun pins s σ H xs us Q I rv h => h.elim (a pins s σ H xs us Q I rv) (b pins s σ H xs us Q I rv)
theorem pe_or2 {X : Cx} {e : Expr} {t u : TE} (a : PE X e t) (b : PE X e u) : PE X e (fun σ H Q => t σ H Q ∨ u σ H Q) := ⟨fun pins s σ H Q I h => h.elim (a.run pins s σ H Q I) (b.run pins s σ H Q I)⟩
theorem op_or2 {X : Cx} {f : Value → Value → Sem Value} {r q : R2} (a : OpR X f r) (b : OpR X f q) : OpR X f (fun x y H Q => r x y H Q ∨ q x y H Q) := fun pins s σ H x y v u Q I rx ry h => h.elim (a pins s σ H x y v u Q I rx ry) (b pins s σ H x y v u Q I rx ry)
end
def HE (K : PySem.W.Frag) (CH CR : Addr) (Q : VK) : XK := fun cls d H => ∃ dd : Addr, d = some dd ∧
  ((cls = .ref CH ∧ ∃ v, H dd = some (.xd [("house", v)]) ∧ ∃ x, RSo K H v x ∧ ∀ p H', Same H H' → H' p = some (.tup [.str "house", .str x, .bl true]) → Q (.ref p) H') ∨
   (cls = .ref CR ∧ ∃ v, H dd = some (.xd [("at", v)]) ∧ ∃ x, RSo K H v x ∧ ∀ p H', Same H H' → H' p = some (.tup [.str "refused", .str x, .bl true]) → Q (.ref p) H'))
def TTh (K : PySem.W.Frag) (CH CR : Addr) : (XK → Hp → VK → Prop) → Hp → VK → Prop := fun tl H Q => tl (HE K CH CR Q) H fun v H' => 2 ≤ sizeLine ∧ ∀ p, H' p = none → Q (.ref p) (upd H' p (.tup [.str "told", v]))
theorem scHe : FnScope ["_law_ask", "fault"] ["_law_ask"] (defScope sLHeard) := ⟨rfl, rfl, rfl, by decide +kernel, rfl, by decide +kernel, by decide +kernel⟩
theorem call_reprZ {Z : Cx} {a : Addr} {pn : List (Addr × Obj)} (hgd : Z.A.guards = some []) (hu : Z.A.units + 64 < cLine) : CallR (Z.suite a pn) (.builtin "repr") (rRepr Z.K) := call_repr (X := Z.suite a pn) hgd hu
theorem heard_gives {X : Cx} {CH CR N i1 i3 g : Addr} {k : Nat} {b1 b3 : List Value} {q1 q3 : Str} {cdg : Value} {q : Str} (B : Bt X.mg) (T1 : LHouse.Txt X.K X.mg "NoHouse" q1 b1 CH i1)
    (T3 : LAt.Txt X.K X.mg "Refused" q3 b3 CR i3) (hN : X.mg "NetError" = some (.ref N)) (ex : Exm X.K CH CR N) (g1 : X.mg "NoHouse" = some (.ref CH)) (g3 : X.mg "Refused" = some (.ref CR)) (hgd : X.A.guards = some []) (hr : Room (k + 2) X.A) :
    LamX.GivesTo X ["_law_ask", "fault"] "_law_heard" (defScope sLHeard) g cdg (defBody sLHeard) "_law_ask" q (TTh X.K CH CR) := by
  intro f c' s H Q tl act hc h
  have hu := (hr.deeper (envOfC "_law_heard" (defScope sLHeard) s.heap.objs.size g cdg)).units
  generalize hZ : (cxOf C8.CX0 X.prog X.w X.K X.mg X.base ["_law_ask", "fault"] "_law_heard" (defScope sLHeard) g cdg X.A X.stack s H C8.E0) = Z at act ⊢
  subst hZ
  refine ⟨_, pss_one (ps_try_all (n := "fault") (i := 1) (tb := fun W D σ H => ∃ Ech : XK, (∀ cls d (σ' : L2.St) H', σ'.length = 2 → Ech cls d H' → W cls d σ' H') ∧ σ[0]? = some (some (.ref f)) ∧ H c' = some (LamX.CodeO c' q) ∧ tl Ech H fun v H1 => 2 ≤ sizeLine ∧ ∀ p, H1 p = none → D.rt (.ref p) (upd H1 p (.tup [.str "told", v])))
      rfl rfl scHe.nd rfl rfl LamX.takes0 (fun W pn xe tk _ => ?_)
      (.cons (c := .ref CH) ⟨rfl, by decide, .inl g1⟩ (fun a oe cls d pn hz hf => pss_one (ps_ret (pe_tup (pa_cons pe_str (pa_cons (pe_callB (call_or2 call_reprS (call_reprZ (Z := cxOf C8.CX0 X.prog X.w X.K X.mg X.base ["_law_ask", "fault"] "_law_heard" (defScope sLHeard) g cdg X.A X.stack s H C8.E0) hgd hu)) rfl B.repr (by decide +kernel) (pa_cons (pe_by_LHouse T1 hz hf (pv 1)) pa_nil)) (pa_cons (pe_callB (call_isT (n := "KeyError") ex.xh hz hf) rfl B.isinstance (by decide +kernel) (pa_cons (pv 1) (pa_cons (pe_bltn (v := .ty "KeyError") rfl B.ke (by decide +kernel) rfl) pa_nil))) pa_nil))))))
      (.cons (c := .ref CR) ⟨rfl, by decide, .inl g3⟩ (fun a oe cls d pn hz hf => pss_one (ps_ret (pe_tup (pa_cons pe_str (pa_cons (pe_callB (call_or2 call_reprS (call_reprZ (Z := cxOf C8.CX0 X.prog X.w X.K X.mg X.base ["_law_ask", "fault"] "_law_heard" (defScope sLHeard) g cdg X.A X.stack s H C8.E0) hgd hu)) rfl B.repr (by decide +kernel) (pa_cons (pe_by_LAt T3 hz hf (pv 1)) pa_nil)) (pa_cons (pe_callB (call_isF ex.xr hz hf) rfl B.isinstance (by decide +kernel) (pa_cons (pv 1) (pa_cons (pe_glob (v := .ref N) rfl hN rfl) pa_nil))) pa_nil)))))) .nil))), ?_⟩
  · refine ⟨fun pins s' σ H' D I h' => ?_⟩
    obtain ⟨Ech, hW, h1, h2, h3⟩ := h'
    have hp := fun p1 p2 => act (fun cls d σ H => σ.length = 2 → W cls d σ H) pn xe Ech p1 p2 (takes_len tk) (fun cls d σ' H' e hl => hW cls d σ' H' hl e)
    exact (pss_one (ps_ret (pe_tup (pa_cons pe_str (pa_cons (hp _ _) pa_nil))))).run pins s' σ H' D I ⟨h1, h2, h3⟩
  · refine ⟨HE X.K CH CR Q, fun cls d σ' H' hl he => ?_, rfl, hc, h⟩
    obtain ⟨dd, rfl, k⟩ := he
    obtain ⟨v0, v1, rfl⟩ : ∃ v0 v1, σ' = [v0, v1] := by
      match σ', hl with
      | [v0, v1], _ => exact ⟨v0, v1, rfl⟩
    rcases k with ⟨rfl, v, hx, x, rs, k⟩ | ⟨rfl, v, hx, x, rs, k⟩
    · refine ⟨true, ex.hh, fun _ a na => ?_, fun z => (by cases z)⟩
      refine ⟨_, rfl, rfl, rfl, dd, v, rfl, hx, ?_⟩
      unfold tNil
      dsimp only
      exact rs _ _ (Same.refl _) ⟨_, rfl, dd, _, true, rfl, rfl, rfl, hx, ex.ih, (by show 3 ≤ sizeLine; decide), fun p hp => k p _ (same_new hp) upd_same⟩
    · refine ⟨false, ex.rh, fun z => (by cases z), fun _ => ⟨true, ex.rr, fun _ a na => ?_, fun z => (by cases z)⟩⟩
      refine ⟨_, rfl, rfl, rfl, dd, v, rfl, hx, ?_⟩
      unfold tNil
      dsimp only
      exact rs _ _ (Same.refl _) ⟨_, rfl, dd, N, _, true, rfl, rfl, rfl, hx, ex.ir, (by show 3 ≤ sizeLine; decide), fun p hp => k p _ (same_new hp) upd_same⟩
structure FunC (K : PySem.W.Frag) (x qual : Str) (st : Stmt) (f : Addr) (fd : FuncData) (cdv : Value) : Prop where
  ex : ∃ (oc : Value) (od : Option Addr) (kV doc pm : Value) (an : Option Addr) (ct : Value) (osl : Array (Option Value)),
    fd = PySem.W.fnOf x qual (defArgs st) (defBody st) (defScope st) .none kV doc pm an cdv ct ∧ K.lookup f = some ⟨oc, od, .func fd, osl⟩ ∧ PySem.W.codeIn K cdv qual = true
  kp : PySem.W.keepIn K (.ref f) = true
theorem FunC.fun {K : PySem.W.Frag} {x qual : Str} {st : Stmt} {f : Addr} {fd : FuncData} {cdv : Value} (F : FunC K x qual st f fd cdv) : Fun K x qual st f fd := by
  obtain ⟨⟨oc, od, kV, doc, pm, an, ct, osl, h1, h2, h3⟩, kp⟩ := F
  exact ⟨⟨oc, od, kV, doc, pm, an, cdv, ct, osl, h1, h2, h3⟩, kp⟩
section
variable {P : Program} {w : World} {K : PySem.W.Frag} {mg : Str → Option Value} {base : Heap}
theorem FunC.ok {x qual : Str} {st : Stmt} {f : Addr} {fd : FuncData} {cdv : Value} {N ps : List Str} {k : Nat} {sp : Sp} (F : FunC K x qual st f fd cdv) (S : FnScope N ps (defScope st)) (len : ∀ vs H Q E, sp vs H Q E → vs.length = ps.length)
    (hbody : ∀ (A : Around) (outer : List Env) (s : Shared) (H : Hp) (vs : List V) (Q : VK) (E : XK), Room k (A.deeper (envOfC qual (defScope st) s.heap.objs.size f cdv)) → sp vs H Q E →
      ∃ t, PSs (cxOf CX0 P w K mg base N qual (defScope st) f cdv A outer s H E).nox (defBody st) t ∧ t { nx := fun _ H' => Q .non H', rt := Q } (start N vs) H) : FnOk P w K mg base CX0 (k + 1) f fd ps sp := by
  obtain ⟨oc, od, kV, doc, pm, an, ct, osl, rfl, lk, hcd⟩ := F.ex
  refine fn_of lk hcd S len fun A outer s H vs Q E hr hsp => ?_
  obtain ⟨t, h, q⟩ := hbody A outer s H vs Q E hr hsp
  exact ⟨t, h.nox, q⟩
theorem FunC.okG {x qual : Str} {st : Stmt} {f : Addr} {fd : FuncData} {cdv : Value} {N ps : List Str} {k : Nat} {sp : Sp} (F : FunC K x qual st f fd cdv) (S : FnScope N ps (defScope st)) (len : ∀ vs H Q E, sp vs H Q E → vs.length = ps.length)
    (hbody : ∀ (A : Around) (outer : List Env) (s : Shared) (H : Hp) (vs : List V) (Q : VK) (E : XK), Room k (A.deeper (envOfC qual (defScope st) s.heap.objs.size f cdv)) → (A.deeper (envOfC qual (defScope st) s.heap.objs.size f cdv)).guards = some [] → sp vs H Q E →
      ∃ t, PSs (cxOf CX0 P w K mg base N qual (defScope st) f cdv A outer s H E).nox (defBody st) t ∧ t { nx := fun _ H' => Q .non H', rt := Q } (start N vs) H) : FnG P w K mg base (k + 1) f fd ps sp := by
  obtain ⟨oc, od, kV, doc, pm, an, ct, osl, rfl, lk, hcd⟩ := F.ex
  refine ⟨len, fun A outer s H args us vs Q E hr hgd e0 hb r hsp => ?_⟩
  refine LamX.run_ofS lk hcd S hr e0 hb r (len _ _ _ _ hsp) fun hr' => ?_
  obtain ⟨t, h, q⟩ := hbody A outer s H vs Q E hr' hgd hsp
  exact ⟨t, h.nox, q⟩
end
structure Hd (K : PySem.W.Frag) (mg : Str → Option Value) (base : Heap) (CH CR : Addr) : Prop where
  B : Bt mg
  df : ∃ g fd, Df K mg "_law_heard" sLHeard ["_law_ask"] g fd
  t1 : ∃ q b i, LHouse.Txt K mg "NoHouse" q b CH i
  t3 : ∃ q b i, LAt.Txt K mg "Refused" q b CR i
  ex : ∃ N, mg "NetError" = some (.ref N) ∧ Exm K CH CR N
theorem pHeard {X : Cx} {c P CH CR : Addr} {k : Nat} {qn : Str} {T : List (Addr × Str)} {params : Arguments} {body : Expr} {scope : Scope} {t : XK → TE} {p lpos pos : Pos} (hd : Hd X.K X.mg X.base CH CR) (TB : LamX.TabB X.base X.mg c P) (hgd : X.A.guards = some []) (hr : Room (k + 2) X.A) (hcode : X.env.code = .ref c)
    (hq : X.env.qual ++ "<lambda>" = qn) (hm : (P, qn) ∈ T) (hun : ∀ p ∈ T, p.1 = P → p.2 = qn) (hg : Gl X "_law_heard") (L : LamX.LamS X.env.scope scope) (hdef : defaultsOf params X.env = ([], []))
    (hbind : ∀ (q : Str) (cl : List (Str × Addr)) (pm cv ctv : Value), bindArgs (PySem.W.kla_fn "<lambda>" q params body scope cl pm cv ctv) ⟨[], []⟩ = pure [])
    (hbody : ∀ (A : Around) (outer : List Env) (s : Shared) (H : Hp) (E : XK) (f c' : Addr), Room k (A.deeper (LamX.lamEnv X scope s.heap.objs.size f c')) → PE (LamX.lamCx X A outer s H E scope f c') body (t E)) :
    PE X (.Call (.Name "_law_heard" p) [.Lambda params body scope lpos] [] pos) (LamX.tLam T (TTh X.K CH CR) t) := by
  obtain ⟨g, fd, D⟩ := hd.df
  obtain ⟨q1, b1, i1, T1⟩ := hd.t1
  obtain ⟨q3, b3, i3, T3⟩ := hd.t3
  obtain ⟨N, hN, ex⟩ := hd.ex
  have g1 := T1.gC
  have g3 := T3.gC
  have hb := D.b
  obtain ⟨oc, od, kV, doc, pm, an, cdv, ct, osl, rfl, lk, hcd⟩ := D.F.ex
  exact LamX.pe_lamcall (a := "_law_ask") hg D.g D.F.kp lk hcd hb scHe rfl (.inl rfl) (heard_gives hd.B T1 T3 hN ex g1 g3 hgd hr) TB hcode (by rw [hq]; exact hm) (fun p hp e => by rw [hq]; exact hun p hp e) hr L hdef hbind hbody
/-! ### what stays behind a step of the law: all but the source, the things at xs, and the tables of code -/
theorem BoxO.ext {b : Addr} {H1 H2 : Hp} (h : BoxO H1 b) (e : LamX.ExtN H1 H2) : BoxO H2 b := let ⟨x, y, q⟩ := h; ⟨x, y, e _ _ q (fun ps z => by cases z)⟩
theorem BoxO.nn {b p : Addr} {H : Hp} (h : BoxO H b) (hp : H p = none) : p ≠ b := (Bx.refl h).ne hp
theorem tabs_bx {b : Addr} {T : List (Addr × Str)} {H1 H2 : Hp} (t : LamX.Tabs T H1) (hb : BoxO H1 b) (x : Bx b H1 H2) : LamX.Tabs T H2 := fun p hp => by
  obtain ⟨ps, h1, h2, h3⟩ := t p hp
  refine ⟨ps, x.2 _ _ h1 (hb.ne h1 fun xs => by intro z; cases z), h2, fun pos cv hc => ?_⟩
  obtain ⟨c, e1, e2⟩ := h3 pos cv hc
  exact ⟨c, e1, x.2 _ _ e2 (hb.ne e2 fun xs => by intro z; unfold LamX.CodeO at z; cases z)⟩
theorem tabs_but {c C dx : Addr} {fs : List (Str × V)} {T : List (Addr × Str)} {H1 H2 : Hp} (t : LamX.Tabs T H1) (hc : H1 c = some (.ins C dx fs)) (x : But c H1 H2) : LamX.Tabs T H2 := fun p hp => by
  obtain ⟨ps, h1, h2, h3⟩ := t p hp
  refine ⟨ps, x _ _ h1 (ne_of h1 hc (by intro z; cases z)), h2, fun pos cv hcv => ?_⟩
  obtain ⟨d, e1, e2⟩ := h3 pos cv hcv
  exact ⟨d, e1, x _ _ e2 (ne_of e2 hc (by intro z; unfold LamX.CodeO at z; cases z))⟩
structure Lw (b : Addr) (T : List (Addr × Str)) (xs : List Addr) (H H' : Hp) : Prop where
  bx : BoxO H' b
  tb : LamX.Tabs T H'
  ks : Ks (b :: xs) H H'
section
variable {b : Addr} {T : List (Addr × Str)} {xs : List Addr} {H H1 H2 : Hp}
theorem Lw.refl (hb : BoxO H b) (t : LamX.Tabs T H) : Lw b T xs H H := ⟨hb, t, Ks.refl⟩
theorem Lw.trans (a : Lw b T xs H H1) (c : Lw b T xs H1 H2) : Lw b T xs H H2 := ⟨c.bx, c.tb, a.ks.trans c.ks⟩
theorem Lw.same (a : Lw b T xs H H1) (s : Same H1 H2) : Lw b T xs H H2 := ⟨a.bx.same s, a.tb.ext s, a.ks.same s⟩
theorem Lw.new {p : Addr} {o : HO} (a : Lw b T xs H H1) (hp : H1 p = none) : Lw b T xs H (upd H1 p o) := a.same (same_new hp)
theorem ks_bx (x : Bx b H1 H2) : Ks (b :: xs) H1 H2 := fun c o e n _ => x.2 c o e fun z => n (by rw [z]; exact List.mem_cons_self)
theorem Lw.box (a : Lw b T xs H H1) (x : Bx b H1 H2) : Lw b T xs H H2 := ⟨x.1, tabs_bx a.tb a.bx x, a.ks.trans (ks_bx x)⟩
theorem Lw.ext (a : Lw b T xs H H1) (e : LamX.ExtN H1 H2) (t : LamX.Tabs T H2) : Lw b T xs H H2 := ⟨a.bx.ext e, t, a.ks.trans fun c o q _ n => e _ _ q n⟩
theorem Lw.but {c C dx : Addr} {fs : List (Str × V)} (a : Lw b T xs H H1) (hc : H1 c = some (.ins C dx fs)) (m : c ∈ xs) (x : But c H1 H2) : Lw b T xs H H2 := by
  obtain ⟨u, v, hb⟩ := a.bx
  exact ⟨⟨u, v, x _ _ hb (ne_of hb hc (by intro z; cases z))⟩, tabs_but a.tb hc x, a.ks.trans fun d o e n _ => x d o e fun z => n (by rw [z]; exact List.mem_cons_of_mem _ m)⟩
theorem Lw.nn {p : Addr} (a : Lw b T xs H H1) (hp : H1 p = none) : p ≠ b := a.bx.nn hp
theorem But.fresh {c : Addr} (x : But c H H1) (hc : H c = none) : Same H H1 := fun d u e => x d u e (ne_of_none e hc)
end
/-! ### texts -/
theorem strOk_iff {x : Str} : PyData.strOk x = true ↔ ∀ c ∈ x.cps.toList, c < 0x110000 := by
  unfold PyData.strOk
  rw [← Array.all_toList, List.all_eq_true]
  exact ⟨fun h c hc => of_decide_eq_true (h c hc), fun h c hc => decide_eq_true (h c hc)⟩
theorem ok_int (i : Int) : PyData.strOk (PyData.int i).shown = true := strOk_iff.mpr fun c hc => by
  by_cases z : c ≠ 45 ∧ (c < 48 ∨ 57 < c)
  · exact absurd hc (shown_int_free' z i)
  · omega
theorem ok_shAll : ∀ ds : List PyData, (∀ d ∈ ds, PyData.strOk d.shown = true) → ∀ t ∈ PyData.shownAll ds, PyData.strOk t = true
  | [], _, t, ht => by
    unfold PyData.shownAll at ht
    cases ht
  | d :: r, h, t, ht => by
    unfold PyData.shownAll at ht
    rcases List.mem_cons.mp ht with e | e
    · rw [e]; exact h d List.mem_cons_self
    · exact ok_shAll r (fun x hx => h x (List.mem_cons_of_mem _ hx)) t e
theorem ok_list {ds : List PyData} (h : ∀ d ∈ ds, PyData.strOk d.shown = true) : PyData.strOk (PyData.list ds).shown = true := strOk_iff.mpr fun c hc => by
  rw [PyData.shown_list, mem_cps_append, mem_cps_append, mem_join] at hc
  rcases hc with (hc | (⟨t, ht, hc⟩ | ⟨_, hc⟩)) | hc
  · exact strOk_iff.mp (by decide +kernel : PyData.strOk "[" = true) c hc
  · exact strOk_iff.mp (ok_shAll ds h t ht) c hc
  · exact strOk_iff.mp (by decide +kernel : PyData.strOk ", " = true) c hc
  · exact strOk_iff.mp (by decide +kernel : PyData.strOk "]" = true) c hc
/-- a value with the text that repr gives for it, as long as all but xs stands -/
structure Vl (K : PySem.W.Frag) (xs : List Addr) (H : Hp) (v : V) (o : Option (List V)) (x : Str) : Prop where
  ok : PyData.strOk x = true
  sh : ∀ H' Q, Ks xs H H' → Q (.str x) H' → rReprS [v] H' Q ∨ rRepr K [v] H' Q
  rd : ∀ H', Ks xs H H' → Rw K H' v o
theorem Vl.ks {K : PySem.W.Frag} {xs : List Addr} {H H1 : Hp} {v : V} {o : Option (List V)} {x : Str} (h : Vl K xs H v o x) (k : Ks xs H H1) : Vl K xs H1 v o x := ⟨h.ok, fun H' Q k2 q => h.sh H' Q (k.trans k2) q, fun H' k2 => h.rd H' (k.trans k2)⟩
theorem Vl.rso {K : PySem.W.Frag} {xs : List Addr} {H : Hp} {v : V} {o : Option (List V)} {x : Str} (h : Vl K xs H v o x) : RSo K H v x := fun H' Q s q => h.sh H' Q (fun c o e _ _ => s _ _ e) q
theorem log64 {i : Int} (h : i.natAbs < 2 ^ 64) : i.natAbs.log2 < 1920 := by
  by_cases z : i.natAbs = 0
  · rw [z]; decide
  · have : i.natAbs.log2 < 64 := (Nat.log2_lt z).mpr h
    omega
/-- an item of a list -/
structure Im (K : PySem.W.Frag) (xs : List Addr) (H : Hp) (v : V) (d : PyData) : Prop where
  ok : PyData.strOk d.shown = true
  pl : Pl d 1 200
  rd : ∀ H', Ks xs H H' → Dp K H' v d ∧ ∃ o, KV K H' v o
inductive Ims (K : PySem.W.Frag) (xs : List Addr) (H : Hp) : List V → List PyData → Prop
  | nil : Ims K xs H [] []
  | cons {v : V} {d : PyData} {vs : List V} {ds : List PyData} (a : Im K xs H v d) (r : Ims K xs H vs ds) : Ims K xs H (v :: vs) (d :: ds)
section
variable {K : PySem.W.Frag} {xs : List Addr} {H : Hp}
theorem rw0 {H' : Hp} {v : V} (h : KV K H' v none) : Rw K H' v none := ⟨h, fun ys e => by cases e⟩
theorem vl_int {i : Int} (h : i.natAbs < 2 ^ 64) : Vl K xs H (.int i) none (toString i) := ⟨ok_int i, fun H' Q _ q => .inl ⟨_, rfl, .inr (.inr (.inl ⟨i, rfl, log64 h, q⟩))⟩, fun H' _ => rw0 (.int i)⟩
theorem vl_non : Vl K xs H .non none "None" := ⟨by decide +kernel, fun H' Q _ q => .inl ⟨_, rfl, .inl ⟨rfl, q⟩⟩, fun H' _ => rw0 .non⟩
theorem vl_true : Vl K xs H (.bl true) none "True" := ⟨by decide +kernel, fun H' Q _ q => .inl ⟨_, rfl, .inr (.inl ⟨true, rfl, q⟩)⟩, fun H' _ => rw0 (.bl true)⟩
theorem vl_str {s : Str} (h1 : PyData.strOk (reprText s) = true) (h2 : (reprText s).length ≤ sizeLine) : Vl K xs H (.str s) none (reprText s) := ⟨h1, fun H' Q _ q => .inl ⟨_, rfl, .inr (.inr (.inr ⟨s, rfl, h2, q⟩))⟩, fun H' _ => rw0 (.str s)⟩
theorem im_int {i : Int} (h : i.natAbs < 10 ^ 19) : Im K xs H (.int i) (.int i) := ⟨ok_int i, (Pl.int h).mono (by decide) (by decide), fun H' _ => ⟨.int i, none, .int i⟩⟩
theorem im_non : Im K xs H .non .none := ⟨by decide +kernel, pl_non.mono (by decide) (by decide), fun H' _ => ⟨.non, none, .non⟩⟩
theorem im_true : Im K xs H (.bl true) (.bool true) := ⟨by decide +kernel, (Pl.bl true).mono (by decide) (by decide), fun H' _ => ⟨.bl true, none, .bl true⟩⟩
theorem im_str {s : Str} (h0 : PyData.strOk (PyData.str s).shown = true) (h1 : PyData.strOk s = true) (h2 : s.cps.size ≤ 100) (h3 : (s.cps.toList.all fun c => decide (c < 16 ^ 8)) = true) : Im K xs H (.str s) (.str s) := ⟨h0, (pl_str h1 h2 h3).mono (by decide) (by decide), fun H' _ => ⟨.str s, none, .str s⟩⟩
theorem im_one {p : Addr} (hp : H p = some (.lst [.int 1])) (n : p ∉ xs) : Im K xs H (.ref p) (.list [.int 1]) :=
  ⟨by decide +kernel, (Pl.list (PlA.cons (Pl.int (i := 1) (by decide)) PlA.nil)).mono (by decide) (by decide), fun H' k => ⟨.lst (SqL.of (k.lst hp n)) (.cons (.int 1) .nil), _, .lst (k.lst hp n)⟩⟩
theorem ims_ints : ∀ t : List Int, (∀ i ∈ t, i.natAbs < 10 ^ 19) → Ims K xs H (vrow t) (dI t)
  | [], _ => .nil
  | i :: r, h => .cons (im_int (h i List.mem_cons_self)) (ims_ints r fun j hj => h j (List.mem_cons_of_mem _ hj))
theorem Ims.app {vs ws : List V} {ds es : List PyData} (a : Ims K xs H vs ds) (b : Ims K xs H ws es) : Ims K xs H (vs ++ ws) (ds ++ es) := by
  induction a with
  | nil => exact b
  | cons x _ ih => exact .cons x ih
theorem Ims.ok {vs : List V} {ds : List PyData} (a : Ims K xs H vs ds) : ∀ d ∈ ds, PyData.strOk d.shown = true := by
  induction a with
  | nil => intro d h; cases h
  | cons x _ ih =>
    intro d h
    rcases List.mem_cons.mp h with e | e
    · rw [e]; exact x.ok
    · exact ih d e
theorem Ims.pl {vs : List V} {ds : List PyData} (a : Ims K xs H vs ds) : PlA ds 1 (vs.length * 201) := by
  induction a with
  | nil => exact PlA.nil.mono (by decide) (by decide)
  | cons x _ ih => exact (PlA.cons x.pl ih).mono (by decide) (by simp only [List.length_cons]; omega)
theorem Ims.rd {vs : List V} {ds : List PyData} (a : Ims K xs H vs ds) {H' : Hp} (k : Ks xs H H') : DpAll K H' vs ds ∧ Kinds K H' vs := by
  induction a with
  | nil => exact ⟨.nil, fun x hx => by cases hx⟩
  | cons x _ ih =>
    obtain ⟨h1, h2⟩ := x.rd H' k
    refine ⟨.cons h1 ih.1, fun y hy => ?_⟩
    rcases List.mem_cons.mp hy with e | e
    · rw [e]; exact h2
    · exact ih.2 y e
theorem vl_lst {p : Addr} {vs : List V} {ds : List PyData} (hp : H p = some (.lst vs)) (n : p ∉ xs) (a : Ims K xs H vs ds) (hl : vs.length ≤ 400) : Vl K xs H (.ref p) (some vs) (PyData.list ds).shown := by
  refine ⟨ok_list a.ok, fun H' Q k q => .inr (reprP (.lst (SqL.of (k.lst hp n)) (a.rd k).1) (Pl.list a.pl) (by decide) (by omega) q), fun H' k => ⟨.lst (k.lst hp n), fun ys e => ?_⟩⟩
  obtain rfl := Option.some.inj e
  exact (a.rd k).2
/-- what is no number below n -/
def oddH (n : Int) : List V := [.int n, .int (-1), .non, .bl true, .str "0"]
theorem oddH_vl {n : Int} {v : V} (h0 : 0 ≤ n) (h1 : n ≤ 1000) (h : v ∈ oddH n) : belowB v n = false ∧ ∃ x, Vl K xs H v none x := by
  simp only [oddH, List.mem_cons, List.mem_nil_iff, or_false] at h
  rcases h with rfl | rfl | rfl | rfl | rfl
  · refine ⟨?_, _, vl_int (by omega)⟩
    show (decide (0 ≤ n) && decide (n < n)) = false
    rw [decide_eq_false (Int.lt_irrefl _), Bool.and_false]
  · exact ⟨rfl, _, vl_int (by decide)⟩
  · exact ⟨rfl, _, vl_non⟩
  · exact ⟨rfl, _, vl_true⟩
  · exact ⟨rfl, _, vl_str (by decide +kernel) (by decide +kernel)⟩
end
/-! ### what the ear tells, compared -/
theorem ear {K : PySem.W.Frag} {Q : VK} {p p2 : Addr} {H : Hp} {vs : List V} {ds : List PyData} (h1 : H p = some (.tup vs)) (h2 : H p2 = some (.tup vs)) (hd : DpAll K H vs ds) (lay : PyData.canLay0 (.tuple ds) = true) (sh : SeqAt.shaped (.tuple ds) = true) (q : Q (.bl false) H) : rNeD K (.ref p) (.ref p2) H Q :=
  ⟨_, _, .tup (SqT.of h1) hd, .tup (SqT.of h2) hd, sh, sh, qbl (by rw [SeqAt.eqv_refl _ lay]; rfl) q⟩
theorem layS {y x : Str} {b : Bool} (hy : PyData.strOk y = true) (hx : PyData.strOk x = true) : PyData.canLay0 (.tuple [.str y, .str x, .bool b]) = true := by simp only [PyData.canLay0, PyData.canLayAll0, Bool.and_self, hx, hy]
theorem shS {y x : Str} {b : Bool} (hy : PyData.strOk y = true) (hx : PyData.strOk x = true) : SeqAt.shaped (.tuple [.str y, .str x, .bool b]) = true := by
  unfold SeqAt.shaped
  rw [layS hy hx]
  simp only [PyData.depth, PyData.depthAll]
  exact (by decide : (true && decide (max 0 (max 0 (max 0 0)) + 1 ≤ 64)) = true)
theorem earS {K : PySem.W.Frag} {Q : VK} {p p2 : Addr} {H : Hp} {y x : Str} {b : Bool} (hy : PyData.strOk y = true) (hx : PyData.strOk x = true) (h1 : H p = some (.tup [.str y, .str x, .bl b])) (h2 : H p2 = some (.tup [.str y, .str x, .bl b])) (q : Q (.bl false) H) : rNeD K (.ref p) (.ref p2) H Q :=
  ear h1 h2 (.cons (.str y) (.cons (.str x) (.cons (.bl b) .nil))) (layS hy hx) (shS hy hx) q
theorem earE {K : PySem.W.Frag} {Q : VK} {p p2 : Addr} {H : Hp} {y x : Str} {b : Bool} (hy : PyData.strOk y = true) (hx : PyData.strOk x = true) (h1 : H p = some (.tup [.str y, .str x, .bl b])) (h2 : H p2 = some (.tup [.str y, .str x, .bl b])) (q : Q (.bl true) H) : rEqD K (.ref p) (.ref p2) H Q :=
  have hd : DpAll K H [V.str y, .str x, .bl b] [.str y, .str x, .bool b] := .cons (.str y) (.cons (.str x) (.cons (.bl b) .nil))
  ⟨_, _, .tup (SqT.of h1) hd, .tup (SqT.of h2) hd, shS hy hx, shS hy hx, qbl (by rw [SeqAt.eqv_refl _ (layS hy hx)]) q⟩
theorem Vl.same {K : PySem.W.Frag} {xs : List Addr} {H H1 : Hp} {v : V} {o : Option (List V)} {x : Str} (h : Vl K xs H v o x) (s : Same H H1) : Vl K xs H1 v o x := h.ks fun c o e _ _ => s _ _ e
section
variable {K : PySem.W.Frag} {CH CR : Addr} {Q : VK} {H : Hp} {v : V} {o : Option (List V)} {x : Str} {xs : List Addr}
theorem heH (vl : Vl K xs H v o x) (k : ∀ p H', Same H H' → H' p = some (.tup [.str "house", .str x, .bl true]) → Q (.ref p) H') : Rz CH "house" v H (HE K CH CR Q) := fun d H' sm hd hx => ⟨d, rfl, .inl ⟨rfl, v, hx, x, (vl.same sm).rso, fun p H'' s2 hp => k p H'' (sm.trans s2) hp⟩⟩
theorem heR (vl : Vl K xs H v o x) (k : ∀ p H', Same H H' → H' p = some (.tup [.str "refused", .str x, .bl true]) → Q (.ref p) H') : Rz CR "at" v H (HE K CH CR Q) := fun d H' sm hd hx => ⟨d, rfl, .inr ⟨rfl, v, hx, x, (vl.same sm).rso, fun p H'' s2 hp => k p H'' (sm.trans s2) hp⟩⟩
theorem st_h : PyData.strOk ("house" : Str) = true := by decide +kernel
theorem st_r : PyData.strOk ("refused" : Str) = true := by decide +kernel
end
end K1
namespace K1
open PySem PySem.Spec PyProof.Rows L2
theorem Rz.of_same {C : Addr} {f : Str} {v : V} {H H1 : Hp} {E : XK} (r : Rz C f v H E) (s : Same H H1) : Rz C f v H1 E := fun d H' s' hd hx => r d H' (s.trans s') (s.free hd) hx
theorem lc_enumL {K : PySem.W.Frag} {a : Addr} {xs : List V} {g : TG} {tt : TT} {te : TE} {vs : List Nat} {σ : L2.St} {H1 : Hp} {D : Addr} {Qd : Hp → Prop} (Pv : Nat → Hp → Prop) (h0 : Pv 0 (upd H1 D (.lst []))) (hl : ∀ i H, i ≤ xs.length → Pv i H → SqL K H a xs)
    (hs : ∀ i x T H, xs[i]? = some x → H T = none → Pv i H → g (.ref T) (wipe σ vs) (upd H T (.tup [.int (i : Nat), x])) fun σ2 H2 => wipe σ2 vs = wipe σ vs ∧ tt σ2 H2 fun b H3 =>
      if b = true then te σ2 H3 fun y H4 => ∃ acc, H4 D = some (.lst acc) ∧ acc.length < sizeLine ∧ Pv (i + 1) (upd H4 D (.lst (acc ++ [y]))) else Pv (i + 1) H3) (hd : ∀ H, Pv xs.length H → Qd H) :
    ∃ W : Nat → Nat → Hp → Prop, (∃ m, W 0 m (upd H1 D (.lst []))) ∧ ∀ i m H, W i m H →
      ((Ite K a).stop i H ∧ Qd H) ∨ ((Ite K a).go i H ∧ ∃ Nx : Hp → Prop, (∀ H', Nx H' → ∃ m', m' < m ∧ W (i + 1) m' H') ∧ ∀ x H', (Ite K a).yld i H x H' → g x (wipe σ vs) H' fun σ2 H2 => wipe σ2 vs = wipe σ vs ∧ tt σ2 H2 fun b H3 =>
        if b = true then te σ2 H3 fun y H4 => ∃ acc, H4 D = some (.lst acc) ∧ acc.length < sizeLine ∧ Nx (upd H4 D (.lst (acc ++ [y]))) else Nx H3) := by
  refine ⟨fun i m H => m = xs.length - i ∧ i ≤ xs.length ∧ Pv i H, ⟨xs.length, by simp, Nat.zero_le _, h0⟩, ?_⟩
  rintro i m H ⟨rfl, hi, p⟩
  have q := hl i H hi p
  by_cases hlt : i < xs.length
  · refine .inr ⟨⟨xs, xs[i], q, by simp [hlt]⟩, Pv (i + 1), fun H' p' => ⟨xs.length - (i + 1), by omega, rfl, hlt, p'⟩, fun x H' y => ?_⟩
    obtain ⟨T, x', e1, e2, e3, e4⟩ := y
    subst e1 e3
    exact hs i x' T H (e4 xs q) e2 p
  · have e : i = xs.length := by omega
    subst e
    exact .inl ⟨⟨xs, q, Nat.le_refl _⟩, hd H p⟩
/-! ### parts -/
abbrev Nss := List (List Nat)
def PsA (H : Hp) (as : List Addr) (qs : Nss) : Prop := as.length = qs.length ∧ ∀ (i : Nat) a ns, as[i]? = some a → qs[i]? = some ns → H a = some (.tup (vn ns))
theorem PsA.same {H H' : Hp} {as : List Addr} {qs : Nss} (h : PsA H as qs) (s : Same H H') : PsA H' as qs := ⟨h.1, fun i a t e1 e2 => s _ _ (h.2 i a t e1 e2)⟩
theorem PsA.kp {H H' : Hp} {as : List Addr} {qs : Nss} (h : PsA H as qs) (k : ∀ a xs, H a = some (.tup xs) → H' a = some (.tup xs)) : PsA H' as qs := ⟨h.1, fun i a t e1 e2 => k _ _ (h.2 i a t e1 e2)⟩
theorem PsA.get' {H : Hp} {as : List Addr} {qs : Nss} (h : PsA H as qs) {i : Nat} {x : V} (e : (as.map V.ref)[i]? = some x) : ∃ a ns, x = .ref a ∧ as[i]? = some a ∧ qs[i]? = some ns ∧ H a = some (.tup (vn ns)) := by
  obtain ⟨a, ha, rfl⟩ := at_map e
  obtain ⟨t, ht⟩ := ex_at (l := qs) (i := i) (by rw [← h.1]; exact lt_at ha)
  exact ⟨a, t, rfl, ha, ht, h.2 i a t ha ht⟩
theorem PsA.snoc {H : Hp} {as : List Addr} {qs : Nss} {a : Addr} {ns : List Nat} (h : PsA H as qs) (ha : H a = some (.tup (vn ns))) : PsA H (as ++ [a]) (qs ++ [ns]) := by
  refine ⟨by rw [List.length_append, List.length_append, h.1]; rfl, fun i c t e1 e2 => ?_⟩
  have l := h.1
  rcases snoc_at e1 with e1 | ⟨i1, rfl⟩
  · rcases snoc_at e2 with e2 | ⟨i2, rfl⟩
    · exact h.2 i c t e1 e2
    · have := lt_at e1
      omega
  · rcases snoc_at e2 with e2 | ⟨i2, rfl⟩
    · have := lt_at e2
      omega
    · exact ha
theorem PartL.rings {n h : Nat} {ts : Prs} {ns : List Nat} (pl : PartL ts h ns) (hW : Wv n ts) (hn : h < n) : ns.length ≤ (tIn ts ns).length + 1 := by
  obtain ⟨xs, tl, T⟩ := tree_exists hW hn
  have px : xs.Perm ns := (List.perm_ext_iff_of_nodup T.nd (pl.asc.imp fun {a b} h => by omega)).mpr fun x => by rw [T.mem, pl.mem]
  have := nodup_sub tl (tIn ts ns) T.tnd fun t ht => by
    obtain ⟨j, hj⟩ := List.getElem?_of_mem ht
    obtain ⟨i, x, y, p, _, g2, g3, g4, g5⟩ := T.par j t hj
    refine tIn_mem.mpr ⟨p, g4, px.mem_iff.mp ?_⟩
    rcases g5 with ⟨e, _⟩ | ⟨e, _⟩ <;> rw [e]
    · exact List.mem_of_getElem? g3
    · exact List.mem_of_getElem? g2
  have := px.length_eq
  have := T.len
  omega
def Ringed (n : Nat) (ts : Prs) : Prop := ∃ h ns, h < n ∧ PartL ts h ns ∧ ns.length ≤ (tIn ts ns).length
theorem sum_nn : ∀ l : List Int, (∀ x ∈ l, 0 ≤ x) → 0 ≤ l.sum ∧ ∀ x ∈ l, x ≤ l.sum
  | [], _ => ⟨Int.le_refl _, fun x h => nomatch h⟩
  | a :: r, h => by
    obtain ⟨h1, h2⟩ := sum_nn r fun x hx => h x (List.mem_cons_of_mem _ hx)
    have h0 := h a List.mem_cons_self
    rw [List.sum_cons]
    refine ⟨by omega, fun x hx => ?_⟩
    rcases List.mem_cons.mp hx with e | e
    · rw [e]; omega
    · have := h2 x e; omega
/-- how many rings, part by part -/
def rgs (ts : Prs) (qs : Nss) : List Int := qs.map fun ns => ((tIn ts ns).length : Int) - (ns.length : Int) + 1
theorem rgs_forest {rk : Nat → Nat} {n : Nat} {ts : Prs} {qs : Nss} (hW : Wv n ts) (fo : Fo rk ts) (hq : ∀ ns ∈ qs, ∃ h, h < n ∧ PartL ts h ns) : (rgs ts qs).sum = 0 := by
  have : ∀ x ∈ rgs ts qs, x = 0 := fun x hx => by
    obtain ⟨ns, hns, rfl⟩ := List.mem_map.mp hx
    obtain ⟨h, hn, pl⟩ := hq ns hns
    have := pl.rings hW hn
    have := fo.few pl.mem
    omega
  have key : ∀ l : List Int, (∀ x ∈ l, x = 0) → l.sum = 0 := fun l => by
    induction l with
    | nil => intro _; rfl
    | cons a r ih =>
      intro h
      rw [List.sum_cons, h a List.mem_cons_self, ih fun x hx => h x (List.mem_cons_of_mem _ hx)]; rfl
  exact key _ this
theorem rgs_ringed {n : Nat} {ts : Prs} {qs : Nss} (hW : Wv n ts) (R : Ringed n ts) (hq : ∀ ns ∈ qs, ∃ h, h < n ∧ PartL ts h ns) (ha : ∀ h, h < n → ∃ ns ∈ qs, PartL ts h ns) : (rgs ts qs).sum ≠ 0 := by
  obtain ⟨h, ns, hn, pl, le⟩ := R
  obtain ⟨ns', m, pl'⟩ := ha h hn
  obtain rfl := pl.uniq pl' .refl
  have := sum_nn (rgs ts qs) fun x hx => by
    obtain ⟨ns, hns, rfl⟩ := List.mem_map.mp hx
    obtain ⟨h, hn, pl⟩ := hq ns hns
    have := pl.rings hW hn
    omega
  have := this.2 _ (List.mem_map.mpr ⟨ns, m, rfl⟩)
  omega
def spParts (W : Addr) : Sp := fun vs H Q _ => ∃ (w : Addr) (n : Nat) (ts : Prs), vs = [.ref w] ∧ WebAt W H w n ts ∧ Wv n ts ∧ ∀ (p : Addr) (as : List Addr) (qs : Nss) H', Same H H' → H' p = some (.tup (as.map V.ref)) → PsA H' as qs → qs.length ≤ n → (∀ ns ∈ qs, ∃ h, h < n ∧ PartL ts h ns) → (∀ h, h < n → ∃ ns ∈ qs, PartL ts h ns) → Q (.ref p) H'
def spIsForest (W : Addr) : Sp := fun vs H Q _ => ∃ (w : Addr) (n : Nat) (ts : Prs), vs = [.ref w] ∧ WebAt W H w n ts ∧ Wv n ts ∧ ∀ (b : Bool) H', Same H H' → ((∃ rk, Fo rk ts) → b = true) → (Ringed n ts → b = false) → Q (.bl b) H'
def spNeedFo (W C : Addr) : Sp := fun vs H Q E => ∃ (w : Addr) (n : Nat) (ts : Prs), vs = [.ref w] ∧ WebAt W H w n ts ∧ Wv n ts ∧ (((∃ rk, Fo rk ts) ∧ ∀ H', Same H H' → Q (.ref w) H') ∨ (Ringed n ts ∧ Rz C "at" (.ref w) H E))
def GoodTu (L : Nat) (tu : List Nat) : Prop := tu.Nodup ∧ tu.length = L ∧ ∀ t ∈ tu, t < L
def BadTu (L : Nat) (o : Option (List V)) : Prop := seqB o (L : Int) (L : Int) = false ∨ ∃ xs, o = some xs ∧ xs.length = L ∧ (fnb xs (L : Int) ≠ .non ∨ ∃ ns : List Int, xs = vrow ns ∧ fnb xs (L : Int) = .non ∧ ¬ ns.Nodup)
def spChk (K : PySem.W.Frag) (W C : Addr) : Sp := fun vs H Q E => ∃ (w : Addr) (v : V) (o : Option (List V)) (n : Nat) (ts : Prs), vs = [.ref w, v] ∧ WebAt W H w n ts ∧ Wv n ts ∧ Rw K H v o ∧
  ((∃ tu, o = some (vn tu) ∧ GoodTu ts.length tu ∧ ∀ p H', Same H H' → H' p = some (.tup (vn tu)) → Q (.ref p) H') ∨ (BadTu ts.length o ∧ Rz C "at" v H E))
section
variable {P : Program} {w : World} {K : PySem.W.Frag} {mg : Str → Option Value} {base : Heap}
abbrev nPs : List Str := ["web", "parts", "house", "part"]
theorem scPs : FnScope nPs ["web"] (defScope sPartsOf) := ⟨rfl, rfl, rfl, by decide +kernel, rfl, by decide +kernel, by decide +kernel⟩
theorem ok_parts {f fP W C : Addr} {fd fdP : FuncData} (D : Df K mg "parts_of" sPartsOf ["web"] f fd) (DP : Df K mg "part_of" sPart ["web", "house"] fP fdP) (B : Bt mg) (T : WcT K mg W) (GP : FnOk P w K mg base (L2.CX P w) 4 fP fdP ["web", "house"] (spPart K W C)) :
    FnOk P w K mg base CX0 5 f fd ["web"] (spParts W) := by
  refine D.F.ok scPs (fun vs H Q E h => ?_) (fun cdv A outer s H vs Q E hr h => ?_)
  · obtain ⟨w, n, ts, rfl, _⟩ := h
    rfl
  · obtain ⟨w, n, ts, rfl, hw, hW, q⟩ := h
    refine ⟨_, pss_cons (ps_setLc (i := 1) (own := [("house", 2)]) (g := gName 2) (tt := tYes) rfl scPs.nd rfl rfl (sw_true rfl rfl rfl rfl) (pi_range1 (by rfl) B.range (pa_cons (pe_fld (pv 0) rfl) pa_nil)) (blkOk_by (N := nPs) (sc := defScope sPartsOf) (by decide +kernel)) (fun _ _ _ _ _ => pg_name (i := 2) scPs.nd rfl (.inl rfl)) (fun _ _ _ _ _ => pts_nil)
        (fun _ _ _ _ _ => pc DP GP hr passF (pa_cons (pv 0) (pa_cons (pv 2) pa_nil))))
      (pss_one (ps_ret (pe_callTy call_tuple_of (by rfl) B.tuple PyProof.Rows.boot_tuple (pa_cons (pe_lc (own := [("house", 2), ("part", 3)]) (g := gTup K 2 (gCons (gName 2) (gCons (gName 3) gNil))) rfl scPs.nd (pi_enumA (by rfl) B.enumerate (pa_cons (pv 1) pa_nil)) (blkOk_by (N := nPs) (sc := defScope sPartsOf) (by decide +kernel))
        (fun _ _ _ _ _ => pg_tup rfl (pgs_cons (pg_name (i := 2) scPs.nd rfl (.inl rfl)) (pgs_cons (pg_name (i := 3) scPs.nd rfl (.inl rfl)) pgs_nil)))
        (fun _ _ _ _ _ => pts_one (pt_cmpR op_eq (pe_ix (ixTK (K := K) rfl) (pv 3) pe_int (fun _ _ => rfl)) (pv 2) (nomark _)))
        (fun _ _ _ _ _ => pv 3)) pa_nil)))), ?_⟩
    obtain ⟨dx, ta, h1, h2⟩ := id hw
    have n12 := hW.n12
    have n1 := hW.n1
    refine ⟨_, rfl, w, W, dx, _, _, rfl, h1, T.cl, T.nH, wf_h _ _, (n : Int), rfl, by omega, by omega, fun D0 hD0 => lc_range (fun i H' => ∃ (as : List Addr) (ps : Nss), Same H H' ∧ H' D0 = some (.lst (as.map V.ref)) ∧ PsA H' as ps ∧ ps.length = i ∧ ∀ (j : Nat) ns, ps[j]? = some ns → PartL ts j ns)
      ⟨[], [], same_new hD0, upd_same, ⟨rfl, fun i a t e => by cases e⟩, rfl, fun j ns e => by cases e⟩ ?_ ?_⟩
    · rintro i H1 hi ⟨as, ps, s1, hD1, pa, lp, hp⟩
      have hi' : i < n := by omega
      refine ⟨rfl, _, rfl, _, rfl, w, .int (0 + (i : Int)), none, n, ts, rfl, hw.same s1, hW, .int _, fun hb => ?_, fun h eh hn ns p H2 s2 hp2 pl => ?_⟩
      · have : (decide (0 ≤ (0 + (i : Int))) && decide ((0 + (i : Int)) < (n : Int))) = false := hb
        rw [decide_eq_true (by omega), decide_eq_true (by omega)] at this
        cases this
      · injection eh with eh
        obtain rfl : h = i := by omega
        have la := pa.1
        refine ⟨as.map V.ref, s2 _ _ hD1, szl (by rw [List.length_map]; omega), as ++ [p], ps ++ [ns], fun c o e => ?_, ?_, ?_, by rw [List.length_append, lp]; rfl, fun j ns' e => ?_⟩
        · rw [upd_ne (ne_of_none e hD0)]
          exact s2 _ _ (s1 _ _ e)
        · rw [upd_same, List.map_append]; rfl
        · refine (PsA.snoc (pa.same s2) hp2).kp fun a xs e => ?_
          rw [upd_ne (ne_of e (s2 _ _ hD1) (by intro z; cases z))]
          exact e
        · rcases snoc_at e with e | ⟨ej, rfl⟩
          · exact hp j ns' e
          · rw [ej, lp]; exact pl
    · rintro H1 ⟨as, ps, s1, hD1, pa, lp, hp⟩
      have en : ((n : Int) - 0).toNat = n := by omega
      refine gn ?_
      dsimp only [List.set]
      have la := pa.1
      refine ⟨_, rfl, D0, rfl, .inl ⟨_, SqL.of hD1, fun D1 hE0 => lc_enumL (K := K) (a := D0) (xs := as.map V.ref) (fun i H' => ∃ (bs : List Addr) (qs : Nss), Same H1 H' ∧ H' D1 = some (.lst (bs.map V.ref)) ∧ PsA H' bs qs ∧ qs.length ≤ i ∧ (∀ ns ∈ qs, ∃ h, h < n ∧ PartL ts h ns) ∧ ∀ (j : Nat) ns, j < i → ps[j]? = some ns → ns[0]? = some j → ns ∈ qs)
        ⟨[], [], same_new hE0, upd_same, ⟨rfl, fun i a t e => by cases e⟩, Nat.zero_le _, fun ns h => (nomatch h), fun j ns h => absurd h (Nat.not_lt_zero _)⟩ (fun i H' _ ⟨_, _, s2, _⟩ => SqL.of (s2 _ _ hD1)) ?_ ?_⟩⟩
      · rintro i x T0 H2 hx hT ⟨bs, qs, s2, hD2, qa, lq, hq, hm⟩
        obtain ⟨a, ns, rfl, ha, hns, hat⟩ := pa.get' hx
        have pl := hp i ns hns
        have hi : i < n := by have := lt_at hns; omega
        have sT := same_new (o := HO.tup [.int (i : Nat), .ref a]) hT
        have hat3 := sT _ _ (s2 _ _ hat)
        have hD3 := sT _ _ hD2
        have qa3 := qa.same sT
        have s3 := s2.trans sT
        have hT3 : (upd H2 T0 (.tup [.int (i : Nat), .ref a])) T0 = some (.tup [.int (i : Nat), .ref a]) := upd_same
        generalize upd H2 T0 (.tup [.int (i : Nat), .ref a]) = H3 at hat3 hD3 qa3 s3 hT3 ⊢
        obtain ⟨l1, l2⟩ := pl.len hW hi
        obtain ⟨x0, hx0⟩ := ex_at (l := ns) (i := 0) (by omega)
        refine ⟨T0, _, rfl, SqT.of hT3, rfl, _, _, rfl, _, _, rfl, rfl, rfl, ?_⟩
        refine ⟨_, rfl, a, _, 0, .int (x0 : Int), rfl, rfl, SqT.of hat3, atI_nat (j := 0) (vn_at hx0), _, rfl, rfl, _, rfl, ifD (fun e => ?_) fun e => ?_⟩
        · have e' : x0 = i := by
            have z := of_decide_eq_true e
            injection z with z
            omega
          have lb := qa3.1
          refine ⟨_, rfl, bs.map V.ref, hD3, szl (by rw [List.length_map]; omega), bs ++ [a], qs ++ [ns], fun c o e => ?_, ?_, ?_, by rw [List.length_append]; simp only [List.length_cons, List.length_nil]; omega, fun ns' h => ?_, fun j ns' hj e1 e2 => ?_⟩
          · rw [upd_ne (ne_of_none e hE0)]
            exact s3 _ _ e
          · rw [upd_same, List.map_append]; rfl
          · refine (PsA.snoc qa3 hat3).kp fun a xs e => ?_
            rw [upd_ne (ne_of e hD3 (by intro z; cases z))]
            exact e
          · rcases List.mem_append.mp h with h | h
            · exact hq ns' h
            · rw [List.mem_singleton.mp h]; exact ⟨i, hi, pl⟩
          · by_cases c : j = i
            · subst c
              rw [lookup_same e1 hns]
              exact List.mem_append_right _ (List.mem_singleton.mpr rfl)
            · exact List.mem_append_left _ (hm j ns' (by omega) e1 e2)
        · have e' : x0 ≠ i := fun z => by
            have := of_decide_eq_false e
            exact this (by rw [z])
          refine ⟨bs, qs, s3, hD3, qa3, by omega, hq, fun j ns' hj e1 e2 => ?_⟩
          by_cases c : j = i
          · subst c
            rw [lookup_same e1 hns] at e2
            exact absurd (lookup_same hx0 e2) e'
          · exact hm j ns' (by omega) e1 e2
      · rintro H2 ⟨bs, qs, s2, hD2, qa, lq, hq, hm⟩
        rw [List.length_map, la, lp] at lq hm
        refine ⟨D1, _, rfl, .inl ⟨SqL.of hD2, fun p hp0 => ?_⟩⟩
        have s3 := same_new (o := HO.tup (bs.map V.ref)) hp0
        refine q p bs qs _ ((s1.trans s2).trans s3) upd_same (qa.same s3) (by omega) hq fun h hn => ?_
        obtain ⟨ns, hns⟩ := ex_at (l := ps) (i := h) (by omega)
        have pl := hp h ns hns
        obtain ⟨l1, l2⟩ := pl.len hW hn
        obtain ⟨x0, hx0⟩ := ex_at (l := ns) (i := 0) (by omega)
        have c0 : Cn ts h x0 := (pl.mem _).mp (List.mem_of_getElem? hx0)
        have xn : x0 < n := pl.lt hW hn (List.mem_of_getElem? hx0)
        obtain ⟨ns', hns'⟩ := ex_at (l := ps) (i := x0) (by omega)
        obtain rfl := pl.uniq (hp x0 ns' hns') c0
        exact ⟨ns, hm x0 ns (by omega) hns' hx0, pl⟩
abbrev nFr : List Str := ["web", "part"]
theorem scFr : FnScope nFr ["web"] (defScope sIsForest) := ⟨rfl, rfl, rfl, by decide +kernel, rfl, by decide +kernel, by decide +kernel⟩
theorem ok_isForest {f fS fR W : Addr} {fd fdS fdR : FuncData} (D : Df K mg "is_forest" sIsForest ["web"] f fd) (DS : Df K mg "parts_of" sPartsOf ["web"] fS fdS) (DR : Df K mg "rings_of" sRingsOf ["web", "part"] fR fdR) (B : Bt mg) (GS : FnOk P w K mg base CX0 5 fS fdS ["web"] (spParts W)) (GR : FnOk P w K mg base (L2.CX P w) 6 fR fdR ["web", "part"] (spRings W)) :
    FnOk P w K mg base CX0 7 f fd ["web"] (spIsForest W) := by
  refine D.F.ok scFr (fun vs H Q E h => ?_) (fun cdv A outer s H vs Q E hr h => ?_)
  · obtain ⟨w, n, ts, rfl, _⟩ := h
    rfl
  · obtain ⟨w, n, ts, rfl, hw, hW, q⟩ := h
    refine ⟨_, pss_one (ps_ret (pe_cmpR op_eq (pe_callB (cr_sum rfl) (by rfl) B.sum (by decide +kernel) (pa_cons (pe_lc (own := [("part", 1)]) (g := gName 1) (tt := tYes) rfl scFr.nd (pi_tup (pc DS GS (hr.mono (by decide)) pass0 (pa_cons (pv 0) pa_nil))) (blkOk_by (N := nFr) (sc := defScope sIsForest) (by decide +kernel)) (fun _ _ _ _ _ => pg_name (i := 1) scFr.nd rfl (.inl rfl)) (fun _ _ _ _ _ => pts_nil)
      (fun _ _ _ _ _ => pc DR GR hr passF (pa_cons (pv 0) (pa_cons (pv 1) pa_nil)))) pa_nil)) pe_int (nomark _))), ?_⟩
    have n12 := hW.n12
    refine ⟨_, rfl, w, n, ts, rfl, hw, hW, fun p as qs H1 s1 hp pa lq hq ha => ⟨p, rfl, ⟨_, SqT.of hp⟩, fun D0 hD0 => lc_tup (K := K) (a := p) (xs := as.map V.ref) (fun i H' => Same H1 H' ∧ H' D0 = some (.lst (vrow ((rgs ts qs).take i)))) ⟨same_new hD0, by rw [upd_same]; rfl⟩ (fun i H' _ ⟨s2, _⟩ => SqT.of (s2 _ _ hp)) ?_ ?_⟩⟩
    · rintro i x H2 hx ⟨s2, hD2⟩
      obtain ⟨a, ns, rfl, ha', hns, hat⟩ := pa.get' hx
      obtain ⟨h, hn, pl⟩ := hq ns (List.mem_of_getElem? hns)
      refine ⟨rfl, _, rfl, _, rfl, w, a, n, ts, h, ns, rfl, (hw.same s1).same s2, hW, hn, s2 _ _ hat, pl, fun H3 s3 => ⟨_, s3 _ _ hD2, szl (by rw [vrow_len, List.length_take, rgs, List.length_map]; omega), fun c o e => ?_, ?_⟩⟩
      · rw [upd_ne (ne_of_none e hD0)]
        exact s3 _ _ (s2 _ _ e)
      · have z : (rgs ts qs)[i]? = some (((tIn ts ns).length : Int) - (ns.length : Int) + 1) := map_at hns
        rw [upd_same, take_succ z, vrow, vrow, List.map_append]; rfl
    · rintro H2 ⟨s2, hD2⟩
      rw [List.take_of_length_le (by rw [rgs, List.length_map, List.length_map, pa.1]; exact Nat.le_refl _)] at hD2
      refine ⟨D0, rgs ts qs, rfl, SqL.of hD2, rfl, ?_⟩
      refine q _ H2 (s1.trans s2) (fun ⟨rk, fo⟩ => ?_) fun R => ?_
      · rw [rgs_forest hW fo hq]; rfl
      · exact decide_eq_false fun z => rgs_ringed hW R hq ha (by injection z)
theorem scNF : FnScope ["web"] ["web"] (defScope sNeedForest) := ⟨rfl, rfl, rfl, by decide +kernel, rfl, by decide +kernel, by decide +kernel⟩
theorem ok_needFo {f fI W C cI : Addr} {fd fdI : FuncData} {bm : List Value} {ql : Str} (D : Df K mg "need_forest" sNeedForest ["web"] f fd) (DI : Df K mg "is_forest" sIsForest ["web"] fI fdI) (TX : LAt.Txt K mg "Refused" ql bm C cI) (GI : FnOk P w K mg base CX0 7 fI fdI ["web"] (spIsForest W)) :
    FnOk P w K mg base (L2.CX P w) 8 f fd ["web"] (spNeedFo W C) := by
  refine D.F.okX scNF (fun vs H Q E h => ?_) (fun cdv A outer s H vs Q E hr h => ?_)
  · obtain ⟨w, n, ts, rfl, _⟩ := h
    rfl
  · obtain ⟨w, n, ts, rfl, hw, hW, q⟩ := h
    refine ⟨_, pss_cons (ps_if (pt_not (pt_val (pc DI GI hr pass0 (pa_cons (pv 0) pa_nil)))) (pss_one (ps_raise_LAt rfl TX hr (takes_of rfl rfl rfl rfl) (pa_cons (pv 0) pa_nil))) pss_nil) (pss_one (ps_ret (pv 0))), ?_⟩
    refine ⟨_, rfl, w, n, ts, rfl, hw, hW, fun b H1 s1 b1 b2 => ⟨b, rfl, ?_⟩⟩
    rcases q with ⟨fo, q⟩ | ⟨R, q⟩
    · rw [b1 fo]
      exact iteF (nxP ⟨_, rfl, q H1 s1⟩)
    · rw [b2 R]
      exact iteT ⟨_, rfl, _, rfl, fun d hd => q d _ (s1.trans (same_new hd)) (s1.free hd) upd_same⟩
abbrev nCk : List Str := ["web", "value", "many"]
theorem scCk : FnScope nCk ["web", "value"] (defScope sCheckTurns) := ⟨rfl, rfl, rfl, by decide +kernel, rfl, by decide +kernel, by decide +kernel⟩
theorem ok_chk {f fS fF W C cI : Addr} {fd fdS fdF : FuncData} {bm : List Value} {ql : Str} (D : Df K mg "check_turns" sCheckTurns ["web", "value"] f fd) (DS : Df K mg "is_sequence" sSeq ["value", "least", "most"] fS fdS) (DF : Df K mg "first_not_below" sFnb ["items", "limit"] fF fdF) (B : Bt mg) (T : WcT K mg W) (TX : LAt.Txt K mg "Refused" ql bm C cI)
    (GS : FnOk P w K mg base CX0 1 fS fdS ["value", "least", "most"] (spSeq K)) (GF : FnOk P w K mg base CX0 3 fF fdF ["items", "limit"] (spFnb K)) : FnOk P w K mg base (L2.CX P w) 4 f fd ["web", "value"] (spChk K W C) := by
  refine D.F.okX scCk (fun vs H Q E h => ?_) (fun cdv A outer s H vs Q E hr h => ?_)
  · obtain ⟨w, v, o, n, ts, rfl, _⟩ := h
    rfl
  · obtain ⟨w, v, o, n, ts, rfl, hw, hW, hv, q⟩ := h
    refine ⟨_, pss_cons (ps_set (i := 2) scCk.nd rfl (.inl rfl) (pe_callB call_len_seq (by rfl) B.len PySem.boot_len (pa_cons (pe_fld (pv 0) rfl) pa_nil)))
      (pss_cons (ps_if (PW.pt (pw_or (pt_not (pt_val (pc DS GS (hr.mono (by decide)) pass0 (pa_cons (pv 1) (pa_cons (pv 2) (pa_cons (pv 2) pa_nil)))))) (pw_or1 (pt_cmp (pc_notN (pc DF GF hr pass0 (pa_cons (pv 1) (pa_cons (pv 2) pa_nil)))))))) (pss_one (ps_raise_LAt rfl TX hr (takes_of rfl rfl rfl rfl) (pa_cons (pv 1) pa_nil))) pss_nil)
      (pss_cons (ps_if (pt_cmpR op_lt (pe_lenSetQ (by rfl) B.len (by rfl) B.set (pv 1)) (pv 2) (nomark _)) (pss_one (ps_raise_LAt rfl TX hr (takes_of rfl rfl rfl rfl) (pa_cons (pv 1) pa_nil))) pss_nil)
      (pss_one (ps_ret (pe_callTy call_tuple_of (by rfl) B.tuple PyProof.Rows.boot_tuple (pa_cons (pv 1) pa_nil)))))), ?_⟩
    obtain ⟨dx, ta, h1, tas, h2, h3⟩ := id hw
    have t20 := hW.t20
    have el : ((tas.map V.ref).length : Int) = (ts.length : Int) := by rw [List.length_map, h3.1]
    refine ⟨_, rfl, w, W, dx, _, _, rfl, h1, T.cl, T.nT, wf_t _ _, ta, _, rfl, .inr (SqT.of h2), ?_⟩
    rw [el]
    refine gn ?_
    dsimp only [List.set]
    have bad : ∀ H1, Same H H1 → BadTu ts.length o → Rz C "at" v H1 E := fun H1 s1 b => by
      rcases q with ⟨tu, rfl, ⟨g1, g2, g3⟩, _⟩ | ⟨_, r⟩
      · exfalso
        have sq : seqB (some (vn tu)) (ts.length : Int) (ts.length : Int) = true := by
          show (decide ((ts.length : Int) ≤ ((vn tu).length : Int)) && decide (((vn tu).length : Int) ≤ (ts.length : Int))) = true
          rw [vn_len, g2, decide_eq_true (Int.le_refl _)]; rfl
        rcases b with b | ⟨xs, e, _, b⟩
        · rw [sq] at b; cases b
        · obtain rfl := Option.some.inj e
          have fn : fnb (vn tu) (ts.length : Int) = .non := fnb_all fun x hx => by
            obtain ⟨y, hy, rfl⟩ := List.mem_map.mp hx
            have := g3 y hy
            show (decide (0 ≤ (y : Int)) && decide ((y : Int) < (ts.length : Int))) = true
            rw [decide_eq_true (by omega), decide_eq_true (by omega)]; rfl
          rcases b with b | ⟨ns, e2, _, nd⟩
          · exact b fn
          · rw [vn_row] at e2
            have : tu.map (fun (x : Nat) => (x : Int)) = ns := (List.map_inj_right (fun x y h => by injection h)).mp e2
            rw [← this] at nd
            refine nd ?_
            rw [List.nodup_iff_pairwise_ne, List.pairwise_map]
            rw [List.nodup_iff_pairwise_ne] at g1
            exact g1.imp fun {a b} h e => h (by omega)
      · exact r.of_same s1
    have rz : ∀ {H1 : Hp} {d : Addr}, Same H H1 → BadTu ts.length o → H1 d = none → E (.ref C) (some d) (upd H1 d (.xd [("at", v)])) := fun {H1 d} s1 b hd => bad H1 s1 b d _ (same_new hd) hd upd_same
    refine ⟨_, rfl, _, rfl, _, rfl, v, o, (ts.length : Int), (ts.length : Int), rfl, hv.kv, fun H1 s1 => ⟨_, rfl, ?_⟩⟩
    by_cases e : seqB o (ts.length : Int) (ts.length : Int) = true
    · rw [e]
      refine iteF ?_
      cases o with
      | none => cases e
      | some xs =>
        have hl : xs.length = ts.length := by
          have z : (decide ((ts.length : Int) ≤ (xs.length : Int)) && decide ((xs.length : Int) ≤ (ts.length : Int))) = true := e
          simp only [Bool.and_eq_true, decide_eq_true_eq] at z
          omega
        obtain ⟨a, rfl, hS⟩ := hv.kv.seqA
        refine ⟨_, rfl, _, rfl, a, xs, (ts.length : Int), rfl, hS.same s1, (hv.ks _ rfl).same s1, fun H2 s2 => ⟨_, rfl, ?_⟩⟩
        have s12 := s1.trans s2
        by_cases e2 : fnb xs (ts.length : Int) = .non
        · rw [e2]
          refine iteF (nxP ?_)
          -- all are numbers below
          have hb : ∀ x ∈ xs, belowB x (ts.length : Int) = true := fun x hx => by
            cases hbx : belowB x (ts.length : Int) with
            | true => rfl
            | false =>
              exfalso
              unfold fnb at e2
              cases hf : xs.findIdx? (fun x => !belowB x (ts.length : Int)) with
              | some i => rw [hf] at e2; cases e2
              | none =>
                rw [List.findIdx?_eq_none_iff] at hf
                have := hf x hx
                rw [hbx] at this
                cases this
          obtain ⟨tu, rfl⟩ : ∃ tu : List Nat, xs = vn tu := by
            have key : ∀ ys : List V, (∀ x ∈ ys, belowB x (ts.length : Int) = true) → ∃ tu : List Nat, ys = vn tu := fun ys => by
              induction ys with
              | nil => intro _; exact ⟨[], rfl⟩
              | cons y r ih =>
                intro hy
                obtain ⟨tu, rfl⟩ := ih fun x hx => hy x (List.mem_cons_of_mem _ hx)
                obtain ⟨h, rfl, _⟩ := below_nat (hy y List.mem_cons_self)
                exact ⟨h :: tu, rfl⟩
            exact key xs hb
          rw [vn_len] at hl
          have hS2 := hS.same s12
          refine ⟨_, rfl, a, tu.map (fun (x : Nat) => (x : Int)), rfl, ?_, by rw [List.length_map]; omega, fun c c1 c2 => ?_⟩
          · rw [show (tu.map fun (x : Nat) => (x : Int)).map V.int = vn tu from (vn_row tu).symm]
            rcases hS2 with h | h
            · exact .inl (SqL.of h)
            · exact .inr (SqT.of h)
          rw [List.length_map] at c1 c2
          refine ⟨_, rfl, _, _, rfl, rfl, _, rfl, ifD (fun ec => ?_) fun ec => ?_⟩
          · have lt : (c : Int) < (ts.length : Int) := of_decide_eq_true ec
            have nd : ¬ (tu.map fun (x : Nat) => (x : Int)).Nodup := fun z => by have := c1 z; omega
            exact ⟨_, rfl, _, rfl, fun d hd => rz s12 (.inr ⟨_, rfl, by rw [vn_len]; exact hl, .inr ⟨_, vn_row tu, e2, nd⟩⟩) hd⟩
          · have ge : ¬ (c : Int) < (ts.length : Int) := of_decide_eq_false ec
            have nd : (tu.map fun (x : Nat) => (x : Int)).Nodup := Classical.byContradiction fun z => by have := c2 z; omega
            refine nxP ?_
            have fin : ∀ p H', Same H H' → H' p = some (.tup (vn tu)) → Q (.ref p) H' := fun p H' s' hp => by
              rcases q with ⟨tu', e', _, q⟩ | ⟨b, _⟩
              · have : tu' = tu := by
                  have z := Option.some.inj e'
                  rw [vn_row, vn_row] at z
                  have := (List.map_inj_right (f := V.int) (fun x y h => by injection h)).mp z
                  exact ((List.map_inj_right (f := fun (x : Nat) => (x : Int)) (fun x y h => by omega)).mp this).symm
                subst this
                exact q p H' s' hp
              · exfalso
                rcases b with b | ⟨xs, ex, _, b⟩
                · rw [e] at b; cases b
                · obtain rfl := Option.some.inj ex
                  rcases b with b | ⟨ns, ens, _, b⟩
                  · exact b e2
                  · rw [vn_row] at ens
                    have := (List.map_inj_right (f := V.int) (fun x y h => by injection h)).mp ens
                    rw [← this] at b
                    exact b nd
            refine ⟨_, rfl, a, vn tu, rfl, ?_⟩
            rcases hS2 with h | h
            · exact .inl ⟨SqL.of h, fun l hl => fin l _ (s12.trans (same_new hl)) upd_same⟩
            · exact .inr ⟨SqT.of h, fin a _ s12 h⟩
        · have en : (fnb xs (ts.length : Int) == V.non) = false := by simpa using e2
          have b : BadTu ts.length (some xs) := .inr ⟨xs, rfl, hl, .inl e2⟩
          rw [show decide (fnb xs (ts.length : Int) = V.non) = false from decide_eq_false e2]
          exact iteT ⟨_, rfl, _, rfl, fun d hd => rz s12 b hd⟩
    · have e3 : seqB o (ts.length : Int) (ts.length : Int) = false := by simpa using e
      rw [e3]
      exact iteT (iteT ⟨_, rfl, _, rfl, fun d hd => rz s1 (.inl e3) hd⟩)
end
end K1
namespace K1
open PySem PySem.Spec PyProof.Rows L2
/-! ### who heard -/
def FirstAt (p : Nat → Prop) (k : Nat) : Prop := p k ∧ ∀ j, j < k → ¬ p j
theorem FirstAt.uniq {p : Nat → Prop} {a b : Nat} (h : FirstAt p a) (g : FirstAt p b) : a = b := by
  rcases Nat.lt_trichotomy a b with c | c | c
  · exact absurd h.1 (g.2 a c)
  · exact c
  · exact absurd g.1 (h.2 b c)
def heardF (ts : Prs) (f : Nat → Bool) (t : Nat) : Nat → Bool := match ts[t]? with
  | some p => fun x => if x = p.1 ∨ x = p.2 then f p.1 || f p.2 else f x
  | none => f
theorem heardF_some {ts : Prs} {f : Nat → Bool} {t x : Nat} {p : Nat × Nat} (hp : ts[t]? = some p) : heardF ts f t x = if x = p.1 ∨ x = p.2 then f p.1 || f p.2 else f x := by unfold heardF; rw [hp]
theorem heardF_none {ts : Prs} {f : Nat → Bool} {t : Nat} (hp : ts[t]? = none) : heardF ts f t = f := by unfold heardF; rw [hp]
def hear (ts : Prs) (h : Nat) (o : List Nat) : Nat → Bool := o.foldl (heardF ts) fun x => decide (x = h)
theorem hear_snoc (ts : Prs) (h : Nat) (o : List Nat) (t : Nat) : hear ts h (o ++ [t]) = heardF ts (hear ts h o) t := by unfold hear; rw [List.foldl_append]; rfl
theorem heardF_mono {ts : Prs} {f : Nat → Bool} {t x : Nat} (h : f x = true) : heardF ts f t x = true := by
  cases hp : ts[t]? with
  | none => rw [heardF_none hp]; exact h
  | some p =>
    rw [heardF_some hp]
    split
    · rename_i c
      rcases c with c | c <;> rw [← c, h]
      · rfl
      · exact Bool.or_true _
    · exact h
theorem foldF_mono {ts : Prs} {x : Nat} : ∀ (o : List Nat) {f : Nat → Bool}, f x = true → (o.foldl (heardF ts) f) x = true
  | [], _, h => h
  | t :: o, _, h => foldF_mono o (heardF_mono h)
theorem foldF_tie {ts : Prs} {t x y : Nat} {p : Nat × Nat} (hp : ts[t]? = some p) (e : (p.1 = x ∧ p.2 = y) ∨ (p.1 = y ∧ p.2 = x)) : ∀ (o : List Nat) {f : Nat → Bool}, f y = true → t ∈ o → (o.foldl (heardF ts) f) x = true
  | [], _, _, m => nomatch m
  | u :: o, f, hy, m => by
    rcases List.mem_cons.mp m with c | c
    · subst c
      refine foldF_mono o ?_
      rw [heardF_some hp]
      rw [if_pos (by rcases e with ⟨e1, e2⟩ | ⟨e1, e2⟩ <;> omega)]
      rcases e with ⟨e1, e2⟩ | ⟨e1, e2⟩
      · rw [e2, hy, Bool.or_true]
      · rw [e1, hy]; rfl
    · exact foldF_tie hp e o (heardF_mono hy) c
theorem hear_app (ts : Prs) (h : Nat) (o q : List Nat) : hear ts h (o ++ q) = q.foldl (heardF ts) (hear ts h o) := by unfold hear; rw [List.foldl_append]
theorem hear_tree {h : Nat} {ts : Prs} {xs tl o : List Nat} (T : Tree ts h xs tl) (ho : ∀ t, t < ts.length → t ∈ o) : ∀ (r j x : Nat), j ≤ r → xs[j]? = some x → hear ts h (cyc o (r * o.length)) x = true := fun r => by
  induction r with
  | zero =>
    intro j x hj hx
    obtain rfl : j = 0 := by omega
    obtain rfl := lookup_same hx T.h0
    rw [Nat.zero_mul, cyc_zero]
    exact decide_eq_true rfl
  | succ r ih =>
    intro j x hj hx
    rw [cyc_round, hear_app]
    by_cases c : j ≤ r
    · exact foldF_mono o (ih j x c hx)
    · obtain rfl : j = r + 1 := by omega
      have lx := lt_at hx
      have := T.len
      obtain ⟨t, ht⟩ := ex_at (l := tl) (i := r) (by omega)
      obtain ⟨i', x', y, p, g1, g2, g3, g4, g5⟩ := T.par r t ht
      obtain rfl := lookup_same hx g3
      exact foldF_tie g4 g5 o (ih i' y g1 g2) (ho t (lt_at g4))
theorem hear_all {n h y : Nat} {ts : Prs} {o : List Nat} (hW : Wv n ts) (hn : h < n) (ho : ∀ t, t < ts.length → t ∈ o) (c : Cn ts h y) : hear ts h (cyc o ((n - 1) * o.length)) y = true := by
  obtain ⟨xs, tl, T⟩ := tree_exists hW hn
  obtain ⟨j, hj⟩ := List.getElem?_of_mem ((T.mem y).mpr c)
  exact hear_tree T ho (n - 1) j y (by have := lt_at hj; have := T.lenN hW hn; omega) hj
theorem hear_cn {h : Nat} {ts : Prs} : ∀ (o : List Nat) {f : Nat → Bool}, (∀ x, f x = true → Cn ts h x) → ∀ x, (o.foldl (heardF ts) f) x = true → Cn ts h x
  | [], _, hf, x, e => hf x e
  | t :: o, f, hf, x, e => by
    refine hear_cn o (f := heardF ts f t) (fun z hz => ?_) x e
    cases hp : ts[t]? with
    | none => rw [heardF_none hp] at hz; exact hf z hz
    | some p =>
      rw [heardF_some hp] at hz
      split at hz
      · rename_i c
        rw [Bool.or_eq_true] at hz
        have m := List.mem_of_getElem? hp
        rcases hz with hz | hz
        · have c1 := hf _ hz
          rcases c with c | c <;> rw [c]
          · exact c1
          · exact c1.step ⟨p, m, .inl ⟨rfl, rfl⟩⟩
        · have c1 := hf _ hz
          rcases c with c | c <;> rw [c]
          · exact c1.step ⟨p, m, .inr ⟨rfl, rfl⟩⟩
          · exact c1
      · exact hf z hz
theorem good_mem {L : Nat} {tu : List Nat} (g : GoodTu L tu) : ∀ t, t < L → t ∈ tu := fun t ht => by
  have := nodup_perm (a := tu) (b := List.range L) g.1 List.nodup_range (fun x hx => List.mem_range.mpr (g.2.2 x hx)) (by rw [List.length_range, g.2.1]; exact Nat.le_refl _)
  exact this.mem_iff.mpr (List.mem_range.mpr ht)
theorem cyc_tie {L k : Nat} {tu : List Nat} (g : GoodTu L tu) (hL : 0 < L) : ∃ t, tu[k % L]? = some t ∧ t < L ∧ cyc tu (k + 1) = cyc tu k ++ [t] := by
  obtain ⟨t, ht⟩ := ex_at (l := tu) (i := k % L) (by rw [g.2.1]; exact Nat.mod_lt _ hL)
  refine ⟨t, ht, g.2.2 t (List.mem_of_getElem? ht), ?_⟩
  rw [cyc_succ, g.2.1, List.getD_eq_getElem?_getD, ht]; rfl
theorem modN {k L : Nat} : ((k : Int) % (L : Int)) = ((k % L : Nat) : Int) := (Int.natCast_emod k L).symm
/-! ### rows of counts -/
def lessR (a b c : List Int) : List Int := (List.range a.length).map fun i => a.getD i 0 + b.getD i 0 - c.getD i 0
abbrev Rws := List (List Int)
def RwsA (H : Hp) (as : List Addr) (rs : Rws) : Prop := as.length = rs.length ∧ ∀ (i : Nat) a r, as[i]? = some a → rs[i]? = some r → H a = some (.tup (vrow r))
theorem RwsA.same {H H' : Hp} {as : List Addr} {rs : Rws} (h : RwsA H as rs) (s : Same H H') : RwsA H' as rs := ⟨h.1, fun i a t e1 e2 => s _ _ (h.2 i a t e1 e2)⟩
theorem RwsA.kp {H H' : Hp} {as : List Addr} {rs : Rws} (h : RwsA H as rs) (k : ∀ a xs, H a = some (.tup xs) → H' a = some (.tup xs)) : RwsA H' as rs := ⟨h.1, fun i a t e1 e2 => k _ _ (h.2 i a t e1 e2)⟩
theorem RwsA.get {H : Hp} {as : List Addr} {rs : Rws} (h : RwsA H as rs) {i : Nat} {r : List Int} (e : rs[i]? = some r) : ∃ a, as[i]? = some a ∧ H a = some (.tup (vrow r)) := by
  obtain ⟨a, ha⟩ := ex_at (l := as) (i := i) (by rw [h.1]; exact lt_at e)
  exact ⟨a, ha, h.2 i a r ha e⟩
theorem RwsA.set {H : Hp} {as : List Addr} {rs : Rws} (h : RwsA H as rs) {a : Addr} {r : List Int} (ha : H a = some (.tup (vrow r))) (i : Nat) : RwsA H (as.set i a) (rs.set i r) := by
  refine ⟨by rw [List.length_set, List.length_set]; exact h.1, fun j b t e1 e2 => ?_⟩
  rw [List.getElem?_set] at e1 e2
  by_cases c : i = j
  · rw [if_pos c] at e1 e2
    split at e1
    · split at e2
      · obtain rfl := Option.some.inj e1
        obtain rfl := Option.some.inj e2
        exact ha
      · cases e2
    · cases e1
  · rw [if_neg c] at e1 e2
    exact h.2 j b t e1 e2
theorem refs_set (as : List Addr) (i : Nat) (a : Addr) : (as.set i a).map V.ref = (as.map V.ref).set i (.ref a) := by rw [List.map_set]
/-- the rows of the houses, and of the ties -/
def rowS (n : Nat) (ts : Prs) (o : List Nat) (x : Nat) : List Int := (List.range (n + ts.length)).map fun i => (U n ts i o).1.getD x 0
def rowA (n : Nat) (ts : Prs) (o : List Nat) (t : Nat) : List Int := (List.range (n + ts.length)).map fun i => (U n ts i o).2.getD t 0
def rowsS (n : Nat) (ts : Prs) (o : List Nat) : Rws := (List.range n).map (rowS n ts o)
def rowsA (n : Nat) (ts : Prs) (o : List Nat) : Rws := (List.range ts.length).map (rowA n ts o)
theorem rows_at {α : Type} {n x : Nat} {f : Nat → α} (h : x < n) : ((List.range n).map f)[x]? = some (f x) := by rw [List.getElem?_map, List.getElem?_range h]; rfl
theorem U_snoc (n : Nat) (ts : Prs) (i : Nat) (o : List Nat) (t : Nat) : U n ts i (o ++ [t]) = metS 0 ts (U n ts i o) t := runS_snoc _ _ _ _ _
theorem U_ln (n : Nat) (ts : Prs) (i : Nat) (o : List Nat) : Ln n ts (U n ts i o) := (un_ln n ts i).run o
section
variable {n : Nat} {ts : Prs}
theorem row_less {o : List Nat} {t : Nat} {p : Nat × Nat} : lessR (rowS n ts o p.1) (rowS n ts o p.2) (rowA n ts o t) = (List.range (n + ts.length)).map fun i => metN 0 (U n ts i o).1 (U n ts i o).2 p t := by
  unfold lessR
  rw [show (rowS n ts o p.1).length = n + ts.length by simp [rowS]]
  refine List.map_congr_left fun i hi => ?_
  have hi' := List.mem_range.mp hi
  unfold rowS rowA
  rw [map_getD, map_getD, map_getD, if_pos hi', if_pos hi', if_pos hi']
  rfl
theorem rowsS_met (hW : Wv n ts) {o : List Nat} {t : Nat} {p : Nat × Nat} (hp : ts[t]? = some p) : rowsS n ts (o ++ [t]) = ((rowsS n ts o).set p.1 (lessR (rowS n ts o p.1) (rowS n ts o p.2) (rowA n ts o t))).set p.2 (lessR (rowS n ts o p.1) (rowS n ts o p.2) (rowA n ts o t)) := by
  obtain ⟨p1, p2, p3⟩ := hW.at_ hp
  rw [row_less]
  refine List.ext_getElem? fun x => ?_
  rw [List.getElem?_set, List.getElem?_set, List.length_set]
  by_cases hx : x < n
  · rw [rowsS, rows_at hx, show (rowsS n ts o).length = n by simp [rowsS]]
    have key : rowS n ts (o ++ [t]) x = if x = p.1 ∨ x = p.2 then (List.range (n + ts.length)).map fun i => metN 0 (U n ts i o).1 (U n ts i o).2 p t else rowS n ts o x := by
      unfold rowS
      split
      · rename_i c
        refine List.map_congr_left fun i _ => ?_
        rw [U_snoc, met_s hW (U_ln n ts i o) hp, if_pos c]
      · rename_i c
        refine List.map_congr_left fun i _ => ?_
        rw [U_snoc, met_s hW (U_ln n ts i o) hp, if_neg c]
    rw [key]
    by_cases c2 : p.2 = x
    · rw [if_pos (.inr c2.symm), if_pos c2, if_pos p2]
    · rw [if_neg c2]
      by_cases c1 : p.1 = x
      · rw [if_pos (.inl c1.symm), if_pos c1, if_pos p1]
      · rw [if_neg c1, if_neg (by omega), rowsS, rows_at hx]
  · have l1 : (rowsS n ts (o ++ [t])).length = n := by simp [rowsS]
    have l2 : (rowsS n ts o).length = n := by simp [rowsS]
    rw [List.getElem?_eq_none (by omega), if_neg (by omega), if_neg (by omega), List.getElem?_eq_none (by omega)]
theorem rowsA_met (hW : Wv n ts) {o : List Nat} {t : Nat} {p : Nat × Nat} (hp : ts[t]? = some p) : rowsA n ts (o ++ [t]) = (rowsA n ts o).set t (lessR (rowS n ts o p.1) (rowS n ts o p.2) (rowA n ts o t)) := by
  have tl := lt_at hp
  rw [row_less]
  refine List.ext_getElem? fun x => ?_
  rw [List.getElem?_set]
  by_cases hx : x < ts.length
  · rw [rowsA, rows_at hx, show (rowsA n ts o).length = ts.length by simp [rowsA]]
    have key : rowA n ts (o ++ [t]) x = if x = t then (List.range (n + ts.length)).map fun i => metN 0 (U n ts i o).1 (U n ts i o).2 p t else rowA n ts o x := by
      unfold rowA
      split
      · rename_i c
        refine List.map_congr_left fun i _ => ?_
        rw [U_snoc, met_a (U_ln n ts i o) hp, if_pos c]
      · rename_i c
        refine List.map_congr_left fun i _ => ?_
        rw [U_snoc, met_a (U_ln n ts i o) hp, if_neg c]
    rw [key]
    by_cases c : t = x
    · rw [if_pos c.symm, if_pos c, if_pos tl]
    · rw [if_neg c, if_neg (fun z => c z.symm), rowsA, rows_at hx]
  · have l1 : (rowsA n ts (o ++ [t])).length = ts.length := by simp [rowsA]
    have l2 : (rowsA n ts o).length = ts.length := by simp [rowsA]
    rw [List.getElem?_eq_none (by omega), if_neg (by omega), List.getElem?_eq_none (by omega)]
/-- rows that are alike -/
def AlR (ts : Prs) (hs rs : Rws) : Prop := ∀ (t : Nat) (p : Nat × Nat), ts[t]? = some p → hs[p.1]? = hs[p.2]? ∧ hs[p.2]? = rs[t]?
theorem alR_iff (hW : Wv n ts) (o : List Nat) : AlR ts (rowsS n ts o) (rowsA n ts o) ↔ ∀ i, i < n + ts.length → Alk ts (U n ts i o) := by
  have ev : ∀ {f g : Nat → Int}, ((List.range (n + ts.length)).map f = (List.range (n + ts.length)).map g) ↔ ∀ i, i < n + ts.length → f i = g i := fun {f g} => by
    refine ⟨fun e i hi => ?_, fun h => List.map_congr_left fun i hi => h i (List.mem_range.mp hi)⟩
    have := congrArg (fun l => l[i]?) e
    simp only [rows_at hi] at this
    exact Option.some.inj this
  have rd : ∀ {t : Nat} {p : Nat × Nat}, ts[t]? = some p → (rowsS n ts o)[p.1]? = some (rowS n ts o p.1) ∧ (rowsS n ts o)[p.2]? = some (rowS n ts o p.2) ∧ (rowsA n ts o)[t]? = some (rowA n ts o t) := fun {t p} hp => by
    obtain ⟨p1, p2, _⟩ := hW.at_ hp
    exact ⟨rows_at p1, rows_at p2, rows_at (lt_at hp)⟩
  constructor
  · intro h i hi t p hp
    obtain ⟨e1, e2⟩ := h t p hp
    obtain ⟨r1, r2, r3⟩ := rd hp
    rw [r1, r2] at e1
    rw [r2, r3] at e2
    have f1 := ev.mp (Option.some.inj e1) i hi
    have f2 := ev.mp (Option.some.inj e2) i hi
    exact ⟨f1.trans f2, f2⟩
  · intro h t p hp
    obtain ⟨r1, r2, r3⟩ := rd hp
    rw [r1, r2, r3]
    exact ⟨congrArg some (ev.mpr fun i hi => ((h i hi t p hp).1).trans (h i hi t p hp).2.symm), congrArg some (ev.mpr fun i hi => (h i hi t p hp).2)⟩
end
theorem eqvAll_ints : ∀ a b : List Int, PyData.eqvAll (dI a) (dI b) = decide (a = b)
  | [], [] => by show PyData.eqvAll [] [] = _; simp only [PyData.eqvAll]; rfl
  | [], y :: b => by show PyData.eqvAll [] (PyData.int y :: dI b) = _; simp only [PyData.eqvAll]; rfl
  | x :: a, [] => by show PyData.eqvAll (PyData.int x :: dI a) [] = _; simp only [PyData.eqvAll]; rfl
  | x :: a, y :: b => by
    show PyData.eqvAll (PyData.int x :: dI a) (PyData.int y :: dI b) = _
    simp only [PyData.eqvAll, eqvAll_ints a b]
    have e : PyData.eqv (.int x) (.int y) = decide (x = y) := by
      simp only [PyData.eqv]
      by_cases z : x = y
      · rw [z]; simp
      · simp [z]
    rw [e, Bool.eq_iff_iff]
    simp
theorem eqv_tupI (a b : List Int) : PyData.eqv (.tuple (dI a)) (.tuple (dI b)) = decide (a = b) := by
  simp only [PyData.eqv]
  exact eqvAll_ints a b
end K1
namespace K1
open PySem PySem.Spec PyProof.Rows L2
/-! ### defs told where nothing is being shown -/
section
variable {P : Program} {w : World} {K : PySem.W.Frag} {mg : Str → Option Value} {base : Heap}
theorem okG {x qual : Str} {st : Stmt} {f : Addr} {fd : FuncData} {N ps : List Str} {k : Nat} {sp : Sp} (F : Fun K x qual st f fd) (S : FnScope N ps (defScope st)) (len : ∀ vs H Q E, sp vs H Q E → vs.length = ps.length)
    (hbody : ∀ (cdv : Value) (A : Around) (outer : List Env) (s : Shared) (H : Hp) (vs : List V) (Q : VK) (E : XK), Room k (A.deeper (envOfC qual (defScope st) s.heap.objs.size f cdv)) → (A.deeper (envOfC qual (defScope st) s.heap.objs.size f cdv)).guards = some [] → sp vs H Q E →
      ∃ t, PSs (cxOf CX0 P w K mg base N qual (defScope st) f cdv A outer s H E).nox (defBody st) t ∧ t { nx := fun _ H' => Q .non H', rt := Q } (start N vs) H) : FnG P w K mg base (k + 1) f fd ps sp := by
  obtain ⟨oc, od, kV, doc, pm, an, cdv, ct, osl, rfl, lk, hcd⟩ := F.ex
  refine ⟨len, fun A outer s H args us vs Q E hr hgd e0 hb r hsp => ?_⟩
  refine LamX.run_ofS lk hcd S hr e0 hb r (len _ _ _ _ hsp) fun hr' => ?_
  obtain ⟨t, h, q⟩ := hbody cdv A outer s H vs Q E hr' hgd hsp
  exact ⟨t, h.nox, q⟩
end
section
variable {X : Cx} {k : Nat} {f : Addr} {fd : FuncData} {ps ks : List Str} {sp : Sp} {x : Str} {st : Stmt} {p pos : Pos} {e : Expr} {es : List Expr} {kws : List Keyword} {t tk : TA}
theorem pe_callG (D : Df X.K X.mg x st ps f fd) (G : FnG X.prog X.w X.K X.mg X.base k f fd ps sp) (hr : Room k X.A) (hgd : X.A.guards = some []) (ha : PA X (e :: es) t) (hg : Gl X x := by rfl)
    (hdb : (x == ("__debug__" : Str)) = false := by decide) (he : starEach (e :: es) X.env = (false, eval e X.env) :: starEach es X.env := by rfl) (hpl : (backTo pos (starEach es X.env)).any (·.1) = false := by rfl) :
    PE X (.Call (.Name x p) (e :: es) [] pos) (fun σ H Q => t σ H fun vs H1 => sp vs H1 Q fun _ _ _ => False) := by
  refine ⟨fun pins s σ H Q I h => ?_⟩
  refine wpAny_Call_Name_kw (ld_glob I hg D.g ?_ hdb)
  refine PySem.W.callWith_K (h₀ := X.base) I.ok.mod.kin D.F.kp (thn (ha.run pos pins s σ H _ I h) fun us s1 ⟨vs, H1, I1, r, q⟩ => ⟨I1.kIn, ?_⟩) he hpl
  have hl : us.length = ps.length := by rw [← r.length]; exact G.len _ _ _ _ q
  refine wpAny_call (codeAny_mono (G.run X.A X.stack s1 H1 ⟨us, []⟩ us vs Q (fun _ _ _ => False) hr hgd I1.env0 (by
    have z := D.b s1 us I1.kIn (by rw [List.append_nil]; exact hl)
    rw [List.append_nil] at z
    exact z) r q) fun r s' hq => ?_)
  cases r with
  | error e => exact (show False from hq).elim
  | ok fl =>
    cases fl with
    | ret u => exact I1.after hq
    | next => exact False.elim hq
    | brk => exact False.elim hq
    | cont => exact False.elim hq
end
theorem mkSame {G : Hp} {c dx : Addr} {o1 o2 : HO} (hc : G c = none) (hd : G dx = none) (ne : dx ≠ c) : Same G (upd (upd G dx o1) c o2) := (same_new hd).trans (same_new (by rw [upd_ne ne.symm]; exact hc))
/-! ### what stays behind a step of the law: all but the source, the things at xs, and the tables of code -/
section
variable {b : Addr} {T : List (Addr × Str)} {xs : List Addr} {H H1 H2 : Hp}
end
/-! ### plain data with great numbers -/
structure PB (d : PyData) (n w : Nat) : Prop where
  lay : d.canLay0 = true
  sh : d.showable = true
  nd : d.hasDict = false
  dp : d.depth ≤ n
  wt : d.weight ≤ w
  sr : d.leavesShort 220 = true
structure PBA (ds : List PyData) (n w : Nat) : Prop where
  lay : PyData.canLayAll0 ds = true
  sh : PyData.showableAll ds = true
  nd : PyData.hasDictAll ds = false
  dp : PyData.depthAll ds ≤ n
  wt : PyData.weightAll ds ≤ w
  sr : PyData.leavesShortAll 220 ds = true
theorem log665 {i : Int} (h : i.natAbs < 10 ^ 200) : i.natAbs.log2 < 665 := by
  by_cases z : i.natAbs = 0
  · rw [z]; decide
  · exact (Nat.log2_lt z).mpr (Nat.lt_of_lt_of_le h (by decide))
theorem PB.int {i : Int} (h : i.natAbs < 10 ^ 200) : PB (.int i) 0 665 := by
  have h3 := log665 h
  refine ⟨by simp only [PyData.canLay0], ?_, by simp only [PyData.hasDict], by simp only [PyData.depth]; omega, ?_, ?_⟩
  · simp only [PyData.showable, decide_eq_true_eq]; omega
  · simp only [PyData.weight]
    split <;> omega
  · have e := int_text_length_le10 (a := i) (k := 200) (by decide) h
    simp only [PyData.leavesShort, decide_eq_true_eq, PyData.shown]
    exact decide_eq_true (Nat.le_trans (Nat.le_trans (Nat.le_of_eq (PySem.ofString_length _)) e) (by decide))
theorem PBA.nil : PBA [] 0 0 := ⟨by simp only [PyData.canLayAll0], by simp only [PyData.showableAll], by simp only [PyData.hasDictAll], by simp only [PyData.depthAll]; omega, by simp only [PyData.weightAll]; omega, by simp only [PyData.leavesShortAll]⟩
theorem PBA.cons {d : PyData} {ds : List PyData} {n m u v : Nat} (a : PB d n u) (b : PBA ds m v) : PBA (d :: ds) (max n m) (u + 1 + v) := by
  refine ⟨by simp only [PyData.canLayAll0, a.lay, b.lay, Bool.and_self], by simp only [PyData.showableAll, a.sh, b.sh, Bool.and_self], by simp only [PyData.hasDictAll, a.nd, b.nd, Bool.or_self], ?_, ?_, by simp only [PyData.leavesShortAll, a.sr, b.sr, Bool.and_self]⟩
  · have h1 := a.dp; have h2 := b.dp
    simp only [PyData.depthAll]; omega
  · have h1 := a.wt; have h2 := b.wt
    simp only [PyData.weightAll]; omega
theorem PB.tuple {ds : List PyData} {n w : Nat} (a : PBA ds n w) : PB (.tuple ds) (n + 1) w := by
  refine ⟨by simp only [PyData.canLay0, a.lay], by simp only [PyData.showable, a.sh], by simp only [PyData.hasDict, a.nd], ?_, ?_, by simp only [PyData.leavesShort, a.sr]⟩
  · have h1 := a.dp
    simp only [PyData.depth]; omega
  · have h1 := a.wt
    simp only [PyData.weight]; omega
theorem PB.mono {d : PyData} {n w m v : Nat} (a : PB d n w) (h1 : n ≤ m) (h2 : w ≤ v) : PB d m v := ⟨a.lay, a.sh, a.nd, Nat.le_trans a.dp h1, Nat.le_trans a.wt h2, a.sr⟩
theorem PBA.mono {d : List PyData} {n w m v : Nat} (a : PBA d n w) (h1 : n ≤ m) (h2 : w ≤ v) : PBA d m v := ⟨a.lay, a.sh, a.nd, Nat.le_trans a.dp h1, Nat.le_trans a.wt h2, a.sr⟩
theorem PB.short {d : PyData} {n w : Nat} (a : PB d n w) (h : w ≤ 70000) : d.shown.length ≤ sizeLine := by
  have h1 := PyData.shown_le 220 (by decide) d a.sr
  have h2 := a.wt
  rw [sizeLine_eq]
  omega
theorem pba_ints : ∀ t : List Int, (∀ i ∈ t, i.natAbs < 10 ^ 200) → PBA (dI t) 0 (t.length * 666)
  | [], _ => PBA.nil
  | i :: r, h => (PBA.cons (PB.int (h i List.mem_cons_self)) (pba_ints r fun j hj => h j (List.mem_cons_of_mem _ hj))).mono (by omega) (by show 665 + 1 + r.length * 666 ≤ (r.length + 1) * 666; omega)
theorem reprB {K : PySem.W.Frag} {p : Addr} {d : PyData} {n w : Nat} {H : Hp} {Q : VK} (hd : Dp K H (.ref p) d) (pl : PB d n w) (hn : n ≤ 40) (hw : w ≤ 70000) (q : Q (.str d.shown) H) : rRepr K [.ref p] H Q := ⟨p, d, rfl, hd, pl.sh, pl.nd, Nat.le_trans pl.dp hn, pl.short hw, q⟩
theorem ixN_nat {i n : Nat} (h : i < n) : ixN n (i : Int) = some i := by
  unfold ixN
  rw [if_pos (by omega), if_pos (by omega)]
  simp
theorem cby_le {m x : Int} {B : Nat} (h0 : 0 ≤ m) (h1 : m ≤ 1000000) (hB : 1000000 ≤ B) (hx : x.natAbs ≤ B) : (cby m x).natAbs ≤ B := by
  unfold cby
  split
  · exact hx
  · have := Int.emod_nonneg x (show m ≠ 0 by omega)
    have := Int.emod_lt_of_pos x (show 0 < m by omega)
    omega
theorem tabs_set {sl : Addr} {xs ys : List V} {T : List (Addr × Str)} {H1 : Hp} (t : LamX.Tabs T H1) (h : H1 sl = some (.lst xs)) : LamX.Tabs T (upd H1 sl (.lst ys)) := fun p hp => by
  obtain ⟨ps, h1, h2, h3⟩ := t p hp
  refine ⟨ps, by rw [upd_ne (ne_of h1 h (by intro z; cases z))]; exact h1, h2, fun pos cv hc => ?_⟩
  obtain ⟨c, e1, e2⟩ := h3 pos cv hc
  exact ⟨c, e1, by rw [upd_ne (ne_of e2 h (by intro z; unfold LamX.CodeO at z; cases z))]; exact e2⟩
theorem Lw.set {b sl : Addr} {vs ws : List V} {T : List (Addr × Str)} {xs : List Addr} {H H1 : Hp} (a : Lw b T xs H H1) (h0 : H sl = none) (nb : sl ≠ b) (h : H1 sl = some (.lst vs)) : Lw b T xs H (upd H1 sl (.lst ws)) := by
  obtain ⟨u, v, hb⟩ := a.bx
  exact ⟨⟨u, v, by rw [upd_ne nb.symm]; exact hb⟩, tabs_set a.tb h, fun c o e n1 n2 => by rw [upd_ne (ne_of_none e h0)]; exact a.ks c o e n1 n2⟩
theorem TiesT.kp {H H' : Hp} {ta : Addr} {ts : Prs} (h : TiesT H ta ts) (k : ∀ a xs, H a = some (.tup xs) → H' a = some (.tup xs)) : TiesT H' ta ts := let ⟨as, h1, h2⟩ := h; ⟨as, k _ _ h1, h2.kp k⟩
theorem WebAt.kp {W w : Addr} {H H' : Hp} {n : Nat} {ts : Prs} (h : WebAt W H w n ts) (k : ∀ a xs, H a = some (.tup xs) → H' a = some (.tup xs)) (k2 : ∀ dx fs, H w = some (.ins W dx fs) → H' w = some (.ins W dx fs)) : WebAt W H' w n ts := let ⟨dx, ta, h1, h2⟩ := h; ⟨dx, ta, k2 _ _ h1, h2.kp k⟩
theorem NetAt.kp {N W : Addr} {H H' : Hp} {c : Addr} {m : Int} {ss ar : List Int} {w : Addr} {n : Nat} {ts : Prs} (h : NetAt N W H c m ss ar w n ts) (k : ∀ a xs, H a = some (.tup xs) → H' a = some (.tup xs)) (k2 : ∀ a C dx fs, H a = some (.ins C dx fs) → H' a = some (.ins C dx fs)) : NetAt N W H' c m ss ar w n ts :=
  ⟨let ⟨dx, sa, aa, h1, h2, h3⟩ := h.ob; ⟨dx, sa, aa, k2 _ _ _ _ h1, k _ _ h2, k _ _ h3⟩, h.wb.kp k fun _ _ e => k2 _ _ _ _ e, h.ls, h.la, h.m0⟩
theorem NetAt.box {N W : Addr} {H H' : Hp} {b c : Addr} {m : Int} {ss ar : List Int} {w : Addr} {n : Nat} {ts : Prs} (h : NetAt N W H c m ss ar w n ts) (hb : BoxO H b) (x : Bx b H H') : NetAt N W H' c m ss ar w n ts :=
  h.kp (fun a xs e => x.tup hb e) fun a C dx fs e => x.2 _ _ e (hb.ne e fun xs => by intro z; cases z)
theorem NetAt.set {N W : Addr} {H : Hp} {sl c : Addr} {vs ws : List V} {m : Int} {ss ar : List Int} {w : Addr} {n : Nat} {ts : Prs} (h : NetAt N W H c m ss ar w n ts) (hl : H sl = some (.lst vs)) : NetAt N W (L2.upd H sl (.lst ws)) c m ss ar w n ts :=
  h.kp (fun a xs e => by rw [upd_ne (ne_of e hl (by intro z; cases z))]; exact e) fun a C dx fs e => by rw [upd_ne (ne_of e hl (by intro z; cases z))]; exact e
theorem eqvT (d e : PyData) : ∃ c : Bool, PyData.eqv d e = c := ⟨_, rfl⟩
theorem ifG {t : TT} {A B : TS} {D : Ends} {σ : L2.St} {H : Hp} (G : Bool → Hp → Prop) (hq : ∀ c H1, G c H1 → if c = true then A D σ H1 else B D σ H1) (ht : (∀ c H1, G c H1 → if c = true then A D σ H1 else B D σ H1) → t σ H fun c H1 => if c = true then A D σ H1 else B D σ H1) : tIfS t A B D σ H := ht hq
section
variable {P : Program} {w : World} {K : PySem.W.Frag} {mg : Str → Option Value} {base : Heap}
theorem nf_meet (m : Int) (sa aa w : Addr) : (nf m sa aa w).lookup ("meet" : Str) = none := by rfl
end
theorem ifEG {t : TT} {A B : TE} {σ : L2.St} {H : Hp} {Q : VK} (G : V → Hp → Prop) (hq : ∀ v H', G v H' → Q v H') (h : (∀ v H', G v H' → Q v H') → tIf t A B σ H Q) : tIf t A B σ H Q := h hq
theorem sqL_ks {K : PySem.W.Frag} {H H1 : Hp} {a : Addr} {xs : List V} (h : SqL K H a xs) (k : Ks [] H H1) : SqL K H1 a xs := by
  rcases h with (h | ⟨ob, h⟩) | h
  · exact .inl (.inl (k _ _ h (by simp) fun ps z => by cases z))
  · exact .inl (.inr ⟨ob, k _ _ h (by simp) fun ps z => by cases z⟩)
  · exact .inr h
section
variable {P : Program} {w : World} {K : PySem.W.Frag} {mg : Str → Option Value} {base : Heap}
end
/-- a number that the law hands to a net of modulus m -/
def GoodC (m i : Int) : Prop := cntB m (.int i) = true ∧ i.natAbs ≤ 10 ^ 18
structure GoodM (m : Int) : Prop where
  m0 : 0 ≤ m
  m6 : m ≤ 1000000
  m1 : m ≠ 1
theorem GoodM.mod {m : Int} (h : GoodM m) : modB (.int m) = true := by
  have := h.m0; have := h.m6; have := h.m1
  show (decide (0 ≤ m) && decide (m < 1000001) && !decide (m = 1)) = true
  rw [decide_eq_true (by omega), decide_eq_true (by omega), decide_eq_false (by omega)]; rfl
theorem good_of {m i : Int} (h : GoodM m) (h0 : m = 0 → i.natAbs ≤ 10 ^ 18) (h1 : m ≠ 0 → 0 ≤ i ∧ i < m) : GoodC m i := by
  have h6 := h.m6
  unfold GoodC cntB
  by_cases z : m = 0
  · rw [if_pos z]
    have := h0 z
    refine ⟨?_, this⟩
    show (decide (-1000000000000000000 ≤ i) && decide (i ≤ 1000000000000000000)) = true
    rw [decide_eq_true (by omega), decide_eq_true (by omega)]; rfl
  · rw [if_neg z]
    obtain ⟨g0, g1⟩ := h1 z
    refine ⟨?_, by omega⟩
    show (decide (0 ≤ i) && decide (i < m)) = true
    rw [decide_eq_true g0, decide_eq_true g1]; rfl
theorem at_two {m x y : Int} : atI [V.int x, V.int y] (if decide (V.int m = V.int 0) = true then 1 else 0) = some (.int (if m = 0 then y else x)) := by
  by_cases z : m = 0
  · rw [if_pos (decide_eq_true (by rw [z])), if_pos z]
    exact atI_nat (j := 1) rfl
  · rw [if_neg (by rw [decide_eq_true_eq]; intro e; injection e with e; exact z e), if_neg z]
    exact atI_nat (j := 0) rfl
theorem vrow_inj {a b : List Int} (h : some (vrow a) = some (vrow b)) : a = b := (List.map_inj_right (fun x y h => by injection h)).mp (Option.some.inj h)
theorem Lw.net {N W b c : Addr} {T : List (Addr × Str)} {H H' : Hp} {m : Int} {ss ar : List Int} {w : Addr} {n : Nat} {ts : Prs} (h : NetAt N W H c m ss ar w n ts) : H c ≠ none := fun z => by
  obtain ⟨_, _, _, h1, _⟩ := h.ob
  rw [z] at h1; cases h1
theorem cof_ok {m : Int} {ss : List Int} (h : ∀ i ∈ ss, cntB m (.int i) = true) : cofB m (ss.length : Int) (some (vrow ss)) = true := by
  unfold cofB
  rw [Bool.and_eq_true]
  refine ⟨?_, ?_⟩
  · show (decide ((ss.length : Int) ≤ ((vrow ss).length : Int)) && decide (((vrow ss).length : Int) ≤ (ss.length : Int))) = true
    rw [vrow_len, decide_eq_true (Int.le_refl _)]; rfl
  · rw [Option.getD_some, List.all_eq_true]
    intro x hx
    obtain ⟨i, hi, rfl⟩ := List.mem_map.mp hx
    exact h i hi
end K1
namespace K1
open PySem PySem.Spec PyProof.Rows L2
/-! ### the class Counts -/
def cf (w dd ha ta : Addr) : List (Str × V) := [("web", .ref w), ("deeds", .ref dd), ("houses", .ref ha), ("ties", .ref ta)]
theorem cf_w (w dd ha ta : Addr) : (cf w dd ha ta).lookup ("web" : Str) = some (.ref w) := by rfl
theorem cf_h (w dd ha ta : Addr) : (cf w dd ha ta).lookup ("houses" : Str) = some (.ref ha) := by rfl
theorem cf_t (w dd ha ta : Addr) : (cf w dd ha ta).lookup ("ties" : Str) = some (.ref ta) := by rfl
theorem cf_m (w dd ha ta : Addr) : (cf w dd ha ta).lookup ("meet" : Str) = none := by rfl
theorem cf_ph (w dd ha ta x : Addr) : putF ("houses" : Str) (.ref x) (cf w dd ha ta) = cf w dd x ta := by rfl
theorem cf_pt (w dd ha ta x : Addr) : putF ("ties" : Str) (.ref x) (cf w dd ha ta) = cf w dd ha x := by rfl
structure CcT (K : PySem.W.Frag) (mg : Str → Option Value) (Cc : Addr) : Prop where
  cl : Cls K Cc
  nW : NoAttr K Cc "web"
  nD : NoAttr K Cc "deeds"
  nH : NoAttr K Cc "houses"
  nT : NoAttr K Cc "ties"
  g : mg "Counts" = some (.ref Cc)
structure KAt (Cc W : Addr) (H : Hp) (c w : Addr) (n : Nat) (ts : Prs) (hs rs : Rws) : Prop where
  ob : ∃ dx dd ha ta as bs, H c = some (.ins Cc dx (cf w dd ha ta)) ∧ H ha = some (.tup (as.map V.ref)) ∧ H ta = some (.tup (bs.map V.ref)) ∧ RwsA H as hs ∧ RwsA H bs rs
  wb : WebAt W H w n ts
  nw : w ≠ c
theorem KAt.same {Cc W : Addr} {H H' : Hp} {c w : Addr} {n : Nat} {ts : Prs} {hs rs : Rws} (h : KAt Cc W H c w n ts hs rs) (s : Same H H') : KAt Cc W H' c w n ts hs rs :=
  ⟨let ⟨dx, dd, ha, ta, as, bs, h1, h2, h3, h4, h5⟩ := h.ob; ⟨dx, dd, ha, ta, as, bs, s _ _ h1, s _ _ h2, s _ _ h3, h4.same s, h5.same s⟩, h.wb.same s, h.nw⟩
def spLess : Sp := fun vs H Q _ => ∃ (a b c : Addr) (xs ys zs : List Int), vs = [.ref a, .ref b, .ref c] ∧ H a = some (.tup (vrow xs)) ∧ H b = some (.tup (vrow ys)) ∧ H c = some (.tup (vrow zs)) ∧ xs.length = ys.length ∧ xs.length = zs.length ∧ xs.length ≤ 1000 ∧ ∀ p H', Same H H' → H' p = some (.tup (vrow (lessR xs ys zs))) → Q (.ref p) H'
def spKInit (Cc W : Addr) : Sp := fun vs H Q _ => ∃ (c dx w : Addr) (n : Nat) (ts : Prs) (k : Nat), vs = [.ref c, .ref w, .int (k : Int)] ∧ H c = some (.ins Cc dx []) ∧ WebAt W H w n ts ∧ Wv n ts ∧ w ≠ c ∧ k ≤ 100 ∧ ∀ dd ha ta H', But c H H' → H' c = some (.ins Cc dx (cf w dd ha ta)) → Q .non H'
def spKMeet (Cc W : Addr) : Sp := fun vs H Q _ => ∃ (c w : Addr) (n : Nat) (ts : Prs) (o : List Nat) (t : Nat), vs = [.ref c, .int (t : Int)] ∧ KAt Cc W H c w n ts (rowsS n ts o) (rowsA n ts o) ∧ Wv n ts ∧ t < ts.length ∧ ∀ H', But c H H' → KAt Cc W H' c w n ts (rowsS n ts (o ++ [t])) (rowsA n ts (o ++ [t])) → Q .non H'
def spOwn (Cc W : Addr) : Sp := fun vs H Q _ => ∃ (w : Addr) (n : Nat) (ts : Prs), vs = [.ref w] ∧ WebAt W H w n ts ∧ Wv n ts ∧ ∀ c H', Same H H' → H c = none → KAt Cc W H' c w n ts (rowsS n ts []) (rowsA n ts []) → Q (.ref c) H'
def spAlikeR (W : Addr) : Sp := fun vs H Q _ => ∃ (w ha ta : Addr) (n : Nat) (ts : Prs) (as bs : List Addr) (hs rs : Rws), vs = [.ref w, .ref ha, .ref ta] ∧ WebAt W H w n ts ∧ Wv n ts ∧ H ha = some (.tup (as.map V.ref)) ∧ H ta = some (.tup (bs.map V.ref)) ∧ RwsA H as hs ∧ RwsA H bs rs ∧ hs.length = n ∧ rs.length = ts.length ∧
  (∀ r ∈ hs, r.length ≤ 40 ∧ ∀ x ∈ r, Sm x) ∧ (∀ r ∈ rs, r.length ≤ 40 ∧ ∀ x ∈ r, Sm x) ∧ ∀ (b : Bool) H', Same H H' → (b = true ↔ AlR ts hs rs) → Q (.bl b) H'
def spRA (K : PySem.W.Frag) (W C : Addr) : Sp := fun vs H Q E => ∃ (w : Addr) (v : V) (o : Option (List V)) (n : Nat) (ts : Prs), vs = [.ref w, v] ∧ WebAt W H w n ts ∧ Wv n ts ∧ Rw K H v o ∧
  ((Ringed n ts ∧ Rz C "at" (.ref w) H E) ∨ ∃ rk, Fo rk ts ∧ ((BadTu ts.length o ∧ Rz C "at" v H E) ∨ ∃ tu, o = some (vn tu) ∧ GoodTu ts.length tu ∧ ∀ k H', Same H H' → FirstAt (fun k => ∀ i, i < n + ts.length → Alk ts (U n ts i (cyc tu k))) k → k ≤ n * ts.length → Q (.int (k : Int)) H'))
def spTH (K : PySem.W.Frag) (W CH CR : Addr) : Sp := fun vs H Q E => ∃ (w : Addr) (v vh vo : V) (o oh oo : Option (List V)) (n : Nat) (ts : Prs), vs = [.ref w, v, vh, vo] ∧ WebAt W H w n ts ∧ Wv n ts ∧ Rw K H v o ∧ KV K H vh oh ∧ KV K H vo oo ∧
  ((BadTu ts.length o ∧ Rz CR "at" v H E) ∨ ∃ tu, o = some (vn tu) ∧ GoodTu ts.length tu ∧ ((belowB vh (n : Int) = false ∧ Rz CH "house" vh H E) ∨ ∃ h : Nat, vh = .int (h : Int) ∧ h < n ∧ ((belowB vo (n : Int) = false ∧ Rz CH "house" vo H E) ∨ ∃ y : Nat, vo = .int (y : Int) ∧ y < n ∧
    (∀ H', Same H H' → ¬ Cn ts h y → Q .non H') ∧ ∀ k H', Same H H' → Cn ts h y → FirstAt (fun k => hear ts h (cyc tu k) y = true) k → k ≤ (n - 1) * ts.length → Q (.int (k : Int)) H')))
theorem below_bad {h n : Nat} (hn : h < n) (hb : belowB (.int (h : Int)) (n : Int) = false) : False := by
  have : (decide (0 ≤ (h : Int)) && decide ((h : Int) < (n : Int))) = false := hb
  rw [decide_eq_true (by omega), decide_eq_true (by omega)] at this
  cases this
section
variable {P : Program} {w : World} {K : PySem.W.Frag} {mg : Str → Option Value} {base : Heap}
abbrev nLs : List Str := ["here", "there", "between", "one", "other", "tie"]
theorem scLs : FnScope nLs ["here", "there", "between"] (defScope sLessTie) := ⟨rfl, rfl, rfl, by decide +kernel, rfl, by decide +kernel, by decide +kernel⟩
theorem ok_less {f : Addr} {fd : FuncData} (D : Df K mg "less_tie" sLessTie ["here", "there", "between"] f fd) (B : Bt mg) : FnOk P w K mg base CX0 1 f fd ["here", "there", "between"] spLess := by
  refine D.F.ok scLs (fun vs H Q E h => ?_) (fun cdv A outer s H vs Q E hr h => ?_)
  · obtain ⟨a, b, c, xs, ys, zs, rfl, _⟩ := h
    rfl
  · obtain ⟨a, b, c, xs, ys, zs, rfl, ha, hb, hc, l1, l2, l3, q⟩ := h
    refine ⟨_, pss_one (ps_ret (pe_callTy call_tuple_of (by rfl) B.tuple PyProof.Rows.boot_tuple (pa_cons (pe_lc (own := [("one", 3), ("other", 4), ("tie", 5)]) (g := gTup K 3 (gCons (gName 3) (gCons (gName 4) (gCons (gName 5) gNil)))) (tt := tYes) rfl scLs.nd (Z3.pi_zip3 (by rfl) B.zip (pa_cons (pv 0) (pa_cons (pv 1) (pa_cons (pv 2) pa_nil)))) (blkOk_by (N := nLs) (sc := defScope sLessTie) (by decide +kernel))
      (fun _ _ _ _ _ => pg_tup rfl (pgs_cons (pg_name (i := 3) scLs.nd rfl (.inl rfl)) (pgs_cons (pg_name (i := 4) scLs.nd rfl (.inl rfl)) (pgs_cons (pg_name (i := 5) scLs.nd rfl (.inl rfl)) pgs_nil))))
      (fun _ _ _ _ _ => pts_nil) (fun _ _ _ _ _ => pe_op op_sub (pe_op op_add (pv 3) (pv 4)) (pv 5))) pa_nil))), ?_⟩
    refine ⟨_, rfl, _, rfl, _, rfl, a, b, c, _, _, _, rfl, SqT.of ha, SqT.of hb, SqT.of hc, fun D0 hD0 => Z3.lc_zip3 (K := K) (by rw [vrow_len, vrow_len]; exact l1) (by rw [vrow_len, vrow_len]; exact l2) (fun i H' => Same H H' ∧ H' D0 = some (.lst (vrow ((lessR xs ys zs).take i)))) ⟨same_new hD0, by rw [upd_same]; rfl⟩ (fun i H' _ ⟨s1, _⟩ => ⟨SqT.of (s1 _ _ ha), SqT.of (s1 _ _ hb), SqT.of (s1 _ _ hc)⟩) ?_ ?_⟩
    · rintro i x y z T H1 hx hy hz hT ⟨s1, hD1⟩
      obtain ⟨x', hx', rfl⟩ := vrow_at hx
      obtain ⟨y', hy', rfl⟩ := vrow_at hy
      obtain ⟨z', hz', rfl⟩ := vrow_at hz
      have sT := same_new (o := HO.tup [V.int x', .int y', .int z']) hT
      refine ⟨T, _, rfl, SqT.of upd_same, rfl, _, _, rfl, _, _, rfl, _, _, rfl, rfl, rfl, ?_⟩
      have hi := lt_at hx'
      refine ⟨_, rfl, _, rfl, _, _, rfl, rfl, _, rfl, _, _, rfl, rfl, _, sT _ _ hD1, szl (by rw [vrow_len, List.length_take]; omega), fun c' o e => ?_, ?_⟩
      · rw [upd_ne (ne_of_none e hD0)]
        exact sT _ _ (s1 _ _ e)
      · have e : (lessR xs ys zs)[i]? = some (x' + y' - z') := by
          unfold lessR
          rw [rows_at hi, List.getD_eq_getElem?_getD, List.getD_eq_getElem?_getD, List.getD_eq_getElem?_getD, hx', hy', hz']; rfl
        rw [upd_same, take_succ e, vrow, vrow, List.map_append]; rfl
    · rintro H1 ⟨s1, hD1⟩
      rw [List.take_of_length_le (by rw [vrow_len, lessR, List.length_map, List.length_range]; exact Nat.le_refl _)] at hD1
      exact ⟨D0, _, rfl, .inl ⟨SqL.of hD1, fun l hl => q l _ (s1.trans (same_new hl)) upd_same⟩⟩
theorem scKI : FnScope ["self", "web", "acts"] ["self", "web", "acts"] (defScope sCountsInit) := ⟨rfl, rfl, rfl, by decide +kernel, rfl, by decide +kernel, by decide +kernel⟩
theorem ok_kinit {f W Cc : Addr} {fd : FuncData} (F : Fun K "__init__" "Counts.__init__" sCountsInit f fd) (B : Bt mg) (T : CcT K mg Cc) (TW : WcT K mg W) : FnOk P w K mg base CX0 1 f fd ["self", "web", "acts"] (spKInit Cc W) := by
  refine F.ok scKI (fun vs H Q E h => ?_) (fun cdv A outer s H vs Q E hr h => ?_)
  · obtain ⟨c, dx, w, n, ts, k, rfl, _⟩ := h
    rfl
  · obtain ⟨c, dx, w, n, ts, k, rfl, hc, hw, hW, nw, hk, q⟩ := h
    refine ⟨_, pss_cons (ps_fld (pv 0) (pv 1) rfl) (pss_cons (ps_fld (pv 0) (pe_tup pa_nil) rfl)
      (pss_cons (ps_fld (pv 0) (pe_op (TM.op_repG (K := K) rfl) (pe_tup (pa_cons (pe_op (TM.op_repG (K := K) rfl) (pe_tup (pa_cons pe_int pa_nil)) (pv 2)) pa_nil)) (pe_fld (pv 1) rfl)) rfl)
      (pss_one (ps_fld (pv 0) (pe_op (TM.op_repG (K := K) rfl) (pe_tup (pa_cons (pe_op (TM.op_repG (K := K) rfl) (pe_tup (pa_cons pe_int pa_nil)) (pv 2)) pa_nil)) (pe_callB call_len_seq (by rfl) B.len PySem.boot_len (pa_cons (pe_fld (pv 1) rfl) pa_nil))) rfl)))), ?_⟩
    have n12 := hW.n12
    have t20 := hW.t20
    refine ⟨_, rfl, _, rfl, c, Cc, dx, [], rfl, hc, T.cl, T.nW, (by show 0 < 1000; decide), ?_⟩
    have hc1 : (upd H c (.ins Cc dx (putF "web" (.ref w) []))) c = some (.ins Cc dx (putF "web" (.ref w) [])) := upd_same
    have b1 : But c H (upd H c (.ins Cc dx (putF "web" (.ref w) []))) := But.upd
    generalize upd H c (.ins Cc dx (putF "web" (.ref w) [])) = H1 at hc1 b1 ⊢
    refine ⟨(by show 0 ≤ sizeLine; decide), fun dd hdd => ?_⟩
    have s2 := same_new (o := HO.tup []) hdd
    have hc2 := s2 _ _ hc1
    have b2 := b1.same s2
    generalize upd H1 dd (.tup []) = H2 at hc2 b2 ⊢
    refine ⟨_, rfl, c, Cc, dx, _, rfl, hc2, T.cl, T.nD, (by show 1 < 1000; decide), ?_⟩
    have hc3 : (upd H2 c (.ins Cc dx (putF "deeds" (.ref dd) (putF "web" (.ref w) [])))) c = some (.ins Cc dx (putF "deeds" (.ref dd) (putF "web" (.ref w) []))) := upd_same
    have b3 : But c H (upd H2 c (.ins Cc dx (putF "deeds" (.ref dd) (putF "web" (.ref w) [])))) := b2.trans But.upd
    generalize upd H2 c (.ins Cc dx (putF "deeds" (.ref dd) (putF "web" (.ref w) []))) = H3 at hc3 b3 ⊢
    refine ⟨(by show 1 ≤ sizeLine; decide), fun p1 hp1 => ?_⟩
    have t1 := same_new (o := HO.tup [V.int 0]) hp1
    refine ⟨_, rfl, p1, (k : Int), _, rfl, rfl, upd_same, by simp, by omega, by omega, (by show 1 ≤ 1000; decide), fun p2 H4 t2 hp2 => ⟨(by show 1 ≤ sizeLine; decide), fun p3 hp3 => ?_⟩⟩
    have t3 := same_new (o := HO.tup [V.ref p2]) hp3
    have s34 := (t1.trans t2).trans t3
    have hw4 := (hw.but hc nw b3).same s34
    obtain ⟨dxw, ta, w1, tas, w2, w3⟩ := id hw4
    refine ⟨_, rfl, w, W, dxw, _, _, rfl, w1, TW.cl, TW.nH, wf_h _ _, p3, (n : Int), _, rfl, rfl, upd_same, by simp, by omega, by omega, (by show 1 ≤ 1000; decide), fun ha H5 t5 hha => ?_⟩
    have s35 := s34.trans t5
    refine ⟨_, rfl, c, Cc, dx, _, rfl, s35 _ _ hc3, T.cl, T.nH, (by show 2 < 1000; decide), ?_⟩
    have b5 : But c H (upd H5 c (.ins Cc dx (putF "houses" (.ref ha) (putF "deeds" (.ref dd) (putF "web" (.ref w) []))))) := (b3.same s35).trans But.upd
    have hc5 : (upd H5 c (.ins Cc dx (putF "houses" (.ref ha) (putF "deeds" (.ref dd) (putF "web" (.ref w) []))))) c = some (.ins Cc dx (putF "houses" (.ref ha) (putF "deeds" (.ref dd) (putF "web" (.ref w) [])))) := upd_same
    generalize upd H5 c (.ins Cc dx (putF "houses" (.ref ha) (putF "deeds" (.ref dd) (putF "web" (.ref w) [])))) = H6 at b5 hc5 ⊢
    refine ⟨(by show 1 ≤ sizeLine; decide), fun q1 hq1 => ?_⟩
    have u1 := same_new (o := HO.tup [V.int 0]) hq1
    refine ⟨_, rfl, q1, (k : Int), _, rfl, rfl, upd_same, by simp, by omega, by omega, (by show 1 ≤ 1000; decide), fun q2 H7 u2 hq2 => ⟨(by show 1 ≤ sizeLine; decide), fun q3 hq3 => ?_⟩⟩
    have u3 := same_new (o := HO.tup [V.ref q2]) hq3
    have s67 := (u1.trans u2).trans u3
    have hw7 := (hw.but hc nw b5).same s67
    obtain ⟨dxw7, ta7, w71, tas7, w72, w73⟩ := id hw7
    have el : ((tas7.map V.ref).length : Int) = (ts.length : Int) := by rw [List.length_map, w73.1]
    refine ⟨_, rfl, w, W, dxw7, _, _, rfl, w71, TW.cl, TW.nT, wf_t _ _, ta7, _, rfl, .inr (SqT.of w72), ?_⟩
    rw [el]
    refine ⟨q3, (ts.length : Int), _, rfl, rfl, upd_same, by simp, by omega, by omega, (by show 1 ≤ 1000; decide), fun ta' H8 u5 hta => ?_⟩
    have s68 := s67.trans u5
    refine ⟨_, rfl, c, Cc, dx, _, rfl, s68 _ _ hc5, T.cl, T.nT, (by show 3 < 1000; decide), ?_⟩
    exact q dd ha ta' _ ((b5.same s68).trans But.upd) upd_same
theorem scKM : FnScope ["self", "tie", "one", "other", "joined"] ["self", "tie"] (defScope sCountsMeet) := ⟨rfl, rfl, rfl, by decide +kernel, rfl, by decide +kernel, by decide +kernel⟩
theorem ok_kmeet {f fL fR W Cc : Addr} {fd fdL fdR : FuncData} (F : Fun K "meet" "Counts.meet" sCountsMeet f fd) (DL : Df K mg "less_tie" sLessTie ["here", "there", "between"] fL fdL) (DR : Df K mg "replaced" sRepl ["items", "at", "item"] fR fdR) (T : CcT K mg Cc) (TW : WcT K mg W)
    (GL : FnOk P w K mg base CX0 1 fL fdL ["here", "there", "between"] spLess) (GR : FnOk P w K mg base CX0 1 fR fdR ["items", "at", "item"] spRepl) : FnOk P w K mg base CX0 2 f fd ["self", "tie"] (spKMeet Cc W) := by
  refine F.ok scKM (fun vs H Q E h => ?_) (fun cdv A outer s H vs Q E hr h => ?_)
  · obtain ⟨c, w, n, ts, o, t, rfl, _⟩ := h
    rfl
  · obtain ⟨c, w, n, ts, o, t, rfl, hK, hW, htl, q⟩ := h
    refine ⟨_, pss_cons (ps_asg (pe_ix ix_tup (pe_fld (pe_fld (pv 0) rfl) rfl) (pv 1) (fun _ _ => rfl)) (pg_tup rfl (pgs_cons (pg_name (i := 2) scKM.nd rfl (.inl rfl)) (pgs_cons (pg_name (i := 3) scKM.nd rfl (.inl rfl)) pgs_nil))))
      (pss_cons (ps_set (i := 4) scKM.nd rfl (.inl rfl) (pc DL GL hr pass0 (pa_cons (pe_ix ix_tup (pe_fld (pv 0) rfl) (pv 2) (fun _ _ => rfl)) (pa_cons (pe_ix ix_tup (pe_fld (pv 0) rfl) (pv 3) (fun _ _ => rfl)) (pa_cons (pe_ix ix_tup (pe_fld (pv 0) rfl) (pv 1) (fun _ _ => rfl)) pa_nil)))))
      (pss_cons (ps_fld (pv 0) (pc DR GR hr pass0 (pa_cons (pc DR GR hr pass0 (pa_cons (pe_fld (pv 0) rfl) (pa_cons (pv 2) (pa_cons (pv 4) pa_nil)))) (pa_cons (pv 3) (pa_cons (pv 4) pa_nil)))) rfl)
      (pss_one (ps_fld (pv 0) (pc DR GR hr pass0 (pa_cons (pe_fld (pv 0) rfl) (pa_cons (pv 1) (pa_cons (pv 4) pa_nil)))) rfl)))), ?_⟩
    obtain ⟨dx, dd, ha, ta, as, bs, h1, h2, h3, h4, h5⟩ := hK.ob
    have n12 := hW.n12
    have t20 := hW.t20
    obtain ⟨p, hp⟩ := ex_at htl
    obtain ⟨p1, p2, p3⟩ := hW.at_ hp
    obtain ⟨dxw, tw, w1, tas, w2, w3⟩ := hK.wb
    obtain ⟨pa, hpa0, hpa⟩ := w3.get hp
    have hpa' : H pa = some (.tup [.int (p.1 : Int), .int (p.2 : Int)]) := hpa
    have la : as.length = n := by rw [h4.1]; simp [rowsS]
    have lb : bs.length = ts.length := by rw [h5.1]; simp [rowsA]
    obtain ⟨a1, ea1, ha1⟩ := h4.get (rows_at (f := rowS n ts o) p1)
    obtain ⟨a2, ea2, ha2⟩ := h4.get (rows_at (f := rowS n ts o) p2)
    obtain ⟨a3, ea3, ha3⟩ := h5.get (rows_at (f := rowA n ts o) htl)
    refine ⟨_, rfl, c, Cc, dx, _, _, rfl, h1, T.cl, T.nW, cf_w _ _ _ _, w, W, dxw, _, _, rfl, w1, TW.cl, TW.nT, wf_t _ _, _, rfl, tw, _, (t : Int), .ref pa, rfl, rfl, SqT.of w2, at_i (map_at hpa0), pa, _, rfl, SqT.of hpa', rfl, _, _, rfl, _, _, rfl, rfl, ?_⟩
    refine ⟨_, rfl, c, Cc, dx, _, _, rfl, h1, T.cl, T.nH, cf_h _ _ _ _, _, rfl, ha, _, (p.1 : Int), .ref a1, rfl, rfl, SqT.of h2, at_i (map_at ea1), _, rfl, c, Cc, dx, _, _, rfl, h1, T.cl, T.nH, cf_h _ _ _ _, _, rfl, ha, _, (p.2 : Int), .ref a2, rfl, rfl, SqT.of h2, at_i (map_at ea2),
      _, rfl, c, Cc, dx, _, _, rfl, h1, T.cl, T.nT, cf_t _ _ _ _, _, rfl, ta, _, (t : Int), .ref a3, rfl, rfl, SqT.of h3, at_i (map_at ea3), a1, a2, a3, _, _, _, rfl, ha1, ha2, ha3, by simp [rowS], by simp [rowS, rowA], by simp [rowS]; omega, fun j H1 s1 hj => ?_⟩
    refine gn ?_
    dsimp only [List.set]
    refine ⟨_, rfl, c, Cc, dx, _, _, rfl, s1 _ _ h1, T.cl, T.nH, cf_h _ _ _ _, _, rfl, _, rfl, ha, _, p.1, .ref j, rfl, s1 _ _ h2, by rw [List.length_map]; omega, by rw [List.length_map]; omega, fun y1 H2 s2 hy1 => ?_⟩
    rw [← refs_set] at hy1
    refine ⟨_, rfl, _, rfl, y1, _, p.2, .ref j, rfl, hy1, by rw [List.length_map, List.length_set]; omega, by rw [List.length_map, List.length_set]; omega, fun y2 H3 s3 hy2 => ?_⟩
    rw [← refs_set] at hy2
    have s13 := (s1.trans s2).trans s3
    refine ⟨_, rfl, c, Cc, dx, _, rfl, s13 _ _ h1, T.cl, T.nH, (by show 4 < 1000; decide), ?_⟩
    rw [cf_ph]
    have hj3 := s3 _ _ (s2 _ _ hj)
    have nc : ∀ {a : Addr} {xs : List V}, H3 a = some (.tup xs) → a ≠ c := fun e z => by rw [z, s13 _ _ h1] at e; cases e
    have kp : ∀ a xs, H3 a = some (.tup xs) → (upd H3 c (.ins Cc dx (cf w dd y2 ta))) a = some (.tup xs) := fun a xs e => by rw [upd_ne (nc e)]; exact e
    have r4 := ((h4.same s13).kp kp).set (kp _ _ hj3) p.1 |>.set (kp _ _ hj3) p.2
    have r5 := (h5.same s13).kp kp
    have g2 := kp _ _ hy2
    have g3 := kp _ _ (s13 _ _ h3)
    have gj := kp _ _ hj3
    have gw := (hK.wb.same s13).but (s13 _ _ h1) hK.nw (But.upd (o := .ins Cc dx (cf w dd y2 ta)))
    have b4 : But c H (upd H3 c (.ins Cc dx (cf w dd y2 ta))) := But.put s13
    have hc4 : (upd H3 c (.ins Cc dx (cf w dd y2 ta))) c = some (.ins Cc dx (cf w dd y2 ta)) := upd_same
    generalize upd H3 c (.ins Cc dx (cf w dd y2 ta)) = H4 at r4 r5 g2 g3 gj gw b4 hc4 ⊢
    refine ⟨_, rfl, c, Cc, dx, _, _, rfl, hc4, T.cl, T.nT, cf_t _ _ _ _, _, rfl, _, rfl, ta, _, t, .ref j, rfl, g3, by rw [List.length_map]; omega, by rw [List.length_map]; omega, fun y4 H5 s5 hy4 => ?_⟩
    rw [← refs_set] at hy4
    refine ⟨_, rfl, c, Cc, dx, _, rfl, s5 _ _ hc4, T.cl, T.nT, (by show 4 < 1000; decide), ?_⟩
    rw [cf_pt]
    have nc5 : ∀ {a : Addr} {xs : List V}, H5 a = some (.tup xs) → a ≠ c := fun e z => by rw [z, s5 _ _ hc4] at e; cases e
    have kp5 : ∀ a xs, H5 a = some (.tup xs) → (upd H5 c (.ins Cc dx (cf w dd y2 y4))) a = some (.tup xs) := fun a xs e => by rw [upd_ne (nc5 e)]; exact e
    have gj5 := kp5 _ _ (s5 _ _ gj)
    refine q _ (b4.trans (But.put s5)) ⟨⟨dx, dd, y2, y4, _, _, upd_same, kp5 _ _ (s5 _ _ g2), kp5 _ _ hy4, ?_, ?_⟩, (gw.same s5).but (s5 _ _ hc4) hK.nw But.upd, hK.nw⟩
    · rw [rowsS_met hW hp]
      exact (r4.same s5).kp kp5
    · rw [rowsA_met hW hp]
      exact ((r5.same s5).kp kp5).set gj5 t
abbrev nOw : List Str := ["web", "many", "own", "counts", "at", "one"]
theorem scOw : FnScope nOw ["web"] (defScope sOwnCounts) := ⟨rfl, rfl, rfl, by decide +kernel, rfl, by decide +kernel, by decide +kernel⟩
def dlt (N x : Nat) : List Int := (List.range N).map fun i => if i = x then 1 else 0
theorem ok_own {f fI W Cc : Addr} {fd fdI : FuncData} (D : Df K mg "own_counts" sOwnCounts ["web"] f fd) (MI : Mk K Cc fI) (BI : Binds K fdI ["self", "web", "acts"] []) (B : Bt mg) (T : CcT K mg Cc) (TW : WcT K mg W) (GI : FnOk P w K mg base CX0 1 fI fdI ["self", "web", "acts"] (spKInit Cc W)) :
    FnOk P w K mg base CX0 3 f fd ["web"] (spOwn Cc W) := by
  refine D.F.ok scOw (fun vs H Q E h => ?_) (fun cdv A outer s H vs Q E hr h => ?_)
  · obtain ⟨w, n, ts, rfl, _⟩ := h
    rfl
  · obtain ⟨w, n, ts, rfl, hw, hW, q⟩ := h
    refine ⟨_, pss_cons (ps_set (i := 1) scOw.nd rfl (.inr rfl) (pe_op op_add (pe_fld (pv 0) rfl) (pe_callB call_len_seq (by rfl) B.len PySem.boot_len (pa_cons (pe_fld (pv 0) rfl) pa_nil))))
      (pss_cons (ps_setLc (i := 2) (own := [("one", 5)]) (g := gName 5) (tt := tYes) rfl scOw.nd rfl rfl (sw_true rfl rfl rfl rfl) (pi_range1 (by rfl) B.range (pa_cons (pv 1) pa_nil)) (blkOk_by (N := nOw) (sc := defScope sOwnCounts) (by decide +kernel)) (fun _ _ _ _ _ => pg_name (i := 5) scOw.nd rfl (.inr rfl)) (fun _ _ _ _ _ => pts_nil)
        (fun _ _ _ _ _ => pe_callTy (ctup (K := K) rfl) (by rfl) B.tuple PyProof.Rows.boot_tuple (pa_cons (pe_lc (own := [("at", 4)]) (g := gName 4) (tt := tYes) rfl scOw.nd (pi_range1 (by rfl) B.range (pa_cons (pv 1) pa_nil)) (blkOk_by (by rfl)) (fun _ _ _ _ _ => pg_name (i := 4) scOw.nd rfl (.inl rfl)) (fun _ _ _ _ _ => pts_nil)
          (fun _ _ _ _ _ => pe_callTy call_int1 (by rfl) B.int PyProof.Rows.boot_int (pa_cons (pe_cmpR op_eq (pv 4) (pv 5) (nomark _)) pa_nil))) pa_nil)))
      (pss_cons (ps_set (i := 3) scOw.nd rfl (.inl rfl) (pe_make MI GI (hr.mono (by decide)) rfl T.g BI .nil pass0 (pa_cons (pv 0) (pa_cons (pv 1) pa_nil))))
      (pss_cons (ps_fld (pv 3) (pe_callTy call_tuple_of (by rfl) B.tuple PyProof.Rows.boot_tuple (pa_cons (pe_slice sl_list (pv 2) po_none (po_some (pe_fld (pv 0) rfl))) pa_nil)) rfl)
      (pss_cons (ps_fld (pv 3) (pe_callTy call_tuple_of (by rfl) B.tuple PyProof.Rows.boot_tuple (pa_cons (pe_slice sl_list (pv 2) (po_some (pe_fld (pv 0) rfl)) po_none) pa_nil)) rfl)
      (pss_one (ps_ret (pv 3))))))), ?_⟩
    obtain ⟨dxw, tw, w1, tas, w2, w3⟩ := id hw
    have n12 := hW.n12
    have t20 := hW.t20
    have el : ((tas.map V.ref).length : Int) = (ts.length : Int) := by rw [List.length_map, w3.1]
    refine ⟨_, rfl, w, W, dxw, _, _, rfl, w1, TW.cl, TW.nH, wf_h _ _, _, rfl, w, W, dxw, _, _, rfl, w1, TW.cl, TW.nT, wf_t _ _, tw, _, rfl, .inr (SqT.of w2), _, _, rfl, rfl, ?_⟩
    rw [el]
    obtain ⟨N, hN, eN⟩ : ∃ N : Nat, (n : Int) + (ts.length : Int) = (N : Int) ∧ N = n + ts.length := ⟨n + ts.length, by omega, rfl⟩
    refine gn ?_
    dsimp only [List.set]
    rw [hN]
    refine ⟨_, rfl, (N : Int), rfl, by omega, by omega, fun D0 hD0 => lc_range (fun i H' => ∃ as : List Addr, Same H H' ∧ H' D0 = some (.lst (as.map V.ref)) ∧ RwsA H' as ((List.range i).map (dlt N)))
      ⟨[], same_new hD0, upd_same, ⟨rfl, fun i a r e => by cases e⟩⟩ ?_ ?_⟩
    · rintro i H1 hi ⟨as, s1, hD1, ra⟩
      have hi' : i < N := by omega
      have la : as.length = i := by rw [ra.1]; simp
      refine ⟨rfl, _, rfl, (N : Int), rfl, by omega, by omega, fun D1 hE0 => lc_range (fun j H' => Same H1 H' ∧ H' D1 = some (.lst (vrow ((dlt N i).take j)))) ⟨same_new hE0, by rw [upd_same]; rfl⟩ ?_ ?_⟩
      · rintro j H2 hj ⟨s2, hD2⟩
        have hj' : j < N := by omega
        refine ⟨rfl, _, rfl, _, rfl, rfl, .inr ⟨_, rfl, _, hD2, szl (by rw [vrow_len, List.length_take]; omega), fun c o e => ?_, ?_⟩⟩
        · rw [upd_ne (ne_of_none e hE0)]
          exact s2 _ _ e
        · have e : (dlt N i)[j]? = some (if j = i then 1 else 0) := rows_at hj'
          rw [upd_same, take_succ e, vrow, vrow, List.map_append]
          congr 4
          by_cases c : j = i
          · rw [if_pos c, if_pos (decide_eq_true (by rw [c]))]
          · rw [if_neg c, if_neg (by
              intro z
              have z := of_decide_eq_true z
              injection z with z
              omega)]
      · rintro H2 ⟨s2, hD2⟩
        rw [List.take_of_length_le (by simp [dlt])] at hD2
        refine ⟨D1, _, rfl, .inl ⟨SqL.of hD2, fun l hl => ?_⟩⟩
        have s3 := s2.trans (same_new (o := HO.tup (vrow (dlt N i))) hl)
        refine ⟨as.map V.ref, s3 _ _ hD1, szl (by rw [List.length_map]; omega), as ++ [l], fun c o e => ?_, by rw [upd_same, List.map_append]; rfl, ?_⟩
        · rw [upd_ne (ne_of_none e hD0)]
          exact s3 _ _ (s1 _ _ e)
        · have kp : ∀ a xs, (upd H2 l (.tup (vrow (dlt N i)))) a = some (.tup xs) → (upd (upd H2 l (.tup (vrow (dlt N i)))) D0 (.lst (as.map V.ref ++ [.ref l]))) a = some (.tup xs) := fun a xs e => by
            rw [upd_ne (ne_of e (s3 _ _ hD1) (by intro z; cases z))]
            exact e
          refine ⟨by rw [List.length_append, la]; simp, fun j b r e1 e2 => ?_⟩
          rw [List.range_succ, List.map_append] at e2
          rcases snoc_at e1 with e1 | ⟨ej, rfl⟩
          · rcases snoc_at e2 with e2 | ⟨ej, rfl⟩
            · exact kp _ _ (s3 _ _ (ra.2 j b r e1 e2))
            · have := lt_at e1
              simp at ej
              omega
          · rcases snoc_at e2 with e2 | ⟨_, rfl⟩
            · have := lt_at e2
              simp at this
              omega
            · exact kp _ _ upd_same
    · rintro H1 ⟨as, s1, hD1, ra⟩
      rw [Int.toNat_natCast] at ra
      have la : as.length = N := by rw [ra.1]; simp
      refine gn ?_
      dsimp only [List.set]
      refine ⟨_, rfl, _, rfl, fun c dxc hc0 hdc0 nec => ?_⟩
      have smc := mkSame (o1 := HO.own c) (o2 := HO.ins Cc dxc []) hc0 hdc0 nec
      have hw2 := (hw.same s1).same smc
      obtain ⟨dxw2, tw2, w21, _⟩ := id (hw.same s1)
      have nwc : w ≠ c := ne_of_none w21 hc0
      refine ⟨c, dxc, w, n, ts, N, rfl, upd_same, hw2, hW, nwc, by omega, fun dd ha ta H2 b2 hc2 => ⟨rfl, ?_⟩⟩
      refine gn ?_
      dsimp only [List.set]
      have s2 : Same H1 H2 := fun d o e => b2 _ _ (smc _ _ e) (ne_of_none e hc0)
      have fc : H c = none := s1.free hc0
      have hD2 := s2 _ _ hD1
      have ra2 := ra.same s2
      have hw3 := hw2.but upd_same nwc b2
      obtain ⟨dxw3, tw3, w31, tas3, w32, w33⟩ := id hw3
      refine ⟨_, rfl, noP ⟨_, rfl, w, W, dxw3, _, _, rfl, w31, TW.cl, TW.nH, wf_h _ _, _, rfl, D0, _, rfl, SqL.of hD2, fun p1 hp1 => ⟨p1, _, rfl, .inl ⟨SqL.of upd_same, fun l1 hl1 => ?_⟩⟩⟩⟩
      rw [cut_to (by rw [List.length_map]; omega)] at hl1 ⊢
      have s3 := (same_new (o := HO.lst ((as.map V.ref).take n)) hp1).trans (same_new (o := HO.tup ((as.map V.ref).take n)) hl1)
      have hl1' : (upd (upd H2 p1 (.lst ((as.map V.ref).take n))) l1 (.tup ((as.map V.ref).take n))) l1 = some (.tup ((as.take n).map V.ref)) := by rw [upd_same, List.map_take]
      generalize upd (upd H2 p1 (.lst ((as.map V.ref).take n))) l1 (.tup ((as.map V.ref).take n)) = H3 at s3 hl1' ⊢
      refine ⟨_, rfl, c, Cc, dxc, _, rfl, s3 _ _ hc2, T.cl, T.nH, (by show 4 < 1000; decide), ?_⟩
      rw [cf_ph]
      have b3 : But c H2 (upd H3 c (.ins Cc dxc (cf w dd l1 ta))) := But.put s3
      have nc3 : ∀ {a : Addr} {o : HO}, H3 a = some o → (∀ dx fs, o ≠ .ins Cc dx fs) → a ≠ c := fun e ne z => by
        rw [z, s3 _ _ hc2] at e
        exact ne _ _ (Option.some.inj e).symm
      have hl3 : (upd H3 c (.ins Cc dxc (cf w dd l1 ta))) l1 = some (.tup ((as.take n).map V.ref)) := by rw [upd_ne (nc3 hl1' fun _ _ z => by cases z)]; exact hl1'
      have hD3 : (upd H3 c (.ins Cc dxc (cf w dd l1 ta))) D0 = some (.lst (as.map V.ref)) := by rw [upd_ne (nc3 (s3 _ _ hD2) fun _ _ z => by cases z)]; exact s3 _ _ hD2
      have ra3 := (ra2.same s3).kp (H' := upd H3 c (.ins Cc dxc (cf w dd l1 ta))) fun a xs e => by rw [upd_ne (nc3 e fun _ _ z => by cases z)]; exact e
      have hw4 := (hw3.same s3).but (s3 _ _ hc2) nwc (But.upd (o := .ins Cc dxc (cf w dd l1 ta)))
      have hc4 : (upd H3 c (.ins Cc dxc (cf w dd l1 ta))) c = some (.ins Cc dxc (cf w dd l1 ta)) := upd_same
      generalize upd H3 c (.ins Cc dxc (cf w dd l1 ta)) = H4 at b3 hl3 hD3 ra3 hw4 hc4 ⊢
      obtain ⟨dxw4, tw4, w41, tas4, w42, w43⟩ := id hw4
      refine ⟨_, rfl, _, rfl, w, W, dxw4, _, _, rfl, w41, TW.cl, TW.nH, wf_h _ _, _, rfl, noP ⟨D0, _, rfl, SqL.of hD3, fun p2 hp2 => ⟨p2, _, rfl, .inl ⟨SqL.of upd_same, fun l2 hl2 => ?_⟩⟩⟩⟩
      rw [cut_from (by rw [List.length_map]; omega)] at hl2 ⊢
      have s5 := (same_new (o := HO.lst ((as.map V.ref).drop n)) hp2).trans (same_new (o := HO.tup ((as.map V.ref).drop n)) hl2)
      have hl2' : (upd (upd H4 p2 (.lst ((as.map V.ref).drop n))) l2 (.tup ((as.map V.ref).drop n))) l2 = some (.tup ((as.drop n).map V.ref)) := by rw [upd_same, List.map_drop]
      generalize upd (upd H4 p2 (.lst ((as.map V.ref).drop n))) l2 (.tup ((as.map V.ref).drop n)) = H5 at s5 hl2' ⊢
      refine ⟨_, rfl, c, Cc, dxc, _, rfl, s5 _ _ hc4, T.cl, T.nT, (by show 4 < 1000; decide), ?_⟩
      rw [cf_pt]
      have nc5 : ∀ {a : Addr} {xs : List V}, H5 a = some (.tup xs) → a ≠ c := fun e z => by rw [z, s5 _ _ hc4] at e; cases e
      have kp5 : ∀ a xs, H5 a = some (.tup xs) → (upd H5 c (.ins Cc dxc (cf w dd l1 l2))) a = some (.tup xs) := fun a xs e => by rw [upd_ne (nc5 e)]; exact e
      refine ⟨_, rfl, q c _ (fun d o e => ?_) fc ⟨⟨dxc, dd, l1, l2, as.take n, as.drop n, upd_same, kp5 _ _ (s5 _ _ hl3), kp5 _ _ hl2', ?_, ?_⟩, (hw4.same s5).but (s5 _ _ hc4) nwc But.upd, nwc⟩⟩
      · have nd := ne_of_none e fc
        rw [upd_ne nd]
        exact s5 _ _ (b3 _ _ (s2 _ _ (s1 _ _ e)) nd)
      · have r5 := (ra3.same s5).kp kp5
        refine ⟨by rw [List.length_take, la]; simp [rowsS]; omega, fun i a r e1 e2 => ?_⟩
        have hi : i < n := by have := lt_at e2; simp [rowsS] at this; exact this
        rw [List.getElem?_take, if_pos hi] at e1
        rw [rowsS, rows_at hi] at e2
        obtain rfl := Option.some.inj e2
        have e3 : ((List.range N).map (dlt N))[i]? = some (rowS n ts [] i) := by
          rw [rows_at (by omega)]
          congr 1
          unfold dlt rowS
          rw [eN]
          refine List.map_congr_left fun j hj => ?_
          show _ = (unS n ts.length j).1.getD i 0
          rw [un_s, if_pos hi]
          by_cases z : j = i
          · rw [if_pos z, if_pos z.symm]
          · rw [if_neg z, if_neg fun q => z q.symm]
        exact r5.2 i a _ e1 e3
      · have r5 := (ra3.same s5).kp kp5
        refine ⟨by rw [List.length_drop, la]; simp [rowsA]; omega, fun i a r e1 e2 => ?_⟩
        have hi : i < ts.length := by have := lt_at e2; simp [rowsA] at this; exact this
        rw [List.getElem?_drop] at e1
        rw [rowsA, rows_at hi] at e2
        obtain rfl := Option.some.inj e2
        have e3 : ((List.range N).map (dlt N))[n + i]? = some (rowA n ts [] i) := by
          rw [rows_at (by omega)]
          congr 1
          unfold dlt rowA
          rw [eN]
          refine List.map_congr_left fun j hj => ?_
          show _ = (unS n ts.length j).2.getD i 0
          rw [un_a, if_pos hi]
          by_cases z : j = n + i
          · rw [if_pos z, if_pos z.symm]
          · rw [if_neg z, if_neg fun q => z q.symm]
        exact r5.2 (n + i) a _ e1 e3
end
end K1
namespace K1
open PySem PySem.Spec PyProof.Rows L2
/-- what a turn of a while leaves to show -/
def WT (Pv : L2.St → Hp → Prop) (μ : L2.St → Hp → Nat) (tb : TS) (D : Ends) (σ : L2.St) (H H1 : Hp) : Prop := ∃ N : L2.St → Hp → Prop, (∀ σ' H', N σ' H' → ∃ m', m' < μ σ H ∧ m' = μ σ' H' ∧ Pv σ' H') ∧ tb { D with nx := N, ct := N, bk := D.nx } σ H1
theorem while_D {c : TT} {tb : TS} {D : Ends} {σ : L2.St} {H : Hp} (Pv : L2.St → Hp → Prop) (μ : L2.St → Hp → Nat) (h0 : Pv σ H)
    (hs : ∀ σ H, Pv σ H → c σ H fun b H1 => if b = true then WT Pv μ tb D σ H H1 else D.nx σ H1) : tWhile c tb D σ H :=
  ⟨fun m σ H => m = μ σ H ∧ Pv σ H, ⟨_, rfl, h0⟩, fun m σ H ⟨e, p⟩ => by subst e; exact hs σ H p⟩
theorem whT {tb : TS} {D : Ends} {σ : L2.St} {H H1 : Hp} {Pv : L2.St → Hp → Prop} {μ : L2.St → Hp → Nat} (h : tb { D with nx := fun σ' H' => Pv σ' H' ∧ μ σ' H' < μ σ H, ct := fun σ' H' => Pv σ' H' ∧ μ σ' H' < μ σ H, bk := D.nx } σ H1) : WT Pv μ tb D σ H H1 :=
  ⟨_, fun σ' H' ⟨p', l⟩ => ⟨_, l, rfl, p'⟩, h⟩
/-- whether a tie and its houses are alike, by rows -/
def bR (ts : Prs) (hs rs : Rws) (t : Nat) : Bool := match ts[t]? with
  | some p => decide (hs[p.1]? = hs[p.2]?) && decide (hs[p.2]? = rs[t]?)
  | none => true
theorem bR_all (ts : Prs) (hs rs : Rws) : ((List.range ts.length).map (bR ts hs rs)).all id = true ↔ AlR ts hs rs := by
  rw [List.all_eq_true]
  constructor
  · intro h t p hp
    have := h (bR ts hs rs t) (List.mem_map.mpr ⟨t, List.mem_range.mpr (lt_at hp), rfl⟩)
    unfold bR at this
    rw [hp] at this
    simpa using this
  · rintro h b hb
    obtain ⟨t, ht, rfl⟩ := List.mem_map.mp hb
    obtain ⟨p, hp⟩ := ex_at (List.mem_range.mp ht)
    show bR ts hs rs t = true
    unfold bR
    rw [hp]
    have := h t p hp
    simpa using this
theorem pl_row {r : List Int} (h1 : r.length ≤ 40) (h2 : ∀ x ∈ r, Sm x) : Pl (.tuple (dI r)) 1 10000 := (Pl.tuple (pla_ints r fun i hi => by have := h2 i hi; unfold Sm at this; omega)).mono (by decide) (by omega)
section
variable {P : Program} {w : World} {K : PySem.W.Frag} {mg : Str → Option Value} {base : Heap}
theorem ok_alikeR {f W : Addr} {fd : FuncData} (D : Df K mg "is_alike" sIsAlike ["web", "houses", "ties"] f fd) (B : Bt mg) (T : WcT K mg W) : FnOk P w K mg base CX0 1 f fd ["web", "houses", "ties"] (spAlikeR W) := by
  refine D.F.ok scAk (fun vs H Q E h => ?_) (fun cdv A outer s H vs Q E hr h => ?_)
  · obtain ⟨w, ha, ta, n, ts, as, bs, hs, rs, rfl, _⟩ := h
    rfl
  · obtain ⟨w, sa, aa, n, ts, as, bs, hs, rs, rfl, ⟨dx, ta, h1, tas, g1, g2⟩, hW, hsa, haa, rh, rt, lh, lr, p1, p2, q⟩ := h
    have hu : (A.deeper (envOfC "is_alike" (defScope sIsAlike) s.heap.objs.size f cdv)).units + 64 < cLine := hr.units
    refine ⟨_, pss_one (ps_ret (pe_callB (cr_all rfl) (by rfl) B.all (by decide +kernel) (pa_cons (pe_lc (own := [("tie", 3), ("one", 4), ("other", 5)]) (g := gTup K 2 (gCons (gName 3) (gCons (gTup K 2 (gCons (gName 4) (gCons (gName 5) gNil))) gNil))) (tt := tYes) rfl scAk.nd (pi_enumA (by rfl) B.enumerate (pa_cons (pe_fld (pv 0) rfl) pa_nil)) (blkOk_by (N := nAk) (sc := defScope sIsAlike) (by decide +kernel))
      (fun _ _ _ _ _ => pg_tup rfl (pgs_cons (pg_name (i := 3) scAk.nd rfl (.inl rfl)) (pgs_cons (pg_tup rfl (pgs_cons (pg_name (i := 4) scAk.nd rfl (.inl rfl)) (pgs_cons (pg_name (i := 5) scAk.nd rfl (.inl rfl)) pgs_nil))) pgs_nil)))
      (fun _ _ _ _ _ => pts_nil)
      (fun _ _ _ _ _ => pe_chain (eqD (K := K) rfl hu) (eqD (K := K) rfl hu) (pe_ix (ixTK (K := K) rfl) (pv 1) (pv 4) (fun _ _ => rfl)) (pe_ix (ixTK (K := K) rfl) (pv 1) (pv 5) (fun _ _ => rfl)) (pe_ix (ixTK (K := K) rfl) (pv 2) (pv 3) (fun _ _ => rfl)))) pa_nil))), ?_⟩
    have n12 := hW.n12
    have t20 := hW.t20
    refine ⟨_, rfl, w, W, dx, _, _, rfl, h1, T.cl, T.nT, wf_t _ _, ta, rfl, .inr ⟨_, SqT.of g1, fun D0 hD0 => lc_enumT (K := K) (a := ta) (xs := tas.map V.ref)
      (fun i H2 => Same H H2 ∧ H2 D0 = some (.lst (((List.range i).map (bR ts hs rs)).map V.bl))) ⟨same_new hD0, by rw [upd_same]; rfl⟩ (fun i H2 _ ⟨s2, _⟩ => SqT.of (s2 _ _ g1)) ?_ ?_⟩⟩
    · rintro i x T0 H2 hx hT0 ⟨s2, hD2⟩
      obtain ⟨a, t, rfl, ha', ht, hat⟩ := g2.get' hx
      obtain ⟨p1', p2', p3'⟩ := hW.at_ ht
      have sT := same_new (o := HO.tup [.int (i : Nat), .ref a]) hT0
      have hat2 : (upd H2 T0 (.tup [.int (i : Nat), .ref a])) a = some (.tup [.int (t.1 : Int), .int (t.2 : Int)]) := sT _ _ (s2 _ _ hat)
      have hD2' := sT _ _ hD2
      have s2' := s2.trans sT
      have hT2 : (upd H2 T0 (.tup [.int (i : Nat), .ref a])) T0 = some (.tup [.int (i : Nat), .ref a]) := upd_same
      generalize upd H2 T0 (.tup [.int (i : Nat), .ref a]) = H3 at hat2 hD2' s2' hT2 ⊢
      have it := lt_at ht
      obtain ⟨r1, hr1⟩ := ex_at (l := hs) (i := t.1) (by omega)
      obtain ⟨r2, hr2⟩ := ex_at (l := hs) (i := t.2) (by omega)
      obtain ⟨r3, hr3⟩ := ex_at (l := rs) (i := i) (by omega)
      obtain ⟨a1, ea1, ha1⟩ := rh.get hr1
      obtain ⟨a2, ea2, ha2⟩ := rh.get hr2
      obtain ⟨a3, ea3, ha3⟩ := rt.get hr3
      obtain ⟨u1, v1⟩ := p1 r1 (List.mem_of_getElem? hr1)
      obtain ⟨u2, v2⟩ := p1 r2 (List.mem_of_getElem? hr2)
      obtain ⟨u3, v3⟩ := p2 r3 (List.mem_of_getElem? hr3)
      refine ⟨T0, _, rfl, SqT.of hT2, rfl, _, _, rfl, _, _, rfl, ⟨a, _, rfl, SqT.of hat2, rfl, _, _, rfl, _, _, rfl, rfl, rfl, rfl, ?_⟩⟩
      have hs3 := s2' _ _ hsa
      have ha3' := s2' _ _ haa
      refine ⟨_, rfl, _, rfl, sa, _, (t.1 : Int), .ref a1, rfl, rfl, SqT.of hs3, at_i (map_at ea1), _, rfl, _, rfl, sa, _, (t.2 : Int), .ref a2, rfl, rfl, SqT.of hs3, at_i (map_at ea2), _, _, dp_tup (s2' _ _ ha1), dp_tup (s2' _ _ ha2), (pl_row u1 v1).shaped (by decide), (pl_row u2 v2).shaped (by decide), _, rfl, ?_⟩
      have eR : bR ts hs rs i = (decide (r1 = r2) && decide (r2 = r3)) := by
        unfold bR
        rw [ht]
        show (decide (hs[t.1]? = hs[t.2]?) && decide (hs[t.2]? = rs[i]?)) = _
        rw [hr1, hr2, hr3]
        simp
      have fin : ∀ b : Bool, b = bR ts hs rs i → ∃ acc, H3 D0 = some (.lst acc) ∧ acc.length < sizeLine ∧ Same H (upd H3 D0 (.lst (acc ++ [V.bl b]))) ∧ (upd H3 D0 (.lst (acc ++ [V.bl b]))) D0 = some (.lst (((List.range (i + 1)).map (bR ts hs rs)).map V.bl)) := fun b eb => by
        refine ⟨_, hD2', szl (by rw [List.length_map, List.length_map, List.length_range]; omega), fun c o eo => ?_, ?_⟩
        · rw [upd_ne (ne_of_none eo hD0)]
          exact s2' _ _ eo
        · rw [upd_same, List.range_succ, List.map_append, List.map_append, eb]; rfl
      rw [eqv_tupI]
      by_cases e : r1 = r2
      · rw [decide_eq_true e]
        refine iteT ⟨_, rfl, _, rfl, aa, _, (i : Int), .ref a3, rfl, rfl, SqT.of ha3', at_i (map_at ea3), _, _, dp_tup (s2' _ _ ha2), dp_tup (s2' _ _ ha3), (pl_row u2 v2).shaped (by decide), (pl_row u3 v3).shaped (by decide), ?_⟩
        rw [eqv_tupI]
        refine fin _ ?_
        rw [eR, decide_eq_true e, Bool.true_and]
      · rw [decide_eq_false e]
        refine iteF (fin _ ?_)
        rw [eR, decide_eq_false e, Bool.false_and]
    · rintro H2 ⟨s2, hD2⟩
      rw [List.length_map, g2.1] at hD2
      exact ⟨D0, _, rfl, SqL.of hD2, q _ H2 s2 (bR_all ts hs rs)⟩
theorem scRA : FnScope ["web", "turns", "order", "counts", "meetings"] ["web", "turns"] (defScope sRestAfter) := ⟨rfl, rfl, rfl, by decide +kernel, rfl, by decide +kernel, by decide +kernel⟩
theorem ok_ra {f fF fK fO fA fM W Cc C : Addr} {fd fdF fdK fdO fdA fdM : FuncData} (D : Df K mg "rest_after" sRestAfter ["web", "turns"] f fd) (DF : Df K mg "need_forest" sNeedForest ["web"] fF fdF) (DK : Df K mg "check_turns" sCheckTurns ["web", "value"] fK fdK) (DO : Df K mg "own_counts" sOwnCounts ["web"] fO fdO) (DA : Df K mg "is_alike" sIsAlike ["web", "houses", "ties"] fA fdA) (B : Bt mg) (T : CcT K mg Cc)
    (mM : Meth K Cc "meet" fM) (bM : Binds K fdM ["self", "tie"] []) (GF : FnOk P w K mg base (L2.CX P w) 8 fF fdF ["web"] (spNeedFo W C)) (GK : FnOk P w K mg base (L2.CX P w) 4 fK fdK ["web", "value"] (spChk K W C)) (GO : FnOk P w K mg base CX0 3 fO fdO ["web"] (spOwn Cc W)) (GA : FnOk P w K mg base CX0 1 fA fdA ["web", "houses", "ties"] (spAlikeR W)) (GM : FnOk P w K mg base CX0 2 fM fdM ["self", "tie"] (spKMeet Cc W)) :
    FnOk P w K mg base (L2.CX P w) 9 f fd ["web", "turns"] (spRA K W C) := by
  refine D.F.okX scRA (fun vs H Q E h => ?_) (fun cdv A outer s H vs Q E hr h => ?_)
  · obtain ⟨w, v, o, n, ts, rfl, _⟩ := h
    rfl
  · obtain ⟨w, v, o, n, ts, rfl, hw, hW, hv, q⟩ := h
    have r1 := hr.mono (show 1 ≤ 8 by decide)
    have r2 := hr.mono (show 2 ≤ 8 by decide)
    have r3 := hr.mono (show 3 ≤ 8 by decide)
    have r4 := hr.mono (show 4 ≤ 8 by decide)
    refine ⟨_, pss_cons (ps_set (i := 2) scRA.nd rfl (.inl rfl) (pc DK GK r4 (pass1 (takes_of rfl rfl rfl rfl)) (pa_cons (pc DF GF hr (pass1 (takes_of rfl rfl rfl rfl)) (pa_cons (pv 0) pa_nil)) (pa_cons (pv 1) pa_nil))))
      (pss_cons (ps_set (i := 3) scRA.nd rfl (.inl rfl) (pc DO GO r3 pass0 (pa_cons (pv 0) pa_nil)))
      (pss_cons (ps_set (i := 4) scRA.nd rfl (.inl rfl) pe_int)
      (pss_cons (ps_while (passes_of rfl) (pt_not (pt_val (pc DA GA r1 pass0 (pa_cons (pv 0) (pa_cons (pe_fld (pv 3) rfl) (pa_cons (pe_fld (pv 3) rfl) pa_nil))))))
        (pss_cons (ps_expr (pe_meth (pv 3) T.cl mM GM r2 bM .nil pass0 (pa_cons (pe_ix ix_tup (pv 2) (pe_op op_mod (pv 4) (pe_callB call_len_seq (by rfl) B.len PySem.boot_len (pa_cons (pv 2) pa_nil))) (fun _ _ => rfl)) pa_nil)))
        (pss_one (ps_aug (i := 4) scRA.nd rfl (.inl rfl) pe_int ip_add))))
      (pss_one (ps_ret (pv 4)))))), ?_⟩
    refine ⟨_, rfl, w, n, ts, rfl, hw, hW, ?_⟩
    rcases q with ⟨R, q⟩ | ⟨rk, fo, q⟩
    · exact .inr ⟨R, q⟩
    refine .inl ⟨⟨rk, fo⟩, fun H1 s1 => ?_⟩
    refine ⟨_, rfl, w, v, o, n, ts, rfl, hw.same s1, hW, hv.same s1, ?_⟩
    rcases q with ⟨b, q⟩ | ⟨tu, eo, g, q⟩
    · exact .inr ⟨b, q.of_same s1⟩
    refine .inl ⟨tu, eo, g, fun p H2 s2 hp => ?_⟩
    have s12 := s1.trans s2
    refine gn ?_
    dsimp only [List.set]
    refine ⟨_, rfl, w, n, ts, rfl, hw.same s12, hW, fun c H3 s3 hc0 hK => ?_⟩
    have fc : H c = none := s12.free hc0
    have s13 := s12.trans s3
    have hp3 := s3 _ _ hp
    refine gn ?_
    dsimp only [List.set]
    refine gn ?_
    dsimp only [List.set]
    have n12 := hW.n12
    have t20 := hW.t20
    have nd : tu.length = ts.length := g.2.1
    refine while_D (fun σ H' => ∃ k : Nat, σ = [some (.ref w), some v, some (.ref p), some (.ref c), some (.int (k : Int))] ∧ Same H H' ∧ H' p = some (.tup (vn tu)) ∧ KAt Cc W H' c w n ts (rowsS n ts (cyc tu k)) (rowsA n ts (cyc tu k)) ∧ (∀ j, j < k → ¬ ∀ i, i < n + ts.length → Alk ts (U n ts i (cyc tu j))) ∧ k ≤ n * ts.length)
      (fun σ _ => match σ[4]? with | some (some (V.int i)) => n * ts.length - i.toNat | _ => 0) ⟨0, rfl, s13, hp3, hK, fun j hj => absurd hj (Nat.not_lt_zero _), Nat.zero_le _⟩ ?_
    rintro σ H4 ⟨k, rfl, s4, hp4, hK4, hj, hk⟩
    obtain ⟨dx, dd, ha, ta, as, bs, k1, k2, k3, k4, k5⟩ := hK4.ob
    have smS : ∀ r ∈ rowsS n ts (cyc tu k), r.length ≤ 40 ∧ ∀ x ∈ r, Sm x := fun r hr' => by
      obtain ⟨x, hx, rfl⟩ := List.mem_map.mp hr'
      refine ⟨by simp [rowS]; omega, fun y hy => ?_⟩
      obtain ⟨i, hi, rfl⟩ := List.mem_map.mp hy
      exact (U_sm hW fo (List.mem_range.mp hi) _).1 x
    have smA : ∀ r ∈ rowsA n ts (cyc tu k), r.length ≤ 40 ∧ ∀ x ∈ r, Sm x := fun r hr' => by
      obtain ⟨x, hx, rfl⟩ := List.mem_map.mp hr'
      refine ⟨by simp [rowA]; omega, fun y hy => ?_⟩
      obtain ⟨i, hi, rfl⟩ := List.mem_map.mp hy
      exact (U_sm hW fo (List.mem_range.mp hi) _).2 x
    refine ⟨_, rfl, _, rfl, c, Cc, dx, _, _, rfl, k1, T.cl, T.nH, cf_h _ _ _ _, _, rfl, c, Cc, dx, _, _, rfl, k1, T.cl, T.nT, cf_t _ _ _ _, w, ha, ta, n, ts, as, bs, _, _, rfl, hK4.wb, hW, k2, k3, k4, k5, by simp [rowsS], by simp [rowsA], smS, smA, fun b H5 s5 hb => ⟨b, rfl, ?_⟩⟩
    rw [alR_iff hW] at hb
    cases b with
    | true =>
      refine iteF ?_
      exact ⟨_, rfl, q k H5 (s4.trans s5) ⟨hb.mp rfl, hj⟩ hk⟩
    | false =>
      refine iteT (whT ?_)
      have nb : ¬ ∀ i, i < n + ts.length → Alk ts (U n ts i (cyc tu k)) := fun z => by cases hb.mpr z
      have hk2 : k < n * ts.length := by
        rcases Nat.lt_or_ge k (n * ts.length) with z | z
        · exact z
        · exfalso
          have : k = n * ts.length := by omega
          refine nb fun i hi => ?_
          rw [this, ← nd]
          exact U_rest hW fo (good_mem g) hi
      have L0 : 0 < ts.length := by
        rcases Nat.eq_zero_or_pos ts.length with z | z
        · rw [z, Nat.mul_zero] at hk2; omega
        · exact z
      obtain ⟨t, ht, tl, ec⟩ := cyc_tie (k := k) g L0
      refine ⟨_, rfl, c, dx, _, rfl, s5 _ _ k1, cf_m _ _ _ _, _, rfl, _, rfl, _, rfl, p, _, rfl, .inr (SqT.of (s5 _ _ hp4)), _, _, rfl, rfl, ?_⟩
      rw [vn_len, nd]
      refine ⟨by omega, p, _, _, .int (t : Int), rfl, rfl, SqT.of (s5 _ _ hp4), ?_, c, w, n, ts, cyc tu k, t, rfl, hK4.same s5, hW, tl, fun H6 b6 hK6 => ?_⟩
      · rw [modN]
        exact at_i (vn_at ht)
      have s6 : Same H H6 := fun d u e => b6 _ _ (s5 _ _ (s4 _ _ e)) (ne_of_none e fc)
      have npc : p ≠ c := fun z => by
        rw [z, k1] at hp4
        cases hp4
      rw [← ec] at hK6
      refine ⟨_, rfl, _, _, rfl, rfl, ?_⟩
      refine ⟨⟨k + 1, rfl, s6, b6 _ _ (s5 _ _ hp4) npc, hK6, fun j hj' => ?_, hk2⟩, ?_⟩
      · by_cases c' : j = k
        · rw [c']; exact nb
        · exact hj j (by omega)
      · show n * ts.length - ((k : Int) + 1).toNat < n * ts.length - (k : Int).toNat
        omega
abbrev nTH : List Str := ["web", "turns", "house", "other", "order", "one", "heard", "meetings", "two"]
theorem scTH : FnScope nTH ["web", "turns", "house", "other"] (defScope sTurnsHeard) := ⟨rfl, rfl, rfl, by decide +kernel, rfl, by decide +kernel, by decide +kernel⟩
/-- a list of bools that tells who heard -/
def bls (n : Nat) (f : Nat → Bool) : List V := (List.range n).map fun x => V.bl (f x)
theorem bls_at {n x : Nat} {f : Nat → Bool} (h : x < n) : (bls n f)[x]? = some (.bl (f x)) := rows_at h
theorem bls_len (n : Nat) (f : Nat → Bool) : (bls n f).length = n := by simp [bls]
theorem bls_heard {n : Nat} {ts : Prs} (hW : Wv n ts) {f : Nat → Bool} {t : Nat} {p : Nat × Nat} (hp : ts[t]? = some p) : ((bls n f).set p.1 (.bl (f p.1 || f p.2))).set p.2 (.bl (f p.1 || f p.2)) = bls n (heardF ts f t) := by
  obtain ⟨p1, p2, _⟩ := hW.at_ hp
  refine List.ext_getElem? fun x => ?_
  rw [List.getElem?_set, List.getElem?_set, List.length_set, bls_len]
  by_cases hx : x < n
  · rw [bls_at (f := f) hx, bls_at (f := heardF ts f t) hx, heardF_some hp]
    by_cases c2 : p.2 = x
    · rw [if_pos c2, if_pos p2, if_pos (.inr c2.symm)]
    · rw [if_neg c2]
      by_cases c1 : p.1 = x
      · rw [if_pos c1, if_pos p1, if_pos (.inl c1.symm)]
      · rw [if_neg c1, if_neg (by omega)]
  · rw [if_neg (by omega), if_neg (by omega), List.getElem?_eq_none (by rw [bls_len]; omega), List.getElem?_eq_none (by rw [bls_len]; omega)]
theorem ok_th {f fK fN fP W CH CR : Addr} {fd fdK fdN fdP : FuncData} (D : Df K mg "turns_heard" sTurnsHeard ["web", "turns", "house", "other"] f fd) (DK : Df K mg "check_turns" sCheckTurns ["web", "value"] fK fdK) (DN : Df K mg "need_house" sNeedH ["web", "house"] fN fdN) (DP : Df K mg "part_of" sPart ["web", "house"] fP fdP) (B : Bt mg) (T : WcT K mg W)
    (GK : FnOk P w K mg base (L2.CX P w) 4 fK fdK ["web", "value"] (spChk K W CR)) (GN : FnOk P w K mg base (L2.CX P w) 3 fN fdN ["web", "house"] (spNeedH K W CH)) (GP : FnOk P w K mg base (L2.CX P w) 4 fP fdP ["web", "house"] (spPart K W CH)) : FnOk P w K mg base (L2.CX P w) 5 f fd ["web", "turns", "house", "other"] (spTH K W CH CR) := by
  refine D.F.okX scTH (fun vs H Q E h => ?_) (fun cdv A outer s H vs Q E hr h => ?_)
  · obtain ⟨w, v, vh, vo, o, oh, oo, n, ts, rfl, _⟩ := h
    rfl
  · obtain ⟨w, v, vh, vo, o, oh, oo, n, ts, rfl, hw, hW, hv, kh, ko, q⟩ := h
    have r3 := hr.mono (show 3 ≤ 4 by decide)
    refine ⟨_, pss_cons (ps_set (i := 4) scTH.nd rfl (.inl rfl) (pc DK GK hr (pass1 (takes_of rfl rfl rfl rfl)) (pa_cons (pv 0) (pa_cons (pv 1) pa_nil))))
      (pss_cons (ps_expr (pc DN GN r3 (pass1 (takes_of rfl rfl rfl rfl)) (pa_cons (pv 0) (pa_cons (pv 2) pa_nil))))
      (pss_cons (ps_expr (pc DN GN r3 (pass1 (takes_of rfl rfl rfl rfl)) (pa_cons (pv 0) (pa_cons (pv 3) pa_nil))))
      (pss_cons (ps_if (pt_cmpR op_notIn_seq (pv 3) (pc DP GP hr (pass1 (takes_of rfl rfl rfl rfl)) (pa_cons (pv 0) (pa_cons (pv 2) pa_nil))) rfl) (pss_one (ps_ret pe_non)) pss_nil)
      (pss_cons (ps_setLc (i := 6) (own := [("one", 5)]) (g := gName 5) (tt := tYes) rfl scTH.nd rfl rfl (sw_true rfl rfl rfl rfl) (pi_range1 (by rfl) B.range (pa_cons (pe_fld (pv 0) rfl) pa_nil)) (blkOk_by (N := nTH) (sc := defScope sTurnsHeard) (by decide +kernel)) (fun _ _ _ _ _ => pg_name (i := 5) scTH.nd rfl (.inl rfl)) (fun _ _ _ _ _ => pts_nil)
        (fun _ _ _ _ _ => pe_cmpR op_eq (pv 5) (pv 2) (nomark _)))
      (pss_cons (ps_set (i := 7) scTH.nd rfl (.inl rfl) pe_int)
      (pss_cons (ps_while (passes_of rfl) (pt_not (pt_truthK (K := K) rfl (pe_ix ix_list (pv 6) (pv 3) (fun _ _ => rfl))))
        (pss_cons (ps_asg (pe_ix ix_tup (pe_fld (pv 0) rfl) (pe_ix ix_tup (pv 4) (pe_op op_mod (pv 7) (pe_callB call_len_seq (by rfl) B.len PySem.boot_len (pa_cons (pv 4) pa_nil))) (fun _ _ => rfl)) (fun _ _ => rfl)) (pg_tup rfl (pgs_cons (pg_name (i := 5) scTH.nd rfl (.inl rfl)) (pgs_cons (pg_name (i := 8) scTH.nd rfl (.inl rfl)) pgs_nil))))
        (pss_cons (ps_asg2 (pe_orT (pe_ix ix_list (pv 6) (pv 5) (fun _ _ => rfl)) (pe_one (pe_ix ix_list (pv 6) (pv 8) (fun _ _ => rfl)))) (pg_sub (pv 6) (pv 5) set_list) (pg_sub (pv 6) (pv 8) set_list))
        (pss_one (ps_aug (i := 7) scTH.nd rfl (.inl rfl) pe_int ip_add)))))
      (pss_one (ps_ret (pv 7))))))))), ?_⟩
    refine ⟨_, rfl, _, rfl, w, v, o, n, ts, rfl, hw, hW, hv, ?_⟩
    rcases q with ⟨b, q⟩ | ⟨tu, eo, g, q⟩
    · exact .inr ⟨b, q⟩
    refine .inl ⟨tu, eo, g, fun p H1 s1 hp => ?_⟩
    refine gn ?_
    dsimp only [List.set]
    refine ⟨_, rfl, _, rfl, w, vh, oh, n, ts, rfl, hw.same s1, kh.same s1, fun hb => ?_, fun hb => ?_⟩
    rotate_left
    · rcases q with ⟨_, q⟩ | ⟨h, rfl, hn, _⟩
      · exact q.of_same s1
      · exact (below_bad hn hb).elim
    obtain ⟨h, rfl, hn⟩ := below_nat hb
    rcases q with ⟨z, _⟩ | ⟨h', eh, hn', q⟩
    · rw [hb] at z; cases z
    injection eh with eh
    obtain rfl : h = h' := by omega
    refine ⟨_, rfl, _, rfl, w, vo, oo, n, ts, rfl, hw.same s1, ko.same s1, fun hb2 => ?_, fun hb2 => ?_⟩
    rotate_left
    · rcases q with ⟨_, q⟩ | ⟨y, rfl, hy, _⟩
      · exact q.of_same s1
      · exact (below_bad hy hb2).elim
    obtain ⟨y, rfl, hy⟩ := below_nat hb2
    rcases q with ⟨z, _⟩ | ⟨y', ey, hy', q1, q2⟩
    · rw [hb2] at z; cases z
    injection ey with ey
    obtain rfl : y = y' := by omega
    have n12 := hW.n12
    have t20 := hW.t20
    refine ⟨_, rfl, _, rfl, _, rfl, w, .int (h : Int), none, n, ts, rfl, hw.same s1, hW, .int _, fun hb => absurd hb fun z => below_bad hn z, fun h' eh' _ ns pp H2 s2 hpp PL => ?_⟩
    injection eh' with eh'
    obtain rfl : h = h' := by omega
    have s12 := s1.trans s2
    refine ⟨pp, vn ns, rfl, .inr (SqT.of hpp), rfl, flat_vn ns, _, rfl, ?_⟩
    simp only [if_true]
    rw [inV_vn]
    by_cases cy : y ∈ ns
    · have cn : Cn ts h y := (PL.mem y).mp cy
      rw [decide_eq_true cy]
      refine iteF (nxP ?_)
      obtain ⟨dxw, tw, w1, tas, w2, w3⟩ := id (hw.same s12)
      refine ⟨_, rfl, w, W, dxw, _, _, rfl, w1, T.cl, T.nH, wf_h _ _, (n : Int), rfl, by omega, by omega, fun D0 hD0 => lc_range (fun i H' => Same H2 H' ∧ H' D0 = some (.lst (bls i fun x => decide (x = h)))) ⟨same_new hD0, upd_same⟩ ?_ ?_⟩
      · rintro i H3 hi ⟨s3, hD3⟩
        refine ⟨rfl, _, rfl, _, rfl, rfl, _, hD3, szl (by rw [bls_len]; omega), fun c o e => ?_, ?_⟩
        · rw [upd_ne (ne_of_none e hD0)]
          exact s3 _ _ e
        · rw [upd_same, bls, bls, List.range_succ, List.map_append]
          congr 3
          show [V.bl _] = [V.bl _]
          congr 2
          rw [decide_eq_decide]
          constructor
          · intro z
            injection z with z
            omega
          · intro z
            rw [z, Int.zero_add]
      · rintro H3 ⟨s3, hD3⟩
        have en : ((n : Int) - 0).toNat = n := by omega
        first | rw [en] at hD3 | rw [Int.toNat_natCast] at hD3
        refine gn ?_
        dsimp only [List.set]
        refine gn ?_
        dsimp only [List.set]
        have fD : H D0 = none := s12.free hD0
        have s13 := s12.trans s3
        have hp3 := s3 _ _ (s2 _ _ hp)
        refine while_D (fun σ H' => ∃ (k : Nat) (v5 v8 : Option V), σ = [some (.ref w), some v, some (.int (h : Int)), some (.int (y : Int)), some (.ref p), v5, some (.ref D0), some (.int (k : Int)), v8] ∧ Same H H' ∧ H' p = some (.tup (vn tu)) ∧ H' D0 = some (.lst (bls n (hear ts h (cyc tu k)))) ∧ (∀ j, j < k → ¬ hear ts h (cyc tu j) y = true) ∧ k ≤ (n - 1) * ts.length)
          (fun σ _ => match σ[7]? with | some (some (V.int i)) => (n - 1) * ts.length - i.toNat | _ => 0) ⟨0, _, _, rfl, s13, hp3, hD3, fun j hj => absurd hj (Nat.not_lt_zero _), Nat.zero_le _⟩ ?_
        rintro σ H4 ⟨k, v5, v8, rfl, s4, hp4, hD4, hj, hk⟩
        refine ⟨_, rfl, _, rfl, D0, _, (y : Int), .bl (hear ts h (cyc tu k) y), rfl, rfl, SqL.of hD4, at_i (bls_at hy), hear ts h (cyc tu k) y, rfl, ?_⟩
        cases eh : hear ts h (cyc tu k) y with
        | true =>
          refine iteF ?_
          exact ⟨_, rfl, q2 k H4 s4 cn ⟨eh, hj⟩ hk⟩
        | false =>
          refine iteT (whT ?_)
          have nb : ¬ hear ts h (cyc tu k) y = true := by rw [eh]; exact Bool.false_ne_true
          have nd : tu.length = ts.length := g.2.1
          have hk2 : k < (n - 1) * ts.length := by
            rcases Nat.lt_or_ge k ((n - 1) * ts.length) with z | z
            · exact z
            · exfalso
              have : k = (n - 1) * ts.length := by omega
              refine nb ?_
              rw [this, ← nd]
              exact hear_all hW hn (good_mem g) cn
          have L0 : 0 < ts.length := by
            rcases Nat.eq_zero_or_pos ts.length with z | z
            · rw [z, Nat.mul_zero] at hk2; omega
            · exact z
          obtain ⟨t, ht, tl, ec⟩ := cyc_tie (k := k) g L0
          obtain ⟨pr, hpr⟩ := ex_at tl
          obtain ⟨p1, p2, p3⟩ := hW.at_ hpr
          obtain ⟨dxw, tw, w1, tas, w2, w3⟩ := id (hw.same s4)
          obtain ⟨pa, hpa0, hpa⟩ := w3.get hpr
          have hpa' : H4 pa = some (.tup [.int (pr.1 : Int), .int (pr.2 : Int)]) := hpa
          refine ⟨_, rfl, w, W, dxw, _, _, rfl, w1, T.cl, T.nT, wf_t _ _, _, rfl, _, rfl, _, rfl, p, _, rfl, .inr (SqT.of hp4), _, _, rfl, rfl, ?_⟩
          rw [vn_len, nd]
          refine ⟨by omega, p, _, _, .int (t : Int), rfl, rfl, SqT.of hp4, (by rw [modN]; exact at_i (vn_at ht)), tw, _, (t : Int), .ref pa, rfl, rfl, SqT.of w2, at_i (map_at hpa0), pa, _, rfl, SqT.of hpa', rfl, _, _, rfl, _, _, rfl, rfl, ?_⟩
          refine ⟨_, rfl, _, rfl, D0, _, (pr.1 : Int), _, rfl, rfl, SqL.of hD4, at_i (bls_at p1), _, rfl, ?_⟩
          have fin : ∀ b : Bool, b = (hear ts h (cyc tu k) pr.1 || hear ts h (cyc tu k) pr.2) → (upd (upd H4 D0 (.lst ((bls n (hear ts h (cyc tu k))).set pr.1 (.bl b)))) D0 (.lst (((bls n (hear ts h (cyc tu k))).set pr.1 (.bl b)).set pr.2 (.bl b)))) D0 = some (.lst (bls n (hear ts h (cyc tu (k + 1))))) := fun b eb => by
            rw [upd_same, eb, bls_heard hW hpr, ec, hear_snoc]
          have sm2 : ∀ xs ys, Same H (upd (upd H4 D0 xs) D0 ys) := fun xs ys c o e => by
            rw [upd_ne (ne_of_none e fD), upd_ne (ne_of_none e fD)]
            exact s4 _ _ e
          have hp6 : ∀ xs ys, (upd (upd H4 D0 xs) D0 ys) p = some (.tup (vn tu)) := fun xs ys => by
            have : p ≠ D0 := fun z => by rw [z, hD4] at hp4; cases hp4
            rw [upd_ne this, upd_ne this]
            exact hp4
          have last : ∀ b : Bool, b = (hear ts h (cyc tu k) pr.1 || hear ts h (cyc tu k) pr.2) → ∀ (xs ys : HO) (H6 : Hp) v5 v8, H6 = upd (upd H4 D0 (.lst ((bls n (hear ts h (cyc tu k))).set pr.1 (.bl b)))) D0 (.lst (((bls n (hear ts h (cyc tu k))).set pr.1 (.bl b)).set pr.2 (.bl b))) →
              ∃ (k' : Nat) (v5' v8' : Option V), [some (V.ref w), some v, some (.int (h : Int)), some (.int (y : Int)), some (.ref p), v5, some (.ref D0), some (.int ((k : Int) + 1)), v8] = [some (.ref w), some v, some (.int (h : Int)), some (.int (y : Int)), some (.ref p), v5', some (.ref D0), some (.int (k' : Int)), v8'] ∧ Same H H6 ∧ H6 p = some (.tup (vn tu)) ∧ H6 D0 = some (.lst (bls n (hear ts h (cyc tu k')))) ∧ (∀ j, j < k' → ¬ hear ts h (cyc tu j) y = true) ∧ k' ≤ (n - 1) * ts.length := fun b eb _ _ H6 v5 v8 e6 => by
            subst e6
            refine ⟨k + 1, _, _, rfl, sm2 _ _, hp6 _ _, fin b eb, fun j hj' => ?_, hk2⟩
            by_cases c' : j = k
            · rw [c']; exact nb
            · exact hj j (by omega)
          have mu : (n - 1) * ts.length - ((k : Int) + 1).toNat < (n - 1) * ts.length - (k : Int).toNat := by omega
          cases e1 : hear ts h (cyc tu k) pr.1 with
          | true =>
            refine iteT ?_
            refine ⟨_, rfl, _, rfl, D0, _, (pr.1 : Int), pr.1, rfl, rfl, hD4, ixN_nat (by rw [bls_len]; omega), _, rfl, _, rfl, D0, _, (pr.2 : Int), pr.2, rfl, rfl, upd_same, ixN_nat (by rw [List.length_set, bls_len]; omega), ?_⟩
            exact ⟨_, rfl, _, _, rfl, rfl, last true (by rw [e1]; rfl) (.lst []) (.lst []) _ _ _ rfl, mu⟩
          | false =>
            refine iteF ?_
            refine ⟨_, rfl, _, rfl, D0, _, (pr.2 : Int), _, rfl, rfl, SqL.of hD4, at_i (bls_at p2), ?_⟩
            refine ⟨_, rfl, _, rfl, D0, _, (pr.1 : Int), pr.1, rfl, rfl, hD4, ixN_nat (by rw [bls_len]; omega), _, rfl, _, rfl, D0, _, (pr.2 : Int), pr.2, rfl, rfl, upd_same, ixN_nat (by rw [List.length_set, bls_len]; omega), ?_⟩
            exact ⟨_, rfl, _, _, rfl, rfl, last _ (by rw [e1]; rfl) (.lst []) (.lst []) _ _ _ rfl, mu⟩
    · rw [decide_eq_false cy]
      refine iteT ?_
      exact q1 H2 s12 fun c => cy ((PL.mem y).mpr c)
end
end K1
namespace K1
open PySem PySem.Spec PyProof.Rows L2
theorem erase_perm {α : Type} : ∀ (l : List α) (i : Nat) (h : i < l.length), (l[i] :: l.eraseIdx i).Perm l
  | a :: l, 0, _ => List.Perm.refl _
  | a :: l, i + 1, h => (List.Perm.swap a (l[i]'(Nat.lt_of_succ_lt_succ h)) (l.eraseIdx i)).trans (.cons a (erase_perm l i (Nat.lt_of_succ_lt_succ h)))
theorem seqI {i n : Nat} (h : i < n) : seqIndex? (i : Int) n = some i := (ixN_seq (by unfold ixN; rw [if_pos (by omega), if_pos (by omega)]; simp)).1
def spMixed (K : PySem.W.Frag) : Sp := fun vs H Q _ => ∃ (b l : Addr) (xs : List V), vs = [.ref b, .ref l] ∧ BoxO H b ∧ SqL K H l xs ∧ l ≠ b ∧ xs.length ≤ 100 ∧ ∀ (r : Addr) (ys : List V) H', Bx b H H' → H r = none → H' r = some (.lst ys) → ys.Perm xs → Q (.ref r) H'
section
variable {P : Program} {w : World} {K : PySem.W.Frag} {mg : Str → Option Value} {base : Heap}
abbrev nMx : List Str := ["_law_box_here", "_law_some", "_law_found", "_law_left", "_law_turn"]
theorem scMx : FnScope nMx ["_law_box_here", "_law_some"] (defScope sLMixed) := ⟨rfl, rfl, rfl, by decide +kernel, rfl, by decide +kernel, by decide +kernel⟩
theorem ok_mixed {f fT : Addr} {fd fdT : FuncData} (D : Df K mg "_law_mixed" sLMixed ["_law_box_here", "_law_some"] f fd) (DT : Df K mg "_law_take" sLTake ["_law_box_here", "_law_many"] fT fdT) (B : Bt mg) (GT : FnOk P w K mg base CX0 1 fT fdT ["_law_box_here", "_law_many"] spTake) :
    FnOk P w K mg base CX0 2 f fd ["_law_box_here", "_law_some"] (spMixed K) := by
  refine D.F.ok scMx (fun vs H Q E h => ?_) (fun cdv A outer s H vs Q E hr h => ?_)
  · obtain ⟨b, l, xs, rfl, _⟩ := h
    rfl
  · obtain ⟨b, l, xs, rfl, hb, hl, nlb, hx, q⟩ := h
    refine ⟨_, pss_cons (ps_par (i := 2) (j := 3) rfl scMx.nd rfl rfl (by decide) rfl rfl (pa_cons (pe_lst pa_nil) (pa_cons (pe_callTy call_list_of (by rfl) B.list PyProof.Rows.boot_list (pa_cons (pv 1) pa_nil)) pa_nil)) rfl)
      (pss_cons (ps_for PassesOwn.never rfl (pi_range1 (by rfl) B.range (pa_cons (pe_callB call_len_seq (by rfl) B.len PySem.boot_len (pa_cons (pv 3) pa_nil)) pa_nil)) (pg_name (i := 4) scMx.nd rfl (.inl rfl))
        (pss_one (ps_expr (pe_bm PySem.F.plainAttrs_list PySem.F.slot_list_append PySem.F.type_list_append mt_append (pv 2) (pa_cons (pe_bm PySem.F.plainAttrs_list PySem.F.slot_list_pop PySem.F.type_list_pop mt_popAt (pv 3) (pa_cons (pc DT GT hr pass0 (pa_cons (pv 0) (pa_cons (pe_callB call_len_seq (by rfl) B.len PySem.boot_len (pa_cons (pv 3) pa_nil)) pa_nil))) pa_nil)) pa_nil)))))
      (pss_one (ps_ret (pv 2)))), ?_⟩
    refine ⟨(by show 0 ≤ sizeLine; decide), fun fl hfl => ?_⟩
    have s1 := same_new (o := HO.lst []) hfl
    have hl1 : SqL K (upd H fl (.lst [])) l xs := by
      rcases hl with (hl | ⟨ob, hl⟩) | hl
      · exact .inl (.inl (s1 _ _ hl))
      · exact .inl (.inr ⟨ob, s1 _ _ hl⟩)
      · exact .inr hl
    refine ⟨_, rfl, l, _, rfl, .inl hl1, fun ll hll => ⟨_, _, rfl, ?_⟩⟩
    have s2 := s1.trans (same_new (o := HO.lst xs) hll)
    have nfl : ll ≠ fl := fun z => by rw [z, upd_same] at hll; cases hll
    have h1 : (upd (upd H fl (.lst [])) ll (.lst xs)) fl = some (.lst []) := by rw [upd_ne nfl.symm, upd_same]
    have h2 : (upd (upd H fl (.lst [])) ll (.lst xs)) ll = some (.lst xs) := upd_same
    have fll : H ll = none := s1.free hll
    have nfb : fl ≠ b := hb.nn hfl
    have nlb2 : ll ≠ b := hb.nn fll
    generalize upd (upd H fl (.lst [])) ll (.lst xs) = H1 at s2 h1 h2 ⊢
    dsimp only [List.set]
    refine ⟨_, rfl, ll, _, rfl, .inl (SqL.of h2), (xs.length : Int), rfl, by omega, by omega, for_range (fun k σ H' => ∃ (v4 : Option V) (left dn : List V), σ = [some (.ref b), some (.ref l), some (.ref fl), some (.ref ll), v4] ∧ Bx b H H' ∧ H' ll = some (.lst left) ∧ H' fl = some (.lst dn) ∧ left.length + k = xs.length ∧ (left ++ dn).Perm xs)
      ⟨none, xs, [], rfl, (Bx.refl hb).same s2, h2, h1, rfl, by rw [List.append_nil]⟩ ?_ ?_⟩
    · rintro k σ H' hk ⟨v4, left, dn, rfl, bx, k3, k4, hn, pm⟩
      have h0l : 0 < left.length := by omega
      have hpm := (pm.length_eq : (left ++ dn).length = xs.length)
      rw [List.length_append] at hpm
      refine ⟨_, rfl, .inl ⟨rfl, _, SqL.of k4⟩, _, rfl, .inl ⟨rfl, _, SqL.of k3⟩, ?_⟩
      refine ⟨_, rfl, _, rfl, ll, _, rfl, .inl (SqL.of k3), b, _, rfl, bx.1, by omega, by omega, fun r H5 z0 z1 bx5 => ?_⟩
      have hk2 : r.toNat < left.length := by omega
      have ek : (r.toNat : Int) = r := by omega
      refine ⟨ll, left, r, r.toNat, _, rfl, rfl, bx5.2 _ _ k3 nlb2, by omega, by omega, by rw [← ek]; exact seqI hk2, List.getElem?_eq_getElem hk2, ?_⟩
      have k45 : upd H5 ll (.lst (left.eraseIdx r.toNat)) fl = some (.lst dn) := by rw [upd_ne nfl.symm]; exact bx5.2 _ _ k4 nfb
      refine ⟨fl, _, _, rfl, rfl, k45, szl (by omega), _, left.eraseIdx r.toNat, dn ++ [left[r.toNat]], rfl, ?_, ?_, ?_, ?_, ?_⟩
      · exact ((bx.trans bx5).put fll nlb2).put hfl nfb
      · rw [upd_ne nfl, upd_same]
      · rw [upd_same]
      · rw [List.length_eraseIdx_of_lt hk2]; omega
      · rw [← List.append_assoc]
        refine (List.perm_append_singleton _ _).trans ?_
        exact ((erase_perm left r.toNat hk2).append_right dn).trans pm
    · rintro σ H' ⟨v4, left, dn, rfl, bx, k3, k4, hn, pm⟩
      obtain rfl : left = [] := List.eq_nil_of_length_eq_zero (by omega)
      rw [List.nil_append] at pm
      exact ⟨_, rfl, q fl dn H' bx hfl k4 pm⟩
end
end K1
namespace K1
open PySem PySem.Spec PyProof.Rows L2
theorem perm_map_inv {α β : Type} {f : α → β} : ∀ {ys : List β} {l : List α}, ys.Perm (l.map f) → ∃ l' : List α, ys = l'.map f ∧ l'.Perm l
  | [], l, h => by
    have := h.length_eq
    rw [List.length_map] at this
    obtain rfl : l = [] := List.eq_nil_of_length_eq_zero this.symm
    exact ⟨[], rfl, .nil⟩
  | y :: ys, l, h => by
    obtain ⟨x, hx, rfl⟩ := List.mem_map.mp (h.mem_iff.mp List.mem_cons_self)
    obtain ⟨l1, l2, rfl⟩ := List.append_of_mem hx
    have h2 : (l1 ++ x :: l2).Perm (x :: (l1 ++ l2)) := List.perm_middle
    have h3 := (h.trans (h2.map f))
    rw [List.map_cons] at h3
    obtain ⟨l', e, p⟩ := perm_map_inv h3.cons_inv
    exact ⟨x :: l', by rw [e]; rfl, (p.cons x).trans h2.symm⟩
theorem rgV_vn (n : Nat) : rgV 0 (n : Int) = vn (List.range n) := by
  unfold rgV vn
  rw [show (((n : Int) - 0).toNat) = n by omega]
  refine List.map_congr_left fun i _ => ?_
  rw [Int.zero_add]
/-- where a house stands among the names -/
def rkN (nm : List Nat) (x : Nat) : Nat := (nm.findIdx? fun y => decide (y = x)).getD 0
theorem rkN_at {nm : List Nat} (nd : nm.Nodup) {i x : Nat} (h : nm[i]? = some x) : rkN nm x = i := by
  unfold rkN
  rw [find_at (p := fun y => decide (y = x)) h (decide_eq_true rfl) fun j y hj hy => decide_eq_false fun z => by
    rw [List.nodup_iff_pairwise_ne, List.pairwise_iff_getElem] at nd
    have l1 := lt_at h
    have l2 := lt_at hy
    rw [List.getElem?_eq_getElem l1] at h
    rw [List.getElem?_eq_getElem l2] at hy
    have := nd j i l2 l1 hj
    rw [Option.some.inj h, Option.some.inj hy] at this
    exact this z]
  rfl
/-- how the forest grows: k names are behind the first -/
structure Gr (n : Nat) (nm : List Nat) (k : Nat) (ts : Prs) : Prop where
  pr : ∀ p ∈ ts, p.1 < n ∧ p.2 < n ∧ p.1 ≠ p.2
  ln : ts.length ≤ k
  fo : Fo (rkN nm) ts
  lt : ∀ p ∈ ts, rkN nm (lat (rkN nm) p) ≤ k
theorem Gr.skip {n : Nat} {nm : List Nat} {k : Nat} {ts : Prs} (g : Gr n nm k ts) : Gr n nm (k + 1) ts := ⟨g.pr, Nat.le_succ_of_le g.ln, g.fo, fun p hp => Nat.le_succ_of_le (g.lt p hp)⟩
theorem Gr.add {n : Nat} {nm : List Nat} {k : Nat} {ts : Prs} (g : Gr n nm k ts) (nd : nm.Nodup) (mem : ∀ x ∈ nm, x < n) {i x y : Nat} (hx : nm[k + 1]? = some x) (hy : nm[i]? = some y) (hi : i ≤ k) {p : Nat × Nat} (hp : (p.1 = x ∧ p.2 = y) ∨ (p.1 = y ∧ p.2 = x)) : Gr n nm (k + 1) (ts ++ [p]) := by
  have rx := rkN_at nd hx
  have ry := rkN_at nd hy
  have mx := mem x (List.mem_of_getElem? hx)
  have my := mem y (List.mem_of_getElem? hy)
  have xy : x ≠ y := fun z => by rw [z, ry] at rx; omega
  have lx : lat (rkN nm) p = x := by
    unfold lat
    rcases hp with ⟨e1, e2⟩ | ⟨e1, e2⟩
    · rw [e1, e2, rx, ry, if_pos (by omega)]
    · rw [e1, e2, rx, ry, if_neg (by omega)]
  refine ⟨fun q hq => ?_, by rw [List.length_append]; have := g.ln; simp only [List.length_cons, List.length_nil]; omega, ⟨fun q hq => ?_, ?_⟩, fun q hq => ?_⟩
  · rcases List.mem_append.mp hq with e | e
    · exact g.pr q e
    · rw [List.mem_singleton.mp e]; omega
  · rcases List.mem_append.mp hq with e | e
    · exact g.fo.ne q e
    · rw [List.mem_singleton.mp e]
      rcases hp with ⟨e1, e2⟩ | ⟨e1, e2⟩ <;> rw [e1, e2, rx, ry] <;> omega
  · rw [List.map_append, List.nodup_append]
    refine ⟨g.fo.nd, by simp, fun a ha b hb ab => ?_⟩
    simp only [List.map_cons, List.map_nil, List.mem_singleton] at hb
    obtain ⟨q, hq, rfl⟩ := List.mem_map.mp ha
    have := g.lt q hq
    rw [ab, hb, lx, rx] at this
    omega
  · rcases List.mem_append.mp hq with e | e
    · exact Nat.le_succ_of_le (g.lt q e)
    · rw [List.mem_singleton.mp e, lx, rx]; exact Nat.le_refl _
def spForest : Sp := fun vs H Q _ => ∃ (b : Addr) (k : Nat), vs = [.ref b, .int (k : Int)] ∧ BoxO H b ∧ 1 ≤ k ∧ k ≤ 12 ∧ ∀ (p ta : Addr) (n : Nat) (ts : Prs) (rk : Nat → Nat) H', Bx b H H' → H' p = some (.tup [.int (n : Int), .ref ta]) → TiesT H' ta ts → Wv n ts → Fo rk ts → ts.length ≤ 12 → Q (.ref p) H'
/-- how the law's part stands: k turns, and j ties of the next one, are done -/
structure Pq (ts : Prs) (h k j : Nat) (fs : List Nat) : Prop where
  nd : fs.Nodup
  cn : ∀ x ∈ fs, Cn ts h x
  me : h ∈ fs
  cl : ∀ (i x t : Nat) (p : Nat × Nat), fs[i]? = some x → ts[t]? = some p → (i < k ∨ (i = k ∧ t < j)) → (p.1 = x → p.2 ∈ fs) ∧ (p.2 = x → p.1 ∈ fs)
theorem Pq.add {ts : Prs} {h k j y : Nat} {fs : List Nat} (f : Pq ts h k j fs) (hk : k < fs.length) (hy : y ∉ fs) (c : Cn ts h y) : Pq ts h k j (fs ++ [y]) := by
  refine ⟨?_, fun x hx => ?_, List.mem_append_left _ f.me, fun i x t p hi ht z => ?_⟩
  · rw [List.nodup_append]
    exact ⟨f.nd, by simp, fun a ha b hb ab => by rw [List.mem_singleton] at hb; rw [ab, hb] at ha; exact hy ha⟩
  · rcases List.mem_append.mp hx with e | e
    · exact f.cn x e
    · rw [List.mem_singleton.mp e]; exact c
  · rw [List.getElem?_append_left (by omega)] at hi
    obtain ⟨a, b⟩ := f.cl i x t p hi ht z
    exact ⟨fun e => List.mem_append_left _ (a e), fun e => List.mem_append_left _ (b e)⟩
theorem Pq.next {ts : Prs} {h k j x : Nat} {fs : List Nat} {p : Nat × Nat} (f : Pq ts h k j fs) (hx : fs[k]? = some x) (hp : ts[j]? = some p) (a : p.1 = x → p.2 ∈ fs) (b : p.2 = x → p.1 ∈ fs) : Pq ts h k (j + 1) fs := by
  refine ⟨f.nd, f.cn, f.me, fun i y t q hi ht z => ?_⟩
  by_cases c : i = k ∧ t = j
  · obtain ⟨rfl, rfl⟩ := c
    obtain rfl := lookup_same hi hx
    obtain rfl := lookup_same ht hp
    exact ⟨a, b⟩
  · exact f.cl i y t q hi ht (by omega)
theorem Pq.turn {ts : Prs} {h k : Nat} {fs : List Nat} (f : Pq ts h k ts.length fs) : Pq ts h (k + 1) 0 fs := ⟨f.nd, f.cn, f.me, fun i x t p hi ht z => f.cl i x t p hi ht (by have := lt_at ht; omega)⟩
theorem Pq.past {ts : Prs} {h k : Nat} {fs : List Nat} (f : Pq ts h k 0 fs) (hk : fs.length ≤ k) : Pq ts h (k + 1) 0 fs := ⟨f.nd, f.cn, f.me, fun i x t p hi ht z => f.cl i x t p hi ht (by have := lt_at hi; omega)⟩
theorem Pq.init (ts : Prs) (h : Nat) : Pq ts h 0 0 [h] := ⟨by simp, fun x hx => by rw [List.mem_singleton.mp hx]; exact .refl, List.mem_singleton.mpr rfl, fun i x t p _ _ z => by omega⟩
theorem Pq.len {n : Nat} {ts : Prs} {h k j : Nat} {fs : List Nat} (hW : Wv n ts) (hn : h < n) (f : Pq ts h k j fs) : fs.length ≤ n := by
  have := nodup_sub fs (List.range n) f.nd fun x hx => List.mem_range.mpr ((f.cn x hx).lt hW hn)
  rw [List.length_range] at this
  exact this
theorem Pq.all {ts : Prs} {h k : Nat} {fs : List Nat} (f : Pq ts h k 0 fs) (hk : fs.length ≤ k) {x : Nat} (c : Cn ts h x) : x ∈ fs := by
  induction c with
  | refl => exact f.me
  | step _ j ih =>
    obtain ⟨i, hi⟩ := List.getElem?_of_mem ih
    obtain ⟨p, hp, z⟩ := j
    obtain ⟨t, ht⟩ := List.getElem?_of_mem hp
    obtain ⟨a, b⟩ := f.cl i _ t p hi ht (.inl (by have := lt_at hi; omega))
    rcases z with ⟨e1, e2⟩ | ⟨e1, e2⟩
    · rw [e2]; exact a e1.symm
    · rw [e2]; exact b e1.symm
def spPartL : Sp := fun vs H Q _ => ∃ (ta : Addr) (n : Nat) (ts : Prs) (h : Nat), vs = [.ref ta, .int (h : Int)] ∧ TiesT H ta ts ∧ Wv n ts ∧ h < n ∧ ∀ (l : Addr) (ns : List Nat) H', Same H H' → H l = none → H' l = some (.lst (vn ns)) → PartL ts h ns → Q (.ref l) H'
section
variable {P : Program} {w : World} {K : PySem.W.Frag} {mg : Str → Option Value} {base : Heap}
abbrev nFo : List Str := ["_law_box_here", "_law_most", "_law_many", "_law_style", "_law_ties", "_law_names", "_law_at", "_law_near", "_law_pair"]
theorem scFo : FnScope nFo ["_law_box_here", "_law_most"] (defScope sLForest) := ⟨rfl, rfl, rfl, by decide +kernel, rfl, by decide +kernel, by decide +kernel⟩
theorem ok_forest {f fT fM : Addr} {fd fdT fdM : FuncData} (D : Df K mg "_law_forest" sLForest ["_law_box_here", "_law_most"] f fd) (DT : Df K mg "_law_take" sLTake ["_law_box_here", "_law_many"] fT fdT) (DM : Df K mg "_law_mixed" sLMixed ["_law_box_here", "_law_some"] fM fdM) (B : Bt mg)
    (GT : FnOk P w K mg base CX0 1 fT fdT ["_law_box_here", "_law_many"] spTake) (GM : FnOk P w K mg base CX0 2 fM fdM ["_law_box_here", "_law_some"] (spMixed K)) : FnOk P w K mg base CX0 3 f fd ["_law_box_here", "_law_most"] spForest := by
  refine D.F.ok scFo (fun vs H Q E h => ?_) (fun cdv A outer s H vs Q E hr h => ?_)
  · obtain ⟨b, k, rfl, _⟩ := h
    rfl
  · obtain ⟨b, most, rfl, hb, m1, m12, q⟩ := h
    have r1 := hr.mono (show 1 ≤ 2 by decide)
    refine ⟨_, pss_cons (ps_par3 (i := 2) (j := 3) (l := 4) rfl scFo.nd rfl rfl rfl (by decide) (by decide) (by decide) rfl rfl rfl (pa_cons (pe_op op_add pe_int (pc DT GT r1 pass0 (pa_cons (pv 0) (pa_cons (pv 1) pa_nil)))) (pa_cons (pc DT GT r1 pass0 (pa_cons (pv 0) (pa_cons pe_int pa_nil))) (pa_cons (pe_lst pa_nil) pa_nil))) rfl)
      (pss_cons (ps_set (i := 5) scFo.nd rfl (.inl rfl) (pc DM GM hr pass0 (pa_cons (pv 0) (pa_cons (pe_listRg rfl (by rfl) B.list (prg_1 (by rfl) B.range (pv 2))) pa_nil))))
      (pss_cons (ps_for PassesOwn.never rfl (pi_range2 (by rfl) B.range (pa_cons pe_int (pa_cons (pv 2) pa_nil))) (pg_name (i := 6) scFo.nd rfl (.inl rfl))
        (pss_cons (ps_set (i := 7) scFo.nd rfl (.inl rfl) (pe_ix ix_list (pe_lst (pa_cons (pc DT GT r1 pass0 (pa_cons (pv 0) (pa_cons (pv 6) pa_nil))) (pa_cons (pe_op op_sub (pv 6) pe_int) (pa_cons pe_int (pa_cons (pc DT GT r1 pass0 (pa_cons (pv 0) (pa_cons (pv 6) pa_nil))) pa_nil))))) (pv 3) (fun _ _ => rfl)))
        (pss_one (ps_if (pt_cmpR op_gt (pc DT GT r1 pass0 (pa_cons (pv 0) (pa_cons pe_int pa_nil))) pe_int (nomark _))
          (pss_cons (ps_set (i := 8) scFo.nd rfl (.inl rfl) (pe_tup (pa_cons (pe_ix ix_list (pv 5) (pv 6) (fun _ _ => rfl)) (pa_cons (pe_ix ix_list (pv 5) (pv 7) (fun _ _ => rfl)) pa_nil))))
          (pss_one (ps_expr (pe_bm PySem.F.plainAttrs_list PySem.F.slot_list_append PySem.F.type_list_append mt_append (pv 4) (pa_cons (pe_ifExp (pt_cmpR op_eq (pc DT GT r1 pass0 (pa_cons (pv 0) (pa_cons pe_int pa_nil))) pe_int (nomark _)) (pv 8) (pe_tup (pa_cons (pe_ix ix_tup (pv 8) pe_int (fun _ _ => rfl)) (pa_cons (pe_ix ix_tup (pv 8) pe_int (fun _ _ => rfl)) pa_nil)))) pa_nil))))) pss_nil))))
      (pss_one (ps_ret (pe_tup (pa_cons (pv 2) (pa_cons (pe_callTy call_tuple_of (by rfl) B.tuple PyProof.Rows.boot_tuple (pa_cons (pc DM GM hr pass0 (pa_cons (pv 0) (pa_cons (pv 4) pa_nil))) pa_nil)) pa_nil))))))), ?_⟩
    refine ⟨_, rfl, _, rfl, b, (most : Int), rfl, hb, by omega, by omega, fun r H1 r0 r1' bx1 => ⟨_, _, rfl, rfl, ?_⟩⟩
    obtain ⟨n, en, n1, n12⟩ : ∃ n : Nat, 1 + r = (n : Int) ∧ 1 ≤ n ∧ n ≤ 12 := ⟨(1 + r).toNat, by omega, by omega, by omega⟩
    refine ⟨_, rfl, b, 4, rfl, bx1.1, by decide, by decide, fun st H2 st0 st4 bx2 => ⟨(by show 0 ≤ sizeLine; decide), fun tl htl => ?_⟩⟩
    have bx3 := (bx1.trans bx2).new (o := HO.lst []) htl
    have ntl : tl ≠ b := (bx1.trans bx2).ne htl
    have ftl : H tl = none := (bx1.trans bx2).free ntl htl
    have htl3 : (upd H2 tl (.lst [])) tl = some (.lst []) := upd_same
    generalize upd H2 tl (.lst []) = H3 at bx3 htl3 ⊢
    refine ⟨_, _, _, rfl, ?_⟩
    dsimp only [List.set]
    rw [en]
    refine ⟨_, rfl, _, rfl, _, rfl, RgOk.of_le (by omega) (by omega) (by omega) (by omega), fun rl hrl => ?_⟩
    have nrl : rl ≠ b := bx3.ne hrl
    have bx4 := bx3.new (o := HO.lst (rgV 0 (n : Int))) hrl
    have htl4 := same_new (o := HO.lst (rgV 0 (n : Int))) hrl _ _ htl3
    refine ⟨b, rl, rgV 0 (n : Int), rfl, bx4.1, SqL.of upd_same, nrl, by rw [rgV_vn, vn_len, List.length_range]; omega, fun nl ys H4 bx5 hnl0 hnl pm => ?_⟩
    have htl5 := bx5.2 _ _ htl4 ntl
    have bx6 := bx4.trans bx5
    rw [rgV_vn] at pm
    obtain ⟨nm, rfl, pn⟩ := perm_map_inv (f := fun (x : Nat) => V.int (x : Int)) pm
    have nd : nm.Nodup := pn.nodup_iff.mpr List.nodup_range
    have ml : nm.length = n := by rw [pn.length_eq, List.length_range]
    have mem : ∀ x ∈ nm, x < n := fun x hx => List.mem_range.mp (pn.mem_iff.mp hx)
    have hnl' : H4 nl = some (.lst (vn nm)) := hnl
    have nnl : nl ≠ b := (bx4.1).nn hnl0
    have ntn : tl ≠ nl := fun z => by rw [z, hnl0] at htl4; cases htl4
    refine gn ?_
    dsimp only [List.set]
    have etn : (((n : Int) - 1).toNat) = n - 1 := by omega
    refine ⟨_, rfl, 1, (n : Int), rfl, ⟨by omega, by omega, by omega, by omega⟩, for_range (fun k σ H' => ∃ (as : List Addr) (ts : Prs) (v6 v7 v8 : Option V), σ = [some (.ref b), some (.int (most : Int)), some (.int (n : Int)), some (.int st), some (.ref tl), some (.ref nl), v6, v7, v8] ∧ Bx b H H' ∧ H' nl = some (.lst (vn nm)) ∧ H' tl = some (.lst (as.map V.ref)) ∧ PrsA H' as ts ∧ Gr n nm k ts)
      ⟨[], [], none, none, none, rfl, bx6, hnl', htl5, ⟨rfl, fun i a t e => (by cases e)⟩, ⟨fun p hp => (by cases hp), Nat.zero_le _, ⟨fun p hp => (by cases hp), (by simp)⟩, fun p hp => (by cases hp)⟩⟩ ?_ ?_⟩
    · rintro k σ H5 hk ⟨as, ts, v6, v7, v8, rfl, bx, hn5, ht5, hA, G⟩
      have kn : k + 1 < n := by omega
      have lnt := G.ln
      have las := hA.1
      -- the four nears
      refine ⟨_, rfl, _, rfl, b, (1 + (k : Int)), rfl, bx.1, by omega, by omega, fun x1 H6 x10 x11 bx7 => ⟨_, rfl, _, _, rfl, rfl, ?_⟩⟩
      refine ⟨_, rfl, _, rfl, b, (1 + (k : Int)), rfl, bx7.1, by omega, by omega, fun x2 H7 x20 x21 bx8 => ⟨(by show 4 ≤ sizeLine; decide), fun nr hnr => ?_⟩⟩
      have nnr : nr ≠ b := bx8.ne hnr
      have bx9 := (bx7.trans bx8).new (o := HO.lst [V.int x1, V.int (1 + (k : Int) - 1), V.int 0, V.int x2]) hnr
      obtain ⟨i, hi, eat⟩ : ∃ i : Nat, i ≤ k ∧ atI [V.int x1, V.int (1 + (k : Int) - 1), V.int 0, V.int x2] st = some (V.int (i : Int)) := by
        have s4 : st = 0 ∨ st = 1 ∨ st = 2 ∨ st = 3 := by omega
        rcases s4 with rfl | rfl | rfl | rfl
        · exact ⟨x1.toNat, by omega, (atI_nat (j := 0) rfl).trans (by rw [show ((x1.toNat : Nat) : Int) = x1 by omega])⟩
        · exact ⟨k, Nat.le_refl _, (atI_nat (j := 1) rfl).trans (by rw [show 1 + (k : Int) - 1 = (k : Int) by omega])⟩
        · exact ⟨0, Nat.zero_le _, atI_nat (j := 2) rfl⟩
        · exact ⟨x2.toNat, by omega, (atI_nat (j := 3) rfl).trans (by rw [show ((x2.toNat : Nat) : Int) = x2 by omega])⟩
      refine ⟨_, rfl, nr, _, st, _, rfl, rfl, SqL.of upd_same, eat, ?_⟩
      have hn9 := bx9.2 _ _ hn5 nnl
      have ht9 := bx9.2 _ _ ht5 ntl
      have hA9 : PrsA (upd H7 nr (.lst [V.int x1, V.int (1 + (k : Int) - 1), V.int 0, V.int x2])) as ts := hA.kp fun a xs e => bx9.tup bx.1 e
      have bx10 := bx.trans bx9
      generalize upd H7 nr (.lst [V.int x1, V.int (1 + (k : Int) - 1), V.int 0, V.int x2]) = H8 at bx9 bx10 hn9 ht9 hA9 ⊢
      refine gn ?_
      dsimp only [List.set]
      obtain ⟨x, hx⟩ := ex_at (l := nm) (i := k + 1) (by omega)
      obtain ⟨y, hy⟩ := ex_at (l := nm) (i := i) (by omega)
      refine ⟨_, rfl, b, 9, rfl, bx10.1, by decide, by decide, fun r9 H9 r90 r91 bx11 => ⟨_, _, rfl, rfl, _, rfl, ?_⟩⟩
      have bx12 := bx10.trans bx11
      have hn12 := bx11.2 _ _ hn9 nnl
      have ht12 := bx11.2 _ _ ht9 ntl
      have hA12 : PrsA H9 as ts := hA9.kp fun a xs e => bx11.tup bx10.1 e
      refine ifD (fun ec => ?_) fun ec => ?_
      · refine ⟨_, rfl, _, rfl, nl, _, (1 + (k : Int)), .int (x : Int), rfl, rfl, SqL.of hn12, at_of (j := k + 1) (by omega) (vn_at hx), _, rfl, _, rfl, nl, _, (i : Int), .int (y : Int), rfl, rfl, SqL.of hn12, at_i (vn_at hy), (by show 2 ≤ sizeLine; decide), fun pa hpa => ?_⟩
        have spa := same_new (o := HO.tup [V.int (x : Int), V.int (y : Int)]) hpa
        have hp13 : (upd H9 pa (.tup [V.int (x : Int), V.int (y : Int)])) pa = some (.tup [V.int (x : Int), V.int (y : Int)]) := upd_same
        have bx13 := bx12.same spa
        have hn13 := spa _ _ hn12
        have ht13 := spa _ _ ht12
        have hA13 := hA12.same spa
        generalize upd H9 pa (.tup [V.int (x : Int), V.int (y : Int)]) = H10 at hp13 bx13 hn13 ht13 hA13 ⊢
        refine gn ?_
        dsimp only [List.set]
        refine ⟨_, rfl, .inl ⟨rfl, _, SqL.of ht13⟩, ?_⟩
        refine ⟨_, rfl, b, 2, rfl, bx13.1, by decide, by decide, fun r2 H11 r20 r21 bx14 => ⟨rfl, _, rfl, ?_⟩⟩
        have bx15 := bx13.trans bx14
        have hn15 := bx14.2 _ _ hn13 nnl
        have ht15 := bx14.2 _ _ ht13 ntl
        have hp15 := bx14.tup bx13.1 hp13
        have hA15 : PrsA H11 as ts := hA13.kp fun a xs e => bx14.tup bx13.1 e
        -- the tie is laid
        have lay : ∀ (a : Addr) (p : Nat × Nat) (H' : Hp), H' a = some (.tup (pV p)) → ((p.1 = x ∧ p.2 = y) ∨ (p.1 = y ∧ p.2 = x)) → Bx b H H' → H' nl = some (.lst (vn nm)) → H' tl = some (.lst (as.map V.ref)) → PrsA H' as ts →
            ∃ (as' : List Addr) (ts' : Prs) (v6 v7 v8 : Option V), [some (V.ref b), some (.int (most : Int)), some (.int (n : Int)), some (.int st), some (.ref tl), some (.ref nl), some (.int (1 + (k : Int))), some (.int (i : Int)), some (.ref pa)] = [some (.ref b), some (.int (most : Int)), some (.int (n : Int)), some (.int st), some (.ref tl), some (.ref nl), v6, v7, v8] ∧
              Bx b H (upd H' tl (.lst (as.map V.ref ++ [.ref a]))) ∧ (upd H' tl (.lst (as.map V.ref ++ [.ref a]))) nl = some (.lst (vn nm)) ∧ (upd H' tl (.lst (as.map V.ref ++ [.ref a]))) tl = some (.lst (as'.map V.ref)) ∧ PrsA (upd H' tl (.lst (as.map V.ref ++ [.ref a]))) as' ts' ∧ Gr n nm (k + 1) ts' := fun a p H' ha hp bx' hn' ht' hA' => by
          have kp : ∀ {c : Addr} {xs : List V}, H' c = some (.tup xs) → (upd H' tl (.lst (as.map V.ref ++ [.ref a]))) c = some (.tup xs) := fun e => by rw [upd_ne (ne_of e ht' (by intro z; cases z))]; exact e
          refine ⟨as ++ [a], ts ++ [p], _, _, _, rfl, bx'.put ftl ntl, by rw [upd_ne ntn.symm]; exact hn', by rw [upd_same, List.map_append]; rfl, ⟨by rw [List.length_append, List.length_append, hA'.1]; rfl, fun j c u e1 e2 => ?_⟩, G.add nd mem hx hy hi hp⟩
          rcases snoc_at e1 with e1 | ⟨j1, rfl⟩
          · rcases snoc_at e2 with e2 | ⟨j2, _⟩
            · exact kp (hA'.2 j c u e1 e2)
            · have := lt_at e1
              have := hA'.1
              omega
          · rcases snoc_at e2 with e2 | ⟨_, rfl⟩
            · have := lt_at e2
              have := hA'.1
              omega
            · exact kp ha
        have lsz : (as.map V.ref).length < sizeLine := szl (by rw [List.length_map]; omega)
        refine ifD (fun ec2 => ?_) fun ec2 => ?_
        · refine ⟨_, rfl, tl, _, _, rfl, rfl, ht15, lsz, ?_⟩
          exact lay pa (x, y) H11 hp15 (.inl ⟨rfl, rfl⟩) bx15 hn15 ht15 hA15
        · refine ⟨_, rfl, pa, _, 1, .int (y : Int), rfl, rfl, SqT.of hp15, atI_nat (j := 1) rfl, _, rfl, pa, _, 0, .int (x : Int), rfl, rfl, SqT.of hp15, atI_nat (j := 0) rfl, (by show 2 ≤ sizeLine; decide), fun pb hpb => ?_⟩
          have spb := same_new (o := HO.tup [V.int (y : Int), V.int (x : Int)]) hpb
          refine ⟨tl, _, _, rfl, rfl, spb _ _ ht15, lsz, ?_⟩
          exact lay pb (y, x) _ upd_same (.inr ⟨rfl, rfl⟩) (bx15.same spb) (spb _ _ hn15) (spb _ _ ht15) (hA15.same spb)
      · exact ⟨as, ts, _, _, _, rfl, bx12, hn12, ht12, hA12, G.skip⟩
    · rintro σ H5 ⟨as, ts, v6, v7, v8, rfl, bx, hn5, ht5, hA, G⟩
      rw [etn] at G
      have lnt := G.ln
      have las := hA.1
      refine ⟨_, rfl, _, rfl, _, rfl, b, tl, as.map V.ref, rfl, bx.1, SqL.of ht5, ntl, by rw [List.length_map]; omega, fun ml' ys H6 bx7 hml0 hml pm7 => ?_⟩
      have ez : as.map V.ref = (as.zip ts).map fun e => V.ref e.1 := by
        have : as = (as.zip ts).map (·.1) := (List.map_fst_zip (Nat.le_of_eq las)).symm
        rw [this, List.map_map, ← this]; rfl
      rw [ez] at pm7
      obtain ⟨l', rfl, pl⟩ := perm_map_inv pm7
      have ets : ts = (as.zip ts).map (·.2) := (List.map_snd_zip (Nat.le_of_eq las.symm)).symm
      have pts : (l'.map (·.2)).Perm ts := by
        have := pl.map (·.2)
        rw [← ets] at this
        exact this
      refine ⟨ml', _, rfl, .inl ⟨SqL.of hml, fun ta hta => ⟨(by show 2 ≤ sizeLine; decide), fun pr hpr => ?_⟩⟩⟩
      have bx8 := bx.trans bx7
      have sm := (same_new (o := HO.tup (l'.map fun e => V.ref e.1)) hta)
      have sm2 := sm.trans (same_new (o := HO.tup [V.int (n : Int), V.ref ta]) hpr)
      refine q pr ta n (l'.map (·.2)) (rkN nm) _ (bx8.same sm2) upd_same ⟨l'.map (·.1), ?_, ?_, fun i a t e1 e2 => ?_⟩ ⟨n1, n12, by rw [pts.length_eq]; omega, fun p hp => G.pr p (pts.mem_iff.mp hp)⟩ (G.fo.perm pts.symm) (by rw [pts.length_eq]; omega)
      · rw [same_new (o := HO.tup [V.int (n : Int), V.ref ta]) hpr _ _ upd_same, List.map_map]; rfl
      · rw [List.length_map, List.length_map]
      · obtain ⟨e, he, rfl⟩ := at_map e1
        obtain ⟨e', he', rfl⟩ := at_map e2
        obtain rfl := lookup_same he he'
        have hz := pl.mem_iff.mp (List.mem_of_getElem? he)
        obtain ⟨j, hj⟩ := List.getElem?_of_mem hz
        rw [show e = (e.1, e.2) from rfl, List.getElem?_zip_eq_some] at hj
        exact sm2 _ _ (bx7.tup bx.1 (hA.2 j _ _ hj.1 hj.2))
abbrev nPl : List Str := ["_law_ties", "_law_house", "_law_found", "_law_turn", "_law_one", "_law_other"]
theorem scPl : FnScope nPl ["_law_ties", "_law_house"] (defScope sLPart) := ⟨rfl, rfl, rfl, by decide +kernel, rfl, by decide +kernel, by decide +kernel⟩
theorem ok_partL {f : Addr} {fd : FuncData} (D : Df K mg "_law_part" sLPart ["_law_ties", "_law_house"] f fd) (B : Bt mg) : FnOk P w K mg base CX0 1 f fd ["_law_ties", "_law_house"] spPartL := by
  refine D.F.ok scPl (fun vs H Q E h => ?_) (fun cdv A outer s H vs Q E hr h => ?_)
  · obtain ⟨ta, n, ts, h, rfl, _⟩ := h
    rfl
  · obtain ⟨ta, n, ts, h, rfl, ⟨tas, ht, hA⟩, hW, hn, q⟩ := h
    refine ⟨_, pss_cons (ps_set (i := 2) scPl.nd rfl (.inl rfl) (pe_lst (pa_cons (pv 1) pa_nil)))
      (pss_cons (ps_for PassesOwn.never rfl (pi_range1 (by rfl) B.range (pa_cons pe_int pa_nil)) (pg_name (i := 3) scPl.nd rfl (.inl rfl))
        (pss_one (ps_if (pt_cmpR op_lt (pv 3) (pe_callB call_len_seq (by rfl) B.len PySem.boot_len (pa_cons (pv 2) pa_nil)) (nomark _))
          (pss_one (ps_for PassesOwn.never rfl (pi_tup (pv 0)) (pg_tup rfl (pgs_cons (pg_name (i := 4) scPl.nd rfl (.inl rfl)) (pgs_cons (pg_name (i := 5) scPl.nd rfl (.inl rfl)) pgs_nil)))
            (pss_cons (ps_if (PW.pt (pw_and (pt_cmpR op_eq (pv 4) (pe_ix ix_list (pv 2) (pv 3) (fun _ _ => rfl)) (nomark _)) (pw_and1 (pt_cmpR op_notIn_seq (pv 5) (pv 2) rfl))))
              (pss_one (ps_expr (pe_bm PySem.F.plainAttrs_list PySem.F.slot_list_append PySem.F.type_list_append mt_append (pv 2) (pa_cons (pv 5) pa_nil)))) pss_nil)
            (pss_one (ps_if (PW.pt (pw_and (pt_cmpR op_eq (pv 5) (pe_ix ix_list (pv 2) (pv 3) (fun _ _ => rfl)) (nomark _)) (pw_and1 (pt_cmpR op_notIn_seq (pv 4) (pv 2) rfl))))
              (pss_one (ps_expr (pe_bm PySem.F.plainAttrs_list PySem.F.slot_list_append PySem.F.type_list_append mt_append (pv 2) (pa_cons (pv 4) pa_nil)))) pss_nil))))) pss_nil)))
      (pss_one (ps_ret (pe_callB cr_sortedI (by rfl) B.sorted (by decide +kernel) (pa_cons (pv 2) pa_nil))))), ?_⟩
    have n12 := hW.n12
    have t20 := hW.t20
    refine ⟨_, rfl, (by show 1 ≤ sizeLine; decide), fun fl hfl => ?_⟩
    have s1 := same_new (o := HO.lst [V.int (h : Int)]) hfl
    have hf1 : (upd H fl (.lst [V.int (h : Int)])) fl = some (.lst (vn [h])) := upd_same
    generalize upd H fl (.lst [V.int (h : Int)]) = H1 at s1 hf1 ⊢
    refine gn ?_
    dsimp only [List.set]
    refine ⟨12, rfl, by decide, by decide, for_range (fun k σ H' => ∃ (fs : List Nat) (v3 v4 v5 : Option V), σ = [some (.ref ta), some (.int (h : Int)), some (.ref fl), v3, v4, v5] ∧ Same H H' ∧ H' fl = some (.lst (vn fs)) ∧ Pq ts h k 0 fs)
      ⟨[h], none, none, none, rfl, s1, hf1, Pq.init ts h⟩ ?_ ?_⟩
    · rintro k σ H2 hk ⟨fs, v3, v4, v5, rfl, s2, hf, F⟩
      refine ⟨_, rfl, _, rfl, fl, _, rfl, .inl (SqL.of hf), _, _, rfl, rfl, _, rfl, ifD (fun ec => ?_) fun ec => ?_⟩
      · have hkl : k < fs.length := by
          have z : 0 + (k : Int) < ((vn fs).length : Int) := of_decide_eq_true ec
          rw [vn_len] at z
          omega
        refine ⟨_, rfl, ta, rfl, ⟨_, SqT.of (s2 _ _ ht)⟩, for_tup (K := K) (a := ta) (xs := tas.map V.ref) (fun j σ H' => ∃ (fs : List Nat) (v4 v5 : Option V), σ = [some (.ref ta), some (.int (h : Int)), some (.ref fl), some (.int (0 + (k : Int))), v4, v5] ∧ Same H H' ∧ H' fl = some (.lst (vn fs)) ∧ Pq ts h k j fs ∧ k < fs.length)
          ⟨fs, _, _, rfl, s2, hf, F, hkl⟩ (fun j σ H' _ ⟨_, _, _, _, s2, _⟩ => SqT.of (s2 _ _ ht)) ?_ ?_⟩
        · rintro j x σ H3 hx ⟨fs, v4, v5, rfl, s3, hf, F, hkl⟩
          obtain ⟨a, p, rfl, ha, hp, hap⟩ := hA.get' hx
          have hap' : H3 a = some (.tup [.int (p.1 : Int), .int (p.2 : Int)]) := s3 _ _ hap
          have pm := List.mem_of_getElem? hp
          refine ⟨a, _, rfl, SqT.of hap', rfl, _, _, rfl, _, _, rfl, rfl, ?_⟩
          -- the second test
          refine seqG (fun σ H' => ∃ fs' x, σ = [some (.ref ta), some (.int (h : Int)), some (.ref fl), some (.int (0 + (k : Int))), some (.int (p.1 : Int)), some (.int (p.2 : Int))] ∧ Same H H' ∧ H' fl = some (.lst (vn fs')) ∧ Pq ts h k j fs' ∧ k < fs'.length ∧ fs'[k]? = some x ∧ (p.1 = x → p.2 ∈ fs')) ?_ (fun go => ?_)
          · rintro σ H4 ⟨fs', x, rfl, s4, hf4, F4, hk4, hx4, c4⟩
            have l20 := F4.len hW hn
            refine ⟨_, rfl, _, rfl, _, rfl, fl, _, 0 + (k : Int), .int (x : Int), rfl, rfl, SqL.of hf4, at_of (j := k) (by omega) (vn_at hx4), rfl, _, rfl, ifD (fun e1 => ?_) fun e1 => ?_⟩
            · have e1' : p.2 = x := by
                have z := of_decide_eq_true e1
                injection z with z
                omega
              refine ⟨_, rfl, _, rfl, fl, vn fs', rfl, .inl (SqL.of hf4), rfl, flat_vn fs', _, rfl, ?_⟩
              simp only [if_true]
              rw [inV_vn]
              refine ifD (fun e2 => ?_) fun e2 => ?_
              · have e2' : p.1 ∉ fs' := by simpa using e2
                refine ⟨_, rfl, .inl ⟨rfl, _, SqL.of hf4⟩, _, rfl, fl, _, _, rfl, rfl, hf4, szl (by rw [vn_len]; omega), ?_⟩
                have cx := F4.cn x (List.mem_of_getElem? hx4)
                have F5 := F4.add hk4 e2' (cx.step ⟨p, pm, .inr ⟨e1'.symm, rfl⟩⟩)
                refine ⟨fs' ++ [p.1], _, _, rfl, fun c o e => ?_, by rw [upd_same, vn, vn, List.map_append]; rfl, F5.next (x := x) (by rw [List.getElem?_append_left hk4]; exact hx4) hp (fun z => List.mem_append_left _ (c4 z)) (fun _ => List.mem_append_right _ (List.mem_singleton.mpr rfl)), by rw [List.length_append]; omega⟩
                rw [upd_ne (ne_of_none e hfl)]
                exact s4 _ _ e
              · have e2' : p.1 ∈ fs' := by simpa using e2
                exact ⟨fs', _, _, rfl, s4, hf4, F4.next hx4 hp c4 fun _ => e2', hk4⟩
            · have e1' : p.2 ≠ x := fun z => by
                have := of_decide_eq_false e1
                exact this (by rw [z])
              exact ⟨fs', _, _, rfl, s4, hf4, F4.next hx4 hp c4 fun z => absurd z e1', hk4⟩
          · obtain ⟨x, hx4⟩ := ex_at (l := fs) (i := k) hkl
            have l20 := F.len hW hn
            refine ⟨_, rfl, _, rfl, _, rfl, fl, _, 0 + (k : Int), .int (x : Int), rfl, rfl, SqL.of hf, at_of (j := k) (by omega) (vn_at hx4), rfl, _, rfl, ifD (fun e1 => ?_) fun e1 => ?_⟩
            · have e1' : p.1 = x := by
                have z := of_decide_eq_true e1
                injection z with z
                omega
              refine ⟨_, rfl, _, rfl, fl, vn fs, rfl, .inl (SqL.of hf), rfl, flat_vn fs, _, rfl, ?_⟩
              simp only [if_true]
              rw [inV_vn]
              refine ifD (fun e2 => ?_) fun e2 => ?_
              · have e2' : p.2 ∉ fs := by simpa using e2
                refine ⟨_, rfl, .inl ⟨rfl, _, SqL.of hf⟩, _, rfl, fl, _, _, rfl, rfl, hf, szl (by rw [vn_len]; omega), ?_⟩
                have cx := F.cn x (List.mem_of_getElem? hx4)
                have F5 := F.add hkl e2' (cx.step ⟨p, pm, .inl ⟨e1'.symm, rfl⟩⟩)
                refine go _ _ ⟨fs ++ [p.2], x, rfl, fun c o e => ?_, by rw [upd_same, vn, vn, List.map_append]; rfl, F5, by rw [List.length_append]; omega, by rw [List.getElem?_append_left hkl]; exact hx4, fun _ => List.mem_append_right _ (List.mem_singleton.mpr rfl)⟩
                rw [upd_ne (ne_of_none e hfl)]
                exact s3 _ _ e
              · have e2' : p.2 ∈ fs := by simpa using e2
                exact go _ _ ⟨fs, x, rfl, s3, hf, F, hkl, hx4, fun _ => e2'⟩
            · have e1' : p.1 ≠ x := fun z => by
                have := of_decide_eq_false e1
                exact this (by rw [z])
              exact go _ _ ⟨fs, x, rfl, s3, hf, F, hkl, hx4, fun z => absurd z e1'⟩
        · rintro σ H3 ⟨fs, v4, v5, rfl, s3, hf, F, hkl⟩
          rw [List.length_map, hA.1] at F
          exact ⟨fs, _, _, _, rfl, s3, hf, F.turn⟩
      · have hkl : fs.length ≤ k := by
          have z : ¬ (0 + (k : Int) < ((vn fs).length : Int)) := of_decide_eq_false ec
          rw [vn_len] at z
          omega
        exact ⟨fs, _, _, _, rfl, s2, hf, F.past hkl⟩
    · rintro σ H2 ⟨fs, v3, v4, v5, rfl, s2, hf, F⟩
      have l12 := F.len hW hn
      have F' : Pq ts h 12 0 fs := F
      refine ⟨_, rfl, fl, fs.map fun (x : Nat) => (x : Int), rfl, SqL.of (by rw [hf, vn_row]; rfl), fun ns' p pm asc hp0 => ?_⟩
      have mem : ∀ y, y ∈ ns' ↔ 0 ≤ y ∧ Cn ts h y.toNat := fun y => by
        rw [pm.mem_iff, List.mem_map]
        constructor
        · rintro ⟨x, hx, rfl⟩
          exact ⟨by omega, by rw [Int.toNat_natCast]; exact F'.cn x hx⟩
        · rintro ⟨y0, c⟩
          exact ⟨y.toNat, F'.all (by omega) c, by omega⟩
      have nd : ns'.Nodup := pm.nodup_iff.mpr (by
        rw [List.nodup_iff_pairwise_ne, List.pairwise_map]
        exact F'.nd.imp fun {a b} hab => by omega)
      have eys : ns'.map V.int = vn (ns'.map Int.toNat) := by
        unfold vn
        rw [List.map_map]
        refine List.map_congr_left fun y hy => ?_
        have := ((mem y).mp hy).1
        show V.int y = V.int ((y.toNat : Nat) : Int)
        congr 1; omega
      refine q p (ns'.map Int.toNat) _ (s2.trans (same_new hp0)) (s2.free hp0) (by rw [upd_same, eys]) ⟨?_, fun x => ?_⟩
      · rw [List.pairwise_map]
        refine (asc.and nd).imp_of_mem fun {a b} ha hb hab => ?_
        have := ((mem a).mp ha).1
        have := ((mem b).mp hb).1
        have := hab.1
        have := hab.2
        omega
      · rw [List.mem_map]
        constructor
        · rintro ⟨y, hy, rfl⟩
          exact ((mem y).mp hy).2
        · intro c
          exact ⟨(x : Int), (mem _).mpr ⟨by omega, by rw [Int.toNat_natCast]; exact c⟩, Int.toNat_natCast x⟩
end
end K1
/-! ### x(lambda: body, e) -/
namespace LamY
open PySem PySem.Spec PyProof.Rows L2 LamX
section
variable {X : Cx} {pins : List (Addr × Obj)} {σ : L2.St} {H HZ : Hp} {s s1 : Shared}
theorem pe_act2 {CXg : CXT} {Eg : XK} {Ng : List Str} {qg : Str} {sg : Scope} {g f c' : Addr} {cdg pm ctv : Value} {params : Arguments} {body : Expr} {scope : Scope} {k i : Nat} {a : Str} {pn : List (Addr × Obj)} {xe : Value → Shared → Prop} {W : WX} {E : XK} {tb : TE} {p1 p2 : Pos}
    (I : Inv X pins σ H s) (L : LamS X.env.scope scope) (hf : s.heap.get? f = some (PySem.W.kla_obj "<lambda>" (X.env.qual ++ "<lambda>") params body scope (cloFrom X.env.cells scope.names []) pm c' ctv)) (hfn : H f = none) (hfr : f ∉ frs X.stack)
    (hbind : bindArgs (PySem.W.kla_fn "<lambda>" (X.env.qual ++ "<lambda>") params body scope (cloFrom X.env.cells scope.names []) pm (.ref c') ctv) ⟨[], []⟩ = pure [])
    (tk : Takes ((cxOf CXg X.prog X.w X.K X.mg X.base Ng qg sg g cdg X.A X.stack s H Eg).tr pn xe) W) (hr : Room (k + 1) (X.A.deeper (envOfC qg sg s.heap.objs.size g cdg)))
    (hbody : ∀ (A : Around) (outer : List Env) (s : Shared) (H : Hp), Room k (A.deeper (lamEnv X scope s.heap.objs.size f c')) → PE (lamCx X A outer s H E scope f c') body tb)
    (hN : Ng[i]? = some a) (hv : Vis sg a) (hd : (a == ("__debug__" : Str)) = false := by decide) (hcd : (a == ("__classdict__" : Str)) = false := by decide) :
    PE ((cxOf CXg X.prog X.w X.K X.mg X.base Ng qg sg g cdg X.A X.stack s H Eg).tr pn xe) (.Call (.Name a p1) [] [] p2)
      (fun σZ HZ Q => σZ[i]? = some (some (.ref f)) ∧ HZ c' = some (CodeO c' (X.env.qual ++ "<lambda>")) ∧ (∀ cls d H', E cls d H' → W cls d σZ H') ∧ tb σ HZ Q) := by
  refine ⟨fun pinsZ sZ σZ HZ Q IZ h => ?_⟩
  obtain ⟨hs, hc, hWz, ht⟩ := h
  refine wpAny_Call_Name_kw (thn ((pe_var (pos := p1) (i := i) hN hv hd hcd).run pinsZ sZ σZ HZ (fun v H1 => v = .ref f ∧ H1 = HZ) IZ ⟨.ref f, hs, rfl, rfl⟩) fun u s1 ⟨v, H1, I1, r1, q1⟩ => ?_)
  obtain ⟨ev, eH⟩ := q1
  subst ev
  rw [eH] at I1
  obtain rfl : u = Value.ref f := r1
  have of1 : s1.heap.get? f = some (PySem.W.kla_obj "<lambda>" (X.env.qual ++ "<lambda>") params body scope (cloFrom X.env.cells scope.names []) pm c' ctv) := I1.base.keep f _ hf hfn hfr (fun z => nomatch (show f ∈ ([] : List Addr) from z))
  refine PySem.W.callWith_F0 ⟨_, _, _, _, of1⟩ ?_
  have un : Un (frs X.stack) [] H HZ s.heap s1.heap := I1.base
  obtain ⟨⟨oc, vs, t, hoc, hdc, hvc⟩, _, _⟩ := I1.hok c' _ hc
  have rc : codeAny (model X.prog X.w) (X.A.deeper (envOfC qg sg s.heap.objs.size g cdg)) (.call (.ref f) ⟨[], []⟩) (CR (L2.CX X.prog X.w) (envOfC qg sg s.heap.objs.size g cdg :: X.stack) X.prog X.w HZ s1 Q E) s1 := by
    refine PySem.W.kla_callFunE hr.depth of1 rfl L.co L.gen rfl ⟨c', oc, vs, t, rfl, hoc, hdc, hvc⟩ ?_
    rw [hbind]
    refine wpAny_pure (wpAny_newFunctionEnv (fun y hy => (L.own y hy).2) (fun y hy => absurd hy (by simp)) (fun h₁ hns hsb => ⟨I1.nolimit.fresh _ hsb, ?_⟩) L.kind)
    show codeAny _ _ (.expr body (lamEnv X scope s1.heap.objs.size f c')) _ _
    have kp : ∀ b o, s1.heap.get? b = some o → h₁.get? b = some o := fun b o e => hsb.extBut b o (Nat.ne_of_lt (Heap.lt_size e)) (Heap.get?_push_of_some _ e)
    have J : Inv (lamCx X (X.A.deeper (envOfC qg sg s.heap.objs.size g cdg)) (envOfC qg sg s.heap.objs.size g cdg :: X.stack) s1 HZ E scope f c') [] σ HZ { s1 with heap := h₁, toks := s1.toks + ([] : List (Str × Value)).length } :=
      lam_start2 I L I1.env0 hr.hd un hns kp
    refine PySem.W.kla_codeExpr (wpAny_mono ((hbody _ _ s1 HZ (hr.deeper _)).run [] _ _ HZ Q J ht) (fun v s' hq => ?_) fun e s' hq => hq)
    obtain ⟨w', H', J', rv, q⟩ := hq
    exact ⟨w', H', J'.os, J'.bare, J'.base, J'.hok, rv, q⟩
  refine wpAny_call (codeAny_mono rc fun r s' hq => ?_)
  cases r with
  | error e => exact tk e s' (XE.of_call I1 hWz hq)
  | ok fl =>
    cases fl with
    | ret u => exact I1.after hq
    | next => exact False.elim hq
    | brk => exact False.elim hq
    | cont => exact False.elim hq
end
def GivesTo2 (X : Cx) (Ng : List Str) (x : Str) (sg : Scope) (g : Addr) (cdg : Value) (bg : List Stmt) (a : Str) (q : Str) (TT : V → (XK → Hp → VK → Prop) → Hp → VK → Prop) : Prop :=
  ∀ (f c' : Addr) (v : V) (s : Shared) (H : Hp) (Q : VK) (tl : XK → Hp → VK → Prop),
    (∀ (W : WX) (pn : List (Addr × Obj)) (xe : Value → Shared → Prop) (E : XK) (p1 p2 : Pos), Takes ((cxOf C8.CX0 X.prog X.w X.K X.mg X.base Ng x sg g cdg X.A X.stack s H C8.E0).tr pn xe) W →
      PE ((cxOf C8.CX0 X.prog X.w X.K X.mg X.base Ng x sg g cdg X.A X.stack s H C8.E0).tr pn xe) (.Call (.Name a p1) [] [] p2) (fun σZ HZ Q => σZ[0]? = some (some (.ref f)) ∧ HZ c' = some (CodeO c' q) ∧ (∀ cls d H', E cls d H' → W cls d σZ H') ∧ tl E HZ Q)) →
    H c' = some (CodeO c' q) → TT v tl H Q →
    ∃ t, PSs (cxOf C8.CX0 X.prog X.w X.K X.mg X.base Ng x sg g cdg X.A X.stack s H C8.E0).nox bg t ∧ t { nx := fun _ H' => Q .non H', rt := Q } (L2.start Ng [.ref f, v]) H
def tLam2 (T : List (Addr × Str)) (TT : V → (XK → Hp → VK → Prop) → Hp → VK → Prop) (t : XK → TE) (te : TE) : TE := fun σ H Q => Tabs T H ∧ ∀ H1, ExtN H H1 → Tabs T H1 → te σ H1 fun v H2 => ExtN H1 H2 ∧ TT v (fun E H' Q' => t E σ H' Q') H2 Q
section
variable {X : Cx}
theorem pe_lamcall2 {T : List (Addr × Str)} {TT : V → (XK → Hp → VK → Prop) → Hp → VK → Prop} {x a b : Str} {g c P : Addr} {k : Nat} {pg : Arguments} {bg : List Stmt} {sg : Scope} {dV kV doc pm cdv ct oc : Value} {an od : Option Addr} {osl : Array (Option Value)} {Ng : List Str}
    {params : Arguments} {body e2 : Expr} {te : TE} {scope : Scope} {t : XK → TE} {p lpos pos : Pos} (hg : Gl X x) (hm : X.mg x = some (.ref g)) (hk : PySem.W.keepIn X.K (.ref g) = true)
    (lk : X.K.lookup g = some ⟨oc, od, .func (PySem.W.fnOf x x pg bg sg dV kV doc pm an cdv ct), osl⟩) (hcg : PySem.W.codeIn X.K cdv x = true) (hb : L2.Binds X.K (PySem.W.fnOf x x pg bg sg dV kV doc pm an cdv ct) [a, b] []) (Sg : FnScope Ng [a, b] sg) (hNg : Ng[0]? = some a) (hva : Vis sg a)
    (hG : GivesTo2 X Ng x sg g cdv bg a (X.env.qual ++ "<lambda>") TT) (he2 : PE X e2 te)
    (TB : TabB X.base X.mg c P) (hcode : X.env.code = .ref c) (hmT : (P, X.env.qual ++ "<lambda>") ∈ T) (hu : ∀ p ∈ T, p.1 = P → p.2 = X.env.qual ++ "<lambda>") (hr : Room (k + 2) X.A) (L : LamS X.env.scope scope) (hdef : defaultsOf params X.env = ([], []))
    (hbind : ∀ (q : Str) (cl : List (Str × Addr)) (pm cv ctv : Value), bindArgs (PySem.W.kla_fn "<lambda>" q params body scope cl pm cv ctv) ⟨[], []⟩ = pure [])
    (hbody : ∀ (A : Around) (outer : List Env) (s : Shared) (H : Hp) (E : XK) (f c' : Addr), Room k (A.deeper (lamEnv X scope s.heap.objs.size f c')) → PE (lamCx X A outer s H E scope f c') body (t E))
    (na : starEach [e2] X.env = (false, eval e2 X.env) :: starEach [] X.env := by rfl) (hpl : (backTo pos (starEach [e2] X.env)).any (·.1) = false := by rfl)
    (hdb : (x == ("__debug__" : Str)) = false := by decide) (hd : (a == ("__debug__" : Str)) = false := by decide) (hcd : (a == ("__classdict__" : Str)) = false := by decide) :
    PE X (.Call (.Name x p) [.Lambda params body scope lpos, e2] [] pos) (tLam2 T TT t te) := by
  refine ⟨fun pins s σ H Q I h => ?_⟩
  obtain ⟨hT, h⟩ := h
  refine wpAny_Call_Name_kw (ld_glob I hg hm ?_ hdb)
  refine PySem.W.callWith_K (h₀ := X.base) I.ok.mod.kin hk ?_ (by rfl) hpl
  show wpAny _ _ (spliced ((false, eval (.Lambda params body scope lpos) X.env) :: backTo pos (starEach [e2] X.env))) _ _ s
  refine Calls.spliced_cons (lam_make2 I TB hcode hmT hu hT hdef (L.has I.ok) fun f c' pm' ctv H1 s' I1 eN T1 hf hfn hfr hco => ?_)
  have nl : f ≠ X.env.locals := fun z => by
    obtain ⟨m, ⟨o', es, ep, ho', hd', _⟩, _⟩ := I1.loc
    rw [← z, hf] at ho'
    cases ho'
    cases hd'
  have nfs : f ∉ X.fs := fun z => hfr (by
    rcases I1.ok.stk with e | ⟨e, _⟩
    · rw [e]; exact z
    · rw [e]
      obtain ⟨env, h1, h2⟩ := List.mem_filterMap.mp z
      exact List.mem_filterMap.mpr ⟨env, List.mem_cons_of_mem _ h1, h2⟩)
  have I1' : Inv X (pins ++ [(f, PySem.W.kla_obj "<lambda>" (X.env.qual ++ "<lambda>") params body scope (cloFrom X.env.cells scope.names []) pm' c' ctv)]) σ H1 s' := I1.pins_of fun p hp => by
    rcases List.mem_append.mp hp with hp | hp
    · exact I1.pin p (List.mem_append_right _ hp)
    obtain rfl := List.mem_singleton.mp hp
    exact ⟨hf, hfn, nl, nfs, fun v q => by cases q⟩
  refine PyProof.Rows.args_cons (thn (he2.run _ s' σ H1 _ I1' (h H1 eN T1)) fun u s2 ⟨v, H2, I2, rv, eN2, q⟩ => PyProof.Rows.args_nil ⟨I2.kIn, ?_⟩) na
  have hf2 := (I2.pin (f, PySem.W.kla_obj "<lambda>" (X.env.qual ++ "<lambda>") params body scope (cloFrom X.env.cells scope.names []) pm' c' ctv) (List.mem_append_right _ (List.mem_append_right _ List.mem_cons_self)))
  have hco2 : H2 c' = some (CodeO c' (X.env.qual ++ "<lambda>")) := eN2 _ _ hco codeO_ne
  have J2 : Inv X pins σ H2 s2 := I2.unpinned
  have rc : codeAny (model X.prog X.w) X.A (.call (.ref g) ⟨[.ref f, u], []⟩) (CR C8.CX0 X.stack X.prog X.w H2 s2 Q C8.E0) s2 := by
    refine run_ofS (N := Ng) (ps := [a, b]) (us := [.ref f, u]) (vs := [.ref f, v]) lk hcg Sg hr I2.env0 (hb s2 [.ref f, u] I2.kIn rfl) (.cons rfl (.cons rv .nil)) rfl fun hr' => ?_
    obtain ⟨t', ht', hq'⟩ := hG f c' v s2 H2 Q (fun E H' Q' => t E σ H' Q') (fun W pn xe E p1 p2 tk => pe_act2 (i := 0) I2 L hf2.1 hf2.2.1 hfr (hbind _ _ _ _ _) tk hr' (fun A outer s H hr2 => hbody A outer s H E f c' hr2) hNg hva hd hcd) hco2 q
    exact ⟨t', ht'.nox, hq'⟩
  refine wpAny_call (codeAny_mono rc fun r s3 hq => ?_)
  cases r with
  | error e => exact (show False from hq).elim
  | ok fl =>
    cases fl with
    | ret u => exact J2.after hq
    | next => exact False.elim hq
    | brk => exact False.elim hq
    | cont => exact False.elim hq
end
end LamY
namespace K1
open PySem PySem.Spec PyProof.Rows L2
/-! ### a def called in an except suite, which raises nothing -/
structure FnQ (P : Program) (w : World) (K : PySem.W.Frag) (mg : Str → Option Value) (base : Heap) (k : Nat) (f : Addr) (fd : FuncData) (ps : List Str) (sp : Sp) : Prop where
  len : ∀ vs H Q E, sp vs H Q E → vs.length = ps.length
  run : ∀ (A : Around) (outer : List Env) (s : Shared) (H : Hp) (args : Args) (us : List Value) (vs : List V) (Q : VK) (E : XK), L2H.RoomH k A → Env0 P w K mg base A outer s H → BindsTo s fd args (ps.zip us) → Vals vs us → sp vs H Q E →
    codeAny (model P w) A (.call (.ref f) args) (CR CX0 outer P w H s Q E) s
def cxQ (CX : CXT) (P : Program) (w : World) (K : PySem.W.Frag) (mg : Str → Option Value) (base : Heap) (N : List Str) (qual : Str) (scope : Scope) (f : Addr) (cd : Value) (A : Around) (outer : List Env) (s : Shared) (H : Hp) (E : XK) : Cx :=
  { cxOf CX P w K mg base N qual scope f cd A outer s H E with calm := false }
theorem inv_startQ {CX : CXT} {P : Program} {w : World} {K : PySem.W.Frag} {mg : Str → Option Value} {base : Heap} {N ps : List Str} {qual : Str} {scope : Scope} {f : Addr} {cd : Value} {A : Around} {outer : List Env} {s s1 : Shared} {H : Hp} {E : XK} {us : List Value} {vs : List V}
    (S : FnScope N ps scope) (e0 : Env0 P w K mg base A outer s H) (hl : vs.length = ps.length) (r : Vals vs us)
    (x : InCallC s s.heap.objs.size (bindL (envOfC qual scope s.heap.objs.size f cd).kindOf (ps.zip us) fun _ => none) (cellsFrom (s.heap.objs.size + 1) scope.names []) (bindC (envOfC qual scope s.heap.objs.size f cd).kindOf (ps.zip us) fun _ => none) s1) :
    Inv (cxQ CX P w K mg base N qual scope f cd A outer s H E) [] (L2.start N vs) H s1 := by
  have hpl : ps.length ≤ N.length := by have := congrArg List.length S.pre; rw [List.length_take] at this; omega
  obtain ⟨h1, tk, rfl, hk⟩ := x.done
  have noA : ∀ b : Addr, b ∉ (cxQ CX P w K mg base N qual scope f cd A outer s H E).ex := fun b z => absurd (show b ∈ ([] : List Addr) from z) (by simp)
  refine ⟨⟨e0.mod, S.kind, rfl, rfl, Nat.le_refl _, fun y z c h1 h2 => ?_, fun y hy => ?_, fun y c _ h => ?_, (fun z => Bool.noConfusion (show false = true from z)), Around.frames_deeper e0.frames, .inr ⟨rfl, rfl⟩, fun b z => absurd z (noA b), e0.bs, e0.bsz, fun b _ _ => noA b, fun b z => absurd z (noA b), e0.funs, e0.frf⟩,
    rfl, e0.bare, Un.kept hk, ⟨_, x.toInCall.ns, fun i y v h1 h2 h3 => ?_⟩, fun y c h => ⟨_, x.cell y c h⟩, e0.hok.fresh (Nat.le_refl _), fun y c h => ?_, fun q hq => absurd (show q ∈ ([] : List (Addr × Obj)) ++ [] from hq) (by simp), e0.hok.kept hk, ?_⟩
  · exact name_of_addr x.apart (PySem.mem_of_lookup h1) (PySem.mem_of_lookup h2)
  · have hy : scope.names.lookup y = some .cell ∨ scope.names.lookup y = some .free := hy
    rcases hy with hy | hy
    · exact cell_has hy
    · exact absurd rfl (S.nofree _ (PySem.mem_of_lookup hy))
  · exact Nat.le_of_lt (x.above y c (PySem.mem_of_lookup h))
  · have hi : i < vs.length := by
      unfold L2.start at h2
      by_cases hi : i < vs.length
      · exact hi
      · rw [List.getElem?_append_right (by simpa using hi)] at h2
        rw [List.getElem?_replicate] at h2
        split at h2 <;> cases h2
    have ha : vs[i]? = some v := by
      unfold L2.start at h2
      rw [List.getElem?_append_left (by simpa using hi), List.getElem?_map] at h2
      cases e : vs[i]? with
      | none => rw [e] at h2; cases h2
      | some a => rw [e] at h2; cases h2; rfl
    obtain ⟨u, hu, rv⟩ := r.get ha
    have hp : ps[i]? = some y := by
      rw [← S.pre, List.getElem?_take_of_lt (by omega)]; exact h1
    have ndP : ps.Nodup := by rw [← S.pre]; exact S.nd.sublist (List.take_sublist _ _)
    refine ⟨u, rv, ?_⟩
    rcases S.par y (List.mem_of_getElem? hp) with k | k
    · exact .inl ⟨k, bindL_get ndP hp hu k⟩
    · obtain ⟨c, e⟩ := cell_has (n := s.heap.objs.size + 1) k
      refine .inr ⟨.inl k, c, e, ?_⟩
      have q := x.cell y c e
      rw [bindC_get ndP hp hu (by show scope.names.lookup y ≠ _; rw [k]; decide)] at q
      exact q
  · exact e0.hok.fresh (Nat.le_of_lt (x.above y c (PySem.mem_of_lookup h)))
  · unfold L2.start
    show _ = N.length
    rw [List.length_append, List.length_map, List.length_replicate]
    omega
theorem fn_ofQ {P : Program} {w : World} {K : PySem.W.Frag} {mg : Str → Option Value} {base : Heap} {k : Nat} {f : Addr} {name qual : Str} {params : Arguments} {body : List Stmt} {scope : Scope} {dV kV doc pm cdv ct oc : Value} {an od : Option Addr}
    {osl : Array (Option Value)} {N ps : List Str} {sp : Sp} (lk : K.lookup f = some ⟨oc, od, .func (PySem.W.fnOf name qual params body scope dV kV doc pm an cdv ct), osl⟩) (hcd : PySem.W.codeIn K cdv qual = true) (S : FnScope N ps scope)
    (len : ∀ vs H Q E, sp vs H Q E → vs.length = ps.length)
    (hbody : ∀ (A : Around) (outer : List Env) (s : Shared) (H : Hp) (vs : List V) (Q : VK) (E : XK), L2H.RoomH k (A.deeper (envOfC qual scope s.heap.objs.size f cdv)) → sp vs H Q E →
      ∃ t, PSs (cxQ CX0 P w K mg base N qual scope f cdv A outer s H E) body t ∧ t { nx := fun _ H' => Q .non H', rt := Q } (L2.start N vs) H) :
    FnQ P w K mg base (k + 1) f (PySem.W.fnOf name qual params body scope dV kV doc pm an cdv ct) ps sp := by
  refine ⟨len, fun A outer s H args us vs Q E hr e0 hb r hsp => ?_⟩
  have hl := len _ _ _ _ hsp
  have KX : K.In s.heap := e0.mod.kin.keeps fun b o e => (e0.bs b o e).1
  have lim : s.heap.NoLimit := e0.mod.nolimit.keeps fun b o e => (e0.bs b o e).1
  have hkind : ∀ y ∈ ps.zip us, scope.names.lookup y.1 = some .local ∨ (scope.names.lookup y.1 = some .cell ∧ ((cellsFrom (s.heap.objs.size + 1) scope.names []).lookup y.1).isSome = true) := fun ⟨n, v⟩ hy => by
    rcases S.par n (List.of_mem_zip hy).1 with q | q
    · exact .inl q
    · exact .inr ⟨q, PySem.W.cellsFrom_some _ _ _ (.inl q)⟩
  refine codeAny_call_function hr.depth (KX _ _ lk) rfl S.co S.gen rfl (PySem.W.codeRec_of KX hcd) (hb _ _ _ _ ?_)
  refine wpAny_newFunctionEnv_cells S.kind hkind fun env he s1 x => ?_
  subst he
  refine ⟨lim.keeps x.toInCall.keep, codeAny_func ?_⟩
  obtain ⟨t, ht, hq⟩ := hbody A outer s H vs Q E (hr.deeper _) hsp
  have I : Inv (cxQ CX0 P w K mg base N qual scope f cdv A outer s H E) [] (L2.start N vs) H s1 := inv_startQ S e0 hl r x
  refine wpAny_mono (ht.run [] s1 (L2.start N vs) H _ I hq) (fun fl s' hs => ?_) fun e s' hs => hs
  have fin : ∀ {σ' : L2.St} {H' : Hp} {v : V} {u : Value}, Inv (cxQ CX0 P w K mg base N qual scope f cdv A outer s H E) [] σ' H' s' → RelV v u → Q v H' → CE outer P w H s Q u s' :=
    fun {σ' H' v u} J rv q => ⟨v, H', J.os, J.bare, J.base, J.hok, rv, q⟩
  cases fl with
  | ret u =>
    obtain ⟨v, σ', H', J, rv, q⟩ := hs
    exact fin J rv q
  | next =>
    obtain ⟨σ', H', J, q⟩ := hs
    exact fin (v := V.non) (u := Value.none) J rfl q
  | brk =>
    obtain ⟨_, _, _, q⟩ := hs
    exact False.elim q
  | cont =>
    obtain ⟨_, _, _, q⟩ := hs
    exact False.elim q

/-- x == y by x's own __eq__: y another such instance, or a tuple -/
def rEqOwn (C : Addr) (sp : Sp) : R2 := fun x y H Q => ∃ (a : Addr) (dx : Addr) (fs : List (Str × V)), x = .ref a ∧ H a = some (.ins C dx fs) ∧ ((∃ (b dy : Addr) (gs : List (Str × V)), y = .ref b ∧ H b = some (.ins C dy gs)) ∨ ∃ (b : Addr) (ys : List V), y = .ref b ∧ H b = some (.tup ys)) ∧
  sp [x, y] H (fun v H' => ∃ k, v = .bl k ∧ Q v H') E0
theorem op_eqOwnH {X : Cx} {n : Nat} {C f : Addr} {fd : FuncData} {ps : List Str} {sp : Sp} (F : FnQ X.prog X.w X.K X.mg X.base n f fd ps sp) (hr : L2H.RoomH n X.A)
    (hs : PySem.W.findIn X.K (.ref C) "__eq__" = some (some (.ref f))) (hf : PySem.W.isFn X.K (.ref f) = true) (hb : Binds X.K fd ps []) (nf : PySem.W.notFirst X.K C (.type "tuple") = true) : OpR X (compareOp .Eq) (rEqOwn C sp) := by
  intro pins s σ H x y v u Q I rx ry hq
  obtain ⟨a, dx, fs, rfl, ha, hy, hsp⟩ := hq
  cases rx
  show wpAny (model X.prog X.w) X.A (richCompare .Eq (.ref a) u) (EP X pins σ Q) X.xe s
  obtain ⟨mA, J, _⟩ := ins_get I.hok ha
  obtain ⟨od, J, _⟩ := J.look
  obtain ⟨m, hF⟩ := I.fr
  have tl : ∃ tb, PySem.W.Looks (model X.prog X.w) s.heap (typeOf u) tb ∧ PySem.W.notFirst X.K C tb = true := by
    rcases hy with ⟨b, dy, gs, rfl, hb'⟩ | ⟨b, ys, rfl, hb'⟩
    · cases ry
      obtain ⟨mB, J', _⟩ := ins_get I.hok hb'
      obtain ⟨od', J', _⟩ := J'.look
      exact ⟨.ref C, J'.type, by simp [PySem.W.notFirst]⟩
    · cases ry
      obtain ⟨_, its, rv, o, h1, h2, _⟩ := (show ObjOk X.prog X.w H s.heap b (.tup ys) from I.hok b _ hb')
      exact ⟨.type "tuple", h2 ▸ (PySem.W.Looks.ld h1).andThen .now, nf⟩
  obtain ⟨tb, tl, hn⟩ := tl
  refine PySem.W.cmp_K (op := .Eq) (tb := tb) (by have := hr.un; omega) hF I.ok.mod.kin J tl hn hs hf ?_
  have hl := F.len _ _ _ _ hsp
  have r2 : Vals [V.ref a, y] [Value.ref a, u] := .cons rfl (.cons ry .nil)
  refine wpAny_call (codeAny_mono (F.run X.A X.stack s H ⟨[.ref a, u], []⟩ [.ref a, u] [.ref a, y] _ E0 hr I.env0 (by
    have := hb s [.ref a, u] I.kIn (by simpa using hl)
    simpa using this) r2 hsp) fun r s' hq => ?_)
  cases r with
  | error e => exact (show False from hq).elim
  | ok fl =>
    cases fl with
    | ret w =>
      obtain ⟨z, H', I', rz, k, ez, q⟩ := I.after hq
      subst ez
      cases rz
      exact ⟨.bl k, H', I', rfl, q⟩
    | next => exact False.elim hq
    | brk => exact False.elim hq
    | cont => exact False.elim hq
/-! ### web == web, in an except suite -/
theorem ok_weqH {P : Program} {w : World} {K : PySem.W.Frag} {mg : Str → Option Value} {base : Heap} {f W : Addr} {fd : FuncData} (F : Fun K "__eq__" "Web.__eq__" sWEq f fd) (B : Bt mg) (T : WcT K mg W) (y : PySem.W.kitOne K (.ref W) (.ref W) = some true) (ca : PySem.W.findIn K (.ref W) "__class__" = some (some (.builtin "object.__class__")))
    (sp : PySem.W.specialIn K (.builtin "object.__class__") "__get__" = some (some (.builtin "getset_descriptor.__get__"))) (tk : PySem.W.takesIn K (.builtin "object.__class__") = some true) (mo : PySem.W.mroIn K W (.type "object") = some true) : FnQ P w K mg base 1 f fd ["self", "other"] (spWEq W) := by
  obtain ⟨oc, od, kV, doc, pm, an, cdv, ct, osl, rfl, lk, hcd⟩ := F.ex
  refine fn_ofQ (k := 0) lk hcd scWE (fun vs H Q E h => ?_) (fun A outer s H vs Q E hr h => ?_)
  · obtain ⟨w, w2, n, ts, rfl, _⟩ := h
    rfl
  · obtain ⟨w, w2, n, ts, rfl, ⟨dx, ta, h1, h2⟩, ⟨dx2, ta2, g1, g2⟩, hW, q⟩ := h
    have hu : (A.deeper (envOfC "Web.__eq__" (defScope sWEq) s.heap.objs.size f cdv)).units + 64 < cLine := by have := hr.un; omega
    refine ⟨_, pss_one (ps_ret (pe_and (pe_callB call_isi (by rfl) B.isinstance (by decide +kernel) (pa_cons (pv 1) (pa_cons (pe_glob (v := .ref W) (by rfl) T.g rfl) pa_nil)))
      (pe_and (pe_cmpR op_eq (pe_fld (pv 0) rfl) (pe_fld (pv 1) rfl) (nomark _)) (pe_one (pe_cmpR (op_eqD hu) (pe_fld (pv 0) rfl) (pe_fld (pv 1) rfl) (nomark _)))))), ?_⟩
    have pl := pl_dTi hW
    refine ⟨_, rfl, _, _, _, _, _, rfl, .own W, .base (.ins g1 T.cl ca sp tk mo), y, _, rfl, iteT ?_⟩
    refine ⟨_, rfl, w, W, dx, _, _, rfl, h1, T.cl, T.nH, wf_h _ _, _, rfl, w2, W, dx2, _, _, rfl, g1, T.cl, T.nH, wf_h _ _, eqVV rfl ⟨_, rfl, iteT ?_⟩⟩
    exact ⟨_, rfl, w, W, dx, _, _, rfl, h1, T.cl, T.nT, wf_t _ _, _, rfl, w2, W, dx2, _, _, rfl, g1, T.cl, T.nT, wf_t _ _, eqDP h2.dp g2.dp pl (by decide) q⟩
/-! ### whether a call is refused for a web -/
def HEw (W CR : Addr) (Q : VK) (v : V) : XK := fun cls d H => ∃ dd : Addr, d = some dd ∧ cls = .ref CR ∧ ∃ (w w2 : Addr) (n : Nat) (ts : Prs), H dd = some (.xd [("at", .ref w)]) ∧ v = .ref w2 ∧ WebAt W H w n ts ∧ WebAt W H w2 n ts ∧ Wv n ts ∧ Q (.bl true) H
def TWr (W CR : Addr) : V → (XK → Hp → VK → Prop) → Hp → VK → Prop := fun v tl H Q => tl (HEw W CR Q v) H fun _ H' => Q (.bl false) H'
theorem scWR : FnScope ["_law_ask", "_law_web", "fault"] ["_law_ask", "_law_web"] (defScope sLWebRefused) := ⟨rfl, rfl, rfl, by decide +kernel, rfl, by decide +kernel, by decide +kernel⟩
theorem takes_len3 {X : Cx} {W : WX} (tk : Takes X W) : Takes X (fun cls d σ H => σ.length = X.N.length → W cls d σ H) := takes_len tk
structure Wq (P : Program) (w : World) (K : PySem.W.Frag) (mg : Str → Option Value) (base : Heap) (W CR : Addr) : Prop where
  B : Bt mg
  TW : WcT K mg W
  y : PySem.W.kitOne K (.ref W) (.ref W) = some true
  ca : PySem.W.findIn K (.ref W) "__class__" = some (some (.builtin "object.__class__"))
  sp : PySem.W.specialIn K (.builtin "object.__class__") "__get__" = some (some (.builtin "getset_descriptor.__get__"))
  tk : PySem.W.takesIn K (.builtin "object.__class__") = some true
  mo : PySem.W.mroIn K W (.type "object") = some true
  nf : PySem.W.notFirst K W (.type "tuple") = true
  eq : ∃ f fd, FnQ P w K mg base 1 f fd ["self", "other"] (spWEq W) ∧ PySem.W.findIn K (.ref W) "__eq__" = some (some (.ref f)) ∧ PySem.W.isFn K (.ref f) = true ∧ L2.Binds K fd ["self", "other"] []
  t3 : ∃ q b i, LAt.Txt K mg "Refused" q b CR i
  rr : PySem.W.exmOne K (.ref CR) (.ref CR) = some true
  df : ∃ g fd, Df K mg "_law_web_refused" sLWebRefused ["_law_ask", "_law_web"] g fd
theorem hotR {k : Nat} {X : Cx} {a : Addr} {pn : List (Addr × Obj)} (hr : Room (k + 1) X.A) : L2H.RoomH 1 (X.suite a pn).A := ⟨by have := hr.dp; show X.A.depth + 3 * 1 + 5 < _; omega, by have := hr.un; show X.A.units + 16 * 1 + 200 < _; omega⟩
theorem isiK {X : Cx} {K : PySem.W.Frag} (h : X.K = K) : CallR X (.builtin "isinstance") (rIsi K) := by subst h; exact call_isi
theorem wr_gives {X : Cx} {W CR g : Addr} {k : Nat} {cdg : Value} {q : Str} (wq : Wq X.prog X.w X.K X.mg X.base W CR) (hr : Room (k + 2) X.A) :
    LamY.GivesTo2 X ["_law_ask", "_law_web", "fault"] "_law_web_refused" (defScope sLWebRefused) g cdg (defBody sLWebRefused) "_law_ask" q (TWr W CR) := by
  intro f c' v s H Q tl act hc h
  have hr1 := hr.deeper (envOfC "_law_web_refused" (defScope sLWebRefused) s.heap.objs.size g cdg)
  have B := wq.B
  obtain ⟨fe, fde, GE, e1, e2, e3⟩ := wq.eq
  obtain ⟨q3, b3, i3, T3⟩ := wq.t3
  generalize hZ : (cxOf C8.CX0 X.prog X.w X.K X.mg X.base ["_law_ask", "_law_web", "fault"] "_law_web_refused" (defScope sLWebRefused) g cdg X.A X.stack s H C8.E0) = Z at act ⊢
  subst hZ
  refine ⟨_, pss_cons (ps_try_all (n := "fault") (i := 2) (tb := fun Wx D σ H => ∃ Ech : XK, (∀ cls d H', Ech cls d H' → Wx cls d σ H') ∧ σ[0]? = some (some (.ref f)) ∧ H c' = some (LamX.CodeO c' q) ∧ tl Ech H fun v H1 => D.nx σ H1)
      rfl rfl scWR.nd rfl rfl LamX.takes0 (fun Wx pn xe tk _ => ?_)
      (.cons (c := .ref CR) ⟨rfl, by decide, .inl T3.gC⟩ (fun a oe cls d pn hz hf => pss_one (ps_ret (pe_and (pe_callB (isiK (K := X.K) rfl) rfl B.isinstance (by decide +kernel) (pa_cons (pe_by_LAt T3 hz hf (pv 2)) (pa_cons (pe_glob (v := .ref W) rfl wq.TW.g rfl) pa_nil)))
        (pe_one (pe_cmpR (op_eqOwnH GE (hotR hr1) e1 e2 e3 wq.nf) (pe_by_LAt T3 hz hf (pv 2)) (pv 1) (nomark _)))))) .nil))
      (pss_one (ps_ret pe_bl)), ?_⟩
  · refine ⟨fun pins s' σ H' D I h' => ?_⟩
    obtain ⟨Ech, hW, h1, h2, h3⟩ := h'
    have hp := fun p1 p2 => act Wx pn xe Ech p1 p2 tk
    exact (pss_one (ps_expr (hp _ _))).run pins s' σ H' D I ⟨h1, h2, hW, h3⟩
  · refine ⟨HEw W CR Q v, fun cls d H' he => ?_, rfl, hc, h⟩
    obtain ⟨dd, rfl, rfl, w1, w2, n, ts, hx, rfl, hw1, hw2, hW, hq⟩ := he
    refine ⟨true, wq.rr, fun _ a na => ?_, fun z => (by cases z)⟩
    obtain ⟨dx, ta, h1, _⟩ := id hw1
    obtain ⟨dx2, ta2, h2, _⟩ := id hw2
    refine ⟨_, rfl, rfl, rfl, dd, .ref w1, rfl, hx, ?_⟩
    unfold tNil
    dsimp only
    refine ⟨_, _, _, _, _, rfl, .own W, .base (.ins h1 wq.TW.cl wq.ca wq.sp wq.tk wq.mo), wq.y, _, rfl, iteT ?_⟩
    exact ⟨_, rfl, rfl, rfl, dd, .ref w1, rfl, hx, _, rfl, w1, dx, _, rfl, h1, .inl ⟨w2, dx2, _, rfl, h2⟩, w1, w2, n, ts, rfl, hw1, hw2, hW, true, rfl, hq⟩
theorem pWr {X : Cx} {c P W CR : Addr} {k : Nat} {qn : Str} {T : List (Addr × Str)} {params : Arguments} {body e2 : Expr} {te : TE} {scope : Scope} {t : XK → TE} {p lpos pos : Pos} (wq : Wq X.prog X.w X.K X.mg X.base W CR) (TB : LamX.TabB X.base X.mg c P) (hr : Room (k + 2) X.A) (hcode : X.env.code = .ref c)
    (hq : X.env.qual ++ "<lambda>" = qn) (hm : (P, qn) ∈ T) (hun : ∀ p ∈ T, p.1 = P → p.2 = qn) (hg : Gl X "_law_web_refused") (L : LamX.LamS X.env.scope scope) (hdef : defaultsOf params X.env = ([], []))
    (hbind : ∀ (q : Str) (cl : List (Str × Addr)) (pm cv ctv : Value), bindArgs (PySem.W.kla_fn "<lambda>" q params body scope cl pm cv ctv) ⟨[], []⟩ = pure [])
    (hbody : ∀ (A : Around) (outer : List Env) (s : Shared) (H : Hp) (E : XK) (f c' : Addr), Room k (A.deeper (LamX.lamEnv X scope s.heap.objs.size f c')) → PE (LamX.lamCx X A outer s H E scope f c') body (t E)) (he2 : PE X e2 te)
    (na : starEach [e2] X.env = (false, eval e2 X.env) :: starEach [] X.env := by rfl) (hpl : (backTo pos (starEach [e2] X.env)).any (·.1) = false := by rfl) :
    PE X (.Call (.Name "_law_web_refused" p) [.Lambda params body scope lpos, e2] [] pos) (LamY.tLam2 T (TWr W CR) t te) := by
  obtain ⟨g, fd, D⟩ := wq.df
  have hb := D.b
  obtain ⟨oc, od, kV, doc, pm, an, cdv, ct, osl, rfl, lk, hcd⟩ := D.F.ex
  exact LamY.pe_lamcall2 (a := "_law_ask") hg D.g D.F.kp lk hcd hb scWR rfl (.inl rfl) (wr_gives wq hr) he2 TB hcode (by rw [hq]; exact hm) (fun p hp e => by rw [hq]; exact hun p hp e) hr L hdef hbind hbody na hpl
end K1
namespace K1
open PySem PySem.Spec PyProof.Rows L2
def spPower : Sp := fun vs H Q _ => ∃ k : Nat, vs = [.int (k : Int)] ∧ k ≤ 60 ∧ Q (.int (10 ^ k)) H
def spStill : Sp := fun vs H Q _ => ∃ (ta sl al : Addr) (ss ar : List Int) (n : Nat) (ts : Prs), vs = [.ref ta, .ref sl, .ref al] ∧ TiesT H ta ts ∧ H sl = some (.lst (vrow ss)) ∧ H al = some (.lst (vrow ar)) ∧ ss.length = n ∧ ar.length = ts.length ∧ Wv n ts ∧ ∀ b : Bool, (b = true ↔ Alk ts (ss, ar)) → Q (.bl b) H
def But2 (x y : Addr) (H H' : Hp) : Prop := ∀ c o, H c = some o → c ≠ x → c ≠ y → H' c = some o
def spMetL : Sp := fun vs H Q _ => ∃ (ta sl al : Addr) (ss ar : List Int) (n : Nat) (ts : Prs) (t : Nat), vs = [.ref ta, .ref sl, .ref al, .int (t : Int)] ∧ TiesT H ta ts ∧ H sl = some (.lst (vrow ss)) ∧ H al = some (.lst (vrow ar)) ∧ sl ≠ al ∧ ss.length = n ∧ ar.length = ts.length ∧ Wv n ts ∧ t < ts.length ∧
  ∀ H', But2 sl al H H' → H' sl = some (.lst (vrow (metS 0 ts (ss, ar) t).1)) → H' al = some (.lst (vrow (metS 0 ts (ss, ar) t).2)) → Q .non H'
def spDue : Sp := fun vs H Q _ => ∃ (ta p : Addr) (n : Nat) (ts : Prs) (tu : List Nat) (rk : Nat → Nat), vs = [.ref ta, .int (n : Int), .ref p] ∧ TiesT H ta ts ∧ H p = some (.tup (vn tu)) ∧ Wv n ts ∧ Fo rk ts ∧ GoodTu ts.length tu ∧ ∀ (k : Nat) H', Same H H' → FirstAt (fun k => ∀ i, i < n + ts.length → Alk ts (U n ts i (cyc tu k))) k → k ≤ n * ts.length → Q (.int (k : Int)) H'
def spHears : Sp := fun vs H Q _ => ∃ (ta p : Addr) (n : Nat) (ts : Prs) (tu : List Nat) (h y : Nat), vs = [.ref ta, .ref p, .int (h : Int), .int (y : Int)] ∧ TiesT H ta ts ∧ H p = some (.tup (vn tu)) ∧ Wv n ts ∧ ts.length ≤ 13 ∧ GoodTu ts.length tu ∧ h < n ∧ y < n ∧ (∀ H', Same H H' → ¬ Cn ts h y → Q .non H') ∧
  ∀ (k : Nat) H', Same H H' → Cn ts h y → FirstAt (fun k => hear ts h (cyc tu k) y = true) k → k ≤ (n - 1) * ts.length → Q (.int (k : Int)) H'
section
variable {P : Program} {w : World} {K : PySem.W.Frag} {mg : Str → Option Value} {base : Heap}
theorem scPo : FnScope ["_law_number", "_law_found", "_law_turn"] ["_law_number"] (defScope sLPower) := ⟨rfl, rfl, rfl, by decide +kernel, rfl, by decide +kernel, by decide +kernel⟩
theorem ok_power {f : Addr} {fd : FuncData} (D : Df K mg "_law_power" sLPower ["_law_number"] f fd) (B : Bt mg) : FnOk P w K mg base CX0 1 f fd ["_law_number"] spPower := by
  refine D.F.ok scPo (fun vs H Q E h => ?_) (fun cdv A outer s H vs Q E hr h => ?_)
  · obtain ⟨k, rfl, _⟩ := h
    rfl
  · obtain ⟨k, rfl, hk, q⟩ := h
    refine ⟨_, pss_cons (ps_set (i := 1) scPo.nd rfl (.inl rfl) pe_int)
      (pss_cons (ps_for PassesOwn.never rfl (pi_range1 (by rfl) B.range (pa_cons (pv 0) pa_nil)) (pg_name (i := 2) scPo.nd rfl (.inl rfl)) (pss_one (ps_set (i := 1) scPo.nd rfl (.inl rfl) (pe_op op_mul (pv 1) pe_int))))
      (pss_one (ps_ret (pv 1)))), ?_⟩
    refine gn ?_
    dsimp only [List.set]
    refine ⟨_, rfl, (k : Int), rfl, by omega, by omega, for_range (fun i σ H' => ∃ v2 : Option V, σ = [some (.int (k : Int)), some (.int (10 ^ i)), v2] ∧ H' = H) ⟨none, rfl, rfl⟩ ?_ ?_⟩
    · rintro i σ H' hi ⟨v2, rfl, rfl⟩
      refine ⟨_, rfl, _, _, rfl, rfl, .inr ⟨by decide, by decide⟩, some (.int (0 + (i : Int))), ?_, rfl⟩
      rw [Int.pow_succ]; rfl
    · rintro σ H' ⟨v2, rfl, rfl⟩
      exact ⟨_, rfl, q⟩
theorem scSt : FnScope ["_law_ties", "_law_states", "_law_archives", "_law_tie"] ["_law_ties", "_law_states", "_law_archives"] (defScope sLStill) := ⟨rfl, rfl, rfl, by decide +kernel, rfl, by decide +kernel, by decide +kernel⟩
theorem ok_still {f : Addr} {fd : FuncData} (D : Df K mg "_law_still" sLStill ["_law_ties", "_law_states", "_law_archives"] f fd) (B : Bt mg) : FnOk P w K mg base CX0 1 f fd ["_law_ties", "_law_states", "_law_archives"] spStill := by
  refine D.F.ok scSt (fun vs H Q E h => ?_) (fun cdv A outer s H vs Q E hr h => ?_)
  · obtain ⟨ta, sl, al, ss, ar, n, ts, rfl, _⟩ := h
    rfl
  · obtain ⟨ta, sl, al, ss, ar, n, ts, rfl, ⟨tas, ht, hA⟩, hs, ha, ls, la, hW, q⟩ := h
    refine ⟨_, pss_cons (ps_for PassesOwn.never rfl (pi_range1 (by rfl) B.range (pa_cons (pe_callB call_len_seq (by rfl) B.len PySem.boot_len (pa_cons (pv 0) pa_nil)) pa_nil)) (pg_name (i := 3) scSt.nd rfl (.inl rfl))
        (pss_one (ps_if (PW.pt (pw_or (pt_cmpR op_ne (pe_ix ix_list (pv 1) (pe_ix ix_tup (pe_ix ix_tup (pv 0) (pv 3) (fun _ _ => rfl)) pe_int (fun _ _ => rfl)) (fun _ _ => rfl)) (pe_ix ix_list (pv 2) (pv 3) (fun _ _ => rfl)) (nomark _)) (pw_or1 (pt_cmpR op_ne (pe_ix ix_list (pv 1) (pe_ix ix_tup (pe_ix ix_tup (pv 0) (pv 3) (fun _ _ => rfl)) pe_int (fun _ _ => rfl)) (fun _ _ => rfl)) (pe_ix ix_list (pv 2) (pv 3) (fun _ _ => rfl)) (nomark _))))) (pss_one (ps_ret pe_bl)) pss_nil)))
      (pss_one (ps_ret pe_bl)), ?_⟩
    have t20 := hW.t20
    have el : ((tas.map V.ref).length : Int) = (ts.length : Int) := by rw [List.length_map, hA.1]
    refine ⟨_, rfl, ta, _, rfl, .inr (SqT.of ht), ((tas.map V.ref).length : Int), rfl, by omega, by omega, for_range (fun k σ H' => ∃ v3 : Option V, σ = [some (.ref ta), some (.ref sl), some (.ref al), v3] ∧ H' = H ∧ ∀ (t : Nat) (p : Nat × Nat), t < k → ts[t]? = some p → ss.getD p.1 0 = ar.getD t 0 ∧ ss.getD p.2 0 = ar.getD t 0) ⟨none, rfl, rfl, fun t p h => absurd h (Nat.not_lt_zero _)⟩ ?_ ?_⟩
    · rintro k σ H' hk ⟨v3, rfl, rfl, hal⟩
      have hkl : k < ts.length := by omega
      obtain ⟨p, hp⟩ := ex_at hkl
      obtain ⟨p1, p2, p3⟩ := hW.at_ hp
      obtain ⟨pa, hpa0, hpa⟩ := hA.get hp
      have hpa' : H' pa = some (.tup [.int (p.1 : Int), .int (p.2 : Int)]) := hpa
      have r0 : atI (tas.map V.ref) (0 + (k : Int)) = some (.ref pa) := by rw [Int.zero_add]; exact at_i (map_at hpa0)
      have r1 : atI (vrow ar) (0 + (k : Int)) = some (.int (ar.getD k 0)) := by rw [Int.zero_add]; exact at_i (vrow_get (by omega))
      refine ⟨_, rfl, _, rfl, _, rfl, ta, _, _, .ref pa, rfl, rfl, SqT.of ht, r0, pa, _, 0, .int (p.1 : Int), rfl, rfl, SqT.of hpa', atI_nat (j := 0) rfl, sl, _, (p.1 : Int), .int (ss.getD p.1 0), rfl, rfl, SqL.of hs, at_i (vrow_get (by omega)), _, rfl, _, rfl, al, _, _, .int (ar.getD k 0), rfl, rfl, SqL.of ha, r1, rfl, _, rfl, ifD (fun e => ?_) fun e => ?_⟩
      · refine iteT ?_
        refine q false ⟨fun z => (by cases z), fun z => ?_⟩
        have e1 := (z k p hp).1
        have : (!decide (V.int (ss.getD p.1 0) = V.int (ar.getD k 0))) = true := e
        rw [decide_eq_true (by rw [e1])] at this
        cases this
      · have e1 : ss.getD p.1 0 = ar.getD k 0 := by
          have : (!decide (V.int (ss.getD p.1 0) = V.int (ar.getD k 0))) = false := e
          simpa using this
        refine ⟨_, rfl, _, rfl, _, rfl, ta, _, _, .ref pa, rfl, rfl, SqT.of ht, r0, pa, _, 1, .int (p.2 : Int), rfl, rfl, SqT.of hpa', atI_nat (j := 1) rfl, sl, _, (p.2 : Int), .int (ss.getD p.2 0), rfl, rfl, SqL.of hs, at_i (vrow_get (by omega)), _, rfl, _, rfl, al, _, _, .int (ar.getD k 0), rfl, rfl, SqL.of ha, r1, rfl, _, rfl, ifD (fun e => ?_) fun e => ?_⟩
        · refine q false ⟨fun z => (by cases z), fun z => ?_⟩
          have e2 := (z k p hp).2
          have : (!decide (V.int (ss.getD p.2 0) = V.int (ar.getD k 0))) = true := e
          rw [decide_eq_true (by rw [e2])] at this
          cases this
        · have e2 : ss.getD p.2 0 = ar.getD k 0 := by
            have : (!decide (V.int (ss.getD p.2 0) = V.int (ar.getD k 0))) = false := e
            simpa using this
          refine ⟨_, rfl, rfl, fun t p' ht' hp' => ?_⟩
          by_cases c : t = k
          · subst c
            obtain rfl := lookup_same hp hp'
            exact ⟨e1, e2⟩
          · exact hal t p' (by omega) hp'
    · rintro σ H' ⟨v3, rfl, rfl, hal⟩
      exact q true ⟨fun _ t p hp => hal t p (by have := lt_at hp; omega) hp, fun _ => rfl⟩
abbrev nMt : List Str := ["_law_ties", "_law_states", "_law_archives", "_law_tie", "_law_one", "_law_other", "_law_state"]
theorem scMt : FnScope nMt ["_law_ties", "_law_states", "_law_archives", "_law_tie"] (defScope sLMet) := ⟨rfl, rfl, rfl, by decide +kernel, rfl, by decide +kernel, by decide +kernel⟩
theorem ok_metL {f : Addr} {fd : FuncData} (D : Df K mg "_law_met" sLMet ["_law_ties", "_law_states", "_law_archives", "_law_tie"] f fd) : FnOk P w K mg base CX0 1 f fd ["_law_ties", "_law_states", "_law_archives", "_law_tie"] spMetL := by
  refine D.F.ok scMt (fun vs H Q E h => ?_) (fun cdv A outer s H vs Q E hr h => ?_)
  · obtain ⟨ta, sl, al, ss, ar, n, ts, t, rfl, _⟩ := h
    rfl
  · obtain ⟨ta, sl, al, ss, ar, n, ts, t, rfl, ⟨tas, ht, hA⟩, hsl, hal, nla, ls, la, hW, htl, q⟩ := h
    refine ⟨_, pss_cons (ps_asg (pe_ix ix_tup (pv 0) (pv 3) (fun _ _ => rfl)) (pg_tup rfl (pgs_cons (pg_name (i := 4) scMt.nd rfl (.inl rfl)) (pgs_cons (pg_name (i := 5) scMt.nd rfl (.inl rfl)) pgs_nil))))
      (pss_cons (ps_set (i := 6) scMt.nd rfl (.inl rfl) (pe_op op_sub (pe_op op_add (pe_ix ix_list (pv 1) (pv 4) (fun _ _ => rfl)) (pe_ix ix_list (pv 1) (pv 5) (fun _ _ => rfl))) (pe_ix ix_list (pv 2) (pv 3) (fun _ _ => rfl))))
      (pss_cons (ps_asg (pv 6) (pg_sub (pv 1) (pv 4) set_list))
      (pss_cons (ps_asg (pv 6) (pg_sub (pv 1) (pv 5) set_list))
      (pss_one (ps_asg (pv 6) (pg_sub (pv 2) (pv 3) set_list)))))), ?_⟩
    obtain ⟨p, hp⟩ := ex_at htl
    obtain ⟨p1, p2, p3⟩ := hW.at_ hp
    obtain ⟨pa, ha, hpa⟩ := hA.get hp
    have hpa' : H pa = some (.tup [.int (p.1 : Int), .int (p.2 : Int)]) := hpa
    refine ⟨_, rfl, _, rfl, ta, _, (t : Int), .ref pa, rfl, rfl, SqT.of ht, at_i (map_at ha), pa, _, rfl, SqT.of hpa', rfl, _, _, rfl, _, _, rfl, rfl, ?_⟩
    refine ⟨_, rfl, _, rfl, sl, _, (p.1 : Int), .int (ss.getD p.1 0), rfl, rfl, SqL.of hsl, at_i (vrow_get (by omega)), _, rfl, _, rfl, sl, _, (p.2 : Int), .int (ss.getD p.2 0), rfl, rfl, SqL.of hsl, at_i (vrow_get (by omega)), _, _, rfl, rfl, _, rfl, _, rfl, al, _, (t : Int), .int (ar.getD t 0), rfl, rfl, SqL.of hal, at_i (vrow_get (by omega)), _, _, rfl, rfl, ?_⟩
    have q' := q
    have em : metS 0 ts (ss, ar) t = ((ss.set p.1 (metN 0 ss ar p t)).set p.2 (metN 0 ss ar p t), ar.set t (metN 0 ss ar p t)) := by unfold metS; rw [hp]
    rw [em] at q'
    refine gn ?_
    dsimp only [List.set]
    generalize hx : metN 0 ss ar p t = x at q'
    have hx' : ss.getD p.1 0 + ss.getD p.2 0 - ar.getD t 0 = x := hx
    rw [hx']
    refine ⟨_, rfl, _, rfl, _, rfl, sl, _, (p.1 : Int), p.1, rfl, rfl, hsl, ixN_nat (by rw [vrow_len]; omega), ?_⟩
    rw [← vrow_set]
    refine ⟨_, rfl, _, rfl, _, rfl, sl, _, (p.2 : Int), p.2, rfl, rfl, upd_same, ixN_nat (by rw [vrow_len, List.length_set]; omega), ?_⟩
    rw [← vrow_set]
    refine ⟨_, rfl, _, rfl, _, rfl, al, _, (t : Int), t, rfl, rfl, (by rw [upd_ne nla.symm, upd_ne nla.symm]; exact hal), ixN_nat (by rw [vrow_len]; omega), ?_⟩
    rw [← vrow_set]
    exact q' _ (fun c o e n1 n2 => by rw [upd_ne n2, upd_ne n1, upd_ne n1]; exact e) (by rw [upd_ne nla, upd_same]) upd_same
abbrev nDu : List Str := ["_law_ties", "_law_many", "_law_turns", "_law_states", "_law_archives", "_law_turn", "_law_house", "_law_tie"]
theorem scDu : FnScope nDu ["_law_ties", "_law_many", "_law_turns"] (defScope sLDue) := ⟨rfl, rfl, rfl, by decide +kernel, rfl, by decide +kernel, by decide +kernel⟩
theorem ok_due {f fP fS fM : Addr} {fd fdP fdS fdM : FuncData} (D : Df K mg "_law_due" sLDue ["_law_ties", "_law_many", "_law_turns"] f fd) (DP : Df K mg "_law_power" sLPower ["_law_number"] fP fdP) (DS : Df K mg "_law_still" sLStill ["_law_ties", "_law_states", "_law_archives"] fS fdS) (DM : Df K mg "_law_met" sLMet ["_law_ties", "_law_states", "_law_archives", "_law_tie"] fM fdM) (B : Bt mg)
    (GP : FnOk P w K mg base CX0 1 fP fdP ["_law_number"] spPower) (GS : FnOk P w K mg base CX0 1 fS fdS ["_law_ties", "_law_states", "_law_archives"] spStill) (GM : FnOk P w K mg base CX0 1 fM fdM ["_law_ties", "_law_states", "_law_archives", "_law_tie"] spMetL) : FnOk P w K mg base CX0 2 f fd ["_law_ties", "_law_many", "_law_turns"] spDue := by
  refine D.F.ok scDu (fun vs H Q E h => ?_) (fun cdv A outer s H vs Q E hr h => ?_)
  · obtain ⟨ta, p, n, ts, tu, rk, rfl, _⟩ := h
    rfl
  · obtain ⟨ta, p, n, ts, tu, rk, rfl, hT, hp, hW, fo, g, q⟩ := h
    refine ⟨_, pss_cons (ps_setLc (i := 3) (own := [("_law_house", 6)]) (g := gName 6) (tt := tYes) rfl scDu.nd rfl rfl (sw_true rfl rfl rfl rfl) (pi_range1 (by rfl) B.range (pa_cons (pv 1) pa_nil)) (blkOk_by (N := nDu) (sc := defScope sLDue) (by decide +kernel)) (fun _ _ _ _ _ => pg_name (i := 6) scDu.nd rfl (.inl rfl)) (fun _ _ _ _ _ => pts_nil)
        (fun _ _ _ _ _ => pc DP GP hr pass0 (pa_cons (pv 6) pa_nil)))
      (pss_cons (ps_setLc (i := 4) (own := [("_law_tie", 7)]) (g := gName 7) (tt := tYes) rfl scDu.nd rfl rfl (sw_true rfl rfl rfl rfl) (pi_range1 (by rfl) B.range (pa_cons (pe_callB call_len_seq (by rfl) B.len PySem.boot_len (pa_cons (pv 0) pa_nil)) pa_nil)) (blkOk_by (N := nDu) (sc := defScope sLDue) (by decide +kernel)) (fun _ _ _ _ _ => pg_name (i := 7) scDu.nd rfl (.inl rfl)) (fun _ _ _ _ _ => pts_nil)
        (fun _ _ _ _ _ => pc DP GP hr pass0 (pa_cons (pe_op op_add (pv 1) (pv 7)) pa_nil)))
      (pss_cons (ps_for PassesOwn.never rfl (pi_range1 (by rfl) B.range (pa_cons (pe_op op_add (pe_op op_mul (pv 1) (pe_callB call_len_seq (by rfl) B.len PySem.boot_len (pa_cons (pv 0) pa_nil))) pe_int) pa_nil)) (pg_name (i := 5) scDu.nd rfl (.inl rfl))
        (pss_cons (ps_if (pt_val (pc DS GS hr pass0 (pa_cons (pv 0) (pa_cons (pv 3) (pa_cons (pv 4) pa_nil))))) (pss_one (ps_ret (pv 5))) pss_nil)
        (pss_one (ps_expr (pc DM GM hr pass0 (pa_cons (pv 0) (pa_cons (pv 3) (pa_cons (pv 4) (pa_cons (pe_ix ix_tup (pv 2) (pe_op op_mod (pe_callTy call_int1 (by rfl) B.int PyProof.Rows.boot_int (pa_cons (pv 5) pa_nil)) (pe_callB call_len_seq (by rfl) B.len PySem.boot_len (pa_cons (pv 2) pa_nil))) (fun _ _ => rfl)) pa_nil)))))))))
      (pss_one (ps_ret pe_non)))), ?_⟩
    have n12 := hW.n12
    have n1 := hW.n1
    have t20 := hW.t20
    obtain ⟨tas, ht, hA⟩ := id hT
    have el : ((tas.map V.ref).length : Int) = (ts.length : Int) := by rw [List.length_map, hA.1]
    have nd : tu.length = ts.length := g.2.1
    refine ⟨_, rfl, (n : Int), rfl, by omega, by omega, fun D0 hD0 => lc_range (fun i H' => Same H H' ∧ H' D0 = some (.lst (vrow ((tens n ts.length).1.take i)))) ⟨same_new hD0, by rw [upd_same]; rfl⟩ ?_ ?_⟩
    · rintro i H1 hi ⟨s1, hD1⟩
      have hi' : i < n := by omega
      refine ⟨rfl, _, rfl, i, congrArg (fun z => [V.int z]) (Int.zero_add _), by omega, _, hD1, szl (by rw [vrow_len, List.length_take]; omega), fun c o e => ?_, ?_⟩
      · rw [upd_ne (ne_of_none e hD0)]
        exact s1 _ _ e
      · have e : (tens n ts.length).1[i]? = some (10 ^ i) := rows_at hi'
        rw [upd_same, take_succ e, vrow, vrow, List.map_append]; rfl
    rintro H1 ⟨s1, hD1⟩
    rw [List.take_of_length_le (by simp [tens])] at hD1
    refine gn ?_
    dsimp only [List.set]
    refine ⟨_, rfl, ta, _, rfl, .inr (SqT.of (s1 _ _ ht)), ((tas.map V.ref).length : Int), rfl, by omega, by omega, fun D1 hE0 => lc_range (fun i H' => Same H1 H' ∧ H' D1 = some (.lst (vrow ((tens n ts.length).2.take i)))) ⟨same_new hE0, by rw [upd_same]; rfl⟩ ?_ ?_⟩
    · rintro i H2 hi ⟨s2, hD2⟩
      have hi' : i < ts.length := by omega
      refine ⟨rfl, _, rfl, _, rfl, _, _, rfl, rfl, n + i, congrArg (fun z => [V.int z]) (show (n : Int) + (0 + (i : Int)) = ((n + i : Nat) : Int) by omega), by omega, _, hD2, szl (by rw [vrow_len, List.length_take]; omega), fun c o e => ?_, ?_⟩
      · rw [upd_ne (ne_of_none e hE0)]
        exact s2 _ _ e
      · have e : (tens n ts.length).2[i]? = some (10 ^ (n + i)) := rows_at hi'
        rw [upd_same, take_succ e, vrow, vrow, List.map_append]; rfl
    rintro H2 ⟨s2, hD2⟩
    have la0 := hA.1
    rw [List.take_of_length_le (by simp [tens]; omega)] at hD2
    refine gn ?_
    dsimp only [List.set]
    have fD : H D0 = none := hD0
    have fE : H D1 = none := s1.free hE0
    have nDE : D0 ≠ D1 := ne_of_none hD1 hE0
    have s12 := s1.trans s2
    have hp2 := s12 _ _ hp
    have hT2 := hT.same s12
    obtain ⟨M, hM⟩ : ∃ M : Nat, (n : Int) * (ts.length : Int) + 1 = (M : Int) ∧ M = n * ts.length + 1 := ⟨n * ts.length + 1, by rw [Int.natCast_add, Int.natCast_mul]; rfl, rfl⟩
    have hb : n * ts.length ≤ 12 * 20 := Nat.mul_le_mul n12 t20
    refine ⟨_, rfl, _, rfl, ta, _, rfl, .inr (SqT.of (s12 _ _ ht)), ?_⟩
    rw [el]
    refine ⟨_, _, rfl, rfl, .inl ⟨by omega, by omega⟩, _, _, rfl, rfl, (M : Int), congrArg (fun z => [V.int z]) hM.1, by omega, by omega, for_range (fun k σ H' => ∃ (v5 : Option V) (st : NSt), σ = [some (.ref ta), some (.int (n : Int)), some (.ref p), some (.ref D0), some (.ref D1), v5, none, none] ∧ Same H H' ∧ H' D0 = some (.lst (vrow st.1)) ∧ H' D1 = some (.lst (vrow st.2)) ∧ st = runS 0 ts (tens n ts.length) (cyc tu k) ∧ ∀ j, j < k → ¬ ∀ i, i < n + ts.length → Alk ts (U n ts i (cyc tu j)))
      ⟨none, _, rfl, s12, s2 _ _ hD1, hD2, rfl, fun j hj => absurd hj (Nat.not_lt_zero _)⟩ ?_ ?_⟩
    · rintro k σ H3 hk ⟨v5, st, rfl, s3, hD3, hE3, est, hj⟩
      have hk' : k < M := by omega
      have ln : Ln n ts st := by rw [est]; exact (tens_ln n ts).run _
      have it := tens_alk hW fo (cyc tu k)
      rw [← est] at it
      refine ⟨_, rfl, _, rfl, _, rfl, ta, D0, D1, st.1, st.2, n, ts, rfl, hT.same s3, hD3, hE3, ln.s, ln.a, hW, fun b hb' => ⟨b, rfl, ifD (fun e => ?_) fun e => ?_⟩⟩
      · have al : Alk ts (st.1, st.2) := hb'.mp e
        have al' := it.mp al
        refine ⟨_, rfl, ?_⟩
        rw [Int.zero_add]
        exact q k H3 s3 ⟨al', hj⟩ (by omega)
      · have nal : ¬ ∀ i, i < n + ts.length → Alk ts (U n ts i (cyc tu k)) := fun z => by
          have := hb'.mpr (it.mpr z)
          rw [e] at this
          cases this
        have kn : k < n * ts.length := by
          rcases Nat.lt_or_ge k (n * ts.length) with z | z
          · exact z
          · exfalso
            have : k = n * ts.length := by omega
            refine nal fun i hi => ?_
            rw [this, ← nd]
            exact U_rest hW fo (good_mem g) hi
        have L0 : 0 < ts.length := by
          rcases Nat.eq_zero_or_pos ts.length with z | z
          · rw [z, Nat.mul_zero] at kn; omega
          · exact z
        obtain ⟨t, ht', tl, ec⟩ := cyc_tie (k := k) g L0
        refine nxP ⟨_, rfl, _, rfl, _, rfl, _, rfl, _, rfl, .inl ⟨_, rfl, _, rfl, p, _, rfl, .inr (SqT.of (s3 _ _ hp)), _, _, rfl, rfl, ?_⟩⟩
        rw [vn_len, nd, Int.zero_add]
        refine ⟨by omega, p, _, _, .int (t : Int), rfl, rfl, SqT.of (s3 _ _ hp), (by rw [modN]; exact at_i (vn_at ht')), ta, D0, D1, st.1, st.2, n, ts, t, rfl, hT.same s3, hD3, hE3, nDE, ln.s, ln.a, hW, tl, fun H4 b4 h1 h2 => ?_⟩
        refine ⟨_, metS 0 ts (st.1, st.2) t, rfl, fun c o e => b4 _ _ (s3 _ _ e) (ne_of_none e fD) (ne_of_none e fE), h1, h2, ?_, fun j hj' => ?_⟩
        · rw [ec, runS_snoc, ← est]
        · by_cases c' : j = k
          · rw [c']; exact nal
          · exact hj j (by omega)
    · rintro σ H3 ⟨v5, st, rfl, s3, hD3, hE3, est, hj⟩
      exfalso
      refine hj (n * ts.length) (by omega) fun i hi => ?_
      rw [← nd]
      exact U_rest hW fo (good_mem g) hi
abbrev nHs : List Str := ["_law_ties", "_law_turns", "_law_house", "_law_other", "_law_heard_here", "_law_turn", "_law_one", "_law_two"]
theorem scHs : FnScope nHs ["_law_ties", "_law_turns", "_law_house", "_law_other"] (defScope sLHears) := ⟨rfl, rfl, rfl, by decide +kernel, rfl, by decide +kernel, by decide +kernel⟩
theorem ok_hears {f fP : Addr} {fd fdP : FuncData} (D : Df K mg "_law_hears" sLHears ["_law_ties", "_law_turns", "_law_house", "_law_other"] f fd) (DP : Df K mg "_law_part" sLPart ["_law_ties", "_law_house"] fP fdP) (B : Bt mg) (GP : FnOk P w K mg base CX0 1 fP fdP ["_law_ties", "_law_house"] spPartL) : FnOk P w K mg base CX0 2 f fd ["_law_ties", "_law_turns", "_law_house", "_law_other"] spHears := by
  refine D.F.ok scHs (fun vs H Q E h => ?_) (fun cdv A outer s H vs Q E hr h => ?_)
  · obtain ⟨ta, p, n, ts, tu, h, y, rfl, _⟩ := h
    rfl
  · obtain ⟨ta, p, n, ts, tu, h, y, rfl, hT, hp, hW, t13, g, hn, hy, q1, q2⟩ := h
    refine ⟨_, pss_cons (ps_if (pt_cmpR op_notIn_seq (pv 3) (pc DP GP hr pass0 (pa_cons (pv 0) (pa_cons (pv 2) pa_nil))) rfl) (pss_one (ps_ret pe_non)) pss_nil)
      (pss_cons (ps_set (i := 4) scHs.nd rfl (.inl rfl) (pe_lst (pa_cons (pv 2) pa_nil)))
      (pss_cons (ps_for PassesOwn.never rfl (pi_range1 (by rfl) B.range (pa_cons pe_int pa_nil)) (pg_name (i := 5) scHs.nd rfl (.inl rfl))
        (pss_cons (ps_if (pt_cmpR op_in_seq (pv 3) (pv 4) rfl) (pss_one (ps_ret (pv 5))) pss_nil)
        (pss_cons (ps_asg (pe_ix ix_tup (pv 0) (pe_ix ix_tup (pv 1) (pe_op op_mod (pe_callTy call_int1 (by rfl) B.int PyProof.Rows.boot_int (pa_cons (pv 5) pa_nil)) (pe_callB call_len_seq (by rfl) B.len PySem.boot_len (pa_cons (pv 1) pa_nil))) (fun _ _ => rfl)) (fun _ _ => rfl)) (pg_tup rfl (pgs_cons (pg_name (i := 6) scHs.nd rfl (.inl rfl)) (pgs_cons (pg_name (i := 7) scHs.nd rfl (.inl rfl)) pgs_nil))))
        (pss_one (ps_if (PW.pt (pw_or (pt_cmpR op_in_seq (pv 6) (pv 4) rfl) (pw_or1 (pt_cmpR op_in_seq (pv 7) (pv 4) rfl)))) (pss_one (ps_set (i := 4) scHs.nd rfl (.inl rfl) (pe_op op_cat (pv 4) (pe_lst (pa_cons (pv 6) (pa_cons (pv 7) pa_nil)))))) pss_nil)))))
      (pss_one (ps_ret pe_non)))), ?_⟩
    have n12 := hW.n12
    have n1 := hW.n1
    have nd : tu.length = ts.length := g.2.1
    refine ⟨_, rfl, _, rfl, _, rfl, ta, n, ts, h, rfl, hT, hW, hn, fun l ns H1 s1 hl0 hl PL => ?_⟩
    refine ⟨l, vn ns, rfl, .inl (SqL.of hl), rfl, flat_vn ns, _, rfl, ?_⟩
    simp only [if_true]
    rw [inV_vn]
    by_cases cy : y ∈ ns
    rotate_left
    · rw [decide_eq_false cy]
      exact iteT (q1 H1 s1 fun c => cy ((PL.mem y).mpr c))
    have cn : Cn ts h y := (PL.mem y).mp cy
    rw [decide_eq_true cy]
    refine iteF (nxP ?_)
    refine ⟨_, rfl, (by show 1 ≤ sizeLine; decide), fun hl1 hh => ?_⟩
    have s2 := s1.trans (same_new (o := HO.lst [V.int (h : Int)]) hh)
    refine gn ?_
    dsimp only [List.set]
    have hmul : (n - 1) * ts.length ≤ 11 * 13 := Nat.mul_le_mul (by omega) t13
    refine ⟨200, rfl, by decide, by decide, for_range (fun k σ H' => ∃ (a : Addr) (ys : List Nat) (v5 v6 v7 : Option V), σ = [some (.ref ta), some (.ref p), some (.int (h : Int)), some (.int (y : Int)), some (.ref a), v5, v6, v7] ∧ Same H H' ∧ H' a = some (.lst (vn ys)) ∧ (∀ x, x ∈ ys ↔ hear ts h (cyc tu k) x = true) ∧ ys.length ≤ 1 + 2 * k ∧ ∀ j, j < k → ¬ hear ts h (cyc tu j) y = true)
      ⟨hl1, [h], none, none, none, rfl, s2, upd_same, fun x => by rw [List.mem_singleton]; show x = h ↔ decide (x = h) = true; simp, Nat.le_refl 1, fun j hj => absurd hj (Nat.not_lt_zero _)⟩ ?_ ?_⟩
    · rintro k σ H3 hk ⟨a, ys, v5, v6, v7, rfl, s3, ha, hm, ly, hj⟩
      have hk' : k < 200 := by omega
      refine ⟨_, rfl, _, rfl, a, vn ys, rfl, .inl (SqL.of ha), rfl, flat_vn ys, _, rfl, ?_⟩
      simp only [Bool.false_eq_true, if_false]
      rw [inV_vn]
      by_cases c : y ∈ ys
      · rw [decide_eq_true c]
        refine iteT ⟨_, rfl, ?_⟩
        rw [Int.zero_add]
        have hk2 : k ≤ (n - 1) * ts.length := by
          rcases Nat.lt_or_ge ((n - 1) * ts.length) k with z | z
          · exfalso
            refine hj _ z ?_
            rw [← nd]
            exact hear_all hW hn (good_mem g) cn
          · exact z
        exact q2 k H3 s3 cn ⟨(hm y).mp c, hj⟩ hk2
      · rw [decide_eq_false c]
        refine iteF (nxP ?_)
        have nb : ¬ hear ts h (cyc tu k) y = true := fun z => c ((hm y).mpr z)
        have hk2 : k < (n - 1) * ts.length := by
          rcases Nat.lt_or_ge k ((n - 1) * ts.length) with z | z
          · exact z
          · exfalso
            by_cases z2 : k = (n - 1) * ts.length
            · refine nb ?_
              rw [z2, ← nd]
              exact hear_all hW hn (good_mem g) cn
            · refine hj ((n - 1) * ts.length) (by omega) ?_
              rw [← nd]
              exact hear_all hW hn (good_mem g) cn
        have L0 : 0 < ts.length := by
          rcases Nat.eq_zero_or_pos ts.length with z | z
          · rw [z, Nat.mul_zero] at hk2; omega
          · exact z
        obtain ⟨t, ht', tl, ec⟩ := cyc_tie (k := k) g L0
        obtain ⟨pr, hpr⟩ := ex_at tl
        obtain ⟨tas, ht, hA⟩ := hT.same s3
        obtain ⟨pa, hpa0, hpa⟩ := hA.get hpr
        have hpa' : H3 pa = some (.tup [.int (pr.1 : Int), .int (pr.2 : Int)]) := hpa
        refine ⟨_, rfl, _, rfl, _, rfl, .inl ⟨_, rfl, _, rfl, p, _, rfl, .inr (SqT.of (s3 _ _ hp)), _, _, rfl, rfl, ?_⟩⟩
        rw [vn_len, nd, Int.zero_add]
        refine ⟨by omega, p, _, _, .int (t : Int), rfl, rfl, SqT.of (s3 _ _ hp), (by rw [modN]; exact at_i (vn_at ht')), ta, _, (t : Int), .ref pa, rfl, rfl, SqT.of ht, at_i (map_at hpa0), pa, _, rfl, SqT.of hpa', rfl, _, _, rfl, _, _, rfl, rfl, ?_⟩
        have stay : ¬ (hear ts h (cyc tu k) pr.1 = true ∨ hear ts h (cyc tu k) pr.2 = true) → ∀ x, x ∈ ys ↔ hear ts h (cyc tu (k + 1)) x = true := fun no x => by
          rw [hm, ec, hear_snoc, heardF_some hpr]
          have h1 : hear ts h (cyc tu k) pr.1 = false := by
            cases e : hear ts h (cyc tu k) pr.1 with
            | true => exact absurd (.inl e) no
            | false => rfl
          have h2 : hear ts h (cyc tu k) pr.2 = false := by
            cases e : hear ts h (cyc tu k) pr.2 with
            | true => exact absurd (.inr e) no
            | false => rfl
          split
          · rename_i cx
            rcases cx with cx | cx <;> rw [cx, h1, h2] <;> simp
          · exact Iff.rfl
        have grow : (hear ts h (cyc tu k) pr.1 = true ∨ hear ts h (cyc tu k) pr.2 = true) → ∀ x, x ∈ ys ++ [pr.1, pr.2] ↔ hear ts h (cyc tu (k + 1)) x = true := fun yes x => by
          rw [List.mem_append, hm, ec, hear_snoc, heardF_some hpr]
          have h1 : (hear ts h (cyc tu k) pr.1 || hear ts h (cyc tu k) pr.2) = true := by
            rw [Bool.or_eq_true]; exact yes
          rw [h1]
          simp only [List.mem_cons, List.mem_nil_iff, or_false]
          split
          · rename_i cx
            exact ⟨fun _ => rfl, fun _ => .inr cx⟩
          · rename_i cx
            exact ⟨fun z => z.resolve_right cx, .inl⟩
        have hjn : ∀ j, j < k + 1 → ¬ hear ts h (cyc tu j) y = true := fun j hj' => by
          by_cases c' : j = k
          · rw [c']; exact nb
          · exact hj j (by omega)
        refine ⟨_, rfl, _, rfl, a, vn ys, rfl, .inl (SqL.of ha), rfl, flat_vn ys, _, rfl, ?_⟩
        simp only [Bool.false_eq_true, if_false]
        rw [inV_vn]
        by_cases c1 : pr.1 ∈ ys
        · rw [decide_eq_true c1]
          refine iteT ?_
          refine ⟨_, rfl, _, rfl, _, rfl, (by show 2 ≤ sizeLine; decide), fun b hb => ⟨a, b, vn ys, _, rfl, rfl, same_new hb _ _ ha, upd_same, sz (by rw [vn_len]; simp only [List.length_cons, List.length_nil]; omega), fun c hc => ?_⟩⟩
          refine ⟨c, ys ++ [pr.1, pr.2], _, _, _, rfl, (s3.trans (same_new hb)).trans (same_new hc), by rw [upd_same, vn, vn, List.map_append]; rfl, grow (.inl ((hm _).mp c1)), by rw [List.length_append]; simp only [List.length_cons, List.length_nil]; omega, hjn⟩
        · rw [decide_eq_false c1]
          refine iteF ⟨_, rfl, _, rfl, a, vn ys, rfl, .inl (SqL.of ha), rfl, flat_vn ys, _, rfl, ?_⟩
          simp only [Bool.false_eq_true, if_false]
          rw [inV_vn]
          by_cases c2 : pr.2 ∈ ys
          · rw [decide_eq_true c2]
            refine iteT ?_
            refine ⟨_, rfl, _, rfl, _, rfl, (by show 2 ≤ sizeLine; decide), fun b hb => ⟨a, b, vn ys, _, rfl, rfl, same_new hb _ _ ha, upd_same, sz (by rw [vn_len]; simp only [List.length_cons, List.length_nil]; omega), fun c hc => ?_⟩⟩
            refine ⟨c, ys ++ [pr.1, pr.2], _, _, _, rfl, (s3.trans (same_new hb)).trans (same_new hc), by rw [upd_same, vn, vn, List.map_append]; rfl, grow (.inr ((hm _).mp c2)), by rw [List.length_append]; simp only [List.length_cons, List.length_nil]; omega, hjn⟩
          · rw [decide_eq_false c2]
            refine iteF ?_
            exact ⟨a, ys, _, _, _, rfl, s3, ha, stay (fun z => z.elim (fun z => c1 ((hm _).mpr z)) fun z => c2 ((hm _).mpr z)), by omega, hjn⟩
    · rintro σ H3 ⟨a, ys, v5, v6, v7, rfl, s3, ha, hm, ly, hj⟩
      exfalso
      have hj' : ∀ j, j < 200 → ¬ hear ts h (cyc tu j) y = true := fun j h1 => hj j (by omega)
      refine hj' ((n - 1) * ts.length) (by omega) ?_
      rw [← nd]
      exact hear_all hW hn (good_mem g) cn
end
end K1
namespace K1
open PySem PySem.Spec PyProof.Rows L2
/-! ### "0" * k -/
def mulS (z : Str) (k : Int) : Str := if k < 1 then Str.empty else if k = 1 then z else ⟨(List.replicate k.toNat z.cps).foldl (· ++ ·) #[]⟩
def rMulS : R2 := fun x y H Q => ∃ (z : Str) (k : Int), x = .str z ∧ y = .int k ∧ 0 ≤ k ∧ k ≤ 1000 ∧ z.length = 1 ∧ Q (.str (mulS z k)) H
theorem fold_size (xs : Array Nat) : ∀ (n : Nat) (acc : Array Nat), ((List.replicate n xs).foldl (· ++ ·) acc).size = acc.size + n * xs.size
  | 0, acc => by simp
  | n + 1, acc => by
    rw [List.replicate_succ, List.foldl_cons, fold_size xs n, Array.size_append, Nat.succ_mul]
    omega
theorem op_mulS {X : Cx} : OpR X (binaryOp .Mult) rMulS := by
  intro pins s σ H x y v u Q I rx ry h
  obtain ⟨z, k, rfl, rfl, h1, h2, hz, q⟩ := h
  obtain ⟨t, rfl⟩ := rx
  obtain ⟨t', rfl⟩ := ry
  refine PySem.P.mul_str (by rw [decide_eq_false (by omega), decide_eq_false (by omega)]; rfl) (fun hk e => ?_) (fun _ _ => ?_) ?_
  · rw [hz]
    simp only [Bool.or_eq_false_iff, beq_eq_false_iff_ne] at e
    have : (1 : Int) ≤ (2 ^ 63 - 1) / k := by
      have h3 : k * 1 ≤ 2 ^ 63 - 1 := by omega
      exact Int.le_ediv_of_mul_le (by omega) (by omega)
    omega
  · rw [hz]
    show decide (_ > sizeLine) = false
    exact decide_eq_false (by rw [sizeLine_eq]; omega)
  · unfold mulS at q
    by_cases c : k < 1
    · rw [if_pos c] at q ⊢
      refine ⟨by decide, .str _, H, I.tok _, ⟨_, rfl⟩, q⟩
    · rw [if_neg c] at q ⊢
      split
      · rename_i e
        rw [if_pos (by simpa [hz] using e)] at q
        exact ⟨.str z, H, I, ⟨_, rfl⟩, q⟩
      · rename_i e
        rw [if_neg (by simpa [hz] using e)] at q
        refine ⟨?_, .str _, H, I.tok _, ⟨_, rfl⟩, q⟩
        show ((List.replicate k.toNat z.cps).foldl (· ++ ·) #[]).size ≤ sizeLine
        rw [fold_size, sizeLine_eq]
        have hz' : z.cps.size = 1 := hz
        rw [hz']
        show 0 + k.toNat * 1 ≤ _
        omega
theorem vl_mul {K : PySem.W.Frag} {xs : List Addr} {H : Hp} (n : Nat) (h : n ≤ 13) : ∃ x, Vl K xs H (.str (mulS "0" (n : Int))) none x := by
  have : ∀ m : Fin 14, PyData.strOk (reprText (mulS "0" ((m.val : Nat) : Int))) = true ∧ (reprText (mulS "0" ((m.val : Nat) : Int))).length ≤ 100 := by decide +kernel
  obtain ⟨h1, h2⟩ := this ⟨n, by omega⟩
  dsimp only at h1 h2
  exact ⟨_, vl_str h1 (sz (Nat.le_trans h2 (by decide)))⟩
/-! ### what a tuple of numbers is -/
theorem rw_vnT {K : PySem.W.Frag} {H : Hp} {p : Addr} {tu : List Nat} (h : H p = some (.tup (vn tu))) : Rw K H (.ref p) (some (vn tu)) := ⟨.tup h, fun ys e => by
  obtain rfl := Option.some.inj e
  exact kinds_vn _⟩
theorem rw_vnL {K : PySem.W.Frag} {H : Hp} {p : Addr} {tu : List Nat} (h : H p = some (.lst (vn tu))) : Rw K H (.ref p) (some (vn tu)) := ⟨.lst h, fun ys e => by
  obtain rfl := Option.some.inj e
  exact kinds_vn _⟩
theorem rest_alk {ts : Prs} {ss ar : List Int} (r : Alk ts (ss, ar)) : restB ts ss ar = true := by
  unfold restB
  rw [List.all_map, List.all_eq_true]
  intro t ht
  show rB ts ss ar t = true
  unfold rB
  cases hp : ts[t]? with
  | none => rfl
  | some p =>
    obtain ⟨e1, e2⟩ := r t p hp
    replace e1 : ss.getD p.1 0 = ar.getD t 0 := e1
    replace e2 : ss.getD p.2 0 = ar.getD t 0 := e2
    dsimp only
    rw [e1, e2, decide_eq_true rfl]; rfl
section
variable {K : PySem.W.Frag} {f : Addr} {fd : FuncData}
theorem kb_ra (F : Fun K "rest_after" "rest_after" sRestAfter f fd) : KBn K fd ["web", "turns"] 0 ["turns", "web"] gM gMV := by
  obtain ⟨oc, od, kV, doc, pm, an, cdv, ct, osl, rfl, lk, hcd⟩ := F.ex
  refine ⟨fun s us ws _ h0 h1 => .of_eq ?_, fun r q => r.append q.reverse⟩
  match us, ws, h0, h1 with
  | [], [_, _], _, _ => rfl
theorem kb_ck (F : Fun K "check_turns" "check_turns" sCheckTurns f fd) : KBn K fd ["web", "value"] 0 ["value", "web"] gM gMV := by
  obtain ⟨oc, od, kV, doc, pm, an, cdv, ct, osl, rfl, lk, hcd⟩ := F.ex
  refine ⟨fun s us ws _ h0 h1 => .of_eq ?_, fun r q => r.append q.reverse⟩
  match us, ws, h0, h1 with
  | [], [_, _], _, _ => rfl
theorem kb_th (F : Fun K "turns_heard" "turns_heard" sTurnsHeard f fd) : KBn K fd ["web", "turns", "house", "other"] 0 ["other", "house", "turns", "web"] gM gMV := by
  obtain ⟨oc, od, kV, doc, pm, an, cdv, ct, osl, rfl, lk, hcd⟩ := F.ex
  refine ⟨fun s us ws _ h0 h1 => .of_eq ?_, fun r q => r.append q.reverse⟩
  match us, ws, h0, h1 with
  | [], [_, _, _, _], _, _ => rfl
end
/-! ### a web with one tie more -/
theorem Cn.mono {ts us : Prs} {a b : Nat} (h : Cn ts a b) (s : ∀ p ∈ ts, p ∈ us) : Cn us a b := by
  induction h with
  | refl => exact .refl
  | step _ j ih =>
    obtain ⟨p, hp, e⟩ := j
    exact ih.step ⟨p, s p hp, e⟩
theorem idx_at {xs : List Nat} (nd : xs.Nodup) {j x : Nat} (h : xs[j]? = some x) : xs.idxOf x = j := by
  have l : xs.idxOf x < xs.length := List.idxOf_lt_length_iff.mpr (List.mem_of_getElem? h)
  have e : xs[xs.idxOf x]? = some x := by rw [List.getElem?_eq_getElem l, List.getElem_idxOf l]
  exact (List.getElem?_inj l nd).mp (e.trans h.symm)
theorem nodup_by {ts : Prs} {g : Nat × Nat → Nat} (h : ∀ (i j : Nat) p q, i < j → ts[i]? = some p → ts[j]? = some q → g p ≠ g q) : (ts.map g).Nodup := by
  rw [List.nodup_iff_pairwise_ne, List.pairwise_map, List.pairwise_iff_getElem]
  intro i j hi hj lt
  exact h i j _ _ lt (List.getElem?_eq_getElem hi) (List.getElem?_eq_getElem hj)
theorem nodup_at {ts : Prs} {g : Nat × Nat → Nat} (nd : (ts.map g).Nodup) {i j : Nat} {p q : Nat × Nat} (lt : i < j) (hp : ts[i]? = some p) (hq : ts[j]? = some q) : g p ≠ g q := fun e => by
  have h1 : (ts.map g)[i]? = some (g p) := by rw [List.getElem?_map, hp]; rfl
  have h2 : (ts.map g)[j]? = some (g q) := by rw [List.getElem?_map, hq]; rfl
  have : i = j := (List.getElem?_inj (lt_at h1) nd).mp (h1.trans ((congrArg some e).trans h2.symm))
  omega
theorem fo_join {n a b : Nat} {rk : Nat → Nat} {ts : Prs} (hW : Wv n ts) (fo : Fo rk ts) (hb : b < n) (nc : ¬ Cn ts a b) : ∃ rk', Fo rk' (ts ++ [(a, b)]) := by
  obtain ⟨xs, tl, T⟩ := tree_exists hW hb
  have ax : a ∉ xs := fun z => nc ((T.mem a).mp z).sym
  have r1 : ∀ {j x : Nat}, xs[j]? = some x → (if x ∈ xs then rk a + 1 + xs.idxOf x else rk x) = rk a + 1 + j := fun {j x} h => by rw [if_pos (List.mem_of_getElem? h), idx_at T.nd h]
  have r2 : ∀ {x : Nat}, x ∉ xs → (if x ∈ xs then rk a + 1 + xs.idxOf x else rk x) = rk x := fun h => if_neg h
  generalize hk : (fun x => if x ∈ xs then rk a + 1 + xs.idxOf x else rk x) = rk'
  have r1' : ∀ {j x : Nat}, xs[j]? = some x → rk' x = rk a + 1 + j := fun h => by rw [← hk]; exact r1 h
  have r2' : ∀ {x : Nat}, x ∉ xs → rk' x = rk x := fun h => by rw [← hk]; exact r2 h
  have c2 : ∀ {t : Nat} {p : Nat × Nat}, ts[t]? = some p → (p.1 ∈ xs ↔ p.2 ∈ xs) := fun {t p} hp => by
    rw [T.mem, T.mem]
    exact ⟨fun c => c.step ⟨p, List.mem_of_getElem? hp, .inl ⟨rfl, rfl⟩⟩, fun c => c.step ⟨p, List.mem_of_getElem? hp, .inr ⟨rfl, rfl⟩⟩⟩
  have inn : ∀ {t : Nat} {p : Nat × Nat}, ts[t]? = some p → p.1 ∈ xs → ∃ j x, tl[j]? = some t ∧ xs[j + 1]? = some x ∧ lat rk' p = x ∧ rk' p.1 ≠ rk' p.2 := fun {t p} hp h1 => by
    obtain ⟨j, hj⟩ := List.getElem?_of_mem (T.tie fo hp ((T.mem _).mp h1))
    obtain ⟨i, x, y, p', g1, g2, g3, g4, g5⟩ := T.par j t hj
    obtain rfl := lookup_same hp g4
    have e1 := r1' g2
    have e2 := r1' g3
    refine ⟨j, x, hj, g3, ?_⟩
    rcases g5 with ⟨q1, q2⟩ | ⟨q1, q2⟩
    · unfold lat; rw [q1, q2, e1, e2, if_pos (by omega)]; exact ⟨rfl, by omega⟩
    · unfold lat; rw [q1, q2, e1, e2, if_neg (by omega)]; exact ⟨rfl, by omega⟩
  have out : ∀ {t : Nat} {p : Nat × Nat}, ts[t]? = some p → p.1 ∉ xs → lat rk' p = lat rk p ∧ lat rk' p ∉ xs ∧ rk' p.1 ≠ rk' p.2 := fun {t p} hp h1 => by
    have h2 : p.2 ∉ xs := fun z => h1 ((c2 hp).mpr z)
    have := fo.ne p (List.mem_of_getElem? hp)
    unfold lat
    rw [r2' h1, r2' h2]
    refine ⟨rfl, ?_, this⟩
    split
    · exact h1
    · exact h2
  have ea : rk' a = rk a := r2' ax
  have eb : rk' b = rk a + 1 := r1' T.h0
  have el : lat rk' (a, b) = b := by
    unfold lat
    show (if rk' b < rk' a then a else b) = b
    rw [if_neg (by omega)]
  refine ⟨rk', fun p hp => ?_, ?_⟩
  · rcases List.mem_append.mp hp with h | h
    · obtain ⟨t, ht⟩ := List.getElem?_of_mem h
      by_cases c : p.1 ∈ xs
      · obtain ⟨_, _, _, _, _, q⟩ := inn ht c
        exact q
      · exact (out ht c).2.2
    · rw [List.mem_singleton.mp h]
      show rk' a ≠ rk' b
      omega
  · refine nodup_by fun i j p q lt hp hq => ?_
    have first : ∀ {t : Nat} {p : Nat × Nat}, ts[t]? = some p → lat rk' p ≠ b := fun {t p} hp e => by
      by_cases c : p.1 ∈ xs
      · obtain ⟨j, x, _, h2, h3, _⟩ := inn hp c
        rw [h3] at e
        rw [e] at h2
        have := (List.getElem?_inj (lt_at h2) T.nd).mp (h2.trans T.h0.symm)
        omega
      · exact (out hp c).2.1 (by rw [e]; exact List.mem_of_getElem? T.h0)
    rcases snoc_at hp with hp | ⟨hi, rfl⟩
    · rcases snoc_at hq with hq | ⟨hj, rfl⟩
      · by_cases c1 : p.1 ∈ xs
        · obtain ⟨j1, x1, a1, a2, a3, _⟩ := inn hp c1
          rw [a3]
          by_cases c2' : q.1 ∈ xs
          · obtain ⟨j2, x2, b1, b2, b3, _⟩ := inn hq c2'
            rw [b3]
            intro e
            rw [e] at a2
            have := (List.getElem?_inj (lt_at a2) T.nd).mp (a2.trans b2.symm)
            obtain rfl : j1 = j2 := by omega
            have := lookup_same a1 b1
            omega
          · intro e
            exact (out hq c2').2.1 (by rw [← e]; exact List.mem_of_getElem? a2)
        · by_cases c2' : q.1 ∈ xs
          · obtain ⟨j2, x2, b1, b2, b3, _⟩ := inn hq c2'
            rw [b3]
            intro e
            exact (out hp c1).2.1 (by rw [e]; exact List.mem_of_getElem? b2)
          · rw [(out hp c1).1, (out hq c2').1]
            exact nodup_at fo.nd lt hp hq
      · rw [el]
        exact first hp
    · exfalso
      have := lt_at hq
      rw [List.length_append] at this
      simp only [List.length_cons, List.length_nil] at this
      omega
theorem part_exists {n a : Nat} {ts : Prs} (hW : Wv n ts) (ha : a < n) : ∃ ns, PartL ts a ns := by
  classical
  refine ⟨(List.range n).filter fun x => decide (Cn ts a x), List.pairwise_lt_range.filter _, fun x => ?_⟩
  rw [List.mem_filter, List.mem_range, decide_eq_true_eq]
  exact ⟨fun h => h.2, fun h => ⟨h.lt hW ha, h⟩⟩
theorem ring_join {n a b : Nat} {ts : Prs} (hW : Wv n ts) (ha : a < n) (c : Cn ts a b) : Ringed n (ts ++ [(a, b)]) := by
  obtain ⟨ns, pl⟩ := part_exists hW ha
  have am : a ∈ ns := (pl.mem a).mpr .refl
  have bm : b ∈ ns := (pl.mem b).mpr c
  refine ⟨a, ns, ha, ⟨pl.asc, fun x => ⟨fun h => ((pl.mem x).mp h).mono fun p hp => List.mem_append_left _ hp, fun h => clo_all (fun p hp => ?_) am h⟩⟩, ?_⟩
  · rcases List.mem_append.mp hp with h | h
    · rw [pl.mem, pl.mem]
      exact ⟨fun c => c.step ⟨p, h, .inl ⟨rfl, rfl⟩⟩, fun c => c.step ⟨p, h, .inr ⟨rfl, rfl⟩⟩⟩
    · rw [List.mem_singleton.mp h]
      exact ⟨fun _ => bm, fun _ => am⟩
  · have := pl.rings hW ha
    have e : tIn (ts ++ [(a, b)]) ns = tIn ts ns ++ [ts.length] := by
      unfold tIn
      rw [List.length_append]
      show tInK (ts ++ [(a, b)]) ns (ts.length + 1) = _
      rw [tInK_succ (p := (a, b)) (by rw [List.getElem?_append_right (Nat.le_refl _), Nat.sub_self]; rfl), if_pos am]
      congr 1
      unfold tInK
      rw [List.take_append_of_le_length (Nat.le_refl _)]
    rw [e, List.length_append]
    simp only [List.length_cons, List.length_nil]
    exact this
theorem wv_join {n a b : Nat} {ts : Prs} (hW : Wv n ts) (ha : a < n) (hb : b < n) (ne : a ≠ b) (hl : ts.length ≤ 12) : Wv n (ts ++ [(a, b)]) := ⟨hW.n1, hW.n12, by rw [List.length_append]; simp only [List.length_cons, List.length_nil]; omega, fun p hp => by
  rcases List.mem_append.mp hp with h | h
  · exact hW.pr p h
  · rw [List.mem_singleton.mp h]; exact ⟨ha, hb, ne⟩⟩
end K1
namespace K1
open PySem PySem.Spec PyProof.Rows L2
theorem metE {m : Int} {ts : Prs} {st : NSt} {t : Nat} {p : Nat × Nat} (hp : ts[t]? = some p) : metS m ts st t = ((st.1.set p.1 (metN m st.1 st.2 p t)).set p.2 (metN m st.1 st.2 p t), st.2.set t (metN m st.1 st.2 p t)) := by
  unfold metS; rw [hp]
def Dg (i : Int) : Prop := 0 ≤ i ∧ i < 10
theorem dg_cby {m i : Int} (hm : m = 0 ∨ m = 10) (h : Dg i) : cby m i = i := by
  unfold cby
  obtain ⟨h0, h1⟩ := h
  rcases hm with rfl | rfl
  · rw [if_pos rfl]
  · rw [if_neg (by decide)]
    exact Int.emod_eq_of_lt h0 h1
theorem dg_cnt {m i : Int} (hm : m = 0 ∨ m = 10) (h : Dg i) : cntB m (.int i) = true := by
  obtain ⟨h0, h1⟩ := h
  unfold cntB
  rcases hm with rfl | rfl
  · rw [if_pos rfl]
    show (decide (-1000000000000000000 ≤ i) && decide (i ≤ 1000000000000000000)) = true
    rw [decide_eq_true (by omega), decide_eq_true (by omega)]; rfl
  · rw [if_neg (by decide)]
    show (decide (0 ≤ i) && decide (i < 10)) = true
    rw [decide_eq_true h0, decide_eq_true h1]; rfl
theorem dg_getD {m : Int} {xs : List Int} (hm : m = 0 ∨ m = 10) (h : ∀ i ∈ xs, Dg i) (x : Nat) : cby m (xs.getD x 0) = xs.getD x 0 := by
  rw [List.getD_eq_getElem?_getD]
  cases e : xs[x]? with
  | none => rcases hm with rfl | rfl <;> rfl
  | some i => exact dg_cby hm (h i (List.mem_of_getElem? e))
def spRestR : Sp := fun vs H Q _ => ∃ (b ta p : Addr) (n : Nat) (ts : Prs) (tu : List Nat) (rk : Nat → Nat), vs = [.ref b, .int (n : Int), .ref ta, .ref p] ∧ BoxO H b ∧ TiesT H ta ts ∧ H p = some (.tup (vn tu)) ∧ Wv n ts ∧ Fo rk ts ∧ GoodTu ts.length tu ∧ ∀ H', Bx b H H' → Q (.bl true) H'
section
variable {P : Program} {w : World} {K : PySem.W.Frag} {mg : Str → Option Value} {base : Heap}
abbrev nRR : List Str := ["_law_box_here", "_law_many", "_law_ties", "_law_turns", "_law_web", "_law_due_here", "_law_states", "_law_net", "_law_turn", "_law_house", "_law_state", "_law_tie"]
theorem scRR : FnScope nRR ["_law_box_here", "_law_many", "_law_ties", "_law_turns"] (defScope sLRestRight) := ⟨rfl, rfl, rfl, by decide +kernel, rfl, by decide +kernel, by decide +kernel⟩
theorem ok_restR {f fW fD fR fT fK fI fC fM W N CT CR : Addr} {fd fdW fdD fdR fdT fdK fdI fdC fdM : FuncData} (D : Df K mg "_law_rest_right" sLRestRight ["_law_box_here", "_law_many", "_law_ties", "_law_turns"] f fd) (B : Bt mg) (TW : WcT K mg W) (NT : NcT K mg N)
    (MW : Mk K W fW) (BW : Binds K fdW ["self", "houses", "ties"] []) (GW : FnOk P w K mg base (L2.CX P w) 6 fW fdW ["self", "houses", "ties"] (spWInit W)) (DD : Df K mg "_law_due" sLDue ["_law_ties", "_law_many", "_law_turns"] fD fdD) (GD : FnOk P w K mg base CX0 2 fD fdD ["_law_ties", "_law_many", "_law_turns"] spDue)
    (DR : Df K mg "rest_after" sRestAfter ["web", "turns"] fR fdR) (GR : FnOk P w K mg base (L2.CX P w) 9 fR fdR ["web", "turns"] (spRA K W CR)) (DT : Df K mg "_law_take" sLTake ["_law_box_here", "_law_many"] fT fdT) (GT : FnOk P w K mg base CX0 1 fT fdT ["_law_box_here", "_law_many"] spTake)
    (DK : Df K mg "_law_pick" sLPick ["_law_box_here", "_law_some"] fK fdK) (GK : FnOk P w K mg base CX0 2 fK fdK ["_law_box_here", "_law_some"] spPick) (DI : Df K mg "is_rest" sIsRest ["net"] fI fdI) (GI : FnOk P w K mg base CX0 2 fI fdI ["net"] (spRest N W))
    (MC : Mk K N fC) (BC : Binds K fdC ["self", "web", "modulus", "states", "archives"] []) (GC : FnOk P w K mg base (L2.CX P w) 5 fC fdC ["self", "web", "modulus", "states", "archives"] (spCInit K N W CR)) (mM : Meth K N "meet" fM) (bM : Binds K fdM ["self", "tie"] []) (GM : FnOk P w K mg base (L2.CX P w) 4 fM fdM ["self", "tie"] (spMeet K N W CT)) :
    FnOk P w K mg base CX0 10 f fd ["_law_box_here", "_law_many", "_law_ties", "_law_turns"] spRestR := by
  refine D.F.ok scRR (fun vs H Q E h => ?_) (fun cdv A outer s H vs Q E hr h => ?_)
  · obtain ⟨b, ta, p, n, ts, tu, rk, rfl, _⟩ := h
    rfl
  · obtain ⟨b, ta, p, n, ts, tu, rk, rfl, hb, hT, hp, hW, fo, g, q⟩ := h
    have r1 := hr.mono (show 1 ≤ 9 by decide)
    have r2 := hr.mono (show 2 ≤ 9 by decide)
    have r4 := hr.mono (show 4 ≤ 9 by decide)
    have r6 := hr.mono (show 6 ≤ 9 by decide)
    have r7 := hr.mono (show 7 ≤ 9 by decide)
    refine ⟨_, pss_cons (ps_set (i := 4) scRR.nd rfl (.inl rfl) (pe_make MW GW r7 rfl TW.g BW .nil passF (pa_cons (pv 1) (pa_cons (pv 2) pa_nil))))
      (pss_cons (ps_set (i := 5) scRR.nd rfl (.inl rfl) (pc DD GD r2 pass0 (pa_cons (pv 2) (pa_cons (pv 1) (pa_cons (pv 3) pa_nil)))))
      (pss_cons (ps_if (PW.pt (pw_or (pt_cmpR op_ne (pe_callB call_reprS (by rfl) B.repr (by decide +kernel) (pa_cons (pc DR GR hr passF (pa_cons (pv 4) (pa_cons (pv 3) pa_nil))) pa_nil)) (pe_callB call_reprS (by rfl) B.repr (by decide +kernel) (pa_cons (pv 5) pa_nil)) (nomark _))
          (pw_or1 (pt_cmpR op_ne (pe_callW DR GR hr (kb_ra DR.F) passF (pk_cons (pe_callTy call_list_of (by rfl) B.list PyProof.Rows.boot_list (pa_cons (pv 3) pa_nil)) (pk_cons (pv 4) pk_nil))) (pv 5) (nomark _))))) (pss_one (ps_ret pe_bl)) pss_nil)
      (pss_cons (ps_setLc (i := 6) (own := [("_law_house", 9)]) (g := gName 9) (tt := tYes) rfl scRR.nd rfl rfl (sw_true rfl rfl rfl rfl) (pi_range1 (by rfl) B.range (pa_cons (pv 1) pa_nil)) (blkOk_by (N := nRR) (sc := defScope sLRestRight) (by decide +kernel)) (fun _ _ _ _ _ => pg_name (i := 9) scRR.nd rfl (.inl rfl)) (fun _ _ _ _ _ => pts_nil)
          (fun _ _ _ _ _ => pe_op op_sub (pc DT GT r1 pass0 (pa_cons (pv 0) (pa_cons pe_int pa_nil))) pe_int))
      (pss_cons (ps_set (i := 7) scRR.nd rfl (.inl rfl) (pe_make MC GC r6 rfl NT.g BC .nil passF (pa_cons (pv 4) (pa_cons (pc DK GK r2 pass0 (pa_cons (pv 0) (pa_cons (pe_lst (pa_cons pe_int (pa_cons pe_int pa_nil))) pa_nil)))
          (pa_cons (pe_lc (own := [("_law_state", 10)]) (g := gName 10) (tt := tYes) rfl scRR.nd (pi_list (pv 6)) (blkOk_by (N := nRR) (sc := defScope sLRestRight) (by decide +kernel)) (fun _ _ _ _ _ => pg_name (i := 10) scRR.nd rfl (.inl rfl)) (fun _ _ _ _ _ => pts_nil) (fun _ _ _ _ _ => pe_callB call_abs (by rfl) B.abs (by decide +kernel) (pa_cons (pv 10) pa_nil)))
          (pa_cons (pe_lc (own := [("_law_tie", 11)]) (g := gName 11) (tt := tYes) rfl scRR.nd (pi_tup (pv 2)) (blkOk_by (N := nRR) (sc := defScope sLRestRight) (by decide +kernel)) (fun _ _ _ _ _ => pg_name (i := 11) scRR.nd rfl (.inl rfl)) (fun _ _ _ _ _ => pts_nil) (fun _ _ _ _ _ => pc DT GT r1 pass0 (pa_cons (pv 0) (pa_cons pe_int pa_nil)))) pa_nil))))))
      (pss_cons (ps_for PassesOwn.never rfl (pi_range1 (by rfl) B.range (pa_cons (pv 5) pa_nil)) (pg_name (i := 8) scRR.nd rfl (.inl rfl))
          (pss_one (ps_expr (pe_meth (pv 7) NT.cl mM GM r4 bM .nil passF (pa_cons (pe_ix ix_tup (pv 3) (pe_op op_mod (pe_callTy call_int1 (by rfl) B.int PyProof.Rows.boot_int (pa_cons (pv 8) pa_nil)) (pe_callB call_len_seq (by rfl) B.len PySem.boot_len (pa_cons (pv 3) pa_nil))) (fun _ _ => rfl)) pa_nil)))))
      (pss_one (ps_ret (pe_cmpR op_isBl (pc DI GI r2 pass0 (pa_cons (pv 7) pa_nil)) pe_bl (nomark _))))))))), ?_⟩
    have n12 := hW.n12
    have n1 := hW.n1
    have t20 := hW.t20
    have nd : tu.length = ts.length := g.2.1
    obtain ⟨tas, ht, hA⟩ := id hT
    -- the web
    refine ⟨_, rfl, _, rfl, fun w dxw hw0 hdx0 new => ?_⟩
    have smw := mkSame (o1 := HO.own w) (o2 := HO.ins W dxw []) hw0 hdx0 new
    refine ⟨w, dxw, n, ta, tas, ts, rfl, upd_same, .inr (smw _ _ ht), hA.same smw, hW, fun H1 k1 hWeb => ⟨rfl, ?_⟩⟩
    have s1 : Same H H1 := fun c o e => k1 c o (smw c o e) (ne_of_none e hw0)
    clear k1 smw hw0 hdx0
    refine gn ?_
    dsimp only [List.set]
    -- the due
    refine ⟨_, rfl, _, rfl, _, rfl, ta, p, n, ts, tu, rk, rfl, hT.same s1, s1 _ _ hp, hW, fo, g, fun k H2 s2 fk kle => ?_⟩
    have hb40 : n * ts.length ≤ 12 * 20 := Nat.mul_le_mul n12 t20
    refine gn ?_
    dsimp only [List.set]
    have s02 := s1.trans s2
    refine ⟨_, rfl, _, rfl, w, .ref p, _, n, ts, rfl, hWeb.same s2, hW, rw_vnT (s02 _ _ hp), .inr ⟨rk, fo, .inr ⟨tu, rfl, g, fun k2 H3 s3 f2 _ => ?_⟩⟩⟩
    obtain rfl := fk.uniq f2
    have s03 := s02.trans s3
    refine nilP ⟨_, rfl, .inr (.inr (.inl ⟨_, rfl, log64 (by omega), ?_⟩))⟩
    refine ⟨_, rfl, nilP ⟨_, rfl, .inr (.inr (.inl ⟨_, rfl, log64 (by omega), neV rfl ⟨_, rfl, iteF ?_⟩⟩))⟩⟩
    refine ⟨_, rfl, p, _, rfl, .inr (SqT.of (s03 _ _ hp)), fun l hl => ?_⟩
    have s4 := same_new (o := HO.lst (vn tu)) hl
    have hl4 : (upd H3 l (.lst (vn tu))) l = some (.lst (vn tu)) := upd_same
    have s04 := s03.trans s4
    have hWeb4 := hWeb.same ((s2.trans s3).trans s4)
    generalize upd H3 l (.lst (vn tu)) = H4 at s4 hl4 s04 hWeb4 ⊢
    refine ⟨_, rfl, nilP ⟨rfl, w, .ref l, _, n, ts, rfl, hWeb4, hW, rw_vnL hl4, .inr ⟨rk, fo, .inr ⟨tu, rfl, g, fun k3 H5 s5 f3 _ => ?_⟩⟩⟩⟩
    obtain rfl := fk.uniq f3
    refine ⟨_, rfl, neV rfl ⟨_, rfl, iteF (nxP ?_)⟩⟩
    have s05 := s04.trans s5
    have hWeb5 := hWeb4.same s5
    have hb5 : BoxO H5 b := hb.same s05
    -- the states
    refine ⟨_, rfl, (n : Int), rfl, by omega, by omega, fun D0 hD0 => lc_range (fun j H' => ∃ ss : List Int, ss.length = j ∧ Bx b H5 H' ∧ H' D0 = some (.lst (vrow ss)) ∧ ∀ i ∈ ss, -9 ≤ i ∧ i ≤ 9) ⟨[], rfl, (Bx.refl hb5).new hD0, upd_same, fun i hi => (by cases hi)⟩ ?_ ?_⟩
    · rintro j H' hj ⟨ss, lj, bx, hD, gs⟩
      have nD0 := (Bx.refl hb5).ne hD0
      refine ⟨rfl, _, rfl, b, 19, rfl, bx.1, by decide, by decide, fun x J1 h0 h1 bxn => ⟨_, _, rfl, rfl, _, bxn.2 _ _ hD nD0, szl (by rw [vrow_len]; omega), ss ++ [x - 9], (by rw [List.length_append, lj]; rfl), (bx.trans bxn).put hD0 nD0, (by rw [upd_same, vrow, vrow, List.map_append]; rfl), fun y hy => ?_⟩⟩
      rcases List.mem_append.mp hy with z | z
      · exact gs y z
      · rw [List.mem_singleton.mp z]; omega
    rintro H6 ⟨ss0, ls0, bx6, hsl6, gs0⟩
    have nD0 := (Bx.refl hb5).ne hD0
    have ln0 : ss0.length = n := by omega
    have hWeb6 : WebAt W H6 w n ts := hWeb5.kp (fun a xs e => bx6.tup hb5 e) fun dx fs e => bx6.2 _ _ e (hb5.ne e fun xs => by intro z; cases z)
    have hT6 : TiesT H6 ta ts := (hT.same s05).kp fun a xs e => bx6.tup hb5 e
    have hp6 : H6 p = some (.tup (vn tu)) := bx6.tup hb5 (s05 _ _ hp)
    have bx06 : Bx b H H6 := ((Bx.refl hb).same s05).trans bx6
    refine gn ?_
    dsimp only [List.set]
    -- the modulus
    refine ⟨_, rfl, _, rfl, (by show 2 ≤ sizeLine; decide), fun lm hlm => ?_⟩
    have bx7 := bx06.new (o := HO.lst [V.int 0, .int 10]) hlm
    refine nilP ⟨b, lm, [V.int 0, .int 10], rfl, bx7.1, upd_same, bx06.ne hlm, by show 1 ≤ 2; decide, by show 2 ≤ 1000; decide, fun im vm H7 hvm bx8 => ?_⟩
    obtain ⟨m, rfl, hm⟩ : ∃ m : Int, vm = .int m ∧ (m = 0 ∨ m = 10) := by
      have h := List.mem_of_getElem? hvm
      simp only [List.mem_cons, List.mem_nil_iff, or_false] at h
      rcases h with rfl | rfl
      · exact ⟨_, rfl, .inl rfl⟩
      · exact ⟨_, rfl, .inr rfl⟩
    have sm := same_new (o := HO.lst [V.int 0, .int 10]) hlm
    have bxm : Bx b H6 H7 := ((Bx.refl bx06.1).same sm).trans bx8
    have bx09 : Bx b H H7 := bx06.trans bxm
    have hsl7 : H7 D0 = some (.lst (vrow ss0)) := bxm.2 _ _ hsl6 nD0
    have hWeb7 : WebAt W H7 w n ts := hWeb6.kp (fun a xs e => bxm.tup bx06.1 e) fun dx fs e => bxm.2 _ _ e (bx06.1.ne e fun xs => by intro z; cases z)
    have hT7 : TiesT H7 ta ts := hT6.kp fun a xs e => bxm.tup bx06.1 e
    have hp7 : H7 p = some (.tup (vn tu)) := bxm.tup bx06.1 hp6
    clear sm bx8 bx7 hvm hlm bxm
    -- the states without signs
    refine ⟨_, rfl, D0, rfl, ⟨_, SqL.of hsl7⟩, fun D1 hD1 => lc_list (K := K) (a := D0) (xs := vrow ss0) (fun j H' => ∃ ss : List Int, ss.length = j ∧ Same H7 H' ∧ H' D1 = some (.lst (vrow ss)) ∧ ∀ i ∈ ss, Dg i) ⟨[], rfl, same_new hD1, upd_same, fun i hi => (by cases hi)⟩ (fun j H' _ ⟨_, _, s, _⟩ => SqL.of (s _ _ hsl7)) ?_ ?_⟩
    · rintro j x H' hx ⟨ss, lj, s, hD, gs⟩
      obtain ⟨y, hy, rfl⟩ := vrow_at hx
      have hy9 := gs0 y (List.mem_of_getElem? hy)
      have jl := lt_at hy
      refine ⟨rfl, _, rfl, nilP ⟨y, rfl, _, hD, szl (by rw [vrow_len]; omega), ss ++ [if y < 0 then -y else y], (by rw [List.length_append, lj]; rfl), fun c o e => ?_, (by rw [upd_same, vrow, vrow, List.map_append]; rfl), fun z hz => ?_⟩⟩
      · rw [upd_ne (ne_of_none e hD1)]
        exact s _ _ e
      · rcases List.mem_append.mp hz with h | h
        · exact gs z h
        · rw [List.mem_singleton.mp h]; unfold Dg; split <;> omega
    rintro H8 ⟨ss, ls, s8, hss8, gs⟩
    rw [vrow_len] at ls
    have bx10 : Bx b H H8 := bx09.same s8
    -- the archives
    obtain ⟨tas8, ht8, hA8⟩ := id (hT7.same s8)
    refine ⟨_, rfl, ta, rfl, ⟨_, SqT.of ht8⟩, fun D2 hD2 => lc_tup (K := K) (a := ta) (xs := tas8.map V.ref) (fun j H' => ∃ ar : List Int, ar.length = j ∧ Bx b H8 H' ∧ H' D2 = some (.lst (vrow ar)) ∧ ∀ i ∈ ar, Dg i) ⟨[], rfl, (Bx.refl bx10.1).new hD2, upd_same, fun i hi => (by cases hi)⟩ (fun j H' _ ⟨_, _, bx, _⟩ => SqT.of (bx.tup bx10.1 ht8)) ?_ ?_⟩
    · rintro j x H' hx ⟨ar, lj, bx, hD, gs⟩
      have nD2 := bx10.ne hD2
      have jl := lt_at hx
      rw [List.length_map, hA8.1] at jl
      refine ⟨rfl, _, rfl, b, 10, rfl, bx.1, by decide, by decide, fun x J1 h0 h1 bxn => ⟨_, bxn.2 _ _ hD nD2, szl (by rw [vrow_len]; omega), ar ++ [x], (by rw [List.length_append, lj]; rfl), (bx.trans bxn).put hD2 nD2, (by rw [upd_same, vrow, vrow, List.map_append]; rfl), fun y hy => ?_⟩⟩
      rcases List.mem_append.mp hy with z | z
      · exact gs y z
      · rw [List.mem_singleton.mp z]; exact ⟨h0, h1⟩
    rintro H9 ⟨ar, la, bx9, har9, ga⟩
    rw [List.length_map, hA8.1] at la
    have nD1 : D1 ≠ b := bx09.ne hD1
    have bx11 : Bx b H H9 := bx10.trans bx9
    have hss9 : H9 D1 = some (.lst (vrow ss)) := bx9.2 _ _ hss8 nD1
    have hWeb9 : WebAt W H9 w n ts := (hWeb7.same s8).kp (fun a xs e => bx9.tup bx10.1 e) fun dx fs e => bx9.2 _ _ e (bx10.1.ne e fun xs => by intro z; cases z)
    have hp9 : H9 p = some (.tup (vn tu)) := bx9.tup bx10.1 (s8 _ _ hp7)
    -- the net
    refine nilP fun c dxc hc0 hdc0 nec => ?_
    have smc := mkSame (o1 := HO.own c) (o2 := HO.ins N dxc []) hc0 hdc0 nec
    obtain ⟨dxw2, taw2, hww, _⟩ := id hWeb9
    have nwc : w ≠ c := ne_of_none hww hc0
    have kints : ∀ {H : Hp} {t : List Int} ys, some (vrow t) = some ys → Kinds K H ys := fun ys e y hy => by
      obtain rfl := Option.some.inj e
      obtain ⟨i, _, rfl⟩ := List.mem_map.mp hy
      exact ⟨_, .int i⟩
    have lsn : ss.length = n := by omega
    have cs : cofB m n (some (vrow ss)) = true := by rw [← lsn]; exact cof_ok fun i hi => dg_cnt hm (gs i hi)
    have ca : cofB m ts.length (some (vrow ar)) = true := by rw [← la]; exact cof_ok fun i hi => dg_cnt hm (ga i hi)
    refine ⟨c, dxc, w, .int m, .ref D1, .ref D2, none, some (vrow ss), some (vrow ar), n, ts, rfl, upd_same, hWeb9.same smc, nwc, hW, .int m, ⟨.lst (smc _ _ hss9), kints⟩, ⟨.lst (smc _ _ har9), kints⟩, fun hf => ?_, fun m' em _ => ⟨fun hf => ?_, fun _ => ⟨fun hf => ?_, fun _ ss' ar' e1 e2 H10 b10 N10 => ⟨rfl, ?_⟩⟩⟩⟩
    · rcases hm with rfl | rfl <;> cases hf
    · injection em with em
      rw [← em, cs] at hf
      cases hf
    · injection em with em
      rw [← em, ca] at hf
      cases hf
    injection em with em
    subst em
    obtain rfl := vrow_inj e1
    obtain rfl := vrow_inj e2
    refine gn ?_
    dsimp only [List.set]
    have same : ∀ {H'}, But c H10 H' → Same H9 H' := fun {H'} bt d o e => bt d o (b10 d o (smc d o e) (ne_of_none e hc0)) (ne_of_none e hc0)
    -- the meetings
    refine ⟨_, rfl, (k : Int), rfl, by omega, by omega, for_range (fun i σ H' => ∃ (v8 : Option V), σ = [some (.ref b), some (.int (n : Int)), some (.ref ta), some (.ref p), some (.ref w), some (.int (k : Int)), some (.ref D0), some (.ref c), v8, none, none, none] ∧ But c H10 H' ∧ NetAt N W H' c m (runS m ts (ss, ar) (cyc tu i)).1 (runS m ts (ss, ar) (cyc tu i)).2 w n ts)
      ⟨none, rfl, But.refl, N10⟩ ?_ ?_⟩
    · rintro i σ H' hi ⟨v8, rfl, bt, Ni⟩
      have ik : i < k := by omega
      have L0 : 0 < ts.length := by
        rcases Nat.eq_zero_or_pos ts.length with z | z
        · rw [z, Nat.mul_zero] at kle; omega
        · exact z
      obtain ⟨t, ht', tl, ec⟩ := cyc_tie (k := i) g L0
      obtain ⟨pr, hpr⟩ := ex_at tl
      obtain ⟨dx, sa, aa, g1, _, _⟩ := Ni.ob
      have hpi := same bt _ _ hp9
      refine ⟨_, rfl, c, dx, _, rfl, g1, nf_meet _ _ _ _, _, rfl, _, rfl, .inl ⟨_, rfl, _, rfl, p, _, rfl, .inr (SqT.of hpi), _, _, rfl, rfl, ?_⟩⟩
      rw [vn_len, nd, Int.zero_add]
      refine ⟨by omega, p, _, _, .int (t : Int), rfl, rfl, SqT.of hpi, (by rw [modN]; exact at_i (vn_at ht')), c, w, .int (t : Int), none, m, _, _, n, ts, rfl, Ni, nwc, hW, .int _, fun hbw => ?_, fun t' p' et hp' H'' b'' N'' => ?_⟩
      · exact (below_bad tl hbw).elim
      · injection et with et
        obtain rfl : t = t' := by omega
        refine ⟨_, rfl, bt.trans b'', ?_⟩
        rw [ec, runS_snoc, metE hp']
        exact N''
    rintro σ H11 ⟨v8, rfl, bt, N11⟩
    rw [show ((k : Int)).toNat = k from Int.toNat_natCast k] at N11
    refine ⟨_, rfl, c, w, m, _, _, n, ts, rfl, N11, hW, fun H12 s12 => ?_⟩
    have ln : Ln n ts (ss, ar) := ⟨lsn, la⟩
    have al : Alk ts (runS m ts (ss, ar) (cyc tu k)) := alk_all hW ln (fun x => dg_getD hm gs x) (fun t _ => dg_getD hm ga t) fk.1
    have er : restB ts (runS m ts (ss, ar) (cyc tu k)).1 (runS m ts (ss, ar) (cyc tu k)).2 = true := rest_alk al
    rw [er]
    exact ⟨true, true, rfl, rfl, q _ ((bx11.same (same bt)).same s12)⟩
end
end K1
namespace K1
open PySem PySem.Spec PyProof.Rows L2
theorem Lw.webK {W b w : Addr} {T : List (Addr × Str)} {H H' : Hp} {n : Nat} {ts : Prs} (hb : BoxO H b) (l : Lw b T [] H H') (h : WebAt W H w n ts) : WebAt W H' w n ts :=
  h.kp (fun a xs e => l.ks.tup e (by rw [List.mem_singleton]; exact hb.ne e fun xs => by intro z; cases z)) fun dx fs e => l.ks.ins e (by rw [List.mem_singleton]; exact hb.ne e fun xs => by intro z; cases z)
theorem Lw.tupK {b a : Addr} {T : List (Addr × Str)} {H H' : Hp} {xs : List V} (hb : BoxO H b) (l : Lw b T [] H H') (h : H a = some (.tup xs)) : H' a = some (.tup xs) := l.ks.tup h (by rw [List.mem_singleton]; exact hb.ne h fun xs => by intro z; cases z)
/-! ### what is no order -/
theorem bad_len {L : Nat} {xs : List V} (h : xs.length ≠ L) : BadTu L (some xs) := .inl (by
  show (decide ((L : Int) ≤ (xs.length : Int)) && decide ((xs.length : Int) ≤ (L : Int))) = false
  rw [Bool.and_eq_false_iff, decide_eq_false_iff_not, decide_eq_false_iff_not]
  omega)
theorem bad_mem {L : Nat} {xs : List V} {v : V} (hv : v ∈ xs) (h : belowB v (L : Int) = false) : BadTu L (some xs) := by
  by_cases e : xs.length = L
  · refine .inr ⟨xs, rfl, e, .inl fun z => ?_⟩
    unfold fnb at z
    cases hf : xs.findIdx? (fun x => !belowB x (L : Int)) with
    | some i => rw [hf] at z; cases z
    | none =>
      rw [List.findIdx?_eq_none_iff] at hf
      have := hf v hv
      rw [h] at this
      cases this
  · exact bad_len e
theorem bad_dup {L : Nat} {ns : List Int} (h : ¬ ns.Nodup) : BadTu L (some (vrow ns)) := by
  by_cases e : (vrow ns).length = L
  · by_cases f : fnb (vrow ns) (L : Int) = .non
    · exact .inr ⟨_, rfl, e, .inr ⟨ns, rfl, f, h⟩⟩
    · exact .inr ⟨_, rfl, e, .inl f⟩
  · exact bad_len e
theorem belowL (L : Nat) : belowB (.int (L : Int)) (L : Int) = false := by
  show (decide (0 ≤ (L : Int)) && decide ((L : Int) < (L : Int))) = false
  rw [decide_eq_false (Int.lt_irrefl _), Bool.and_false]
theorem mem_tup {c : Nat} {t : PyData} {ds : List PyData} (h : c ∈ (PyData.tuple ds).shown.cps.toList) : c ∈ (PyData.list ds).shown.cps.toList ∨ c < 0x110000 := by
  rw [PyData.shown_tuple, mem_cps_append, mem_cps_append] at h
  rw [PyData.shown_list, mem_cps_append, mem_cps_append]
  rcases h with (h | h) | h
  · exact .inr (strOk_iff.mp (by decide +kernel : PyData.strOk "(" = true) c h)
  · exact .inl (.inl (.inr h))
  · refine .inr ?_
    split at h
    · exact strOk_iff.mp (by decide +kernel : PyData.strOk ",)" = true) c h
    · exact strOk_iff.mp (by decide +kernel : PyData.strOk ")" = true) c h
theorem ok_tuple {ds : List PyData} (h : ∀ d ∈ ds, PyData.strOk d.shown = true) : PyData.strOk (PyData.tuple ds).shown = true := strOk_iff.mpr fun c hc => by
  rcases mem_tup (t := .none) hc with h' | h'
  · exact strOk_iff.mp (ok_list h) c h'
  · exact h'
section
variable {K : PySem.W.Frag} {H : Hp} {xs : List Addr}
theorem vl_tup {p : Addr} {vs : List V} {ds : List PyData} (hp : H p = some (.tup vs)) (n : p ∉ xs) (a : Ims K xs H vs ds) (hl : vs.length ≤ 400) : Vl K xs H (.ref p) (some vs) (PyData.tuple ds).shown := by
  refine ⟨ok_tuple a.ok, fun H' Q k q => .inr (reprP (.tup (SqT.of (k.tup hp n)) (a.rd k).1) (Pl.tuple a.pl) (by decide) (by omega) q), fun H' k => ⟨.tup (k.tup hp n), fun ys e => ?_⟩⟩
  obtain rfl := Option.some.inj e
  exact (a.rd k).2
def BadV (K : PySem.W.Frag) (b : Addr) (L : Nat) (H : Hp) (v : V) : Prop := ∃ o x, Vl K [b] H v o x ∧ BadTu L o
theorem BadV.ks {b : Addr} {L : Nat} {v : V} {H1 : Hp} (h : BadV K b L H v) (k : Ks [b] H H1) : BadV K b L H1 v := let ⟨o, x, a, c⟩ := h; ⟨o, x, a.ks k, c⟩
theorem badT {b p : Addr} {L : Nat} {vs : List V} {ds : List PyData} (hb : BoxO H b) (hp : H p = some (.tup vs)) (a : Ims K [b] H vs ds) (hl : vs.length ≤ 400) (bad : BadTu L (some vs)) : BadV K b L H (.ref p) :=
  ⟨_, _, vl_tup hp (by rw [List.mem_singleton]; exact hb.ne hp fun xs => by intro z; cases z) a hl, bad⟩
theorem ims_vn {ns : List Nat} (h : ∀ x ∈ ns, x < 10 ^ 18) : Ims K xs H (vn ns) (dI (ns.map fun (x : Nat) => (x : Int))) := by
  rw [vn_row]
  refine ims_ints _ fun i hi => ?_
  obtain ⟨x, hx, rfl⟩ := List.mem_map.mp hi
  have := h x hx
  omega
end
theorem cut_vn (tu : List Nat) (lo hi : Option Int) : ∃ us : List Nat, cutV (vn tu) lo hi = vn us ∧ us.length ≤ tu.length ∧ ∀ x ∈ us, x ∈ tu := by
  refine ⟨(tu.drop (HT.sIx (vn tu).length 0 lo)).take (HT.sIx (vn tu).length (vn tu).length hi - HT.sIx (vn tu).length 0 lo), ?_, ?_, fun x hx => List.mem_of_mem_drop (List.mem_of_mem_take hx)⟩
  · unfold cutV
    rw [vn, vn, List.map_take, List.map_drop]
  · rw [List.length_take, List.length_drop]; omega
theorem cut_one {tu : List Nat} (h : 1 ≤ tu.length) : cutV (vn tu) (some 1) none = vn (tu.drop 1) := by
  have := cut_from (xs := vn tu) (k := 1) (by rw [vn_len]; exact h)
  rw [show (1 : Int) = ((1 : Nat) : Int) from rfl, this, vn, vn, List.map_drop]
theorem cut_two {tu : List Nat} (h : 2 ≤ tu.length) : cutV (vn tu) (some 1) (some 2) = vn ((tu.drop 1).take 1) := by
  unfold cutV
  rw [show (1 : Int) = ((1 : Nat) : Int) from rfl, show (2 : Int) = ((2 : Nat) : Int) from rfl, HT.sIx_nat, HT.sIx_nat, vn_len, Nat.min_eq_left (show 1 ≤ tu.length by omega), Nat.min_eq_left h, vn, vn, List.map_take, List.map_drop]
theorem dup_two {tu : List Nat} (h : 2 ≤ tu.length) : ¬ ((tu.drop 1 ++ (tu.drop 1).take 1).map fun (x : Nat) => (x : Int)).Nodup := fun nd => by
  obtain ⟨x, hx⟩ := ex_at (l := tu.drop 1) (i := 0) (by rw [List.length_drop]; omega)
  have l0 := lt_at hx
  have e2 : ((tu.drop 1).take 1)[0]? = some x := by rw [List.getElem?_take_of_lt (by decide)]; exact hx
  have m1 : (x : Int) ∈ (tu.drop 1).map fun (x : Nat) => (x : Int) := List.mem_map.mpr ⟨x, List.mem_of_getElem? hx, rfl⟩
  have m2 : (x : Int) ∈ ((tu.drop 1).take 1).map fun (x : Nat) => (x : Int) := List.mem_map.mpr ⟨x, List.mem_of_getElem? e2, rfl⟩
  rw [List.map_append, List.nodup_append] at nd
  exact nd.2.2 _ m1 _ m2 rfl
theorem nn2 {σ : L2.St} {H : Hp} {Q : List V → Hp → Prop} (h : Q [.non, .non] H) : tCons (tC .non) (tCons (tC .non) tNil) σ H Q := h
theorem nn1 {σ : L2.St} {H : Hp} {Q : List V → Hp → Prop} (h : Q [.non] H) : tCons (tC .non) tNil σ H Q := h
abbrev qNo : Str := "_law_none_right.<locals>.<lambda>"
def spNone (W : Addr) (T : List (Addr × Str)) : Sp := fun vs H Q _ => ∃ (b w p : Addr) (n : Nat) (ts : Prs) (tu : List Nat) (rg : Bool), vs = [.ref b, .ref w, .ref p, .bl rg] ∧ BoxO H b ∧ LamX.Tabs T H ∧ WebAt W H w n ts ∧ Wv n ts ∧ ts.length ≤ 13 ∧ H p = some (.tup (vn tu)) ∧ GoodTu ts.length tu ∧ (rg = true → Ringed n ts) ∧ (rg = false → ∃ rk, Fo rk ts) ∧ ∀ H', Lw b T [] H H' → Q (.bl true) H'
section
variable {P : Program} {w : World} {K : PySem.W.Frag} {mg : Str → Option Value} {base : Heap}
abbrev nNo : List Str := ["_law_box_here", "_law_web", "_law_turns", "_law_ringed", "_law_at", "_law_some", "_law_bad", "_law_wrong"]
theorem scNo : FnScope nNo ["_law_box_here", "_law_web", "_law_turns", "_law_ringed"] (defScope sLNoneRight) := ⟨rfl, rfl, rfl, by decide +kernel, rfl, by decide +kernel, by decide +kernel⟩
theorem ok_none {f fT fK fC fH fR W CH CR c_ Pt : Addr} {fd fdT fdK fdC fdH fdR : FuncData} {T : List (Addr × Str)} (F : FunC K "_law_none_right" "_law_none_right" sLNoneRight f fd (.ref c_)) (TB : LamX.TabB base mg c_ Pt) (hmT : (Pt, qNo) ∈ T) (hun : ∀ p ∈ T, p.1 = Pt → p.2 = qNo) (B : Bt mg) (hd : Hd K mg base CH CR) (wq : Wq P w K mg base W CR) (TW : WcT K mg W)
    (DT : Df K mg "_law_take" sLTake ["_law_box_here", "_law_many"] fT fdT) (GT : FnOk P w K mg base CX0 1 fT fdT ["_law_box_here", "_law_many"] spTake) (DK : Df K mg "_law_pick" sLPick ["_law_box_here", "_law_some"] fK fdK) (GK : FnOk P w K mg base CX0 2 fK fdK ["_law_box_here", "_law_some"] spPick)
    (DC : Df K mg "check_turns" sCheckTurns ["web", "value"] fC fdC) (GC : FnOk P w K mg base (L2.CX P w) 4 fC fdC ["web", "value"] (spChk K W CR)) (DH : Df K mg "turns_heard" sTurnsHeard ["web", "turns", "house", "other"] fH fdH) (GH : FnOk P w K mg base (L2.CX P w) 5 fH fdH ["web", "turns", "house", "other"] (spTH K W CH CR))
    (DR : Df K mg "rest_after" sRestAfter ["web", "turns"] fR fdR) (GR : FnOk P w K mg base (L2.CX P w) 9 fR fdR ["web", "turns"] (spRA K W CR)) : FnG P w K mg base 12 f fd ["_law_box_here", "_law_web", "_law_turns", "_law_ringed"] (spNone W T) := by
  refine F.okG scNo (fun vs H Q E h => ?_) (fun A outer s H vs Q E hr hgd h => ?_)
  · obtain ⟨b, w, p, n, ts, tu, rg, rfl, _⟩ := h
    rfl
  · obtain ⟨b, w, p, n, ts, tu, rg, rfl, hb, hT, hw, hW, t13, hp, g, hrg, hfo, q⟩ := h
    have hu : (A.deeper (envOfC "_law_none_right" (defScope sLNoneRight) s.heap.objs.size f (.ref c_))).units + 64 < cLine := hr.units
    have r1 := hr.mono (show 1 ≤ 11 by decide)
    have r2 := hr.mono (show 2 ≤ 11 by decide)
    refine ⟨_, pss_cons (ps_set (i := 4) scNo.nd rfl (.inl rfl) (pc DT GT r1 pass0 (pa_cons (pv 0) (pa_cons (pe_op op_add (pe_callB call_len_seq (by rfl) B.len PySem.boot_len (pa_cons (pv 2) pa_nil)) pe_int) pa_nil))))
      (pss_cons (ps_set (i := 5) scNo.nd rfl (.inl rfl) (pe_lst (pa_cons pe_non (pa_cons (pe_op (opCatA (K := K) rfl) (pv 2) (pe_tup (pa_cons pe_int pa_nil)))
          (pa_cons (pe_op (opCatA (K := K) rfl) (pe_op (opCatA (K := K) rfl) (pe_slice (slA (K := K) rfl) (pv 2) po_none (po_some (pv 4))) (pe_tup (pa_cons (pe_callB call_len_seq (by rfl) B.len PySem.boot_len (pa_cons (pv 2) pa_nil)) pa_nil))) (pe_slice (slA (K := K) rfl) (pv 2) (po_some (pe_op op_add (pv 4) pe_int)) po_none))
          (pa_cons (pe_op op_mulS pe_str (pe_callB call_len_seq (by rfl) B.len PySem.boot_len (pa_cons (pv 2) pa_nil))) (pa_cons pe_int (pa_cons (pe_op (opCatA (K := K) rfl) (pv 2) (pe_tup (pa_cons pe_non pa_nil))) pa_nil))))))))
      (pss_cons (ps_if (pt_cmpR (neD (K := K) rfl hu) (pv 2) (pe_tup pa_nil) (nomark _))
          (pss_one (ps_set (i := 5) scNo.nd rfl (.inl rfl) (pe_op op_cat (pv 5) (pe_lst (pa_cons (pe_slice (slA (K := K) rfl) (pv 2) (po_some pe_int) po_none)
            (pa_cons (pe_op (opCatA (K := K) rfl) (pe_slice (slA (K := K) rfl) (pv 2) (po_some pe_int) po_none) (pe_slice (slA (K := K) rfl) (pv 2) (po_some pe_int) (po_some pe_int)))
            (pa_cons (pe_op (opCatA (K := K) rfl) (pe_slice (slA (K := K) rfl) (pv 2) (po_some pe_int) po_none) (pe_tup (pa_cons pe_bl pa_nil)))
            (pa_cons (pe_op (opCatA (K := K) rfl) (pe_slice (slA (K := K) rfl) (pv 2) (po_some pe_int) po_none) (pe_tup (pa_cons (pe_op op_sub pe_int pe_int) pa_nil))) pa_nil)))))))) pss_nil)
      (pss_cons (ps_set (i := 7) scNo.nd rfl (.inr rfl) (pc DK GK r2 pass0 (pa_cons (pv 0) (pa_cons (pv 5) pa_nil))))
      (pss_cons (ps_if (pt_cmpR (neD (K := K) rfl hu) (pHeard (k := 9) (qn := qNo) (T := T) hd TB hgd hr rfl rfl hmT hun rfl (LamX.lamS_by (by rfl)) rfl (fun _ _ _ _ _ => rfl)
          (fun A outer s H E f c' hr2 => pc DC GC (hr2.mono (show 4 ≤ 9 by decide)) (pass1 (E := E) (takes_of rfl rfl rfl rfl)) (pa_cons (pv 1) (pa_cons (pv 7) pa_nil))))
        (pe_tup (pa_cons pe_str (pa_cons (pe_callB (call_or2 call_reprS (call_repr hgd hu)) (by rfl) B.repr (by decide +kernel) (pa_cons (pv 7) pa_nil)) (pa_cons pe_bl pa_nil)))) (nomark _)) (pss_one (ps_ret pe_bl)) pss_nil)
      (pss_cons (ps_if (pt_cmpR (neD (K := K) rfl hu) (pHeard (k := 9) (qn := qNo) (T := T) hd TB hgd hr rfl rfl hmT hun rfl (LamX.lamS_by (by rfl)) rfl (fun _ _ _ _ _ => rfl)
          (fun A outer s H E f c' hr2 => pc DH GH (hr2.mono (show 5 ≤ 9 by decide)) (pass1 (E := E) (takes_of rfl rfl rfl rfl)) (pa_cons (pv 1) (pa_cons (pv 7) (pa_cons pe_non (pa_cons pe_non pa_nil))))))
        (pe_tup (pa_cons pe_str (pa_cons (pe_callB (call_or2 call_reprS (call_repr hgd hu)) (by rfl) B.repr (by decide +kernel) (pa_cons (pv 7) pa_nil)) (pa_cons pe_bl pa_nil)))) (nomark _)) (pss_one (ps_ret pe_bl)) pss_nil)
      (pss_cons (ps_set (i := 6) scNo.nd rfl (.inr rfl) (pc DK GK r2 pass0 (pa_cons (pv 0) (pa_cons (pe_lst (pa_cons (pe_fld (pv 1) rfl) (pa_cons (pe_op op_sub pe_int pe_int) (pa_cons pe_non (pa_cons pe_bl (pa_cons pe_str pa_nil)))))) pa_nil))))
      (pss_cons (ps_if (pt_cmpR (neD (K := K) rfl hu) (pHeard (k := 9) (qn := qNo) (T := T) hd TB hgd hr rfl rfl hmT hun rfl (LamX.lamS_by (by rfl)) rfl (fun _ _ _ _ _ => rfl)
          (fun A outer s H E f c' hr2 => pc DH GH (hr2.mono (show 5 ≤ 9 by decide)) (pass1 (E := E) (takes_of rfl rfl rfl rfl)) (pa_cons (pv 1) (pa_cons (pv 2) (pa_cons (pv 6) (pa_cons pe_non pa_nil))))))
        (pe_tup (pa_cons pe_str (pa_cons (pe_callB (call_or2 call_reprS (call_repr hgd hu)) (by rfl) B.repr (by decide +kernel) (pa_cons (pv 6) pa_nil)) (pa_cons pe_bl pa_nil)))) (nomark _)) (pss_one (ps_ret pe_bl)) pss_nil)
      (pss_cons (ps_if (pt_cmpR (neD (K := K) rfl hu) (pHeard (k := 9) (qn := qNo) (T := T) hd TB hgd hr rfl rfl hmT hun rfl (LamX.lamS_by (by rfl)) rfl (fun _ _ _ _ _ => rfl)
          (fun A outer s H E f c' hr2 => pc DH GH (hr2.mono (show 5 ≤ 9 by decide)) (pass1 (E := E) (takes_of rfl rfl rfl rfl)) (pa_cons (pv 1) (pa_cons (pv 2) (pa_cons pe_int (pa_cons (pv 6) pa_nil))))))
        (pe_tup (pa_cons pe_str (pa_cons (pe_callB (call_or2 call_reprS (call_repr hgd hu)) (by rfl) B.repr (by decide +kernel) (pa_cons (pv 6) pa_nil)) (pa_cons pe_bl pa_nil)))) (nomark _)) (pss_one (ps_ret pe_bl)) pss_nil)
      (pss_cons (ps_if (pt_val (pv 3)) (pss_one (ps_ret (pWr (k := 9) (qn := qNo) (T := T) wq TB hr rfl rfl hmT hun rfl (LamX.lamS_by (by rfl)) rfl (fun _ _ _ _ _ => rfl)
          (fun A outer s H E f c' hr2 => pc DR GR hr2 (pass1 (E := E) (takes_of rfl rfl rfl rfl)) (pa_cons (pv 1) (pa_cons (pv 7) pa_nil))) (pv 1)))) pss_nil)
      (pss_one (ps_ret (pe_cmpR (eqD (K := K) rfl hu) (pHeard (k := 9) (qn := qNo) (T := T) hd TB hgd hr rfl rfl hmT hun rfl (LamX.lamS_by (by rfl)) rfl (fun _ _ _ _ _ => rfl)
          (fun A outer s H E f c' hr2 => pc DR GR hr2 (pass1 (E := E) (takes_of rfl rfl rfl rfl)) (pa_cons (pv 1) (pa_cons (pv 7) pa_nil))))
        (pe_tup (pa_cons pe_str (pa_cons (pe_callB (call_or2 call_reprS (call_repr hgd hu)) (by rfl) B.repr (by decide +kernel) (pa_cons (pv 7) pa_nil)) (pa_cons pe_bl pa_nil)))) (nomark _))))))))))))), ?_⟩
    have n12 := hW.n12
    have n1 := hW.n1
    have ltu : tu.length = ts.length := g.2.1
    have lv : (vn tu).length = ts.length := by rw [vn_len, ltu]
    have L0 : Lw b T [] H H := Lw.refl hb hT
    have big : ∀ {us : List Nat}, (∀ x ∈ us, x ∈ tu) → ∀ x ∈ us, x < 10 ^ 18 := fun h x hx => by
      have := g.2.2 x (h x hx)
      omega
    have szc : ∀ {a c : List V}, a.length ≤ 100 → c.length ≤ 100 → a.length + c.length ≤ sizeLine := fun h1 h2 => sz (by omega)
    have cl : ∀ lo hi, (cutV (vn tu) lo hi).length ≤ 100 := fun lo hi => by
      have := cutV_length (vn tu) lo hi
      omega
    -- a place
    refine ⟨_, rfl, _, rfl, p, _, rfl, .inr (SqT.of hp), _, _, rfl, rfl, b, _, rfl, hb, by omega, by omega, fun at_ H1 at0 at1 bx1 => ?_⟩
    obtain ⟨a, rfl⟩ : ∃ a : Nat, at_ = (a : Int) := ⟨at_.toNat, by omega⟩
    have L1 := L0.box bx1
    have hp1 := L1.tupK hb hp
    refine gn ?_
    dsimp only [List.set]
    -- what is no order
    refine ⟨_, rfl, (by show 1 ≤ sizeLine; decide), fun y1 hy1 => catA_by (same_new hy1 _ _ hp1) upd_same (szc (by omega) (by show 1 ≤ 100; decide)) fun u1 H2 s2 hu1 => ?_⟩
    have t2 : Same H1 H2 := (same_new hy1).trans s2
    refine ⟨_, rfl, noP ⟨_, rfl, _, rfl, slA_by (t2 _ _ hp1) fun u2 H3 s3 hu2 => ?_⟩⟩
    have t3 := t2.trans s3
    refine ⟨_, rfl, p, _, rfl, .inr (SqT.of (t3 _ _ hp1)), (by show 1 ≤ sizeLine; decide), fun y2 hy2 => catA_by (same_new hy2 _ _ hu2) upd_same (szc (cl _ _) (by show 1 ≤ 100; decide)) fun u3 H4 s4 hu3 => ?_⟩
    have t34 : Same H3 H4 := (same_new hy2).trans s4
    have t4 := t3.trans t34
    refine ⟨_, rfl, _, rfl, _, _, rfl, rfl, _, rfl, noP (slA_by (t4 _ _ hp1) fun u4 H5 s5 hu4 => catA_by (s5 _ _ hu3) hu4 (szc (by rw [List.length_append]; have := cutV_length (vn tu) none (some (a : Int)); simp only [List.length_cons, List.length_nil]; omega) (cl _ _)) fun u5 H6 s6 hu5 => ?_)⟩
    have t6 := (t4.trans s5).trans s6
    refine ⟨_, rfl, p, _, rfl, .inr (SqT.of (t6 _ _ hp1)), "0", _, rfl, rfl, by omega, by omega, rfl, _, rfl, (by show 1 ≤ sizeLine; decide), fun y3 hy3 => catA_by (same_new hy3 _ _ (t6 _ _ hp1)) upd_same (szc (by omega) (by show 1 ≤ 100; decide)) fun u6 H7 s7 hu6 => ⟨(by show 6 ≤ sizeLine; decide), fun l hl => ?_⟩⟩
    have t67 : Same H6 H7 := (same_new hy3).trans s7
    have t7 := t6.trans t67
    have nl : l ≠ b := (L1.same t7).nn hl
    have sl := same_new (o := HO.lst [V.non, .ref u1, .ref u5, .str (mulS "0" ((vn tu).length : Int)), .int 0, .ref u6]) hl
    have hl8 : (upd H7 l (.lst [V.non, .ref u1, .ref u5, .str (mulS "0" ((vn tu).length : Int)), .int 0, .ref u6])) l = some (.lst [V.non, .ref u1, .ref u5, .str (mulS "0" ((vn tu).length : Int)), .int 0, .ref u6]) := upd_same
    have L8 := L1.same (t7.trans sl)
    have g1 := sl _ _ (t67 _ _ (s6 _ _ (s5 _ _ (t34 _ _ (s3 _ _ hu1)))))
    have g5 := sl _ _ (t67 _ _ hu5)
    have g6 := sl _ _ hu6
    generalize upd H7 l (.lst [V.non, .ref u1, .ref u5, .str (mulS "0" ((vn tu).length : Int)), .int 0, .ref u6]) = H8 at sl hl8 L8 g1 g5 g6 ⊢
    have base6 : ∀ v ∈ [V.non, .ref u1, .ref u5, .str (mulS "0" ((vn tu).length : Int)), .int 0, .ref u6], BadV K b ts.length H8 v := fun v hv => by
      simp only [List.mem_cons, List.mem_nil_iff, or_false] at hv
      rcases hv with rfl | rfl | rfl | rfl | rfl | rfl
      · exact ⟨_, _, vl_non, .inl rfl⟩
      · refine badT L8.bx g1 ((ims_vn (big fun x hx => hx)).app (.cons (im_int (i := 0) (by decide)) .nil)) ?_ (bad_len ?_)
        · rw [List.length_append]; simp only [List.length_cons, List.length_nil]; omega
        · rw [List.length_append]; simp only [List.length_cons, List.length_nil]; omega
      · obtain ⟨us1, e1, l1, m1⟩ := cut_vn tu none (some (a : Int))
        obtain ⟨us2, e2, l2, m2⟩ := cut_vn tu (some ((a : Int) + 1)) none
        rw [e1, e2, lv] at g5
        refine badT L8.bx g5 (((ims_vn (big m1)).app (.cons (im_int (i := (ts.length : Int)) (by omega)) .nil)).app (ims_vn (big m2))) ?_ (bad_mem (v := .int (ts.length : Int)) ?_ (belowL _))
        · rw [List.length_append, List.length_append, vn_len, vn_len]; simp only [List.length_cons, List.length_nil]; omega
        · exact List.mem_append_left _ (List.mem_append_right _ (List.mem_singleton.mpr rfl))
      · rw [lv]
        obtain ⟨x, hx⟩ := vl_mul (K := K) (xs := [b]) (H := H8) ts.length t13
        exact ⟨_, _, hx, .inl rfl⟩
      · exact ⟨_, _, vl_int (by decide), .inl rfl⟩
      · refine badT L8.bx g6 ((ims_vn (big fun x hx => hx)).app (.cons im_non .nil)) ?_ (bad_len ?_)
        · rw [List.length_append]; simp only [List.length_cons, List.length_nil]; omega
        · rw [List.length_append]; simp only [List.length_cons, List.length_nil]; omega
    clear g1 g5 g6 sl hl t67 t7 hu6 s7 hy3 t6 hu5 s6 hu4 s5 t4 t34 hu3 s4 hy2 t3 hu2 s3 t2 hu1 s2 hy1
    refine gn ?_
    dsimp only [List.set]
    have hp8 := L8.tupK hb hp
    refine seqG (fun σ H' => ∃ (wl : Addr) (ws : List V), σ = [some (.ref b), some (.ref w), some (.ref p), some (.bl rg), some (.int (a : Int)), some (.ref wl), none, none] ∧ Lw b T [] H H' ∧ H' wl = some (.lst ws) ∧ wl ≠ b ∧ 1 ≤ ws.length ∧ ws.length ≤ 1000 ∧ ∀ v ∈ ws, BadV K b ts.length H' v) ?_ (fun go => ?_)
    rotate_left
    · refine ⟨_, rfl, (by show 0 ≤ sizeLine; decide), fun e0 he0 => ?_⟩
      have plt : Pl (.tuple (dI (tu.map fun (x : Nat) => (x : Int)))) 1 2000 := (Pl.tuple (pla_ints _ fun i hi => by
        obtain ⟨x, hx, rfl⟩ := List.mem_map.mp hi
        have := big (us := tu) (fun x hx => hx) x hx
        omega)).mono (by decide) (by rw [List.length_map]; omega)
      refine ⟨.tuple (dI (tu.map fun (x : Nat) => (x : Int))), .tuple [], dp_vn (same_new he0 _ _ hp8), .tup (SqT.of upd_same) .nil, plt.shaped (by decide), by decide +kernel, _, rfl, ?_⟩
      have L9 := L8.new (o := HO.tup []) he0
      have k89 : Ks [b] H8 (upd H8 e0 (.tup [])) := fun c o e _ _ => same_new he0 _ _ e
      have hl9 := same_new (o := HO.tup []) he0 _ _ hl8
      have hp9 := same_new (o := HO.tup []) he0 _ _ hp8
      generalize upd H8 e0 (.tup []) = H9 at L9 k89 hl9 hp9 ⊢
      cases eq : PyData.eqv (.tuple (dI (tu.map fun (x : Nat) => (x : Int)))) (.tuple []) with
      | true => exact iteF (nxP (go _ _ ⟨l, _, rfl, L9, hl9, nl, by show 1 ≤ 6; decide, by show 6 ≤ 1000; decide, fun v hv => (base6 v hv).ks k89⟩))
      | false =>
        have tu0 : 1 ≤ tu.length := by
          cases tu with
          | nil =>
            have : PyData.eqv (.tuple (dI (([] : List Nat).map fun (x : Nat) => (x : Int)))) (.tuple []) = true := SeqAt.eqv_refl _ (by decide +kernel)
            rw [this] at eq
            cases eq
          | cons _ _ => simp
        have c1 := cut_one tu0
        refine iteT ?_
        refine ⟨_, rfl, _, rfl, _, rfl, noP (slA_by hp9 fun a1 G1 z1 ha1 => ?_)⟩
        refine ⟨_, rfl, _, rfl, noP (slA_by (z1 _ _ hp9) fun a2 G2 z2 ha2 => ⟨_, rfl, _, rfl, _, rfl, slA_by ((z1.trans z2) _ _ hp9) fun a3 G3 z3 ha3 => catA_by (z3 _ _ ha2) ha3 (szc (cl _ _) (cl _ _)) fun a4 G4 z4 ha4 => ?_⟩)⟩
        have w4 := ((z1.trans z2).trans z3).trans z4
        refine ⟨_, rfl, _, rfl, noP (slA_by (w4 _ _ hp9) fun a5 G5 z5 ha5 => ⟨(by show 1 ≤ sizeLine; decide), fun y4 hy4 => catA_by (same_new hy4 _ _ ha5) upd_same (szc (cl _ _) (by show 1 ≤ 100; decide)) fun a6 G6 z6 ha6 => ?_⟩)⟩
        have w46 : Same G4 G6 := (z5.trans (same_new hy4)).trans z6
        have w6 := w4.trans w46
        refine ⟨_, rfl, _, rfl, noP (slA_by (w6 _ _ hp9) fun a7 G7 z7 ha7 => ⟨_, _, rfl, rfl, (by show 1 ≤ sizeLine; decide), fun y5 hy5 => catA_by (same_new hy5 _ _ ha7) upd_same (szc (cl _ _) (by show 1 ≤ 100; decide)) fun a8 G8 z8 ha8 => ⟨(by show 4 ≤ sizeLine; decide), fun l6 hl6 => ?_⟩⟩)⟩
        have w68 : Same G6 G8 := (z7.trans (same_new hy5)).trans z8
        have w8 := w6.trans w68
        refine ⟨l, l6, _, _, rfl, rfl, same_new hl6 _ _ (w8 _ _ hl9), upd_same, szc (by show 6 ≤ 100; decide) (by show 4 ≤ 100; decide), fun l7 hl7 => gn (go _ _ ?_)⟩
        have x8 := (same_new (o := HO.lst [V.ref a1, .ref a4, .ref a6, .ref a8]) hl6).trans (same_new (o := HO.lst ([V.non, .ref u1, .ref u5, .str (mulS "0" ((vn tu).length : Int)), .int 0, .ref u6] ++ [V.ref a1, .ref a4, .ref a6, .ref a8])) hl7)
        have L10 := L9.same (w8.trans x8)
        have nl7 : l7 ≠ b := (L9.same (w8.trans (same_new (o := HO.lst [V.ref a1, .ref a4, .ref a6, .ref a8]) hl6))).nn hl7
        have j1 := x8 _ _ (w68 _ _ (w46 _ _ (z4 _ _ (z3 _ _ (z2 _ _ ha1)))))
        have j4 := x8 _ _ (w68 _ _ (w46 _ _ ha4))
        have j6 := x8 _ _ (w68 _ _ ha6)
        have j8 := x8 _ _ ha8
        refine ⟨l7, [V.non, .ref u1, .ref u5, .str (mulS "0" ((vn tu).length : Int)), .int 0, .ref u6] ++ [V.ref a1, .ref a4, .ref a6, .ref a8], rfl, L10, upd_same, nl7, by show 1 ≤ 10; decide, by show 10 ≤ 1000; decide, fun v hv => ?_⟩
        have k90 := k89.same (w8.trans x8)
        have md : ∀ x ∈ tu.drop 1, x ∈ tu := fun x hx => List.mem_of_mem_drop hx
        have ld : (vn (tu.drop 1)).length + 1 = ts.length := by rw [vn_len, List.length_drop]; omega
        generalize (upd (upd G8 l6 (.lst [V.ref a1, .ref a4, .ref a6, .ref a8])) l7 (.lst ([V.non, .ref u1, .ref u5, .str (mulS "0" ((vn tu).length : Int)), .int 0, .ref u6] ++ [V.ref a1, .ref a4, .ref a6, .ref a8]))) = G9 at L10 j1 j4 j6 j8 k90 ⊢
        rcases List.mem_append.mp hv with hv | hv
        · exact (base6 v hv).ks k90
        · rw [c1] at j1 j4 j6 j8
          simp only [List.mem_cons, List.mem_nil_iff, or_false] at hv
          rcases hv with rfl | rfl | rfl | rfl
          · exact badT L10.bx j1 (ims_vn (big md)) (by omega) (bad_len (by omega))
          · by_cases t2 : 2 ≤ tu.length
            · rw [cut_two t2, show vn (tu.drop 1) ++ vn ((tu.drop 1).take 1) = vn (tu.drop 1 ++ (tu.drop 1).take 1) from (List.map_append).symm] at j4
              have mm : ∀ x ∈ tu.drop 1 ++ (tu.drop 1).take 1, x ∈ tu := fun x hx => by
                rcases List.mem_append.mp hx with h | h
                · exact md x h
                · exact md x (List.mem_of_mem_take h)
              refine badT L10.bx j4 (ims_vn (big mm)) (by rw [vn_len, List.length_append, List.length_take, List.length_drop]; omega) ?_
              rw [vn_row]
              exact bad_dup (dup_two t2)
            · obtain ⟨us, e1, l1, m1⟩ := cut_vn tu (some 1) (some 2)
              have tl1 : tu.length = 1 := by omega
              have e0 : cutV (vn tu) (some 1) (some 2) = [] := by
                unfold cutV
                rw [show (1 : Int) = ((1 : Nat) : Int) from rfl, show (2 : Int) = ((2 : Nat) : Int) from rfl, HT.sIx_nat, HT.sIx_nat, vn_len, tl1]
                rfl
              rw [e0, List.append_nil] at j4
              exact badT L10.bx j4 (ims_vn (big md)) (by omega) (bad_len (by omega))
          · refine badT L10.bx j6 ((ims_vn (big md)).app (.cons im_true .nil)) ?_ (bad_mem (v := .bl true) ?_ rfl)
            · rw [List.length_append]; simp only [List.length_cons, List.length_nil]; omega
            · exact List.mem_append_right _ (List.mem_singleton.mpr rfl)
          · refine badT L10.bx j8 ((ims_vn (big md)).app (.cons (im_int (i := 0 - 1) (by decide)) .nil)) ?_ (bad_mem (v := .int (0 - 1)) ?_ rfl)
            · rw [List.length_append]; simp only [List.length_cons, List.length_nil]; omega
            · exact List.mem_append_right _ (List.mem_singleton.mpr rfl)
    rintro σ H4 ⟨wl, ws, rfl, L4, hwl, nwl, ws1, ws2, hws⟩
    clear base6 hp8 hl8 L8 hp1 L1 bx1 nl
    refine ⟨_, rfl, _, rfl, b, wl, ws, rfl, L4.bx, hwl, nwl, ws1, ws2, fun i9 v9 H5 hv9 bx9 => ?_⟩
    obtain ⟨o, x, vl, bad⟩ := (hws v9 (List.mem_of_getElem? hv9)).ks (ks_bx bx9)
    have L5 := L4.box bx9
    refine gn ?_
    dsimp only [List.set]
    -- check_turns
    refine ⟨L5.tb, fun G1 eN1 tb1 => ?_⟩
    have La1 := L5.ext eN1 tb1
    have va1 := vl.ks (fun c o e _ n => eN1 _ _ e n : Ks [b] _ G1)
    refine ⟨_, rfl, _, rfl, w, v9, o, n, ts, rfl, La1.webK hb hw, hW, va1.rd _ Ks.refl, .inr ⟨bad, heR va1 fun p1 E1 z1 hp1 => ?_⟩⟩
    refine ⟨_, rfl, nilP (va1.sh _ _ (fun c o e _ _ => z1 _ _ e) ⟨(by show 3 ≤ sizeLine; decide), fun q1 hq1 => earS st_r va1.ok ((same_new hq1) _ _ hp1) upd_same ⟨_, rfl, iteF (nxP ?_)⟩⟩)⟩
    have Lb1 := (La1.same z1).new (o := HO.tup [.str "refused", .str x, .bl true]) hq1
    have vb1 := va1.same (z1.trans (same_new (o := HO.tup [.str "refused", .str x, .bl true]) hq1))
    generalize upd E1 q1 (.tup [.str "refused", .str x, .bl true]) = F1 at Lb1 vb1 ⊢
    -- turns_heard
    refine ⟨Lb1.tb, fun G2 eN2 tb2 => ?_⟩
    have La2 := Lb1.ext eN2 tb2
    have va2 := vb1.ks (fun c o e _ n => eN2 _ _ e n : Ks [b] _ G2)
    refine ⟨_, rfl, _, rfl, nn2 ⟨w, v9, .non, .non, o, none, none, n, ts, rfl, La2.webK hb hw, hW, va2.rd _ Ks.refl, .non, .non, .inl ⟨bad, heR va2 fun p2 E2 z2 hp2 => ?_⟩⟩⟩
    refine ⟨_, rfl, nilP (va2.sh _ _ (fun c o e _ _ => z2 _ _ e) ⟨(by show 3 ≤ sizeLine; decide), fun q2 hq2 => earS st_r va2.ok ((same_new hq2) _ _ hp2) upd_same ⟨_, rfl, iteF (nxP ?_)⟩⟩)⟩
    have Lb2 := (La2.same z2).new (o := HO.tup [.str "refused", .str x, .bl true]) hq2
    have vb2 := va2.same (z2.trans (same_new (o := HO.tup [.str "refused", .str x, .bl true]) hq2))
    generalize upd E2 q2 (.tup [.str "refused", .str x, .bl true]) = F2 at Lb2 vb2 ⊢
    -- what is no house
    obtain ⟨dxw3, ta3, w13, tas3, w23, w33⟩ := Lb2.webK hb hw
    refine ⟨_, rfl, _, rfl, w, W, dxw3, _, _, rfl, w13, TW.cl, TW.nH, wf_h _ _, _, _, rfl, rfl, (by show 5 ≤ sizeLine; decide), fun l3 hl3 => ?_⟩
    refine nilP ⟨b, l3, oddH (n : Int), rfl, (Lb2.new hl3).bx, upd_same, Lb2.nn hl3, by show 1 ≤ 5; decide, by show 5 ≤ 1000; decide, fun i3 v3 J3 hv3 bx3 => ?_⟩
    have Lp3 := (Lb2.new (o := HO.lst (oddH (n : Int))) hl3).box bx3
    have vp3 := (vb2.same (same_new (o := HO.lst (oddH (n : Int))) hl3)).ks (ks_bx bx3)
    obtain ⟨bd3, x3, vl3⟩ := oddH_vl (K := K) (xs := [b]) (H := J3) (by omega) (by omega) (List.mem_of_getElem? hv3)
    refine gn ?_
    dsimp only [List.set]
    refine ⟨Lp3.tb, fun G4 eN4 tb4 => ?_⟩
    have La4 := Lp3.ext eN4 tb4
    have kx4 : Ks [b] J3 G4 := fun c o e _ n => eN4 _ _ e n
    have va4 := vl3.ks kx4
    have vp4 := vp3.ks kx4
    refine ⟨_, rfl, _, rfl, _, rfl, nn1 ⟨w, .ref p, v3, .non, some (vn tu), none, none, n, ts, rfl, La4.webK hb hw, hW, rw_vnT (La4.tupK hb hp), (va4.rd _ Ks.refl).kv, .non, .inr ⟨tu, rfl, g, .inl ⟨bd3, heH va4 fun p4 E4 z4 hp4 => ?_⟩⟩⟩⟩
    refine ⟨_, rfl, nilP (va4.sh _ _ (fun c o e _ _ => z4 _ _ e) ⟨(by show 3 ≤ sizeLine; decide), fun q4 hq4 => earS st_h va4.ok ((same_new hq4) _ _ hp4) upd_same ⟨_, rfl, iteF (nxP ?_)⟩⟩)⟩
    have Lb4 := (La4.same z4).new (o := HO.tup [.str "house", .str x3, .bl true]) hq4
    have zz4 := z4.trans (same_new (o := HO.tup [.str "house", .str x3, .bl true]) hq4)
    have vb4 := va4.same zz4
    have vq4 := vp4.same zz4
    generalize upd E4 q4 (.tup [.str "house", .str x3, .bl true]) = F4 at Lb4 vb4 vq4 ⊢
    refine ⟨Lb4.tb, fun G5 eN5 tb5 => ?_⟩
    have La5 := Lb4.ext eN5 tb5
    have kx5 : Ks [b] F4 G5 := fun c o e _ n => eN5 _ _ e n
    have va5 := vb4.ks kx5
    have vp5 := vq4.ks kx5
    refine ⟨_, rfl, _, rfl, _, rfl, nilP ⟨w, .ref p, .int ((0 : Nat) : Int), v3, some (vn tu), none, none, n, ts, rfl, La5.webK hb hw, hW, rw_vnT (La5.tupK hb hp), .int _, (va5.rd _ Ks.refl).kv, .inr ⟨tu, rfl, g, .inr ⟨0, rfl, n1, .inl ⟨bd3, heH va5 fun p5 E5 z5 hp5 => ?_⟩⟩⟩⟩⟩
    refine ⟨_, rfl, nilP (va5.sh _ _ (fun c o e _ _ => z5 _ _ e) ⟨(by show 3 ≤ sizeLine; decide), fun q5 hq5 => earS st_h va5.ok ((same_new hq5) _ _ hp5) upd_same ⟨_, rfl, iteF (nxP ?_)⟩⟩)⟩
    have Lb5 := (La5.same z5).new (o := HO.tup [.str "house", .str x3, .bl true]) hq5
    have vq5 := vp5.same (z5.trans (same_new (o := HO.tup [.str "house", .str x3, .bl true]) hq5))
    generalize upd E5 q5 (.tup [.str "house", .str x3, .bl true]) = F5 at Lb5 vq5 ⊢
    -- rest_after
    refine ⟨_, rfl, rg, rfl, ifD (fun e => ?_) fun e => ?_⟩
    · refine ⟨Lb5.tb, fun G6 eN6 tb6 => ⟨_, rfl, fun _ _ e _ => e, ?_⟩⟩
      have La6 := Lb5.ext eN6 tb6
      have kx6 : Ks [b] F5 G6 := fun c o e _ n => eN6 _ _ e n
      have vp6 := vq5.ks kx6
      have hw6 := La6.webK hb hw
      exact ⟨_, rfl, _, rfl, w, v9, o, n, ts, rfl, hw6, hW, vp6.rd _ Ks.refl, .inl ⟨hrg e, fun d H' sm hd hx => ⟨d, rfl, rfl, w, w, n, ts, hx, rfl, hw6.same sm, hw6.same sm, hW, q _ (La6.same sm)⟩⟩⟩
    · obtain ⟨rk, fo⟩ := hfo e
      refine nxP ⟨Lb5.tb, fun G6 eN6 tb6 => ?_⟩
      have La6 := Lb5.ext eN6 tb6
      have kx6 : Ks [b] F5 G6 := fun c o e _ n => eN6 _ _ e n
      have vp6 := vq5.ks kx6
      have hw6 := La6.webK hb hw
      refine ⟨_, rfl, _, rfl, w, v9, o, n, ts, rfl, hw6, hW, vp6.rd _ Ks.refl, .inr ⟨rk, fo, .inl ⟨bad, heR vp6 fun p6 E6 z6 hp6 => ?_⟩⟩⟩
      refine ⟨_, rfl, nilP (vp6.sh _ _ (fun c o e _ _ => z6 _ _ e) ⟨(by show 3 ≤ sizeLine; decide), fun q6 hq6 => earE st_r vp6.ok ((same_new hq6) _ _ hp6) upd_same ?_⟩)⟩
      exact q _ ((La6.same z6).new (o := HO.tup [.str "refused", .str x, .bl true]) hq6)
end
end K1
namespace K1
open PySem PySem.Spec PyProof.Rows L2
structure Dn (P : Program) (w : World) (K : PySem.W.Frag) (mg : Str → Option Value) (base : Heap) (W CH CR : Addr) (T : List (Addr × Str)) : Prop where
  B : Bt mg
  TW : WcT K mg W
  box : ∃ f fd, Df K mg "_law_box" sLBox ["_law_script", "_law_k"] f fd ∧ FnOk P w K mg base CX0 1 f fd ["_law_script", "_law_k"] (spBox K)
  take : ∃ f fd, Df K mg "_law_take" sLTake ["_law_box_here", "_law_many"] f fd ∧ FnOk P w K mg base CX0 1 f fd ["_law_box_here", "_law_many"] spTake
  pick : ∃ f fd, Df K mg "_law_pick" sLPick ["_law_box_here", "_law_some"] f fd ∧ FnOk P w K mg base CX0 2 f fd ["_law_box_here", "_law_some"] spPick
  mixed : ∃ f fd, Df K mg "_law_mixed" sLMixed ["_law_box_here", "_law_some"] f fd ∧ FnOk P w K mg base CX0 2 f fd ["_law_box_here", "_law_some"] (spMixed K)
  forest : ∃ f fd, Df K mg "_law_forest" sLForest ["_law_box_here", "_law_most"] f fd ∧ FnOk P w K mg base CX0 3 f fd ["_law_box_here", "_law_most"] spForest
  part : ∃ f fd, Df K mg "_law_part" sLPart ["_law_ties", "_law_house"] f fd ∧ FnOk P w K mg base CX0 1 f fd ["_law_ties", "_law_house"] spPartL
  winit : ∃ f fd, Mk K W f ∧ Binds K fd ["self", "houses", "ties"] [] ∧ FnOk P w K mg base (L2.CX P w) 6 f fd ["self", "houses", "ties"] (spWInit W)
  chk : ∃ f fd, Df K mg "check_turns" sCheckTurns ["web", "value"] f fd ∧ FnOk P w K mg base (L2.CX P w) 4 f fd ["web", "value"] (spChk K W CR)
  th : ∃ f fd, Df K mg "turns_heard" sTurnsHeard ["web", "turns", "house", "other"] f fd ∧ FnOk P w K mg base (L2.CX P w) 5 f fd ["web", "turns", "house", "other"] (spTH K W CH CR)
  restR : ∃ f fd, Df K mg "_law_rest_right" sLRestRight ["_law_box_here", "_law_many", "_law_ties", "_law_turns"] f fd ∧ FnOk P w K mg base CX0 10 f fd ["_law_box_here", "_law_many", "_law_ties", "_law_turns"] spRestR
  hears : ∃ f fd, Df K mg "_law_hears" sLHears ["_law_ties", "_law_turns", "_law_house", "_law_other"] f fd ∧ FnOk P w K mg base CX0 2 f fd ["_law_ties", "_law_turns", "_law_house", "_law_other"] spHears
  none : ∃ f fd, Df K mg "_law_none_right" sLNoneRight ["_law_box_here", "_law_web", "_law_turns", "_law_ringed"] f fd ∧ FnG P w K mg base 12 f fd ["_law_box_here", "_law_web", "_law_turns", "_law_ringed"] (spNone W T)
abbrev nLa : List Str := ["_law_script", "_law_k", "_law_box_here", "_law_many", "_law_ties", "_law_turns", "_law_ringed", "_law_one", "_law_other", "_law_web", "_law_turn", "_law_house", "_law_due_here"]
theorem scLa : FnScope nLa ["_law_script"] (defScope sLaw) := ⟨rfl, rfl, rfl, by decide +kernel, rfl, by decide +kernel, by decide +kernel⟩
def spLaw (K : PySem.W.Frag) (T : List (Addr × Str)) : Sp := fun vs H Q _ => ∃ (a : Addr) (ns : List Int), vs = [.ref a] ∧ SqL K H a (ns.map V.int) ∧ ns.length ≤ 63 ∧ LamX.Tabs T H ∧ ∀ H', Q (.bl true) H'
theorem Lw.tiesK {b ta : Addr} {T : List (Addr × Str)} {H H' : Hp} {ts : Prs} (hb : BoxO H b) (l : Lw b T [] H H') (h : TiesT H ta ts) : TiesT H' ta ts := h.kp fun a xs e => l.tupK hb e
theorem Lw.ks0 {b : Addr} {T : List (Addr × Str)} {H0 H H' : Hp} (l : Lw b T [] H H') (s : Same H0 H) (h0 : H0 b = none) : Ks [] H0 H' := fun c o e _ n => l.ks c o (s _ _ e) (by rw [List.mem_singleton]; exact ne_of_none e h0) n
theorem good_perm {L : Nat} {hs : List Nat} (pn : hs.Perm (List.range L)) : GoodTu L hs := ⟨pn.nodup_iff.mpr List.nodup_range, by rw [pn.length_eq, List.length_range], fun t ht => List.mem_range.mp (pn.mem_iff.mp ht)⟩
/-- a number of another house -/
theorem other_house {n a y : Nat} (ha : a < n) (hy : y + 1 < n) : (a + 1 + y) % n < n ∧ (a + 1 + y) % n ≠ a := by
  refine ⟨Nat.mod_lt _ (by omega), ?_⟩
  rcases Nat.lt_or_ge (a + 1 + y) n with c | c
  · rw [Nat.mod_eq_of_lt c]; omega
  · rw [Nat.mod_eq_sub_mod c, Nat.mod_eq_of_lt (by omega)]; omega
theorem most_of {v : V} (h : v ∈ [V.int 7, .int 6, .int 7, .int 12]) : ∃ k : Nat, v = .int (k : Int) ∧ 1 ≤ k ∧ k ≤ 12 := by
  simp only [List.mem_cons, List.mem_nil_iff, or_false] at h
  rcases h with rfl | rfl | rfl | rfl
  · exact ⟨7, rfl, by decide, by decide⟩
  · exact ⟨6, rfl, by decide, by decide⟩
  · exact ⟨7, rfl, by decide, by decide⟩
  · exact ⟨12, rfl, by decide, by decide⟩
theorem pl_tu {L : Nat} {tu : List Nat} (g : GoodTu L tu) (hL : L ≤ 20) : Pl (.tuple (dI (tu.map fun (x : Nat) => (x : Int)))) 1 2000 := (Pl.tuple (pla_ints _ fun i hi => by
  obtain ⟨x, hx, rfl⟩ := List.mem_map.mp hi
  have := g.2.2 x hx
  omega)).mono (by decide) (by have := g.2.1; rw [List.length_map]; omega)
section
variable {P : Program} {w : World} {K : PySem.W.Frag} {mg : Str → Option Value} {base : Heap}
theorem ok_law {f W CH CR : Addr} {fd : FuncData} {T : List (Addr × Str)} (F : Fun K "law" "law" sLaw f fd) (dn : Dn P w K mg base W CH CR T) : FnG P w K mg base 13 f fd ["_law_script"] (spLaw K T) := by
  have B := dn.B
  have TW := dn.TW
  obtain ⟨_, _, DB, GB⟩ := dn.box
  obtain ⟨_, _, DT, GT⟩ := dn.take
  obtain ⟨_, _, DK, GK⟩ := dn.pick
  obtain ⟨_, _, DX, GX⟩ := dn.mixed
  obtain ⟨_, _, DF, GF⟩ := dn.forest
  obtain ⟨_, _, DP, GP⟩ := dn.part
  obtain ⟨_, _, MW, BW, GW⟩ := dn.winit
  obtain ⟨_, _, DC, GC⟩ := dn.chk
  obtain ⟨_, _, DH, GH⟩ := dn.th
  obtain ⟨_, _, DR, GR⟩ := dn.restR
  obtain ⟨_, _, DE, GE⟩ := dn.hears
  obtain ⟨_, _, DN, GN⟩ := dn.none
  refine okG F scLa (fun vs H Q E h => ?_) (fun cdv A outer s H vs Q E hr hgd h => ?_)
  · obtain ⟨a, ns, rfl, _⟩ := h
    rfl
  · obtain ⟨a, ns, rfl, hS, hn, hT, q⟩ := h
    have hu : (A.deeper (envOfC "law" (defScope sLaw) s.heap.objs.size f cdv)).units + 64 < cLine := hr.units
    have r1 := hr.mono (show 1 ≤ 12 by decide)
    have r2 := hr.mono (show 2 ≤ 12 by decide)
    have r3 := hr.mono (show 3 ≤ 12 by decide)
    have r4 := hr.mono (show 4 ≤ 12 by decide)
    have r5 := hr.mono (show 5 ≤ 12 by decide)
    have r7 := hr.mono (show 7 ≤ 12 by decide)
    have r10 := hr.mono (show 10 ≤ 12 by decide)
    refine ⟨_, pss_cons (ps_for PassesOwn.never rfl (pi_range1 (by rfl) B.range (pa_cons pe_int pa_nil)) (pg_name (i := 1) scLa.nd rfl (.inl rfl))
        (pss_cons (ps_set (i := 2) scLa.nd rfl (.inl rfl) (pc DB GB r1 pass0 (pa_cons (pv 0) (pa_cons (pv 1) pa_nil))))
        (pss_cons (ps_asg (pc DF GF r3 pass0 (pa_cons (pv 2) (pa_cons (pc DK GK r2 pass0 (pa_cons (pv 2) (pa_cons (pe_lst (pa_cons pe_int (pa_cons pe_int (pa_cons pe_int (pa_cons pe_int pa_nil))))) pa_nil))) pa_nil))) (pg_tup rfl (pgs_cons (pg_name (i := 3) scLa.nd rfl (.inl rfl)) (pgs_cons (pg_name (i := 4) scLa.nd rfl (.inl rfl)) pgs_nil))))
        (pss_cons (ps_set (i := 5) scLa.nd rfl (.inl rfl) (pe_callTy call_tuple_of (by rfl) B.tuple PyProof.Rows.boot_tuple (pa_cons (pc DX GX r2 pass0 (pa_cons (pv 2) (pa_cons (pe_listRg rfl (by rfl) B.list (prg_1 (by rfl) B.range (pe_callB call_len_seq (by rfl) B.len PySem.boot_len (pa_cons (pv 4) pa_nil)))) pa_nil))) pa_nil)))
        (pss_cons (ps_if (pt_cmpR op_ne (pe_callB (call_repr hgd hu) (by rfl) B.repr (by decide +kernel) (pa_cons (pe_callW DC GC r4 (kb_ck DC.F) passF (pk_cons (pe_callTy call_list_of (by rfl) B.list PyProof.Rows.boot_list (pa_cons (pv 5) pa_nil)) (pk_cons (pe_make MW GW r7 rfl TW.g BW .nil passF (pa_cons (pv 3) (pa_cons (pv 4) pa_nil))) pk_nil))) pa_nil)) (pe_callB (call_repr hgd hu) (by rfl) B.repr (by decide +kernel) (pa_cons (pv 5) pa_nil)) (nomark _)) (pss_one (ps_ret pe_bl)) pss_nil)
        (pss_cons (ps_if (pt_not (pt_val (pc DR GR r10 pass0 (pa_cons (pv 2) (pa_cons (pv 3) (pa_cons (pv 4) (pa_cons (pv 5) pa_nil))))))) (pss_one (ps_ret pe_bl)) pss_nil)
        (pss_cons (ps_set (i := 6) scLa.nd rfl (.inl rfl) (pe_and (pe_cmpR op_gt (pv 3) pe_int (nomark _)) (pe_one (pe_cmpR op_eq (pc DT GT r1 pass0 (pa_cons (pv 2) (pa_cons pe_int pa_nil))) pe_int (nomark _)))))
        (pss_cons (ps_if (pt_val (pv 6))
            (pss_cons (ps_set (i := 7) scLa.nd rfl (.inl rfl) (pc DT GT r1 pass0 (pa_cons (pv 2) (pa_cons (pv 3) pa_nil))))
            (pss_cons (ps_set (i := 8) scLa.nd rfl (.inl rfl) (pe_op op_mod (pe_callTy call_int1 (by rfl) B.int PyProof.Rows.boot_int (pa_cons (pe_op op_add (pe_op op_add (pv 7) pe_int) (pc DT GT r1 pass0 (pa_cons (pv 2) (pa_cons (pe_op op_sub (pv 3) pe_int) pa_nil)))) pa_nil)) (pv 3)))
            (pss_cons (ps_set (i := 6) scLa.nd rfl (.inl rfl) (pe_cmpR op_in_seq (pv 8) (pc DP GP r1 pass0 (pa_cons (pv 4) (pa_cons (pv 7) pa_nil))) rfl))
            (pss_cons (ps_set (i := 4) scLa.nd rfl (.inl rfl) (pe_op (opCatA (K := K) rfl) (pv 4) (pe_tup (pa_cons (pe_tup (pa_cons (pv 7) (pa_cons (pv 8) pa_nil))) pa_nil))))
            (pss_one (ps_set (i := 5) scLa.nd rfl (.inl rfl) (pe_callTy call_tuple_of (by rfl) B.tuple PyProof.Rows.boot_tuple (pa_cons (pc DX GX r2 pass0 (pa_cons (pv 2) (pa_cons (pe_listRg rfl (by rfl) B.list (prg_1 (by rfl) B.range (pe_callB call_len_seq (by rfl) B.len PySem.boot_len (pa_cons (pv 4) pa_nil)))) pa_nil))) pa_nil)))))))) pss_nil)
        (pss_cons (ps_set (i := 9) scLa.nd rfl (.inl rfl) (pe_make MW GW r7 rfl TW.g BW .nil passF (pa_cons (pv 3) (pa_cons (pv 4) pa_nil))))
        (pss_cons (ps_for PassesOwn.never rfl (pi_range1 (by rfl) B.range (pa_cons pe_int pa_nil)) (pg_name (i := 10) scLa.nd rfl (.inl rfl))
          (pss_cons (ps_par (i := 11) (j := 8) rfl scLa.nd rfl rfl (by decide) rfl rfl (pa_cons (pc DT GT r1 pass0 (pa_cons (pv 2) (pa_cons (pv 3) pa_nil))) (pa_cons (pc DT GT r1 pass0 (pa_cons (pv 2) (pa_cons (pv 3) pa_nil))) pa_nil)) rfl)
          (pss_cons (ps_set (i := 12) scLa.nd rfl (.inl rfl) (pc DE GE r2 pass0 (pa_cons (pv 4) (pa_cons (pv 5) (pa_cons (pv 11) (pa_cons (pv 8) pa_nil))))))
          (pss_cons (ps_if (pt_cmpR op_ne (pe_callB call_reprS (by rfl) B.repr (by decide +kernel) (pa_cons (pc DH GH r5 passF (pa_cons (pv 9) (pa_cons (pv 5) (pa_cons (pv 11) (pa_cons (pv 8) pa_nil))))) pa_nil)) (pe_callB call_reprS (by rfl) B.repr (by decide +kernel) (pa_cons (pv 12) pa_nil)) (nomark _)) (pss_one (ps_ret pe_bl)) pss_nil)
          (pss_one (ps_if (pt_cmpR op_ne (pe_callW DH GH r5 (kb_th DH.F) passF (pk_cons (pv 8) (pk_cons (pv 11) (pk_cons (pe_callTy call_list_of (by rfl) B.list PyProof.Rows.boot_list (pa_cons (pv 5) pa_nil)) (pk_cons (pv 9) pk_nil))))) (pv 12) (nomark _)) (pss_one (ps_ret pe_bl)) pss_nil))))))
        (pss_one (ps_if (pt_not (pt_val (pe_callG DN GN hr hgd (pa_cons (pv 2) (pa_cons (pv 9) (pa_cons (pv 5) (pa_cons (pv 6) pa_nil))))))) (pss_one (ps_ret pe_bl)) pss_nil))))))))))))
      (pss_one (ps_ret pe_bl)), ?_⟩
    refine ⟨3, rfl, by decide, by decide, for_range (fun i σ H' => ∃ (v1 v2 v3 v4 v5 v6 v7 v8 v9 v10 v11 v12 : Option V), σ = [some (.ref a), v1, v2, v3, v4, v5, v6, v7, v8, v9, v10, v11, v12] ∧ SqL K H' a (ns.map V.int) ∧ LamX.Tabs T H')
      ⟨none, none, none, none, none, none, none, none, none, none, none, none, rfl, hS, hT⟩ ?_ ?_⟩
    rotate_left
    · rintro σ H1 ⟨v1, v2, v3, v4, v5, v6, v7, v8, v9, v10, v11, v12, rfl, _⟩
      exact q _
    rintro i σ Ha hi ⟨v1, v2, v3, v4, v5, v6, v7, v8, v9, v10, v11, v12, rfl, hSa, hTa⟩
    refine ⟨_, rfl, _, rfl, a, ns, 0 + (i : Int), rfl, hSa, hn, by omega, by omega, fun b H1 s1 hb0 hb1 => ?_⟩
    refine gn ?_
    dsimp only [List.set]
    have L1 : Lw b T [] H1 H1 := Lw.refl hb1 (hTa.ext s1)
    -- the forest
    refine ⟨_, rfl, _, rfl, (by show 4 ≤ sizeLine; decide), fun l8 hl8 => ?_⟩
    have L2 := L1.new (o := HO.lst [V.int 7, .int 6, .int 7, .int 12]) hl8
    refine nilP ⟨b, l8, [V.int 7, .int 6, .int 7, .int 12], rfl, L2.bx, upd_same, L1.nn hl8, by show 1 ≤ 4; decide, by show 4 ≤ 1000; decide, fun i8 v8' H2 hv8 bx3 => ?_⟩
    obtain ⟨most, rfl, ms1, ms12⟩ := most_of (List.mem_of_getElem? hv8)
    have L3 := L2.box bx3
    refine nilP ⟨b, most, rfl, L3.bx, ms1, ms12, fun pf ta n ts rk H3 bx5 hpf htt hW fo lts => ?_⟩
    have L4 := L3.box bx5
    refine ⟨pf, _, rfl, SqT.of hpf, rfl, _, _, rfl, _, _, rfl, rfl, ?_⟩
    dsimp only [List.set]
    have n12 := hW.n12
    have n1 := hW.n1
    -- the turns
    obtain ⟨tas, ht3, hA3⟩ := id htt
    have el : ((tas.map V.ref).length : Int) = (ts.length : Int) := by rw [List.length_map, hA3.1]
    refine ⟨_, rfl, _, rfl, ta, _, rfl, .inr (SqT.of ht3), ?_⟩
    rw [el]
    refine ⟨_, rfl, RgOk.of_le (by omega) (by omega) (by omega) (by omega), fun rl hrl => ?_⟩
    have L5 := L4.new (o := HO.lst (rgV 0 (ts.length : Int))) hrl
    refine ⟨b, rl, rgV 0 (ts.length : Int), rfl, L5.bx, SqL.of upd_same, L4.nn hrl, by rw [rgV_vn, vn_len, List.length_range]; omega, fun xl ys H4 bx6 hxl0 hxl pm => ?_⟩
    rw [rgV_vn] at pm
    obtain ⟨tu, rfl, pn⟩ := perm_map_inv (f := fun (x : Nat) => V.int (x : Int)) pm
    have g := good_perm pn
    have L6 := L5.box bx6
    refine ⟨xl, _, rfl, .inl ⟨SqL.of hxl, fun p hp0 => ?_⟩⟩
    have L7 := L6.new (o := HO.tup (vn tu)) hp0
    have hp : (upd H4 p (.tup (vn tu))) p = some (.tup (vn tu)) := upd_same
    have tt : TiesT (upd H4 p (.tup (vn tu))) ta ts := ((htt.same (same_new hrl)).kp fun a xs e => bx6.tup L5.bx e).same (same_new hp0)
    have hbx := L7.bx
    have htb := L7.tb
    generalize hH5 : (upd H4 p (.tup (vn tu))) = H5 at hp tt hbx htb
    replace L7 : Lw b T [] H1 H5 := by rw [← hH5]; exact L7
    refine gn ?_
    dsimp only [List.set]
    show tSeq _ _ _ _ (upd H4 p (.tup (vn tu)))
    rw [hH5]
    clear hH5 hp0 hxl pm hxl0 hrl L6 L5 bx6 hpf bx5 L4 L3 L2 hv8 bx3 hl8
    -- check_turns
    have plt := pl_tu g (by omega)
    refine ⟨_, rfl, p, _, rfl, .inr (SqT.of hp), fun l hl => ?_⟩
    have sl := same_new (o := HO.lst (vn tu)) hl
    have hl6 : (upd H5 l (.lst (vn tu))) l = some (.lst (vn tu)) := upd_same
    obtain ⟨tas5, ht5, hA5⟩ := tt.same sl
    refine ⟨_, rfl, _, rfl, fun w0 dxw0 hw00 hdx00 new0 => ?_⟩
    have smw0 := mkSame (o1 := HO.own w0) (o2 := HO.ins W dxw0 []) hw00 hdx00 new0
    refine ⟨w0, dxw0, n, ta, tas5, ts, rfl, upd_same, .inr (smw0 _ _ ht5), hA5.same smw0, hW, fun H6 k6 hWeb6 => ⟨rfl, ?_⟩⟩
    have s6 : Same (upd H5 l (.lst (vn tu))) H6 := fun c o e => k6 c o (smw0 c o e) (ne_of_none e hw00)
    refine nilP ⟨rfl, w0, .ref l, _, n, ts, rfl, hWeb6, hW, rw_vnL (s6 _ _ hl6), .inl ⟨tu, rfl, g, fun p2 H7 s7 hp2 => ?_⟩⟩
    have s57 := (sl.trans s6).trans s7
    refine nilP (reprP (dp_vn hp2) plt (by decide) (by decide) ?_)
    refine ⟨_, rfl, nilP (reprP (dp_vn (s57 _ _ hp)) plt (by decide) (by decide) (neV rfl ⟨_, rfl, iteF (nxP ?_)⟩))⟩
    have L8 := L7.same s57
    -- rest_after
    refine ⟨_, rfl, _, rfl, _, rfl, _, rfl, b, ta, p, n, ts, tu, rk, rfl, L8.bx, tt.same s57, s57 _ _ hp, hW, fo, g, fun H8 bx8 => ⟨true, rfl, iteF (nxP ?_)⟩⟩
    have L9 := L8.box bx8
    have K9 : Lw b T [] H5 H8 := ((Lw.refl hbx htb).same s57).box bx8
    -- whether a ring is asked for
    dsimp only
    refine seqG (fun σ H' => ∃ (rg : Bool), σ = [some (.ref a), some (.int (0 + (i : Int))), some (.ref b), some (.int (n : Int)), some (.ref ta), some (.ref p), some (.bl rg), v7, v8, v9, v10, v11, v12] ∧ Lw b T [] H1 H' ∧ Lw b T [] H5 H' ∧ (rg = true → 2 ≤ n)) ?_ (fun go => ?_)
    rotate_left
    · refine ⟨_, rfl, _, _, rfl, rfl, _, rfl, ifD (fun e => ?_) fun e => ?_⟩
      · have n2 : (n : Int) > 1 := of_decide_eq_true e
        refine ⟨_, rfl, b, 2, rfl, L9.bx, by decide, by decide, fun x H9 x0 x1 bx9 => ?_⟩
        refine ⟨rfl, gn (go _ _ ⟨_, rfl, L9.box bx9, K9.box bx9, fun _ => by omega⟩)⟩
      · refine gn (go _ _ ⟨_, rfl, L9, K9, fun z => by cases z⟩)
    rintro σ H9 ⟨rg0, rfl, L10, K10, hrg0⟩
    have tt10 := K10.tiesK hbx tt
    have hp10 := K10.tupK hbx hp
    clear K9 K10 L9 bx8 L8 s57 hp2 s7 s6 hWeb6 k6 smw0 hw00 hdx00 ht5 hA5 hl6 sl hl
    -- the web
    refine seqG (fun σ H' => ∃ (ta' p' : Addr) (ts' : Prs) (tu' : List Nat) (rg : Bool) (v7 v8 : Option V), σ = [some (.ref a), some (.int (0 + (i : Int))), some (.ref b), some (.int (n : Int)), some (.ref ta'), some (.ref p'), some (.bl rg), v7, v8, v9, v10, v11, v12] ∧ Lw b T [] H1 H' ∧ TiesT H' ta' ts' ∧ H' p' = some (.tup (vn tu')) ∧ Wv n ts' ∧ ts'.length ≤ 13 ∧ GoodTu ts'.length tu' ∧ (rg = true → Ringed n ts') ∧ (rg = false → ∃ rk, Fo rk ts')) ?_ (fun go => ?_)
    rotate_left
    · refine ⟨_, rfl, rg0, rfl, ifD (fun e => ?_) fun e => ?_⟩
      rotate_left
      · subst e
        exact nxP (go _ _ ⟨ta, p, ts, tu, false, _, _, rfl, L10, tt10, hp10, hW, by omega, g, fun z => (by cases z), fun _ => ⟨rk, fo⟩⟩)
      have n2 := hrg0 e
      refine ⟨_, rfl, _, rfl, b, n, rfl, L10.bx, by omega, by omega, fun x H10 x0 x1 bx11 => ?_⟩
      obtain ⟨c, rfl⟩ : ∃ c : Nat, x = (c : Int) := ⟨x.toNat, by omega⟩
      have L11 := L10.box bx11
      have tt11 := tt10.kp fun a xs e => bx11.tup L10.bx e
      refine gn ?_
      dsimp only [List.set]
      refine ⟨_, rfl, _, _, rfl, rfl, _, rfl, _, rfl, _, _, rfl, rfl, b, _, rfl, L11.bx, by omega, by omega, fun y H11 y0 y1 bx12 => ⟨_, _, rfl, rfl, .inl ⟨_, rfl, _, rfl, _, _, rfl, rfl, by omega, ?_⟩⟩⟩
      obtain ⟨d, rfl⟩ : ∃ d : Nat, y = (d : Int) := ⟨y.toNat, by omega⟩
      have L12 := L11.box bx12
      have tt12 := tt11.kp fun a xs e => bx12.tup L11.bx e
      have cn : c < n := by omega
      obtain ⟨on, one⟩ := other_house (n := n) (a := c) (y := d) cn (by omega)
      have eo : ((c : Int) + 1 + (d : Int)) % (n : Int) = (((c + 1 + d) % n : Nat) : Int) := by rw [Int.natCast_emod]; rfl
      refine gn ?_
      dsimp only [List.set]
      rw [eo]
      generalize (c + 1 + d) % n = o at on one ⊢
      clear eo
      refine ⟨_, rfl, _, rfl, _, rfl, ta, n, ts, c, rfl, tt12, hW, cn, fun l ns' H12 s12 hl0 hl PL => ?_⟩
      refine ⟨l, vn ns', rfl, .inl (SqL.of hl), rfl, flat_vn ns', ?_⟩
      simp only [Bool.false_eq_true, if_false]
      rw [inV_vn]
      refine gn ?_
      dsimp only [List.set]
      have L13 := L12.same s12
      have tt13 := tt12.same s12
      obtain ⟨tas13, ht13, hA13⟩ := id tt13
      refine ⟨_, rfl, _, rfl, _, rfl, (by show 2 ≤ sizeLine; decide), fun y1 hy1 => ⟨(by show 1 ≤ sizeLine; decide), fun y2 hy2 => ?_⟩⟩
      have sy := (same_new (o := HO.tup [V.int (c : Int), .int (o : Int)]) hy1).trans (same_new (o := HO.tup [V.ref y1]) hy2)
      have hy1' := same_new (o := HO.tup [V.ref y1]) hy2 _ _ (upd_same : (upd H12 y1 (.tup [V.int (c : Int), .int (o : Int)])) y1 = _)
      refine catA_by (sy _ _ ht13) upd_same (sz (by rw [List.length_map, hA13.1]; simp only [List.length_cons, List.length_nil]; omega)) fun ta2 H13 s13 hta2 => gn ?_
      dsimp only [List.set]
      have s14 := sy.trans s13
      have L14 := L13.same s14
      have tt14 : TiesT H13 ta2 (ts ++ [(c, o)]) := ⟨tas13 ++ [y1], by rw [List.map_append]; exact hta2, (hA13.same s14).snoc (s13 _ _ hy1')⟩
      have hWj := wv_join hW cn on one.symm lts
      have lj : (ts ++ [(c, o)]).length = ts.length + 1 := by rw [List.length_append]; rfl
      have hrg : decide (o ∈ ns') = true → Ringed n (ts ++ [(c, o)]) := fun e => ring_join hW cn ((PL.mem o).mp (of_decide_eq_true e))
      have hfo : decide (o ∈ ns') = false → ∃ rk, Fo rk (ts ++ [(c, o)]) := fun e => fo_join hW fo on fun z => of_decide_eq_false e ((PL.mem o).mpr z)
      generalize decide (o ∈ ns') = rg at hrg hfo
      generalize ts ++ [(c, o)] = ts' at tt14 hWj lj hrg hfo
      -- the turns
      obtain ⟨tas, ht3, hA3⟩ := id tt14
      have el : ((tas.map V.ref).length : Int) = (ts'.length : Int) := by rw [List.length_map, hA3.1]
      refine ⟨_, rfl, _, rfl, ta2, _, rfl, .inr (SqT.of ht3), ?_⟩
      rw [el]
      refine ⟨_, rfl, RgOk.of_le (by omega) (by omega) (by omega) (by omega), fun rl hrl => ?_⟩
      have L15 := L14.new (o := HO.lst (rgV 0 (ts'.length : Int))) hrl
      refine ⟨b, rl, rgV 0 (ts'.length : Int), rfl, L15.bx, SqL.of upd_same, L14.nn hrl, by rw [rgV_vn, vn_len, List.length_range]; omega, fun xl ys H14 bx15 hxl0 hxl pm => ?_⟩
      rw [rgV_vn] at pm
      obtain ⟨tu', rfl, pn'⟩ := perm_map_inv (f := fun (x : Nat) => V.int (x : Int)) pm
      have L16 := L15.box bx15
      refine ⟨xl, _, rfl, .inl ⟨SqL.of hxl, fun p' hp0 => gn (go _ _ ?_)⟩⟩
      exact ⟨ta2, p', ts', tu', rg, _, _, rfl, L16.new (o := HO.tup (vn tu')) hp0, ((tt14.same (same_new hrl)).kp fun a xs e => bx15.tup L15.bx e).same (same_new hp0), upd_same, hWj, by omega, good_perm pn', hrg, hfo⟩
    rintro σ H10 ⟨ta', p', ts', tu', rg, v7', v8', rfl, L11, tt11, hp11, hW', t13, g', hrg, hfo⟩
    clear hrg0 tt10 hp10 L10 plt L7 hbx htb hp tt el hA3 ht3
    obtain ⟨tas, ht, hA⟩ := id tt11
    refine ⟨_, rfl, _, rfl, fun w dxw hw0 hdx0 new => ?_⟩
    have smw := mkSame (o1 := HO.own w) (o2 := HO.ins W dxw []) hw0 hdx0 new
    refine ⟨w, dxw, n, ta', tas, ts', rfl, upd_same, .inr (smw _ _ ht), hA.same smw, hW', fun H11 k11 hWeb => ⟨rfl, ?_⟩⟩
    have s11 : Same H10 H11 := fun c o e => k11 c o (smw c o e) (ne_of_none e hw0)
    have L12 := L11.same s11
    have hb12 := L12.bx
    have tt12 := tt11.same s11
    have hp12 := s11 _ _ hp11
    clear k11 smw hw0 hdx0
    refine gn ?_
    dsimp only [List.set]
    -- what is heard
    refine ⟨4, rfl, by decide, by decide, for_range (fun j σ H' => ∃ (v8 v10 v11 v12 : Option V), σ = [some (.ref a), some (.int (0 + (i : Int))), some (.ref b), some (.int (n : Int)), some (.ref ta'), some (.ref p'), some (.bl rg), v7', v8, some (.ref w), v10, v11, v12] ∧ Lw b T [] H11 H') ⟨_, _, _, _, rfl, Lw.refl hb12 L12.tb⟩ ?_ ?_⟩
    · rintro j σ H' hj ⟨v8, v10, v11, v12, rfl, M1⟩
      refine ⟨_, rfl, _, rfl, b, n, rfl, M1.bx, by omega, by omega, fun x H12 x0 x1 bx13 => ⟨_, rfl, _, rfl, b, n, rfl, (M1.box bx13).bx, by omega, by omega, fun y H13 y0 y1 bx14 => ⟨_, _, rfl, ?_⟩⟩⟩
      obtain ⟨h, rfl⟩ : ∃ c : Nat, x = (c : Int) := ⟨x.toNat, by omega⟩
      obtain ⟨e, rfl⟩ : ∃ c : Nat, y = (c : Int) := ⟨y.toNat, by omega⟩
      have hn' : h < n := by omega
      have en' : e < n := by omega
      have M2 := (M1.box bx13).box bx14
      dsimp only [List.set]
      refine seqG (fun σ H' => ∃ (due : V), σ = [some (.ref a), some (.int (0 + (i : Int))), some (.ref b), some (.int (n : Int)), some (.ref ta'), some (.ref p'), some (.bl rg), v7', some (.int (e : Int)), some (.ref w), some (.int (0 + (j : Int))), some (.int (h : Int)), some due] ∧ Lw b T [] H11 H' ∧ ((due = .non ∧ ¬ Cn ts' h e) ∨ ∃ k : Nat, due = .int (k : Int) ∧ Cn ts' h e ∧ FirstAt (fun k => hear ts' h (cyc tu' k) e = true) k ∧ k ≤ (n - 1) * ts'.length)) ?_ (fun go => ?_)
      rotate_left
      · refine ⟨_, rfl, _, rfl, _, rfl, _, rfl, ta', p', n, ts', tu', h, e, rfl, M2.tiesK hb12 tt12, M2.tupK hb12 hp12, hW', t13, g', hn', en', fun H14 s14 nc => gn (go _ _ ⟨_, rfl, M2.same s14, .inl ⟨rfl, nc⟩⟩), fun k H14 s14 cn fk kle => gn (go _ _ ⟨_, rfl, M2.same s14, .inr ⟨k, rfl, cn, fk, kle⟩⟩)⟩
      rintro σ H14 ⟨due, rfl, M3, hdue⟩
      have web3 := M3.webK hb12 hWeb
      have hp3 := M3.tupK hb12 hp12
      rcases hdue with ⟨rfl, nc⟩ | ⟨k, rfl, cn, fk, kle⟩
      · refine ⟨_, rfl, _, rfl, _, rfl, _, rfl, w, .ref p', .int (h : Int), .int (e : Int), some (vn tu'), none, none, n, ts', rfl, web3, hW', rw_vnT hp3, .int _, .int _, .inr ⟨tu', rfl, g', .inr ⟨h, rfl, hn', .inr ⟨e, rfl, en', fun H15 s15 _ => ?_, fun k H15 s15 cn _ _ => absurd cn nc⟩⟩⟩⟩
        refine nilP ⟨_, rfl, .inl ⟨rfl, ?_⟩⟩
        refine ⟨_, rfl, nilP ⟨_, rfl, .inl ⟨rfl, neV rfl ⟨_, rfl, iteF (nxP ?_)⟩⟩⟩⟩
        have M4 := M3.same s15
        refine ⟨_, rfl, _, rfl, _, rfl, p', _, rfl, .inr (SqT.of (M4.tupK hb12 hp12)), fun l hl => ?_⟩
        have M5 := M4.new (o := HO.lst (vn tu')) hl
        refine ⟨_, rfl, nilP ⟨rfl, w, .ref l, .int (h : Int), .int (e : Int), some (vn tu'), none, none, n, ts', rfl, M5.webK hb12 hWeb, hW', rw_vnL upd_same, .int _, .int _, .inr ⟨tu', rfl, g', .inr ⟨h, rfl, hn', .inr ⟨e, rfl, en', fun H16 s16 _ => ?_, fun k H16 s16 cn _ _ => absurd cn nc⟩⟩⟩⟩⟩
        exact ⟨_, rfl, neV rfl ⟨_, rfl, iteF ⟨_, _, _, _, rfl, M5.same s16⟩⟩⟩
      · have hb40 : (n - 1) * ts'.length ≤ 11 * 13 := Nat.mul_le_mul (by omega) t13
        refine ⟨_, rfl, _, rfl, _, rfl, _, rfl, w, .ref p', .int (h : Int), .int (e : Int), some (vn tu'), none, none, n, ts', rfl, web3, hW', rw_vnT hp3, .int _, .int _, .inr ⟨tu', rfl, g', .inr ⟨h, rfl, hn', .inr ⟨e, rfl, en', fun H15 s15 nc => absurd cn nc, fun k2 H15 s15 _ fk2 _ => ?_⟩⟩⟩⟩
        obtain rfl := fk.uniq fk2
        refine nilP ⟨_, rfl, .inr (.inr (.inl ⟨_, rfl, log64 (by omega), ?_⟩))⟩
        refine ⟨_, rfl, nilP ⟨_, rfl, .inr (.inr (.inl ⟨_, rfl, log64 (by omega), neV rfl ⟨_, rfl, iteF (nxP ?_)⟩⟩))⟩⟩
        have M4 := M3.same s15
        refine ⟨_, rfl, _, rfl, _, rfl, p', _, rfl, .inr (SqT.of (M4.tupK hb12 hp12)), fun l hl => ?_⟩
        have M5 := M4.new (o := HO.lst (vn tu')) hl
        refine ⟨_, rfl, nilP ⟨rfl, w, .ref l, .int (h : Int), .int (e : Int), some (vn tu'), none, none, n, ts', rfl, M5.webK hb12 hWeb, hW', rw_vnL upd_same, .int _, .int _, .inr ⟨tu', rfl, g', .inr ⟨h, rfl, hn', .inr ⟨e, rfl, en', fun H16 s16 nc => absurd cn nc, fun k2 H16 s16 _ fk2 _ => ?_⟩⟩⟩⟩⟩
        obtain rfl := fk.uniq fk2
        exact ⟨_, rfl, neV rfl ⟨_, rfl, iteF ⟨_, _, _, _, rfl, M5.same s16⟩⟩⟩
    rintro σ H15 ⟨v8, v10, v11, v12, rfl, M⟩
    -- what is none
    have L13 := L12.trans M
    refine ⟨_, rfl, _, rfl, _, rfl, _, rfl, b, w, p', n, ts', tu', rg, rfl, L13.bx, L13.tb, M.webK hb12 hWeb, hW', t13, M.tupK hb12 hp12, g', hrg, hfo, fun H16 M2 => ⟨true, rfl, iteF ?_⟩⟩
    have L14 := L13.trans M2
    exact ⟨_, _, _, _, _, _, _, _, _, _, _, _, rfl, sqL_ks hSa (L14.ks0 s1 hb0), L14.tb⟩
end
end K1
namespace K1
open PySem PySem.Spec PyProof.Rows L2
/-- the caller's call of a law that is told where nothing is being shown; some tables of code objects stand by -/
theorem call_laws {P : Program} {w : World} {K : PySem.W.Frag} {mg mb : Str → Option Value} {k : Nat} {fa a : Addr} (Ps : List (Addr × Addr)) {fd : FuncData} {x : Str} {sp : Sp} {s : Shared} {vs : List Value} {ns : List Int}
    (KX : K.In s.heap) (hmg : s.heap.Ns mainGlobals mg) (hmb : s.heap.Ns builtinsNs mb) (hbb : ∀ x : Str, x ≠ "__name__" → mb x = bootBuiltins x) (hlim : s.heap.NoLimit) (hg : s.gens = #[])
    (hPs : ∀ p ∈ Ps, s.heap.get? p.2 = some { cls := .none, data := .fields #[] } ∧ K.lookup p.2 = none ∧ PySem.W.CodeHd s.heap p.1 p.2)
    (hbm : ∃ (bm : Addr) (ob : Obj), mg "__builtins__" = some (.ref bm) ∧ bm ≠ builtinsNs ∧ s.heap.get? bm = some ob ∧ ob.cls = .type "module" ∧ ob.dict = some builtinsNs ∧ ob.data = .plain)
    (ha : s.heap.get? a = some { cls := .type "list", data := .seq vs.toArray }) (hi : IntsAre vs ns) (hl : ns.length ≤ sizeLine) (hr : Room k callerA)
    (F : ∀ base : Heap, K.In base → base.Ns mainGlobals mg → (∀ p ∈ Ps, LamX.TabB base mg p.1 p.2) → FnG P w K mg base k fa fd [x] sp) (hbind : ∀ (s : Shared) (u : Value), BindsTo s fd ⟨[u], []⟩ [(x, u)])
    (hsp : ∀ H : Hp, (∀ p ∈ Ps, H p.2 = some (.tbl #[])) → SqL K H a (ns.map V.int) → sp [.ref a] H (fun v _ => v = .bl true) fun _ _ _ => False) :
    codeAny (model P w) callerA (.call (.ref fa) ⟨[.ref a], []⟩) (fun r s' => r = .ok (.ret (.bool true)) ∧ OldK s.heap s'.heap ∧ s'.os = s.os ∧ AllBare s'.gens) s := by
  have hTS : ∀ b, b ∈ Ps.map (·.2) → s.heap.get? b = some { cls := .none, data := .fields #[] } ∧ K.lookup b = none ∧ ∃ c, PySem.W.CodeHd s.heap c b := fun b hb => by
    obtain ⟨p, hp, rfl⟩ := List.mem_map.mp hb
    obtain ⟨h1, h2, h3⟩ := hPs p hp
    exact ⟨h1, h2, _, h3⟩
  generalize hTSd : Ps.map (·.2) = TS at hTS
  have inTS : ∀ p ∈ Ps, p.2 ∈ TS := fun p hp => by rw [← hTSd]; exact List.mem_map.mpr ⟨p, hp, rfl⟩
  have nPa : ∀ b ∈ TS, b ≠ a := fun b hb z => by
    have hT := (hTS b hb).1
    rw [z, ha] at hT
    cases Option.some.inj hT
  -- told of any way to follow the script
  have told : ∀ H : Hp, (∀ b ∈ TS, H b = some (.tbl #[])) → (∀ b, b ∉ TS → H b = none ∨ (b = a ∧ K.lookup a = none ∧ ∃ o xs, H a = some (.frz o (.lst xs)))) → SqL K H a (ns.map V.int) → HOk P w H s.heap →
      codeAny (model P w) callerA (.call (.ref fa) ⟨[.ref a], []⟩) (fun r s' => r = .ok (.ret (.bool true)) ∧ OldK s.heap s'.heap ∧ s'.os = s.os ∧ AllBare s'.gens) s := by
    intro H hP hO hS hok
    have out : ∀ {b : Addr} {o : Obj}, s.heap.get? b = some o → b ∉ TS → b ≠ a → (hidT s.heap H).get? b = some o := fun {b o} e n1 n2 => hidT_get e ((hO b n1).resolve_right fun z => n2 z.1)
    have neD : ∀ {b : Addr} {o : Obj}, s.heap.get? b = some o → (∀ v n, o.data ≠ .seq v n) → (o.data ≠ .fields #[]) → b ∉ TS ∧ b ≠ a := fun {b o} e h1 h2 => ⟨fun z => by
      have hT := (hTS b z).1
      rw [hT] at e
      cases Option.some.inj e
      exact h2 rfl, fun z => by
      rw [z, ha] at e
      cases Option.some.inj e
      exact h1 _ _ rfl⟩
    have ns_ : ∀ {b : Addr} {m : Str → Option Value}, s.heap.Ns b m → (hidT s.heap H).Ns b m := fun {b m} ⟨o, es, ep, e, d, r⟩ => by
      have n := neD e (fun v n z => by rw [d] at z; cases z) (fun z => by rw [d] at z; cases z)
      exact ⟨o, es, ep, out e n.1 n.2, d, r⟩
    have kin : K.In (hidT s.heap H) := fun b o e => by
      refine hidT_get (KX b o e) ?_
      by_cases z : b ∈ TS
      · rw [(hTS b z).2.1] at e; cases e
      · refine (hO b z).resolve_right fun ⟨z1, z2, _⟩ => ?_
        rw [z1, z2] at e
        cases e
    have hM : L2.Mod K mg (hidT s.heap H) := ⟨kin, ns_ hmg, ⟨mb, ns_ hmb, hbb⟩, let ⟨mc, h1, h2⟩ := hlim; ⟨mc, ns_ h1, h2⟩⟩
    have TB : ∀ p ∈ Ps, LamX.TabB (hidT s.heap H) mg p.1 p.2 := fun p hp => by
      obtain ⟨hT, nT, hC⟩ := hPs p hp
      refine ⟨?_, ?_, fun z => ?_⟩
      · obtain ⟨o, us, file, tf, flags, tg, inF, text, tt, e, e2, e3, r⟩ := hC
        have n := neD e (fun v n z => by rw [e3] at z; cases z) (fun z => by
          rw [e3] at z
          cases z
          have := r.1
          simp at this)
        exact ⟨o, us, file, tf, flags, tg, inF, text, tt, out e n.1 n.2, e2, e3, r⟩
      · obtain ⟨bm, ob, b1, b2, b3, b4, b5, b6⟩ := hbm
        have n := neD b3 (fun v n z => by rw [b6] at z; cases z) (fun z => by rw [b6] at z; cases z)
        refine ⟨bm, ob, b1, b2, fun z => ?_, fun z => n.1 (by rw [z]; exact inTS p hp), out b3 n.1 n.2, b4, b5, b6⟩
        obtain ⟨o, es, ep, e, d, _⟩ := hmg
        rw [z, e] at b3
        cases Option.some.inj b3
        rw [d] at b6
        cases b6
      · obtain ⟨o, es, ep, e, d, _⟩ := hmg
        rw [z, hT] at e
        cases Option.some.inj e
        cases d
    have e0 : Env0 P w K mg (hidT s.heap H) callerA [] s H := ⟨rfl, hM, fun b o e => of_hidT e, Nat.le_of_eq (hidT_size _ _), trivial, fun b hb => absurd (show b ∈ ([] : List Addr) from hb) (by simp), hok, .of_eq hg⟩
    refine codeAny_mono ((F _ kin (ns_ hmg) TB).run callerA [] s H ⟨[.ref a], []⟩ [.ref a] [.ref a] _ _ hr rfl e0 (hbind s (.ref a)) (.cons rfl .nil) (hsp H (fun p hp => hP _ (inTS p hp)) hS)) fun r s' h => ?_
    cases r with
    | error e => exact (show False from h).elim
    | ok fl =>
      cases fl with
      | next => exact False.elim h
      | brk => exact False.elim h
      | cont => exact False.elim h
      | ret u =>
        obtain ⟨v, H', os, bare, un, hok', r', q⟩ := h
        obtain rfl : v = V.bl true := q
        obtain rfl : u = Value.bool true := r'
        have hm' : ∀ b ∈ TS, ∃ more, s'.heap.get? b = some { cls := .none, data := .fields more } := fun b hb => by
          obtain ⟨more, hm⟩ := un.tbls b #[] (hP b hb)
          have z := hok' b _ hm
          rw [Array.empty_append] at z
          exact ⟨more, z⟩
        have rest : ∀ b o, b ∉ TS → s.heap.get? b = some o → s'.heap.get? b = some o := fun b o n e => by
          rcases hO b n with z | ⟨z, _, ob, xs, hf⟩
          · exact un.keep b o e z (fun w => absurd (show b ∈ ([] : List Addr) from w) (by simp)) (by simp)
          · rw [z] at e ⊢
            have e1 := (hok a _ hf).1
            rw [e] at e1
            rw [Option.some.inj e1]
            exact (hok' a _ (un.frzs a ob _ hf)).1
        refine ⟨rfl, ⟨fun b o e => ?_, fun b o e => ?_⟩, os, bare⟩
        · by_cases z : b ∈ TS
          · obtain ⟨hT, _, c, hC⟩ := hTS b z
            obtain ⟨more, hm⟩ := hm' b z
            rw [hT] at e
            cases Option.some.inj e
            exact .inr (.inl ⟨(hC.tab hT).isCodeTable, rfl, #[], more, rfl, by rw [Array.empty_append]; exact hm⟩)
          · exact .inl (rest b o z e)
        · by_cases z : b ∈ TS
          · obtain ⟨more, hm⟩ := hm' b z
            exact ⟨_, hm⟩
          · exact ⟨o, rest b o z e⟩
  have rv := vals_ints hi
  have naTS : a ∉ TS := fun z => nPa a z rfl
  cases hk : K.lookup a with
  | some o =>
    have e := KX a o hk
    rw [ha] at e
    cases Option.some.inj e
    refine told (fun b => if b ∈ TS then some (.tbl #[]) else none) (fun b hb => if_pos hb) (fun b n => .inl (if_neg n)) (.inr ⟨_, vs.toArray, _, hk, rfl, rfl, rfl, by rw [List.size_toArray, hi.length]; exact hl, by simpa using rv⟩) fun b u z => ?_
    by_cases n : b ∈ TS
    · have z' : some (HO.tbl #[]) = some u := (if_pos n).symm.trans z
      cases z'
      exact (hTS b n).1
    · have z' : (none : Option HO) = some u := (if_neg n).symm.trans z
      cases z'
  | none =>
    refine told (fun b => if b ∈ TS then some (.tbl #[]) else if b = a then some (.frz { cls := .type "list", data := .seq vs.toArray } (.lst (ns.map V.int))) else none) (fun b hb => if_pos hb) (fun b n => ?_) (.inl (.inr ⟨_, (if_neg naTS).trans (if_pos rfl)⟩)) fun b u z => ?_
    · by_cases n2 : b = a
      · exact .inr ⟨n2, hk, _, _, (if_neg naTS).trans (if_pos rfl)⟩
      · exact .inl ((if_neg n).trans (if_neg n2))
    · by_cases n : b ∈ TS
      · have z' : some (HO.tbl #[]) = some u := (if_pos n).symm.trans z
        cases z'
        exact (hTS b n).1
      · by_cases n2 : b = a
        · have z' := ((if_neg n).trans (if_pos n2)).symm.trans z
          cases z'
          rw [n2]
          exact ⟨ha, by rw [List.length_map]; exact hl, vs, _, rv, ha⟩
        · have z' := ((if_neg n).trans (if_neg n2)).symm.trans z
          cases z'
end K1
namespace K1
open PySem PySem.Spec PyProof.Rows L2
structure WcJ (K : PySem.W.Frag) (W : Addr) : Prop where
  i : WcI K W
  nf : PySem.W.notFirst K W (.type "tuple") = true
abbrev T1 (Pn : Addr) : List (Addr × Str) := [(Pn, qNo)]
/-- what the top has left -/
structure Tp (K : PySem.W.Frag) (mg : Str → Option Value) (W Cc N CW CH CT CR cn Pn fa fn : Addr) (fd fdn : FuncData) : Prop where
  B : Bt mg
  cw : Cw mg
  kn : Cn2 mg
  whole : ∃ f fd, Df K mg "is_whole" sWhole ["value"] f fd
  below : ∃ f fd, Df K mg "is_below" sBelow ["value", "limit"] f fd
  seq : ∃ f fd, Df K mg "is_sequence" sSeq ["value", "least", "most"] f fd
  fnb : ∃ f fd, Df K mg "first_not_below" sFnb ["items", "limit"] f fd
  repl : ∃ f fd, Df K mg "replaced" sRepl ["items", "at", "item"] f fd
  pair : ∃ f fd, Df K mg "is_pair" sPair ["value", "houses"] f fd
  cties : ∃ f fd, Df K mg "checked_ties" sCTies ["houses", "ties"] f fd
  needH : ∃ f fd, Df K mg "need_house" sNeedH ["web", "house"] f fd
  needT : ∃ f fd, Df K mg "need_tie" sNeedT ["web", "tie"] f fd
  ways : ∃ f fd, Df K mg "ways_on" sWays ["web", "house"] f fd
  fways : ∃ f fd, Df K mg "first_ways" sFWays ["web", "house", "barred"] f fd
  part : ∃ f fd, Df K mg "part_of" sPart ["web", "house"] f fd
  parts : ∃ f fd, Df K mg "parts_of" sPartsOf ["web"] f fd
  isPart : ∃ f fd, Df K mg "is_part" sIsPart ["web", "value"] f fd
  tiesIn : ∃ f fd, Df K mg "ties_in" sTiesIn ["web", "part"] f fd
  rings : ∃ f fd, Df K mg "rings_of" sRingsOf ["web", "part"] f fd
  isFor : ∃ f fd, Df K mg "is_forest" sIsForest ["web"] f fd
  less : ∃ f fd, Df K mg "less_tie" sLessTie ["here", "there", "between"] f fd
  needM : ∃ f fd, Df K mg "need_modulus" sNeedM ["value"] f fd
  amt : ∃ f fd, Df K mg "is_amount" sAmt ["value"] f fd
  isCnt : ∃ f fd, Df K mg "is_counter" sIsCnt ["modulus", "value"] f fd
  cof : ∃ f fd, Df K mg "counters_of" sCOf ["modulus", "many", "value"] f fd
  cby : ∃ f fd, Df K mg "counted_by" sCBy ["modulus", "number"] f fd
  rest : ∃ f fd, Df K mg "is_rest" sIsRest ["net"] f fd
  alike : ∃ f fd, Df K mg "is_alike" sIsAlike ["web", "houses", "ties"] f fd
  chk : ∃ f fd, Df K mg "check_turns" sCheckTurns ["web", "value"] f fd
  th : ∃ f fd, Df K mg "turns_heard" sTurnsHeard ["web", "turns", "house", "other"] f fd
  needFo : ∃ f fd, Df K mg "need_forest" sNeedForest ["web"] f fd
  own : ∃ f fd, Df K mg "own_counts" sOwnCounts ["web"] f fd
  ra : ∃ f fd, Df K mg "rest_after" sRestAfter ["web", "turns"] f fd
  box : ∃ f fd, Df K mg "_law_box" sLBox ["_law_script", "_law_k"] f fd
  take : ∃ f fd, Df K mg "_law_take" sLTake ["_law_box_here", "_law_many"] f fd
  pick : ∃ f fd, Df K mg "_law_pick" sLPick ["_law_box_here", "_law_some"] f fd
  mixed : ∃ f fd, Df K mg "_law_mixed" sLMixed ["_law_box_here", "_law_some"] f fd
  forest : ∃ f fd, Df K mg "_law_forest" sLForest ["_law_box_here", "_law_most"] f fd
  partL : ∃ f fd, Df K mg "_law_part" sLPart ["_law_ties", "_law_house"] f fd
  heard : ∃ f fd, Df K mg "_law_heard" sLHeard ["_law_ask"] f fd
  webRef : ∃ f fd, Df K mg "_law_web_refused" sLWebRefused ["_law_ask", "_law_web"] f fd
  power : ∃ f fd, Df K mg "_law_power" sLPower ["_law_number"] f fd
  still : ∃ f fd, Df K mg "_law_still" sLStill ["_law_ties", "_law_states", "_law_archives"] f fd
  metL : ∃ f fd, Df K mg "_law_met" sLMet ["_law_ties", "_law_states", "_law_archives", "_law_tie"] f fd
  due : ∃ f fd, Df K mg "_law_due" sLDue ["_law_ties", "_law_many", "_law_turns"] f fd
  hears : ∃ f fd, Df K mg "_law_hears" sLHears ["_law_ties", "_law_turns", "_law_house", "_law_other"] f fd
  restR : ∃ f fd, Df K mg "_law_rest_right" sLRestRight ["_law_box_here", "_law_many", "_law_ties", "_law_turns"] f fd
  noneR : FunC K "_law_none_right" "_law_none_right" sLNoneRight fn fdn (.ref cn)
  noneRD : Df K mg "_law_none_right" sLNoneRight ["_law_box_here", "_law_web", "_law_turns", "_law_ringed"] fn fdn
  law : Fun K "law" "law" sLaw fa fd
  lawb : ∀ (s : Shared) (u : Value), BindsTo s fd ⟨[u], []⟩ [("_law_script", u)]
  initW : ∃ f fd, Fun K "__init__" "Web.__init__" sWInit f fd ∧ Mk K W f ∧ Binds K fd ["self", "houses", "ties"] []
  TW : WcT K mg W
  IW : WcJ K W
  initCc : ∃ f fd, Fun K "__init__" "Counts.__init__" sCountsInit f fd ∧ Mk K Cc f ∧ Binds K fd ["self", "web", "acts"] []
  m_Cc_meet : ∃ f fd, Fun K "meet" "Counts.meet" sCountsMeet f fd ∧ Meth K Cc "meet" f ∧ Binds K fd ["self", "tie"] []
  TCc : CcT K mg Cc
  initN : ∃ f fd, Fun K "__init__" "CounterNet.__init__" sCInit f fd ∧ Mk K N f ∧ Binds K fd ["self", "web", "modulus", "states", "archives"] []
  m_N_meet : ∃ f fd, Fun K "meet" "CounterNet.meet" sCMeet f fd ∧ Meth K N "meet" f ∧ Binds K fd ["self", "tie"] []
  TN : NcT K mg N
  t1 : ∃ q b i, LAt.Txt K mg "BadWeb" q b CW i
  t2 : ∃ q b i, LHouse.Txt K mg "NoHouse" q b CH i
  t3 : ∃ q b i, LTie.Txt K mg "NoTie" q b CT i
  t4 : ∃ q b i, LAt.Txt K mg "Refused" q b CR i
  ex : ∃ N, mg "NetError" = some (.ref N) ∧ Exm K CH CR N
  tabn : PySem.W.tabIn K "_law_none_right" = some (cn, Pn)
  nPn : K.lookup Pn = Option.none
section
variable {P : Program} {w : World} {K : PySem.W.Frag} {mg : Str → Option Value} {base : Heap}
theorem asm {W Cc N CW CH CT CR cn Pn fa fn : Addr} {fd fdn : FuncData} (t : Tp K mg W Cc N CW CH CT CR cn Pn fa fn fd fdn) (TBn : LamX.TabB base mg cn Pn) : FnG P w K mg base 13 fa fd ["_law_script"] (spLaw K (T1 Pn)) := by
  have B := t.B
  have cw := t.cw
  have kn := t.kn
  obtain ⟨_, _, dWhole⟩ := t.whole
  obtain ⟨_, _, dBelow⟩ := t.below
  obtain ⟨_, _, dSeq⟩ := t.seq
  obtain ⟨_, _, dFnb⟩ := t.fnb
  obtain ⟨_, _, dRepl⟩ := t.repl
  obtain ⟨_, _, dPair⟩ := t.pair
  obtain ⟨_, _, dCties⟩ := t.cties
  obtain ⟨_, _, dNeedH⟩ := t.needH
  obtain ⟨_, _, dNeedT⟩ := t.needT
  obtain ⟨_, _, dWays⟩ := t.ways
  obtain ⟨_, _, dFways⟩ := t.fways
  obtain ⟨_, _, dPart⟩ := t.part
  obtain ⟨_, _, dParts⟩ := t.parts
  obtain ⟨_, _, dIsPart⟩ := t.isPart
  obtain ⟨_, _, dTiesIn⟩ := t.tiesIn
  obtain ⟨_, _, dRings⟩ := t.rings
  obtain ⟨_, _, dIsFor⟩ := t.isFor
  obtain ⟨_, _, dLess⟩ := t.less
  obtain ⟨_, _, dNeedM⟩ := t.needM
  obtain ⟨_, _, dAmt⟩ := t.amt
  obtain ⟨_, _, dIsCnt⟩ := t.isCnt
  obtain ⟨_, _, dCof⟩ := t.cof
  obtain ⟨_, _, dCby⟩ := t.cby
  obtain ⟨_, _, dRest⟩ := t.rest
  obtain ⟨_, _, dAlike⟩ := t.alike
  obtain ⟨_, _, dChk⟩ := t.chk
  obtain ⟨_, _, dTh⟩ := t.th
  obtain ⟨_, _, dNeedFo⟩ := t.needFo
  obtain ⟨_, _, dOwn⟩ := t.own
  obtain ⟨_, _, dRa⟩ := t.ra
  obtain ⟨_, _, dBox⟩ := t.box
  obtain ⟨_, _, dTake⟩ := t.take
  obtain ⟨_, _, dPick⟩ := t.pick
  obtain ⟨_, _, dMixed⟩ := t.mixed
  obtain ⟨_, _, dForest⟩ := t.forest
  obtain ⟨_, _, dPartL⟩ := t.partL
  obtain ⟨_, _, dHeard⟩ := t.heard
  obtain ⟨_, _, dWebRef⟩ := t.webRef
  obtain ⟨_, _, dPower⟩ := t.power
  obtain ⟨_, _, dStill⟩ := t.still
  obtain ⟨_, _, dMetL⟩ := t.metL
  obtain ⟨_, _, dDue⟩ := t.due
  obtain ⟨_, _, dHears⟩ := t.hears
  obtain ⟨_, _, dRestR⟩ := t.restR
  have TW := t.TW
  have IW := t.IW
  obtain ⟨_, _, fiW, mkW, biW⟩ := t.initW
  have TCc := t.TCc
  obtain ⟨_, _, fiCc, mkCc, biCc⟩ := t.initCc
  obtain ⟨_, _, f_Cc_meet, mt_Cc_meet, b_Cc_meet⟩ := t.m_Cc_meet
  have TN := t.TN
  obtain ⟨_, _, fiN, mkN, biN⟩ := t.initN
  obtain ⟨_, _, f_N_meet, mt_N_meet, b_N_meet⟩ := t.m_N_meet
  obtain ⟨_, _, _, x1⟩ := id t.t1
  obtain ⟨_, _, _, x2⟩ := id t.t2
  obtain ⟨_, _, _, x3⟩ := id t.t3
  obtain ⟨_, _, _, x4⟩ := id t.t4
  have gWhole := ok_whole (P := P) (w := w) (base := base) dWhole B
  have gBelow := ok_below (P := P) (w := w) (base := base) dBelow dWhole B
  have gSeq := ok_seq (P := P) (w := w) (base := base) dSeq B
  have gFnb := ok_fnb (P := P) (w := w) (base := base) dFnb dBelow B gBelow
  have gRepl := ok_repl (P := P) (w := w) (base := base) dRepl
  have gPair := ok_pair (P := P) (w := w) (base := base) dPair dSeq dFnb gSeq gFnb
  have gCties := ok_cties (P := P) (w := w) (base := base) dCties dWhole dSeq dPair B cw x1 gWhole gSeq gPair
  have gWi := ok_winit (P := P) (w := w) (base := base) fiW dCties TW gCties
  have gNeedH := ok_needH (P := P) (w := w) (base := base) dNeedH dBelow TW x2 gBelow
  have gNeedT := ok_needT (P := P) (w := w) (base := base) dNeedT dBelow B TW x3 gBelow
  have gWays := ok_ways (P := P) (w := w) (base := base) dWays B TW
  have gFways := ok_fways (P := P) (w := w) (base := base) dFways dWays B gWays
  have gPart := ok_part (P := P) (w := w) (base := base) dPart dNeedH dFways B gNeedH gFways
  have gParts := ok_parts (P := P) (w := w) (base := base) dParts dPart B TW gPart
  have gTiesIn := ok_tiesIn (P := P) (w := w) (base := base) dTiesIn B TW
  have gIsPart := ok_isPart (P := P) (w := w) (base := base) dIsPart dSeq dFnb dPart B TW gSeq gFnb gPart
  have gRings := ok_rings (P := P) (w := w) (base := base) dRings dIsPart dTiesIn B x4 gIsPart gTiesIn
  have gIsFor := ok_isForest (P := P) (w := w) (base := base) dIsFor dParts dRings B gParts gRings
  have gNeedFo := ok_needFo (P := P) (w := w) (base := base) dNeedFo dIsFor x4 gIsFor
  have gNeedM := ok_needM (P := P) (w := w) (base := base) dNeedM dBelow kn x4 gBelow
  have gAmt := ok_amt (P := P) (w := w) (base := base) dAmt dWhole kn gWhole
  have gIsCnt := ok_isCnt (P := P) (w := w) (base := base) dIsCnt dAmt dBelow gAmt gBelow
  have gCof := ok_cof (P := P) (w := w) (base := base) dCof dSeq dIsCnt B x4 gSeq gIsCnt
  have gCby := ok_cby (P := P) (w := w) (base := base) dCby
  have gCi := ok_cinit (P := P) (w := w) (base := base) fiN dNeedM dCof B TN TW gNeedM gCof
  have gMeet := ok_cmeet (P := P) (w := w) (base := base) f_N_meet dNeedT dCby dRepl TN TW gNeedT gCby gRepl
  have gAlike := ok_alike (P := P) (w := w) (base := base) dAlike B TW
  have gAlikeR := ok_alikeR (P := P) (w := w) (base := base) dAlike B TW
  have gRest := ok_rest (P := P) (w := w) (base := base) dRest dAlike TN gAlike
  have gLess := ok_less (P := P) (w := w) (base := base) dLess B
  have gKi := ok_kinit (P := P) (w := w) (base := base) fiCc B TCc TW
  have gKm := ok_kmeet (P := P) (w := w) (base := base) f_Cc_meet dLess dRepl TCc TW gLess gRepl
  have gOwn := ok_own (P := P) (w := w) (base := base) dOwn mkCc biCc B TCc TW gKi
  have gChk := ok_chk (P := P) (w := w) (base := base) dChk dSeq dFnb B TW x4 gSeq gFnb
  have gRa := ok_ra (P := P) (w := w) (base := base) dRa dNeedFo dChk dOwn dAlike B TCc mt_Cc_meet b_Cc_meet gNeedFo gChk gOwn gAlikeR gKm
  have gTh := ok_th (P := P) (w := w) (base := base) dTh dChk dNeedH dPart B TW gChk gNeedH gPart
  have gTake := ok_take (P := P) (w := w) (base := base) dTake B
  have gPick := ok_pick (P := P) (w := w) (base := base) dPick dTake B gTake
  have gBox := ok_box (P := P) (w := w) (base := base) dBox B
  have gMixed := ok_mixed (P := P) (w := w) (base := base) dMixed dTake B gTake
  have gForest := ok_forest (P := P) (w := w) (base := base) dForest dTake dMixed B gTake gMixed
  have gPartL := ok_partL (P := P) (w := w) (base := base) dPartL B
  have gPower := ok_power (P := P) (w := w) (base := base) dPower B
  have gStill := ok_still (P := P) (w := w) (base := base) dStill B
  have gMetL := ok_metL (P := P) (w := w) (base := base) dMetL
  have gDue := ok_due (P := P) (w := w) (base := base) dDue dPower dStill dMetL B gPower gStill gMetL
  have gHears := ok_hears (P := P) (w := w) (base := base) dHears dPartL B gPartL
  have gRestR := ok_restR (P := P) (w := w) (base := base) dRestR B TW TN mkW biW gWi dDue gDue dRa gRa dTake gTake dPick gPick dRest gRest mkN biN gCi mt_N_meet b_N_meet gMeet
  have hd : Hd K mg base CH CR := ⟨B, t.heard, t.t2, t.t4, t.ex⟩
  obtain ⟨fe, fde, Fe, ea, ef, eb⟩ := IW.i.eq
  obtain ⟨_, _, eX⟩ := t.ex
  have wq : Wq P w K mg base W CR := ⟨B, TW, IW.i.y, IW.i.ca, IW.i.sp, IW.i.tk, IW.i.mo, IW.nf, ⟨fe, fde, ok_weqH (P := P) (w := w) (base := base) Fe B TW IW.i.y IW.i.ca IW.i.sp IW.i.tk IW.i.mo, ea, ef, eb⟩, t.t4, eX.rr, t.webRef⟩
  have gNone := ok_none (T := T1 Pn) t.noneR TBn List.mem_cons_self (fun p hp _ => by rw [List.mem_singleton.mp hp]) B hd wq TW dTake gTake dPick gPick dChk gChk dTh gTh dRa gRa
  exact ok_law t.law (⟨B, TW, ⟨_, _, dBox, gBox⟩, ⟨_, _, dTake, gTake⟩, ⟨_, _, dPick, gPick⟩, ⟨_, _, dMixed, gMixed⟩, ⟨_, _, dForest, gForest⟩, ⟨_, _, dPartL, gPartL⟩, ⟨_, _, mkW, biW, gWi⟩, ⟨_, _, dChk, gChk⟩, ⟨_, _, dTh, gTh⟩, ⟨_, _, dRestR, gRestR⟩, ⟨_, _, dHears, gHears⟩, ⟨_, _, t.noneRD, gNone⟩⟩ : Dn P w K mg base W CH CR (T1 Pn))
end
/-- the end: from what the top has left -/
theorem walkK {l : PySem.W.OpenLaw} {q : Program} {loose : List Str} {XP : (Str → Option Value) → Heap → Prop} {YP : World → Heap → Prop} {d : DefRec} {K : Params → PySem.W.Frag} (hn : l.most = some 63) (hdf : d.params.defaults = []) (hY : ∀ (w : World) (h : Heap), YP w h → (K w.params).In h)
    (hrn : ∃ d', (recsOf q).find? (fun e => e.name == ("_law_none_right" : Str)) = some d')
    (F : ∀ (w : World) (mg : Str → Option Value) (fa : Addr) (h : Heap), (K w.params).In h → h.Ns mainGlobals mg → mg d.name = some (.ref fa) → ∃ (W Cc N CW CH CT CR cn Pn fn : Addr) (fd fdn : FuncData), Tp (K w.params) mg W Cc N CW CH CT CR cn Pn fa fn fd fdn) :
    PySem.W.WalkO q loose XP YP l.row.toRowW d [] (fun f vs => PySem.call f vs) := by
  refine Att.attach_callB hn hdf fun w s₀ s₁ mg mb fa o pm cd doc a vs ns G Y ho hd hcd hmg hobj hints hlen hbits hg => ?_
  have KX := hY w _ Y
  obtain ⟨W, Cc, N, CW, CH, CT, CR, cn, Pn, fn, fd, fdn, t⟩ := F w mg fa _ KX G.T.g hmg
  obtain ⟨d_hrn, hrn⟩ := hrn
  obtain ⟨Chrn, Thrn⟩ := PySem.W.tab_of G.T KX hrn t.tabn
  exact call_laws (k := 13) [(cn, Pn)] (x := "_law_script") (sp := spLaw (K w.params) (T1 Pn)) KX G.T.g G.T.b G.T.builtins G.T.nolimit hg (fun p hp => by
      simp only [List.mem_cons, List.mem_nil_iff, or_false] at hp
      rcases hp with rfl
      · exact ⟨Thrn, t.nPn, Chrn⟩) G.T.bmain hobj hints (Nat.le_trans hlen (by decide)) ⟨rfl, by decide, by decide⟩ (fun base _ _ TB => asm t (TB _ List.mem_cons_self)) t.lawb
    fun H hP hS => ⟨a, ns, rfl, hS, hlen, fun p hp => by
      simp only [List.mem_cons, List.mem_nil_iff, or_false] at hp
      rcases hp with rfl
      · exact .nil (hP _ List.mem_cons_self), fun _ => rfl⟩
end K1
namespace K1
open PySem PySem.Spec PyProof.Rows L2
section
variable {K : PySem.W.Frag} {h : Heap} {mg : Str → Option Value} {x qual : Str} {st : Stmt} {ps : List Str} {f C : Addr} {oc kV doc pm cdv ct : Value} {od an : Option Addr} {osl : Array (Option Value)}
theorem df_of (X : K.In h) (G : h.Ns mainGlobals mg) (a : PySem.W.nsIn K mainGlobals x = some (some (.ref f))) (l : K.lookup f = some ⟨oc, od, .func (PySem.W.fnOf x x (defArgs st) (defBody st) (defScope st) .none kV doc pm an cdv ct), osl⟩)
    (c : PySem.W.codeIn K cdv x = true) (k : PySem.W.keepIn K (.ref f) = true)
    (b : ∀ (kV doc pm : Value) (an : Option Addr) (cdv ct : Value) (us : List Value), us.length = ps.length → bindArgs (PySem.W.fnOf x x (defArgs st) (defBody st) (defScope st) .none kV doc pm an cdv ct) ⟨us, []⟩ = pure (ps.zip us)) : ∃ f fd, Df K mg x st ps f fd :=
  ⟨f, _, ⟨fun_mk l c k, PySem.W.mg_of X G a, (fun_mk l c k).binds b⟩⟩
theorem dfc_of {cc : Addr} (X : K.In h) (G : h.Ns mainGlobals mg) (a : PySem.W.nsIn K mainGlobals x = some (some (.ref f))) (l : K.lookup f = some ⟨oc, od, .func (PySem.W.fnOf x x (defArgs st) (defBody st) (defScope st) .none kV doc pm an (.ref cc) ct), osl⟩)
    (c : PySem.W.codeIn K (.ref cc) x = true) (k : PySem.W.keepIn K (.ref f) = true)
    (b : ∀ (kV doc pm : Value) (an : Option Addr) (cdv ct : Value) (us : List Value), us.length = ps.length → bindArgs (PySem.W.fnOf x x (defArgs st) (defBody st) (defScope st) .none kV doc pm an cdv ct) ⟨us, []⟩ = pure (ps.zip us)) : ∃ f fd, Df K mg x st ps f fd ∧ FunC K x x st f fd (.ref cc) :=
  ⟨f, _, ⟨fun_mk l c k, PySem.W.mg_of X G a, (fun_mk l c k).binds b⟩, ⟨oc, od, kV, doc, pm, an, ct, osl, rfl, l, c⟩, k⟩
theorem law_of {fa cc : Addr} (X : K.In h) (G : h.Ns mainGlobals mg) (e : mg "law" = some (.ref fa)) (a : PySem.W.nsIn K mainGlobals "law" = some (some (.ref f))) (l : K.lookup f = some ⟨oc, od, .func (PySem.W.fnOf "law" "law" (defArgs sLaw) (defBody sLaw) (defScope sLaw) .none kV doc pm an (.ref cc) ct), osl⟩)
    (c : PySem.W.codeIn K (.ref cc) "law" = true) (k : PySem.W.keepIn K (.ref f) = true) : ∃ fd, FunC K "law" "law" sLaw fa fd (.ref cc) ∧ ∀ (s : Shared) (u : Value), BindsTo s fd ⟨[u], []⟩ [("_law_script", u)] := by
  have z := e.symm.trans (PySem.W.mg_of X G a)
  cases Option.some.inj z
  exact ⟨_, ⟨⟨oc, od, kV, doc, pm, an, ct, osl, rfl, l, c⟩, k⟩, fun s u => .of_eq rfl⟩
theorem lawF_of {fa : Addr} (X : K.In h) (G : h.Ns mainGlobals mg) (e : mg "law" = some (.ref fa)) (a : PySem.W.nsIn K mainGlobals "law" = some (some (.ref f))) (l : K.lookup f = some ⟨oc, od, .func (PySem.W.fnOf "law" "law" (defArgs sLaw) (defBody sLaw) (defScope sLaw) .none kV doc pm an cdv ct), osl⟩)
    (c : PySem.W.codeIn K cdv "law" = true) (k : PySem.W.keepIn K (.ref f) = true) : ∃ fd, Fun K "law" "law" sLaw fa fd ∧ ∀ (s : Shared) (u : Value), BindsTo s fd ⟨[u], []⟩ [("_law_script", u)] := by
  have z := e.symm.trans (PySem.W.mg_of X G a)
  cases Option.some.inj z
  exact ⟨_, fun_mk l c k, fun s u => .of_eq rfl⟩
theorem init_W {M : Addr} (a : PySem.W.findIn K (.ref M) "__init__" = some (some (.ref f))) (i : PySem.W.isFn K (.ref f) = true) (m : PySem.W.makesIn K M = true) (kM : PySem.W.keepIn K (.ref M) = true)
    (l : K.lookup f = some ⟨oc, od, .func (PySem.W.fnOf "__init__" "Web.__init__" (defArgs sWInit) (defBody sWInit) (defScope sWInit) .none kV doc pm an cdv ct), osl⟩) (c : PySem.W.codeIn K cdv "Web.__init__" = true) (k : PySem.W.keepIn K (.ref f) = true) :
    ∃ f fd, Fun K "__init__" "Web.__init__" sWInit f fd ∧ Mk K M f ∧ Binds K fd ["self", "houses", "ties"] [] :=
  ⟨f, _, fun_mk l c k, ⟨m, a, i, kM⟩, (fun_mk l c k).binds fun _ _ _ _ _ _ us hl => match us, hl with | [_, _, _], _ => rfl⟩
theorem weq_of {M : Addr} (a : PySem.W.findIn K (.ref M) "__eq__" = some (some (.ref f))) (i : PySem.W.isFn K (.ref f) = true)
    (l : K.lookup f = some ⟨oc, od, .func (PySem.W.fnOf "__eq__" "Web.__eq__" (defArgs sWEq) (defBody sWEq) (defScope sWEq) .none kV doc pm an cdv ct), osl⟩) (c : PySem.W.codeIn K cdv "Web.__eq__" = true) (k : PySem.W.keepIn K (.ref f) = true) :
    ∃ f fd, Fun K "__eq__" "Web.__eq__" sWEq f fd ∧ PySem.W.findIn K (.ref M) "__eq__" = some (some (.ref f)) ∧ PySem.W.isFn K (.ref f) = true ∧ Binds K fd ["self", "other"] [] :=
  ⟨f, _, fun_mk l c k, a, i, (fun_mk l c k).binds fun _ _ _ _ _ _ us hl => match us, hl with | [_, _], _ => rfl⟩
theorem init_Cc {M : Addr} (a : PySem.W.findIn K (.ref M) "__init__" = some (some (.ref f))) (i : PySem.W.isFn K (.ref f) = true) (m : PySem.W.makesIn K M = true) (kM : PySem.W.keepIn K (.ref M) = true)
    (l : K.lookup f = some ⟨oc, od, .func (PySem.W.fnOf "__init__" "Counts.__init__" (defArgs sCountsInit) (defBody sCountsInit) (defScope sCountsInit) .none kV doc pm an cdv ct), osl⟩) (c : PySem.W.codeIn K cdv "Counts.__init__" = true) (k : PySem.W.keepIn K (.ref f) = true) :
    ∃ f fd, Fun K "__init__" "Counts.__init__" sCountsInit f fd ∧ Mk K M f ∧ Binds K fd ["self", "web", "acts"] [] :=
  ⟨f, _, fun_mk l c k, ⟨m, a, i, kM⟩, (fun_mk l c k).binds fun _ _ _ _ _ _ us hl => match us, hl with | [_, _, _], _ => rfl⟩
theorem meth_Cc_meet {M : Addr} (a : PySem.W.findIn K (.ref M) "meet" = some (some (.ref f))) (i : PySem.W.isFn K (.ref f) = true)
    (l : K.lookup f = some ⟨oc, od, .func (PySem.W.fnOf "meet" "Counts.meet" (defArgs sCountsMeet) (defBody sCountsMeet) (defScope sCountsMeet) .none kV doc pm an cdv ct), osl⟩) (c : PySem.W.codeIn K cdv "Counts.meet" = true) (k : PySem.W.keepIn K (.ref f) = true) :
    ∃ f fd, Fun K "meet" "Counts.meet" sCountsMeet f fd ∧ Meth K M "meet" f ∧ Binds K fd ["self", "tie"] [] :=
  ⟨f, _, fun_mk l c k, ⟨a, i, k⟩, (fun_mk l c k).binds fun _ _ _ _ _ _ us hl => match us, hl with | [_, _], _ => rfl⟩
theorem init_N {M : Addr} (a : PySem.W.findIn K (.ref M) "__init__" = some (some (.ref f))) (i : PySem.W.isFn K (.ref f) = true) (m : PySem.W.makesIn K M = true) (kM : PySem.W.keepIn K (.ref M) = true)
    (l : K.lookup f = some ⟨oc, od, .func (PySem.W.fnOf "__init__" "CounterNet.__init__" (defArgs sCInit) (defBody sCInit) (defScope sCInit) .none kV doc pm an cdv ct), osl⟩) (c : PySem.W.codeIn K cdv "CounterNet.__init__" = true) (k : PySem.W.keepIn K (.ref f) = true) :
    ∃ f fd, Fun K "__init__" "CounterNet.__init__" sCInit f fd ∧ Mk K M f ∧ Binds K fd ["self", "web", "modulus", "states", "archives"] [] :=
  ⟨f, _, fun_mk l c k, ⟨m, a, i, kM⟩, (fun_mk l c k).binds fun _ _ _ _ _ _ us hl => match us, hl with | [_, _, _, _, _], _ => rfl⟩
theorem meth_N_meet {M : Addr} (a : PySem.W.findIn K (.ref M) "meet" = some (some (.ref f))) (i : PySem.W.isFn K (.ref f) = true)
    (l : K.lookup f = some ⟨oc, od, .func (PySem.W.fnOf "meet" "CounterNet.meet" (defArgs sCMeet) (defBody sCMeet) (defScope sCMeet) .none kV doc pm an cdv ct), osl⟩) (c : PySem.W.codeIn K cdv "CounterNet.meet" = true) (k : PySem.W.keepIn K (.ref f) = true) :
    ∃ f fd, Fun K "meet" "CounterNet.meet" sCMeet f fd ∧ Meth K M "meet" f ∧ Binds K fd ["self", "tie"] [] :=
  ⟨f, _, fun_mk l c k, ⟨a, i, k⟩, (fun_mk l c k).binds fun _ _ _ _ _ _ us hl => match us, hl with | [_, _], _ => rfl⟩
end
section
variable {K : PySem.W.Frag} {h : Heap} {mg : Str → Option Value} {cn ql nm q : Str} {C N0 N fI : Addr} {bs sub : List Value} {sn : List Str} {ab : Bool} {col : Option Bool} {dd : Option Addr} {k0 k1 k2 k3 k5 : Option Value} {oc doc pm cdv ct : Value} {od an : Option Addr} {osl : Array (Option Value)} {p1 p2 q1 q2 q3 q4 : Pos}
theorem LAt_of_ (X : K.In h) (G : h.Ns mainGlobals mg) (a : PySem.W.nsIn K mainGlobals cn = some (some (.ref C))) (xl : K.lookup C = some (excClassObj nm q C N bs (.ref N0 :: veT) true sn sub ab col dd k0 k1 k2 k3 k5 "ValueError.__new__"))
    (sa : PySem.W.findIn K (.ref C) "__setattr__" = some (some (.builtin "object.__setattr__"))) (ga : PySem.W.findIn K (.ref C) "__getattribute__" = some (some (.builtin "BaseException.__getattribute__"))) (gg : PySem.W.findIn K (.ref C) "__getattr__" = some none) (no : PySem.W.findIn K (.ref C) "at" = some none)
    (ic : PySem.W.findIn K (.ref C) "__init__" = some (some (.ref fI))) (tc : PySem.W.typeIn K (.ref fI) = some (.type "function")) (kc : PySem.W.keepIn K (.ref C) = true) (ec : PySem.W.subIn K (.ref C) (.type "BaseException") = some true) (ty : PySem.W.typeIn K (.ref C) = some (.type "type")) (hc : PySem.W.hasDictIn K C = true)
    (l : K.lookup fI = some ⟨oc, od, .func (PySem.W.fnOf "__init__" ql (LAt.iA p1 p2) (LAt.iB q1 q2 q3 q4) LAt.iS .none .none doc pm an cdv ct), osl⟩) (c : PySem.W.codeIn K cdv ql = true) : ∃ q b i, LAt.Txt K mg cn q b C i :=
  ⟨ql, _, fI, ⟨PySem.W.mg_of X G a, ⟨nm, q, N, bs, sn, sub, ab, col, dd, k0, k1, k2, k3, k5, xl⟩, mro_ve N0, sa, ga, gg, no, ic, tc, kc, ec, ty, hc, ⟨oc, od, doc, pm, an, cdv, ct, osl, p1, p2, q1, q2, q3, q4, l, c⟩⟩⟩
theorem LHouse_of_ (X : K.In h) (G : h.Ns mainGlobals mg) (a : PySem.W.nsIn K mainGlobals cn = some (some (.ref C))) (xl : K.lookup C = some (excClassObj nm q C N bs keT true sn sub ab col dd k0 k1 k2 k3 k5 "LookupError.__new__"))
    (sa : PySem.W.findIn K (.ref C) "__setattr__" = some (some (.builtin "object.__setattr__"))) (ga : PySem.W.findIn K (.ref C) "__getattribute__" = some (some (.builtin "BaseException.__getattribute__"))) (gg : PySem.W.findIn K (.ref C) "__getattr__" = some none) (no : PySem.W.findIn K (.ref C) "house" = some none)
    (ic : PySem.W.findIn K (.ref C) "__init__" = some (some (.ref fI))) (tc : PySem.W.typeIn K (.ref fI) = some (.type "function")) (kc : PySem.W.keepIn K (.ref C) = true) (ec : PySem.W.subIn K (.ref C) (.type "BaseException") = some true) (ty : PySem.W.typeIn K (.ref C) = some (.type "type")) (hc : PySem.W.hasDictIn K C = true)
    (l : K.lookup fI = some ⟨oc, od, .func (PySem.W.fnOf "__init__" ql (LHouse.iA p1 p2) (LHouse.iB q1 q2 q3 q4) LHouse.iS .none .none doc pm an cdv ct), osl⟩) (c : PySem.W.codeIn K cdv ql = true) : ∃ q b i, LHouse.Txt K mg cn q b C i :=
  ⟨ql, _, fI, ⟨PySem.W.mg_of X G a, ⟨nm, q, N, bs, sn, sub, ab, col, dd, k0, k1, k2, k3, k5, xl⟩, mro_ke, sa, ga, gg, no, ic, tc, kc, ec, ty, hc, ⟨oc, od, doc, pm, an, cdv, ct, osl, p1, p2, q1, q2, q3, q4, l, c⟩⟩⟩
theorem LTie_of_ (X : K.In h) (G : h.Ns mainGlobals mg) (a : PySem.W.nsIn K mainGlobals cn = some (some (.ref C))) (xl : K.lookup C = some (excClassObj nm q C N bs keT true sn sub ab col dd k0 k1 k2 k3 k5 "LookupError.__new__"))
    (sa : PySem.W.findIn K (.ref C) "__setattr__" = some (some (.builtin "object.__setattr__"))) (ga : PySem.W.findIn K (.ref C) "__getattribute__" = some (some (.builtin "BaseException.__getattribute__"))) (gg : PySem.W.findIn K (.ref C) "__getattr__" = some none) (no : PySem.W.findIn K (.ref C) "tie" = some none)
    (ic : PySem.W.findIn K (.ref C) "__init__" = some (some (.ref fI))) (tc : PySem.W.typeIn K (.ref fI) = some (.type "function")) (kc : PySem.W.keepIn K (.ref C) = true) (ec : PySem.W.subIn K (.ref C) (.type "BaseException") = some true) (ty : PySem.W.typeIn K (.ref C) = some (.type "type")) (hc : PySem.W.hasDictIn K C = true)
    (l : K.lookup fI = some ⟨oc, od, .func (PySem.W.fnOf "__init__" ql (LTie.iA p1 p2) (LTie.iB q1 q2 q3 q4) LTie.iS .none .none doc pm an cdv ct), osl⟩) (c : PySem.W.codeIn K cdv ql = true) : ∃ q b i, LTie.Txt K mg cn q b C i :=
  ⟨ql, _, fI, ⟨PySem.W.mg_of X G a, ⟨nm, q, N, bs, sn, sub, ab, col, dd, k0, k1, k2, k3, k5, xl⟩, mro_ke, sa, ga, gg, no, ic, tc, kc, ec, ty, hc, ⟨oc, od, doc, pm, an, cdv, ct, osl, p1, p2, q1, q2, q3, q4, l, c⟩⟩⟩
end
theorem cw_of {K : PySem.W.Frag} {h : Heap} {mg : Str → Option Value} {t0 t1 : Tok} (X : K.In h) (G : h.Ns mainGlobals mg) (a0 : PySem.W.nsIn K mainGlobals "MOST_HOUSES" = some (some (.int 12 t0))) (a1 : PySem.W.nsIn K mainGlobals "MOST_TIES" = some (some (.int 20 t1))) : Cw mg :=
  ⟨⟨_, PySem.W.mg_of X G a0⟩, ⟨_, PySem.W.mg_of X G a1⟩⟩
theorem kn_of {K : PySem.W.Frag} {h : Heap} {mg : Str → Option Value} {t0 t1 : Tok} (X : K.In h) (G : h.Ns mainGlobals mg) (a0 : PySem.W.nsIn K mainGlobals "MOST_MODULUS" = some (some (.int 1000000 t0))) (a1 : PySem.W.nsIn K mainGlobals "MOST_NUMBER" = some (some (.int 1000000000000000000 t1))) : Cn2 mg :=
  ⟨⟨_, PySem.W.mg_of X G a0⟩, ⟨_, PySem.W.mg_of X G a1⟩⟩
theorem bt_of {K : PySem.W.Frag} {h : Heap} {mg : Str → Option Value} (X : K.In h) (G : h.Ns mainGlobals mg) (z : ∀ x ∈ ([("isinstance" : Str), "int", "bool", "list", "tuple", "len", "enumerate", "range", "sorted", "set", "repr", "abs", "min", "max", "sum", "all", "any", "zip", "str", "dict", "KeyError"]), PySem.W.nsIn K mainGlobals x = some none) : Bt mg := by
  have n := fun x hx => PySem.W.mg_none_of X G (z x hx)
  exact ⟨n _ (by decide), n _ (by decide), n _ (by decide), n _ (by decide), n _ (by decide), n _ (by decide), n _ (by decide), n _ (by decide), n _ (by decide), n _ (by decide), n _ (by decide), n _ (by decide), n _ (by decide), n _ (by decide), n _ (by decide), n _ (by decide), n _ (by decide), n _ (by decide), n _ (by decide), n _ (by decide), n _ (by decide)⟩
theorem tab_mk {K : PySem.W.Frag} {x : Str} {f c Pt : Addr} {oc o1 : Value} {od o2 : Option Addr} {fd : FuncData} {osl o4 : Array (Option Value)} {vs : Array Value} (a : PySem.W.nsIn K mainGlobals x = some (some (.ref f))) (l : K.lookup f = some ⟨oc, od, .func fd, osl⟩) (hc : fd.code = .ref c)
    (lc : K.lookup c = some ⟨o1, o2, .fields vs, o4⟩) (hv : (vs[11]? : Option Value) = some (.ref Pt)) : PySem.W.tabIn K x = some (c, Pt) := by
  unfold PySem.W.tabIn
  rw [a]
  dsimp only
  rw [l]
  dsimp only
  rw [hc]
  dsimp only
  rw [lc]
  dsimp only
  rw [hv]
/-- the facts of the head, by the words that k_is answers -/
theorem tp_of {K : PySem.W.Frag} {h : Heap} {mg : Str → Option Value} {fa fN W Cc N CW CH CT CR NErr : Addr} {oc kV doc pm ct cdv : Value} {od an : Option Addr} {osl : Array (Option Value)}  {cn Pn fNn : Addr} {ocn kVn docn pmn ctn o1n : Value} {odn ann o2n : Option Addr} {osln o4n : Array (Option Value)} {vsn : Array Value} (X : K.In h) (G : h.Ns mainGlobals mg)
    (B : Bt mg) (cw : Cw mg) (kn : Cn2 mg)
    (whole : ∃ f fd, Df K mg "is_whole" sWhole ["value"] f fd)
    (below : ∃ f fd, Df K mg "is_below" sBelow ["value", "limit"] f fd)
    (seq : ∃ f fd, Df K mg "is_sequence" sSeq ["value", "least", "most"] f fd)
    (fnb : ∃ f fd, Df K mg "first_not_below" sFnb ["items", "limit"] f fd)
    (repl : ∃ f fd, Df K mg "replaced" sRepl ["items", "at", "item"] f fd)
    (pair : ∃ f fd, Df K mg "is_pair" sPair ["value", "houses"] f fd)
    (cties : ∃ f fd, Df K mg "checked_ties" sCTies ["houses", "ties"] f fd)
    (needH : ∃ f fd, Df K mg "need_house" sNeedH ["web", "house"] f fd)
    (needT : ∃ f fd, Df K mg "need_tie" sNeedT ["web", "tie"] f fd)
    (ways : ∃ f fd, Df K mg "ways_on" sWays ["web", "house"] f fd)
    (fways : ∃ f fd, Df K mg "first_ways" sFWays ["web", "house", "barred"] f fd)
    (part : ∃ f fd, Df K mg "part_of" sPart ["web", "house"] f fd)
    (parts : ∃ f fd, Df K mg "parts_of" sPartsOf ["web"] f fd)
    (isPart : ∃ f fd, Df K mg "is_part" sIsPart ["web", "value"] f fd)
    (tiesIn : ∃ f fd, Df K mg "ties_in" sTiesIn ["web", "part"] f fd)
    (rings : ∃ f fd, Df K mg "rings_of" sRingsOf ["web", "part"] f fd)
    (isFor : ∃ f fd, Df K mg "is_forest" sIsForest ["web"] f fd)
    (less : ∃ f fd, Df K mg "less_tie" sLessTie ["here", "there", "between"] f fd)
    (needM : ∃ f fd, Df K mg "need_modulus" sNeedM ["value"] f fd)
    (amt : ∃ f fd, Df K mg "is_amount" sAmt ["value"] f fd)
    (isCnt : ∃ f fd, Df K mg "is_counter" sIsCnt ["modulus", "value"] f fd)
    (cof : ∃ f fd, Df K mg "counters_of" sCOf ["modulus", "many", "value"] f fd)
    (cby : ∃ f fd, Df K mg "counted_by" sCBy ["modulus", "number"] f fd)
    (rest : ∃ f fd, Df K mg "is_rest" sIsRest ["net"] f fd)
    (alike : ∃ f fd, Df K mg "is_alike" sIsAlike ["web", "houses", "ties"] f fd)
    (chk : ∃ f fd, Df K mg "check_turns" sCheckTurns ["web", "value"] f fd)
    (th : ∃ f fd, Df K mg "turns_heard" sTurnsHeard ["web", "turns", "house", "other"] f fd)
    (needFo : ∃ f fd, Df K mg "need_forest" sNeedForest ["web"] f fd)
    (own : ∃ f fd, Df K mg "own_counts" sOwnCounts ["web"] f fd)
    (ra : ∃ f fd, Df K mg "rest_after" sRestAfter ["web", "turns"] f fd)
    (box : ∃ f fd, Df K mg "_law_box" sLBox ["_law_script", "_law_k"] f fd)
    (take : ∃ f fd, Df K mg "_law_take" sLTake ["_law_box_here", "_law_many"] f fd)
    (pick : ∃ f fd, Df K mg "_law_pick" sLPick ["_law_box_here", "_law_some"] f fd)
    (mixed : ∃ f fd, Df K mg "_law_mixed" sLMixed ["_law_box_here", "_law_some"] f fd)
    (forest : ∃ f fd, Df K mg "_law_forest" sLForest ["_law_box_here", "_law_most"] f fd)
    (partL : ∃ f fd, Df K mg "_law_part" sLPart ["_law_ties", "_law_house"] f fd)
    (heard : ∃ f fd, Df K mg "_law_heard" sLHeard ["_law_ask"] f fd)
    (webRef : ∃ f fd, Df K mg "_law_web_refused" sLWebRefused ["_law_ask", "_law_web"] f fd)
    (power : ∃ f fd, Df K mg "_law_power" sLPower ["_law_number"] f fd)
    (still : ∃ f fd, Df K mg "_law_still" sLStill ["_law_ties", "_law_states", "_law_archives"] f fd)
    (metL : ∃ f fd, Df K mg "_law_met" sLMet ["_law_ties", "_law_states", "_law_archives", "_law_tie"] f fd)
    (due : ∃ f fd, Df K mg "_law_due" sLDue ["_law_ties", "_law_many", "_law_turns"] f fd)
    (hears : ∃ f fd, Df K mg "_law_hears" sLHears ["_law_ties", "_law_turns", "_law_house", "_law_other"] f fd)
    (restR : ∃ f fd, Df K mg "_law_rest_right" sLRestRight ["_law_box_here", "_law_many", "_law_ties", "_law_turns"] f fd)
    (eL : mg "law" = some (.ref fa)) (aN : PySem.W.nsIn K mainGlobals "law" = some (some (.ref fN))) (lN : K.lookup fN = some ⟨oc, od, .func (PySem.W.fnOf "law" "law" (defArgs sLaw) (defBody sLaw) (defScope sLaw) .none kV doc pm an cdv ct), osl⟩)
    (cN : PySem.W.codeIn K cdv "law" = true) (kN : PySem.W.keepIn K (.ref fN) = true)
    (aNn : PySem.W.nsIn K mainGlobals "_law_none_right" = some (some (.ref fNn))) (lNn : K.lookup fNn = some ⟨ocn, odn, .func (PySem.W.fnOf "_law_none_right" "_law_none_right" (defArgs sLNoneRight) (defBody sLNoneRight) (defScope sLNoneRight) .none kVn docn pmn ann (.ref cn) ctn), osln⟩)
    (cNn : PySem.W.codeIn K (.ref cn) "_law_none_right" = true) (kNn : PySem.W.keepIn K (.ref fNn) = true) (lcn : K.lookup cn = some ⟨o1n, o2n, .fields vsn, o4n⟩) (hvn : (vsn[11]? : Option Value) = some (.ref Pn)) (nPn : K.lookup Pn = Option.none)
    (ac_W : PySem.W.nsIn K mainGlobals "Web" = some (some (.ref W))) (pgW : PySem.W.plainGet K W Str.empty = true) (hdW : PySem.W.hasDictIn K W = true) (poW : PySem.W.plainOver K W = true) (saW : PySem.W.findIn K (.ref W) "__setattr__" = some (some (.builtin "object.__setattr__"))) (nW0 : PySem.W.findIn K (.ref W) "ties" = some Option.none) (nW1 : PySem.W.findIn K (.ref W) "houses" = some Option.none) (IW : WcJ K W)
    (initW : ∃ f fd, Fun K "__init__" "Web.__init__" sWInit f fd ∧ Mk K W f ∧ Binds K fd ["self", "houses", "ties"] [])
    (ac_Cc : PySem.W.nsIn K mainGlobals "Counts" = some (some (.ref Cc))) (pgCc : PySem.W.plainGet K Cc Str.empty = true) (hdCc : PySem.W.hasDictIn K Cc = true) (poCc : PySem.W.plainOver K Cc = true) (saCc : PySem.W.findIn K (.ref Cc) "__setattr__" = some (some (.builtin "object.__setattr__"))) (nCc0 : PySem.W.findIn K (.ref Cc) "web" = some Option.none) (nCc1 : PySem.W.findIn K (.ref Cc) "deeds" = some Option.none) (nCc2 : PySem.W.findIn K (.ref Cc) "houses" = some Option.none) (nCc3 : PySem.W.findIn K (.ref Cc) "ties" = some Option.none)
    (initCc : ∃ f fd, Fun K "__init__" "Counts.__init__" sCountsInit f fd ∧ Mk K Cc f ∧ Binds K fd ["self", "web", "acts"] [])
    (m_Cc_meet : ∃ f fd, Fun K "meet" "Counts.meet" sCountsMeet f fd ∧ Meth K Cc "meet" f ∧ Binds K fd ["self", "tie"] [])
    (ac_N : PySem.W.nsIn K mainGlobals "CounterNet" = some (some (.ref N))) (pgN : PySem.W.plainGet K N Str.empty = true) (hdN : PySem.W.hasDictIn K N = true) (poN : PySem.W.plainOver K N = true) (saN : PySem.W.findIn K (.ref N) "__setattr__" = some (some (.builtin "object.__setattr__"))) (nN0 : PySem.W.findIn K (.ref N) "modulus" = some Option.none) (nN1 : PySem.W.findIn K (.ref N) "states" = some Option.none) (nN2 : PySem.W.findIn K (.ref N) "archives" = some Option.none) (nN3 : PySem.W.findIn K (.ref N) "web" = some Option.none)
    (initN : ∃ f fd, Fun K "__init__" "CounterNet.__init__" sCInit f fd ∧ Mk K N f ∧ Binds K fd ["self", "web", "modulus", "states", "archives"] [])
    (m_N_meet : ∃ f fd, Fun K "meet" "CounterNet.meet" sCMeet f fd ∧ Meth K N "meet" f ∧ Binds K fd ["self", "tie"] [])
    (t1 : ∃ q b i, LAt.Txt K mg "BadWeb" q b CW i)
    (t2 : ∃ q b i, LHouse.Txt K mg "NoHouse" q b CH i)
    (t3 : ∃ q b i, LTie.Txt K mg "NoTie" q b CT i)
    (t4 : ∃ q b i, LAt.Txt K mg "Refused" q b CR i)
    (aNE : PySem.W.nsIn K mainGlobals "NetError" = some (some (.ref NErr))) (ex : Exm K CH CR NErr)
    : ∃ (W Cc N CW CH CT CR cn Pn fn : Addr) (fd fdn : FuncData), Tp K mg W Cc N CW CH CT CR cn Pn fa fn fd fdn := by
  obtain ⟨fd, l1, l2⟩ := lawF_of X G eL aN lN cN kN
  obtain ⟨fn, fdn, dn, ln⟩ := dfc_of (ps := ["_law_box_here", "_law_web", "_law_turns", "_law_ringed"]) X G aNn lNn cNn kNn fun _ _ _ _ _ _ us hl => match us, hl with | [_, _, _, _], _ => rfl
  exact ⟨W, Cc, N, CW, CH, CT, CR, cn, Pn, fn, fd, fdn, ⟨B, cw, kn, whole, below, seq, fnb, repl, pair, cties, needH, needT, ways, fways, part, parts, isPart, tiesIn, rings, isFor, less, needM, amt, isCnt, cof, cby, rest, alike, chk, th, needFo, own, ra, box, take, pick, mixed, forest, partL, heard, webRef, power, still, metL, due, hears, restR, ln, dn, l1, l2, initW, ⟨⟨pgW, hdW, poW, saW⟩, nW0, nW1, PySem.W.mg_of X G ac_W⟩, IW, initCc, m_Cc_meet, ⟨⟨pgCc, hdCc, poCc, saCc⟩, nCc0, nCc1, nCc2, nCc3, PySem.W.mg_of X G ac_Cc⟩, initN, m_N_meet, ⟨⟨pgN, hdN, poN, saN⟩, nN0, nN1, nN2, nN3, PySem.W.mg_of X G ac_N⟩, t1, t2, t3, t4, ⟨NErr, PySem.W.mg_of X G aNE, ex⟩, tab_mk aNn lNn rfl lcn hvn, nPn⟩⟩
end K1
open PySem PySem.W PyProof.Rows
set_option maxRecDepth 100000 in
set_option maxHeartbeats 0 in
theorem PySem.Challenge.cw_houseslessties_k30_whole_when_turns_lead_holds : PySem.Challenge.rw_houseslessties_k30_whole_when_turns_lead.Holds := by
  w_on; o_law; k_head; (case hw => w_witness2)
  k_fill
  refine K1.walkK (l := PySem.Challenge.rw_houseslessties_k30_whole_when_turns_lead) rfl rfl (fun w h Y => PySem.W.km_in_of Y) ?hrn ?F
  case hrn => exact ⟨_, rfl⟩
  case F =>
    intro w mg fa h KX G hmg
    refine' K1.tp_of KX G ?B ?cw ?kn ?zwhole ?zbelow ?zseq ?zfnb ?zrepl ?zpair ?zcties ?zneedH ?zneedT ?zways ?zfways ?zpart ?zparts ?zisPart ?ztiesIn ?zrings ?zisFor ?zless ?zneedM ?zamt ?zisCnt ?zcof ?zcby ?zrest ?zalike ?zchk ?zth ?zneedFo ?zown ?zra ?zbox ?ztake ?zpick ?zmixed ?zforest ?zpartL ?zheard ?zwebRef ?zpower ?zstill ?zmetL ?zdue ?zhears ?zrestR hmg ?aN ?lN ?cN ?kN ?aNn ?lNn ?cNn ?kNn ?lcn ?hvn ?nPn ?ac_W ?pgW ?hdW ?poW ?saW ?nW0 ?nW1 ?IW ?initW ?ac_Cc ?pgCc ?hdCc ?poCc ?saCc ?nCc0 ?nCc1 ?nCc2 ?nCc3 ?initCc ?m_Cc_meet ?ac_N ?pgN ?hdN ?poN ?saN ?nN0 ?nN1 ?nN2 ?nN3 ?initN ?m_N_meet ?t1 ?t2 ?t3 ?t4 ?aNE ?ex
    case B =>
      refine K1.bt_of KX G fun x hx => ?_
      simp only [List.mem_cons, List.mem_nil_iff, or_false] at hx
      rcases hx with rfl | rfl | rfl | rfl | rfl | rfl | rfl | rfl | rfl | rfl | rfl | rfl | rfl | rfl | rfl | rfl | rfl | rfl | rfl | rfl | rfl <;> k_is
    case cw => refine' K1.cw_of KX G ?acw0 ?acw1; (case acw0 => k_is); (case acw1 => k_is)
    case kn => refine' K1.kn_of KX G ?akn0 ?akn1; (case akn0 => k_is); (case akn1 => k_is)
    case zwhole =>
      (refine' K1.df_of (by assumption) (by assumption) ?a_0 ?l_0 ?c_0 ?k_0 ?b_0; (case a_0 => k_is); (case l_0 => k_is); (case c_0 => k_is); (case k_0 => k_is))
      case b_0 => exact fun _ _ _ _ _ _ us hl => match us, hl with | [_], _ => rfl
    case zbelow =>
      (refine' K1.df_of (by assumption) (by assumption) ?a_1 ?l_1 ?c_1 ?k_1 ?b_1; (case a_1 => k_is); (case l_1 => k_is); (case c_1 => k_is); (case k_1 => k_is))
      case b_1 => exact fun _ _ _ _ _ _ us hl => match us, hl with | [_, _], _ => rfl
    case zseq =>
      (refine' K1.df_of (by assumption) (by assumption) ?a_2 ?l_2 ?c_2 ?k_2 ?b_2; (case a_2 => k_is); (case l_2 => k_is); (case c_2 => k_is); (case k_2 => k_is))
      case b_2 => exact fun _ _ _ _ _ _ us hl => match us, hl with | [_, _, _], _ => rfl
    case zfnb =>
      (refine' K1.df_of (by assumption) (by assumption) ?a_3 ?l_3 ?c_3 ?k_3 ?b_3; (case a_3 => k_is); (case l_3 => k_is); (case c_3 => k_is); (case k_3 => k_is))
      case b_3 => exact fun _ _ _ _ _ _ us hl => match us, hl with | [_, _], _ => rfl
    case zrepl =>
      (refine' K1.df_of (by assumption) (by assumption) ?a_4 ?l_4 ?c_4 ?k_4 ?b_4; (case a_4 => k_is); (case l_4 => k_is); (case c_4 => k_is); (case k_4 => k_is))
      case b_4 => exact fun _ _ _ _ _ _ us hl => match us, hl with | [_, _, _], _ => rfl
    case zpair =>
      (refine' K1.df_of (by assumption) (by assumption) ?a_5 ?l_5 ?c_5 ?k_5 ?b_5; (case a_5 => k_is); (case l_5 => k_is); (case c_5 => k_is); (case k_5 => k_is))
      case b_5 => exact fun _ _ _ _ _ _ us hl => match us, hl with | [_, _], _ => rfl
    case zcties =>
      (refine' K1.df_of (by assumption) (by assumption) ?a_6 ?l_6 ?c_6 ?k_6 ?b_6; (case a_6 => k_is); (case l_6 => k_is); (case c_6 => k_is); (case k_6 => k_is))
      case b_6 => exact fun _ _ _ _ _ _ us hl => match us, hl with | [_, _], _ => rfl
    case zneedH =>
      (refine' K1.df_of (by assumption) (by assumption) ?a_7 ?l_7 ?c_7 ?k_7 ?b_7; (case a_7 => k_is); (case l_7 => k_is); (case c_7 => k_is); (case k_7 => k_is))
      case b_7 => exact fun _ _ _ _ _ _ us hl => match us, hl with | [_, _], _ => rfl
    case zneedT =>
      (refine' K1.df_of (by assumption) (by assumption) ?a_8 ?l_8 ?c_8 ?k_8 ?b_8; (case a_8 => k_is); (case l_8 => k_is); (case c_8 => k_is); (case k_8 => k_is))
      case b_8 => exact fun _ _ _ _ _ _ us hl => match us, hl with | [_, _], _ => rfl
    case zways =>
      (refine' K1.df_of (by assumption) (by assumption) ?a_9 ?l_9 ?c_9 ?k_9 ?b_9; (case a_9 => k_is); (case l_9 => k_is); (case c_9 => k_is); (case k_9 => k_is))
      case b_9 => exact fun _ _ _ _ _ _ us hl => match us, hl with | [_, _], _ => rfl
    case zfways =>
      (refine' K1.df_of (by assumption) (by assumption) ?a_10 ?l_10 ?c_10 ?k_10 ?b_10; (case a_10 => k_is); (case l_10 => k_is); (case c_10 => k_is); (case k_10 => k_is))
      case b_10 => exact fun _ _ _ _ _ _ us hl => match us, hl with | [_, _, _], _ => rfl
    case zpart =>
      (refine' K1.df_of (by assumption) (by assumption) ?a_11 ?l_11 ?c_11 ?k_11 ?b_11; (case a_11 => k_is); (case l_11 => k_is); (case c_11 => k_is); (case k_11 => k_is))
      case b_11 => exact fun _ _ _ _ _ _ us hl => match us, hl with | [_, _], _ => rfl
    case zparts =>
      (refine' K1.df_of (by assumption) (by assumption) ?a_12 ?l_12 ?c_12 ?k_12 ?b_12; (case a_12 => k_is); (case l_12 => k_is); (case c_12 => k_is); (case k_12 => k_is))
      case b_12 => exact fun _ _ _ _ _ _ us hl => match us, hl with | [_], _ => rfl
    case zisPart =>
      (refine' K1.df_of (by assumption) (by assumption) ?a_13 ?l_13 ?c_13 ?k_13 ?b_13; (case a_13 => k_is); (case l_13 => k_is); (case c_13 => k_is); (case k_13 => k_is))
      case b_13 => exact fun _ _ _ _ _ _ us hl => match us, hl with | [_, _], _ => rfl
    case ztiesIn =>
      (refine' K1.df_of (by assumption) (by assumption) ?a_14 ?l_14 ?c_14 ?k_14 ?b_14; (case a_14 => k_is); (case l_14 => k_is); (case c_14 => k_is); (case k_14 => k_is))
      case b_14 => exact fun _ _ _ _ _ _ us hl => match us, hl with | [_, _], _ => rfl
    case zrings =>
      (refine' K1.df_of (by assumption) (by assumption) ?a_15 ?l_15 ?c_15 ?k_15 ?b_15; (case a_15 => k_is); (case l_15 => k_is); (case c_15 => k_is); (case k_15 => k_is))
      case b_15 => exact fun _ _ _ _ _ _ us hl => match us, hl with | [_, _], _ => rfl
    case zisFor =>
      (refine' K1.df_of (by assumption) (by assumption) ?a_16 ?l_16 ?c_16 ?k_16 ?b_16; (case a_16 => k_is); (case l_16 => k_is); (case c_16 => k_is); (case k_16 => k_is))
      case b_16 => exact fun _ _ _ _ _ _ us hl => match us, hl with | [_], _ => rfl
    case zless =>
      (refine' K1.df_of (by assumption) (by assumption) ?a_17 ?l_17 ?c_17 ?k_17 ?b_17; (case a_17 => k_is); (case l_17 => k_is); (case c_17 => k_is); (case k_17 => k_is))
      case b_17 => exact fun _ _ _ _ _ _ us hl => match us, hl with | [_, _, _], _ => rfl
    case zneedM =>
      (refine' K1.df_of (by assumption) (by assumption) ?a_18 ?l_18 ?c_18 ?k_18 ?b_18; (case a_18 => k_is); (case l_18 => k_is); (case c_18 => k_is); (case k_18 => k_is))
      case b_18 => exact fun _ _ _ _ _ _ us hl => match us, hl with | [_], _ => rfl
    case zamt =>
      (refine' K1.df_of (by assumption) (by assumption) ?a_19 ?l_19 ?c_19 ?k_19 ?b_19; (case a_19 => k_is); (case l_19 => k_is); (case c_19 => k_is); (case k_19 => k_is))
      case b_19 => exact fun _ _ _ _ _ _ us hl => match us, hl with | [_], _ => rfl
    case zisCnt =>
      (refine' K1.df_of (by assumption) (by assumption) ?a_20 ?l_20 ?c_20 ?k_20 ?b_20; (case a_20 => k_is); (case l_20 => k_is); (case c_20 => k_is); (case k_20 => k_is))
      case b_20 => exact fun _ _ _ _ _ _ us hl => match us, hl with | [_, _], _ => rfl
    case zcof =>
      (refine' K1.df_of (by assumption) (by assumption) ?a_21 ?l_21 ?c_21 ?k_21 ?b_21; (case a_21 => k_is); (case l_21 => k_is); (case c_21 => k_is); (case k_21 => k_is))
      case b_21 => exact fun _ _ _ _ _ _ us hl => match us, hl with | [_, _, _], _ => rfl
    case zcby =>
      (refine' K1.df_of (by assumption) (by assumption) ?a_22 ?l_22 ?c_22 ?k_22 ?b_22; (case a_22 => k_is); (case l_22 => k_is); (case c_22 => k_is); (case k_22 => k_is))
      case b_22 => exact fun _ _ _ _ _ _ us hl => match us, hl with | [_, _], _ => rfl
    case zrest =>
      (refine' K1.df_of (by assumption) (by assumption) ?a_23 ?l_23 ?c_23 ?k_23 ?b_23; (case a_23 => k_is); (case l_23 => k_is); (case c_23 => k_is); (case k_23 => k_is))
      case b_23 => exact fun _ _ _ _ _ _ us hl => match us, hl with | [_], _ => rfl
    case zalike =>
      (refine' K1.df_of (by assumption) (by assumption) ?a_24 ?l_24 ?c_24 ?k_24 ?b_24; (case a_24 => k_is); (case l_24 => k_is); (case c_24 => k_is); (case k_24 => k_is))
      case b_24 => exact fun _ _ _ _ _ _ us hl => match us, hl with | [_, _, _], _ => rfl
    case zchk =>
      (refine' K1.df_of (by assumption) (by assumption) ?a_25 ?l_25 ?c_25 ?k_25 ?b_25; (case a_25 => k_is); (case l_25 => k_is); (case c_25 => k_is); (case k_25 => k_is))
      case b_25 => exact fun _ _ _ _ _ _ us hl => match us, hl with | [_, _], _ => rfl
    case zth =>
      (refine' K1.df_of (by assumption) (by assumption) ?a_26 ?l_26 ?c_26 ?k_26 ?b_26; (case a_26 => k_is); (case l_26 => k_is); (case c_26 => k_is); (case k_26 => k_is))
      case b_26 => exact fun _ _ _ _ _ _ us hl => match us, hl with | [_, _, _, _], _ => rfl
    case zneedFo =>
      (refine' K1.df_of (by assumption) (by assumption) ?a_27 ?l_27 ?c_27 ?k_27 ?b_27; (case a_27 => k_is); (case l_27 => k_is); (case c_27 => k_is); (case k_27 => k_is))
      case b_27 => exact fun _ _ _ _ _ _ us hl => match us, hl with | [_], _ => rfl
    case zown =>
      (refine' K1.df_of (by assumption) (by assumption) ?a_28 ?l_28 ?c_28 ?k_28 ?b_28; (case a_28 => k_is); (case l_28 => k_is); (case c_28 => k_is); (case k_28 => k_is))
      case b_28 => exact fun _ _ _ _ _ _ us hl => match us, hl with | [_], _ => rfl
    case zra =>
      (refine' K1.df_of (by assumption) (by assumption) ?a_29 ?l_29 ?c_29 ?k_29 ?b_29; (case a_29 => k_is); (case l_29 => k_is); (case c_29 => k_is); (case k_29 => k_is))
      case b_29 => exact fun _ _ _ _ _ _ us hl => match us, hl with | [_, _], _ => rfl
    case zbox =>
      (refine' K1.df_of (by assumption) (by assumption) ?a_30 ?l_30 ?c_30 ?k_30 ?b_30; (case a_30 => k_is); (case l_30 => k_is); (case c_30 => k_is); (case k_30 => k_is))
      case b_30 => exact fun _ _ _ _ _ _ us hl => match us, hl with | [_, _], _ => rfl
    case ztake =>
      (refine' K1.df_of (by assumption) (by assumption) ?a_31 ?l_31 ?c_31 ?k_31 ?b_31; (case a_31 => k_is); (case l_31 => k_is); (case c_31 => k_is); (case k_31 => k_is))
      case b_31 => exact fun _ _ _ _ _ _ us hl => match us, hl with | [_, _], _ => rfl
    case zpick =>
      (refine' K1.df_of (by assumption) (by assumption) ?a_32 ?l_32 ?c_32 ?k_32 ?b_32; (case a_32 => k_is); (case l_32 => k_is); (case c_32 => k_is); (case k_32 => k_is))
      case b_32 => exact fun _ _ _ _ _ _ us hl => match us, hl with | [_, _], _ => rfl
    case zmixed =>
      (refine' K1.df_of (by assumption) (by assumption) ?a_33 ?l_33 ?c_33 ?k_33 ?b_33; (case a_33 => k_is); (case l_33 => k_is); (case c_33 => k_is); (case k_33 => k_is))
      case b_33 => exact fun _ _ _ _ _ _ us hl => match us, hl with | [_, _], _ => rfl
    case zforest =>
      (refine' K1.df_of (by assumption) (by assumption) ?a_34 ?l_34 ?c_34 ?k_34 ?b_34; (case a_34 => k_is); (case l_34 => k_is); (case c_34 => k_is); (case k_34 => k_is))
      case b_34 => exact fun _ _ _ _ _ _ us hl => match us, hl with | [_, _], _ => rfl
    case zpartL =>
      (refine' K1.df_of (by assumption) (by assumption) ?a_35 ?l_35 ?c_35 ?k_35 ?b_35; (case a_35 => k_is); (case l_35 => k_is); (case c_35 => k_is); (case k_35 => k_is))
      case b_35 => exact fun _ _ _ _ _ _ us hl => match us, hl with | [_, _], _ => rfl
    case zheard =>
      (refine' K1.df_of (by assumption) (by assumption) ?a_36 ?l_36 ?c_36 ?k_36 ?b_36; (case a_36 => k_is); (case l_36 => k_is); (case c_36 => k_is); (case k_36 => k_is))
      case b_36 => exact fun _ _ _ _ _ _ us hl => match us, hl with | [_], _ => rfl
    case zwebRef =>
      (refine' K1.df_of (by assumption) (by assumption) ?a_37 ?l_37 ?c_37 ?k_37 ?b_37; (case a_37 => k_is); (case l_37 => k_is); (case c_37 => k_is); (case k_37 => k_is))
      case b_37 => exact fun _ _ _ _ _ _ us hl => match us, hl with | [_, _], _ => rfl
    case zpower =>
      (refine' K1.df_of (by assumption) (by assumption) ?a_38 ?l_38 ?c_38 ?k_38 ?b_38; (case a_38 => k_is); (case l_38 => k_is); (case c_38 => k_is); (case k_38 => k_is))
      case b_38 => exact fun _ _ _ _ _ _ us hl => match us, hl with | [_], _ => rfl
    case zstill =>
      (refine' K1.df_of (by assumption) (by assumption) ?a_39 ?l_39 ?c_39 ?k_39 ?b_39; (case a_39 => k_is); (case l_39 => k_is); (case c_39 => k_is); (case k_39 => k_is))
      case b_39 => exact fun _ _ _ _ _ _ us hl => match us, hl with | [_, _, _], _ => rfl
    case zmetL =>
      (refine' K1.df_of (by assumption) (by assumption) ?a_40 ?l_40 ?c_40 ?k_40 ?b_40; (case a_40 => k_is); (case l_40 => k_is); (case c_40 => k_is); (case k_40 => k_is))
      case b_40 => exact fun _ _ _ _ _ _ us hl => match us, hl with | [_, _, _, _], _ => rfl
    case zdue =>
      (refine' K1.df_of (by assumption) (by assumption) ?a_41 ?l_41 ?c_41 ?k_41 ?b_41; (case a_41 => k_is); (case l_41 => k_is); (case c_41 => k_is); (case k_41 => k_is))
      case b_41 => exact fun _ _ _ _ _ _ us hl => match us, hl with | [_, _, _], _ => rfl
    case zhears =>
      (refine' K1.df_of (by assumption) (by assumption) ?a_42 ?l_42 ?c_42 ?k_42 ?b_42; (case a_42 => k_is); (case l_42 => k_is); (case c_42 => k_is); (case k_42 => k_is))
      case b_42 => exact fun _ _ _ _ _ _ us hl => match us, hl with | [_, _, _, _], _ => rfl
    case zrestR =>
      (refine' K1.df_of (by assumption) (by assumption) ?a_43 ?l_43 ?c_43 ?k_43 ?b_43; (case a_43 => k_is); (case l_43 => k_is); (case c_43 => k_is); (case k_43 => k_is))
      case b_43 => exact fun _ _ _ _ _ _ us hl => match us, hl with | [_, _, _, _], _ => rfl
    (case aN => k_is); (case lN => k_is); (case cN => k_is); (case kN => k_is)
    (case aNn => k_is); (case lNn => k_is); (case cNn => k_is); (case kNn => k_is); (case lcn => k_is); (case hvn => rfl); (case nPn => kernel_rfl)
    (case ac_W => k_is); (case pgW => k_is); (case hdW => k_is); (case poW => k_is); (case saW => k_is); (case nW0 => k_is); (case nW1 => k_is)
    case IW => refine' ⟨⟨?yW, ?caW, ?spW, ?tkW, ?moW, ?neW, ?eqW⟩, ?nfW⟩; (case yW => kernel_rfl); (case caW => k_is); (case spW => k_is); (case tkW => k_is); (case moW => k_is); (case neW => k_is); (case eqW => refine' K1.weq_of ?a_eq ?i_eq ?l_eq ?c_eq ?k_eq; (case a_eq => k_is); (case i_eq => k_is); (case l_eq => k_is); (case c_eq => k_is); (case k_eq => k_is)); (case nfW => kernel_rfl)
    case initW => refine' K1.init_W ?a_IW ?i_IW ?m_IW ?kM_IW ?l_IW ?c_IW ?k_IW; (case a_IW => k_is); (case i_IW => k_is); (case m_IW => k_is); (case kM_IW => k_is); (case l_IW => k_is); (case c_IW => k_is); (case k_IW => k_is)
    (case ac_Cc => k_is); (case pgCc => k_is); (case hdCc => k_is); (case poCc => k_is); (case saCc => k_is); (case nCc0 => k_is); (case nCc1 => k_is); (case nCc2 => k_is); (case nCc3 => k_is)
    case initCc => refine' K1.init_Cc ?a_ICc ?i_ICc ?m_ICc ?kM_ICc ?l_ICc ?c_ICc ?k_ICc; (case a_ICc => k_is); (case i_ICc => k_is); (case m_ICc => k_is); (case kM_ICc => k_is); (case l_ICc => k_is); (case c_ICc => k_is); (case k_ICc => k_is)
    case m_Cc_meet => refine' K1.meth_Cc_meet ?a_Ccmeet ?i_Ccmeet ?l_Ccmeet ?c_Ccmeet ?k_Ccmeet; (case a_Ccmeet => k_is); (case i_Ccmeet => k_is); (case l_Ccmeet => k_is); (case c_Ccmeet => k_is); (case k_Ccmeet => k_is)
    (case ac_N => k_is); (case pgN => k_is); (case hdN => k_is); (case poN => k_is); (case saN => k_is); (case nN0 => k_is); (case nN1 => k_is); (case nN2 => k_is); (case nN3 => k_is)
    case initN => refine' K1.init_N ?a_IN ?i_IN ?m_IN ?kM_IN ?l_IN ?c_IN ?k_IN; (case a_IN => k_is); (case i_IN => k_is); (case m_IN => k_is); (case kM_IN => k_is); (case l_IN => k_is); (case c_IN => k_is); (case k_IN => k_is)
    case m_N_meet => refine' K1.meth_N_meet ?a_Nmeet ?i_Nmeet ?l_Nmeet ?c_Nmeet ?k_Nmeet; (case a_Nmeet => k_is); (case i_Nmeet => k_is); (case l_Nmeet => k_is); (case c_Nmeet => k_is); (case k_Nmeet => k_is)
    case t1 => (refine' K1.LAt_of_ (by assumption) (by assumption) ?a_t1 ?xl_t1 ?sa_t1 ?ga_t1 ?gg_t1 ?no_t1 ?ic_t1 ?tc_t1 ?kc_t1 ?ec_t1 ?ty_t1 ?hc_t1 ?l_t1 ?c_t1; (case a_t1 => k_is); (case xl_t1 => k_is); (case sa_t1 => k_is); (case ga_t1 => k_is); (case gg_t1 => k_is); (case no_t1 => k_is); (case ic_t1 => k_is); (case tc_t1 => k_is); (case kc_t1 => k_is); (case ec_t1 => k_is); (case ty_t1 => k_is); (case hc_t1 => k_is); (case l_t1 => k_is); (case c_t1 => k_is))
    case t2 => (refine' K1.LHouse_of_ (by assumption) (by assumption) ?a_t2 ?xl_t2 ?sa_t2 ?ga_t2 ?gg_t2 ?no_t2 ?ic_t2 ?tc_t2 ?kc_t2 ?ec_t2 ?ty_t2 ?hc_t2 ?l_t2 ?c_t2; (case a_t2 => k_is); (case xl_t2 => k_is); (case sa_t2 => k_is); (case ga_t2 => k_is); (case gg_t2 => k_is); (case no_t2 => k_is); (case ic_t2 => k_is); (case tc_t2 => k_is); (case kc_t2 => k_is); (case ec_t2 => k_is); (case ty_t2 => k_is); (case hc_t2 => k_is); (case l_t2 => k_is); (case c_t2 => k_is))
    case t3 => (refine' K1.LTie_of_ (by assumption) (by assumption) ?a_t3 ?xl_t3 ?sa_t3 ?ga_t3 ?gg_t3 ?no_t3 ?ic_t3 ?tc_t3 ?kc_t3 ?ec_t3 ?ty_t3 ?hc_t3 ?l_t3 ?c_t3; (case a_t3 => k_is); (case xl_t3 => k_is); (case sa_t3 => k_is); (case ga_t3 => k_is); (case gg_t3 => k_is); (case no_t3 => k_is); (case ic_t3 => k_is); (case tc_t3 => k_is); (case kc_t3 => k_is); (case ec_t3 => k_is); (case ty_t3 => k_is); (case hc_t3 => k_is); (case l_t3 => k_is); (case c_t3 => k_is))
    case t4 => (refine' K1.LAt_of_ (by assumption) (by assumption) ?a_t4 ?xl_t4 ?sa_t4 ?ga_t4 ?gg_t4 ?no_t4 ?ic_t4 ?tc_t4 ?kc_t4 ?ec_t4 ?ty_t4 ?hc_t4 ?l_t4 ?c_t4; (case a_t4 => k_is); (case xl_t4 => k_is); (case sa_t4 => k_is); (case ga_t4 => k_is); (case gg_t4 => k_is); (case no_t4 => k_is); (case ic_t4 => k_is); (case tc_t4 => k_is); (case kc_t4 => k_is); (case ec_t4 => k_is); (case ty_t4 => k_is); (case hc_t4 => k_is); (case l_t4 => k_is); (case c_t4 => k_is))
    (case aNE => k_is)
    case ex =>
      refine' ⟨?e0, ?e1, ?e2, ?e3, ?e4, ⟨?x0_0, ?x0_1, ?x0_2, ?x0_3, ?x0_4, ?x0_5, ?x0_6, ?x0_7⟩, ⟨?x1_0, ?x1_1, ?x1_2, ?x1_3, ?x1_4, ?x1_5, ?x1_6, ?x1_7⟩⟩
      all_goals first | k_is | kernel_rfl
