import PyProof.Rows.All
import Wide.All
import OpenK.AllK
import Wide.FinOn
import HandS.ForMost
import HandS.ForExc
import HandS.ExcInit
import PyProof.ExcBaseAll.LookupError
import KE.KExcIs
import HandS.IsInst
import KE.GoesEnum
import PyProof.ReprRoads
import PySem.Challenge.RW_houseslessties_k27_whole_twisted_counter
import HandS.TryMany
import HandS.Lambda
import HandS.Nested
import HandS.EndTab
import HandS.DictTup
import HandS.OwnEq
import HandS.Strs
import HandS.Conv
import HandS.TupAny
import HandS.TupMul
import HandS.SortInts
import HandS.Style
import HandS.MakeKw
import HandS.Defaults
import HandS.TupLe
import HandS.SetKeys
import HandS.SetFor
import HandS.RaiseMore
import HandS.CallLocal
import HandS.Base
import HandS.Call
import HandS.Exc
import HandS.Iter
import KE.KDictWalk
import PyProof.InstNe
import PyProof.Rows.ReprOcc
import HandS.EndBits
set_option Elab.async false
set_option linter.all false
set_option maxRecDepth 100000
set_option maxHeartbeats 4000000
/-! exceptions of own classes whose base may be ValueError or KeyError: what is asked of the chain of classes stands as premises -/
namespace K1
open PySem PySem.HandSPX Builtin Builtin.ObjectAttr
/-- what the chain of classes behind the own one must be -/
structure Mro (B : String) (bm : List Value) : Prop where
  b : bm.contains (.type B) = true
  a : bm.contains (.type "AttributeError") = false
  n : bm.contains (.type "NameError") = false
  o : bm.contains (.type "object") = true
  p : ∀ self : Value, refuseLoop self "__setattr__" bm = pure ()
section
variable {prog : Program} {w : World} {A : Around} {E : Value → Shared → Prop} {R : Result → Shared → Prop} {h : Heap} {g : Array GenState} {d : Drawn} {t : Nat} {os : OsState}
variable {nm q : Str} {C N : Addr} {bs bm bmB : List Value} {hdct : Bool} {sn : List Str} {sub : List Value} {ab : Bool} {col : Option Bool} {dd : Option Addr} {k0 k1 k2 k3 k5 : Option Value} {B newId initId : String}
theorem check_newG {M : Model} (F : ExcBaseFacts B newId initId bmB) (T : Mro B bm) {rest : List Value} {Q : Unit → Shared → Prop}
    (hC : h.get? C = some (excClassObj nm q C N bs bm hdct sn sub ab col dd k0 k1 k2 k3 k5 newId)) (hq : Q () ⟨h, g, d, t, os⟩) : wpAny M A (checkBuiltinCall newId ⟨.ref C :: rest, []⟩) Q E ⟨h, g, d, t, os⟩ := by
  have hcont : (Value.ref C :: bm).contains (.type B) = true := by rw [List.contains_cons, T.b, Bool.or_true]
  have hstar := F.noStar
  simp only [checkBuiltinCall, F.newKind, F.newSplit, F.newRow]
  repeat (first | refine wpAny_loadPart_at hC ?_ | (refine wpAny_isSubtype_exc hC ?_; rw [hcont]) | refine wpAny_staticBase_exc hC ?_ | refine wpAny_madeBy_exc hC ?_ | simp only [bne_self_eq_false, Bool.false_eq_true, if_false] | wp_step)
  exact hq
theorem newG (F : ExcBaseFacts B newId initId bmB) (T : Mro B bm) {rest : List Value}
    (hC : h.get? C = some (excClassObj nm q C N bs bm hdct sn sub ab col dd k0 k1 k2 k3 k5 newId))
    (hq : R (.ok (.ret (.ref (h.objs.size + 1)))) ⟨(h.push { cls := .type "tuple", data := .seq rest.toArray }).push
      { cls := .ref C, data := .fields #[.ref h.objs.size, .none, .none, .none, .bool false, .none] }, g, d, t, os⟩) (hrest : rest.length ≤ sizeLine) :
    codeAny (model prog w) A (.builtin newId ⟨.ref C :: rest, []⟩) R ⟨h, g, d, t, os⟩ := by
  have hends := F.ends
  have hcB : (Value.ref C :: bm).contains (.type B) = true := by rw [List.contains_cons, T.b, Bool.or_true]
  have hcA : (Value.ref C :: bm).contains (.type "AttributeError") = false := by rw [List.contains_cons, T.a]; rfl
  have hcN : (Value.ref C :: bm).contains (.type "NameError") = false := by rw [List.contains_cons, T.n]; rfl
  refine codeAny_builtinAt F.entry ?_
  unfold Builtin.«BaseException.__new__»
  refine wpAt_bind ?_
  show wpAt _ _ _ (stack >>= _) _ _ _
  refine wpAt_bind (wpAt_stack fun p below => wpAt_of_wpAny ?_)
  wp_walk
  refine wpAt_of_wpAny ?_
  rw [F.owner]
  repeat (first | with_reducible refine wpAny_madeHere_exc F.canon hC ?_ | with_reducible refine wpAny_loadPart_at hC ?_ | (with_reducible refine wpAny_isSubtype_exc hC ?_; first | rw [hcB] | rw [hcA] | rw [hcN]) | wp_step)
  show R _ _
  rw [Heap.size_push]
  exact hq
theorem type_callG (F : ExcBaseFacts B newId initId bmB) (T : Mro B bm) {rest : List Value} {fI : Addr} {Q : Fin → Shared → Prop}
    (hC : h.get? C = some (excClassObj nm q C N bs bm hdct sn sub ab col dd k0 k1 k2 k3 k5 newId))
    (hi : W.Looks (model prog w) h (typeLookup (.ref C) "__init__") (some (.ref fI))) (hb : ∀ self, W.Looks (model prog w) h (bindSpecial (.ref fI) self) (.ref fI, [self])) (hrest : rest.length ≤ sizeLine)
    (hq : codeAny (model prog w) A (.call (.ref fI) ⟨.ref (h.objs.size + 1) :: rest, []⟩)
      (fun r s' => match r with | .ok (.ret v) => v = .none ∧ Q (.done (.ret (.ref (h.objs.size + 1)))) s' | .ok _ => False | .error e => E e s')
      ⟨(h.push (W.kdv_tup rest)).push (excO C h.objs.size), g, d, t, os⟩) :
    wpAny (model prog w) A (Builtin.«type.__call__» ⟨.ref C :: rest, []⟩) Q E ⟨h, g, d, t, os⟩ := by
  repeat (first | with_reducible refine wpAny_loadPart_at hC ?_ | with_reducible refine wpAny_madeBy_exc hC ?_ | wp_step)
  refine codeAny_call_builtin_code (Code.quiet_builtin _ F.quiet) (check_newG F T hC ?_)
  refine newG F T hC ?_ hrest
  show wpAny _ _ _ _ _ _
  have k : ∀ b o, h.get? b = some o → ((h.push (W.kdv_tup rest)).push (excO C h.objs.size)).get? b = some o := fun b o e => Heap.get?_push_of_some _ (Heap.get?_push_of_some _ e)
  have hC₁ := k _ _ hC
  have hget : ((h.push (W.kdv_tup rest)).push (excO C h.objs.size)).get? (h.objs.size + 1) = some (excO C h.objs.size) := by heap_get
  have hcC : (Value.ref C :: bm).contains (.ref C) = true := by simp
  have i1 := hi.keeps k
  have b1 := (hb (.ref (h.objs.size + 1))).keeps k
  unfold isInstance
  repeat (first | with_reducible refine wpAny_loadPart_at hget ?_ | (with_reducible refine wpAny_isSubtype_exc hC₁ ?_; rw [hcC]) | wp_step)
  show wpAny _ _ (typeLookup (.ref C) _) _ _ _
  refine i1.at ?_
  refine wpAny_holding (wpAny_bind (b1.at ?_))
  refine wpAny_bind (wpAny_call (codeAny_mono hq fun r s' z => ?_))
  rcases r with e | (v | _ | _ | _) <;> first | exact z | exact z.elim | skip
  obtain ⟨rfl, z⟩ := z
  first
    | exact wpAny_pure (wpAny_pure z)
    | (wp_walk; exact z)
theorem call_ownG (F : ExcBaseFacts B newId initId bmB) (T : Mro B bm) {rest : List Value} {fI : Addr}
    (hC : h.get? C = some (excClassObj nm q C N bs bm hdct sn sub ab col dd k0 k1 k2 k3 k5 newId))
    (hi : W.Looks (model prog w) h (typeLookup (.ref C) "__init__") (some (.ref fI))) (hb : ∀ self, W.Looks (model prog w) h (bindSpecial (.ref fI) self) (.ref fI, [self])) (hrest : rest.length ≤ sizeLine)
    (hq : codeAny (model prog w) (A.under (.builtin "type.__call__" ⟨.ref C :: rest, []⟩)) (.call (.ref fI) ⟨.ref (h.objs.size + 1) :: rest, []⟩) (W.InitBack (h.objs.size + 1) R)
      ⟨(h.push (W.kdv_tup rest)).push (excO C h.objs.size), g, d, t, os⟩) :
    codeAny (model prog w) A (.call (.ref C) ⟨rest, []⟩) R ⟨h, g, d, t, os⟩ := by
  have f1 := tc_lookup
  have f2 := tc_bind (.ref C)
  have hTy : (⟨h, g, d, t, os⟩ : Shared).TypeIs (.ref C) "type" := ⟨_, hC, rfl⟩
  refine codeAny_of_tree ?_
  show wpAny _ _ (callAny (.ref C) _) _ _ _
  repeat (any_goals (first | assumption | with_reducible refine wpAny_loadPart_at hC ?_ | wp_step))
  refine ⟨rfl, ?_⟩
  refine codeAny_call_builtin_at (Code.quiet_builtin _ (by decide +kernel)) entry_typeCall (wpAny_check_type_call_sub hC (type_callG F T hC hi hb hrest ?_))
  refine codeAny_mono hq fun r s' z => ?_
  rcases r with e | (v | _ | _ | _) <;> exact z
end
section
variable {prog : Program} {w : World} {A : Around} {E : Value → Shared → Prop} {R : Result → Shared → Prop} {hp : Heap} {g : Array GenState} {d : Drawn} {t : Nat} {os : OsState}
theorem exc_osaG {K : W.Frag} {name : Str} {tk : Tok} {v : Value} {x C : Addr} {fv : Array Value} {cd : ClassData} {B : String} {bm : List Value}
    (X : K.In hp) (hx : hp.get? x = some { cls := .ref C, data := .fields fv }) (hcd : W.clsIn K C = some cd) (hm : cd.mro = .ref C :: bm) (T : Mro B bm) (hh : cd.hasDict = true) (ha : W.findIn K (.ref C) name = some none)
    (hq : ∀ h' tk' dx, (∀ b o, b ≠ x → hp.get? b = some o → h'.get? b = some o) → hp.objs.size ≤ dx → dx ≠ x → h'.get? x = some { cls := .ref C, dict := some dx, data := .fields fv } →
      h'.Ns1 dx (fun y => if y = name then some v else none) → R (.ok (.ret .none)) ⟨h', g, d, tk', os⟩) :
    codeAny (model prog w) A (.call (.builtin "object.__setattr__") ⟨[.ref x, .str name tk, v], []⟩) R ⟨hp, g, d, t, os⟩ := by
  have I : W.InstAt hp x { cls := .ref C, data := .fields fv } C none := ⟨hx, rfl, rfl, trivial⟩
  have SF := F.store_object
  have ne : cd.mro.isEmpty = false := by rw [hm]; rfl
  have hob : cd.mro.contains (.type "object") = true := by rw [hm, List.contains_cons, T.o, Bool.or_true]
  have hxs : x ≠ hp.objs.size := Nat.ne_of_lt (Heap.lt_size hx)
  have sub : W.Looks (model prog w) hp (isInstance (.ref x) (.type "object")) true := I.type.andThen (W.looks_mroIn X (by unfold W.mroIn; rw [hcd, Option.bind_some, if_neg (by rw [ne]; decide), hob]))
  refine codeAny_call_builtin SF.slot.plain SF.entry (@W.check_slot (model prog w) _ _ ⟨hp, g, d, t, os⟩ "object.__setattr__" "object" "__setattr__" (.ref x) [.str name tk, v] [] _ SF.kind SF.split sub (SF.args (.ref x) (.str name tk) v) ?_)
  have hmr : W.Looks (model prog w) hp (mroOf (.ref C)) cd.mro := (W.looks_clsIn X hcd).andThen .now
  have L3 : W.Looks (model prog w) hp (storeTaker? none) none := .now
  have hcls : W.Looks (model prog w) hp (classData C) cd := W.looks_clsIn X hcd
  rw [W.osa_eq, refuse_eq]
  refine wpAny_bind (wpAny_bind (I.type.at (wpAny_bind (hmr.at ?_))))
  rw [hm, refuseLoop_ref, T.p]
  refine wpAny_pure (wpAny_bind (I.type.at (wpAny_bind ((W.looks_findIn X ha).at (wpAny_bind (L3.at ?_))))))
  show wpAny _ _ (storeInOwnDict (.ref x) (.ref C) (.str name tk) name v false) _ _ _
  obtain ⟨nm, bs, mro, ns, qn, hd, sn, sb, ab, col, del⟩ := cd
  dsimp only at hh
  subst hh
  unfold storeInOwnDict ownDictForStores
  repeat (first | with_reducible refine store_in_new ?_ ?_ | with_reducible refine wpAny_loadPart_at hx ?_ | with_reducible refine hcls.at ?_ | wp_step)
  · exact ⟨_, #[], _, (Heap.get?_update_ne _ _ _ _ hxs.symm).trans (Heap.get?_push_at rfl rfl), rfl, fun e he => absurd he (by simp), fun _ => rfl⟩
  · intro h' tk' hn' hs
    have hx₁ : (hp.push { cls := .type "dict", data := .dict #[] }).get? x = some { cls := .ref C, data := .fields fv } := Heap.get?_push_of_some _ hx
    refine hq h' tk' hp.objs.size (fun b o hb ho => ?_) (Nat.le_refl _) hxs.symm ?_ hn'
    · exact (hs.2 b (Nat.ne_of_lt (Heap.lt_size ho))).trans ((Heap.get?_update_ne _ _ _ _ hb).trans (Heap.get?_push_of_some _ ho))
    · exact (hs.2 x hxs).trans (Heap.get?_update_self _ hx₁ rfl)
end
abbrev veT : List Value := [.type "ValueError", .type "Exception", .type "BaseException", .type "object"]
abbrev keT : List Value := [.type "KeyError", .type "LookupError", .type "Exception", .type "BaseException", .type "object"]
theorem mro_ve (c : Addr) : Mro "ValueError" (.ref c :: veT) := ⟨rfl, rfl, rfl, rfl, fun self => by rw [refuseLoop_ref]; exact F.store_ValueError.passes self⟩
theorem ke_pass (self : Value) : refuseLoop self "__setattr__" keT = pure () := by kernel_rfl
theorem mro_ke : Mro "LookupError" keT := ⟨by decide +kernel, by decide +kernel, by decide +kernel, by decide +kernel, ke_pass⟩
end K1
/-! own exception classes whose __init__ stores one field -/

namespace K1
open PySem PySem.W PySem.Calls PyProof.Rows PySem.HandSPX
theorem one_le (v : Value) : [v].length ≤ sizeLine := by
  rw [sizeLine_eq]
  exact (by decide : 1 ≤ 16777216)
theorem ldE {M : Model} {s : Shared} {name : Str} {scope : Scope} {L a : Addr} {cd : Value} {m : Str → Option Value} {x : Str} {pos : Pos} {v : Value} {Q : Value → Shared → Prop} {A : Around} {E : Value → Shared → Prop} (hn : s.heap.Ns L m) (hv : m x = some v) (h : Q v s)
    (hk : scope.kind = .function := by rfl) (hl : (envOfC name scope L a cd).kindOf x = some .local := by rfl) (hd : (x == ("__debug__" : Str)) = false := by decide) :
    wpAny M A (eval (.Name x pos) (envOfC name scope L a cd)) Q E s := wpAny_Name (wpAny_loadName_local hk hl hn hv h) hd
end K1
namespace K1
open PySem PySem.Spec PyProof.Rows L2
theorem relO_one {v : V} {v' : Value} {g : Str} (r : RelV v v') (f : Str) : RelO (List.lookup f [(g, v)]) (if f = g then some v' else none) := by
  by_cases hw : f = g
  · subst hw
    rw [if_pos rfl]
    have q : List.lookup f [(f, v)] = some v := by simp [List.lookup]
    rw [q]
    exact r
  · rw [if_neg hw]
    have qw : (f == g) = false := by simpa using hw
    have q2 : List.lookup f [(g, v)] = none := by simp [List.lookup, qw]
    rw [q2]
    trivial
/-- C(e), C's __init__ storing e as the field g -/
def tMkF (g : Str) (C : Addr) (ta : TA) : L2.St → Hp → XK → Prop := fun σ H Q => ta σ H fun vs H1 => ∃ v, vs = [v] ∧ ∀ d, H1 d = none → Q (.ref C) (some d) (upd H1 d (.xd [(g, v)]))
def tRaiseF (g : Str) (C : Addr) (W : WX) (ta : TA) : TS := fun _ σ H => tMkF g C ta σ H fun cls d H' => W cls d σ H'
def tByF (g : Str) (C : Addr) (a : Addr) (cls : Value) (d : Option Addr) (te : TE) : TE := fun σ H Q => te σ H fun x H1 => x = .ref a ∧ cls = .ref C ∧ ∃ (dd : Addr) (v : V), d = some dd ∧ H1 dd = some (.xd [(g, v)]) ∧ Q v H1
end K1

namespace K1
namespace LAt
open PySem PySem.W PySem.Calls PyProof.Rows PySem.HandSPX
/-- the text of __init__ -/
def iA (p1 p2 : Pos) : Arguments := { posonlyargs := [], args := [{ arg := "self", annotation := none, pos := p1 }, { arg := "at", annotation := none, pos := p2 }], vararg := none, kwonlyargs := [], kw_defaults := [], kwarg := none, defaults := [] }
def iB (q1 q2 q3 q4 : Pos) : List Stmt := [.Assign [.Attribute (.Name "self" q1) "at" q2] (.Name "at" q3) q4]
def iS : Scope := { kind := .function, names := [(PySem.Str.ofString "self", .local), (PySem.Str.ofString "at", .local)], isGenerator := false, isCoroutine := false, more := [] }
/-- what the written part says of the class at C (named cn), of its chain bm, and of its __init__, at fI -/
structure Txt (K : Frag) (mg : Str → Option Value) (cn ql : Str) (bm : List Value) (C fI : Addr) : Prop where
  gC : mg cn = some (.ref C)
  cls : ∃ nm q N bs sn sub ab col dd k0 k1 k2 k3 k5, K.lookup C = some (excClassObj nm q C N bs bm true sn sub ab col dd k0 k1 k2 k3 k5 "ValueError.__new__")
  mr : Mro "ValueError" bm
  sa : findIn K (.ref C) "__setattr__" = some (some (.builtin "object.__setattr__"))
  ga : findIn K (.ref C) "__getattribute__" = some (some (.builtin "BaseException.__getattribute__"))
  gg : findIn K (.ref C) "__getattr__" = some none
  noN : findIn K (.ref C) "at" = some none
  iC : findIn K (.ref C) "__init__" = some (some (.ref fI))
  tC : typeIn K (.ref fI) = some (.type "function")
  kC : keepIn K (.ref C) = true
  exC : subIn K (.ref C) (.type "BaseException") = some true
  tyC : typeIn K (.ref C) = some (.type "type")
  hdC : hasDictIn K C = true
  fn : ∃ (oc : Value) (od : Option Addr) (doc pm : Value) (an : Option Addr) (cdv ct : Value) (osl : Array (Option Value)) (p1 p2 q1 q2 q3 q4 : Pos),
    K.lookup fI = some ⟨oc, od, .func (fnOf "__init__" ql (iA p1 p2) (iB q1 q2 q3 q4) iS .none .none doc pm an cdv ct), osl⟩ ∧ codeIn K cdv ql = true
/-- what __init__ leaves of a fresh exception at x -/
structure InitEnd (h h' : Heap) (x C dx t1 : Addr) (v : Value) : Prop where
  keep : ∀ b o, b ≠ x → h.get? b = some o → h'.get? b = some o
  obj : h'.get? x = some { cls := .ref C, dict := some dx, data := .fields #[.ref t1, .none, .none, .none, .bool false, .none] }
  dbig : h.objs.size ≤ dx
  dne : dx ≠ x
  ns : h'.Ns1 dx (fun y => if y = "at" then some v else none)
structure OwnMade (h h' : Heap) (e C d : Addr) (v : Value) : Prop where
  keep : ∀ b o, h.get? b = some o → h'.get? b = some o
  new : h.objs.size ≤ e
  obj : ∃ oe vs, h'.get? e = some oe ∧ oe.cls = .ref C ∧ oe.dict = some d ∧ oe.data = .fields vs ∧ vs[1]? = some .none
  dbig : h.objs.size ≤ d
  dne : d ≠ e
  ns : h'.Ns1 d (fun y => if y = "at" then some v else none)
section
variable {prog : Program} {w : World} {A : Around} {E : Value → Shared → Prop} {R : Result → Shared → Prop} {s : Shared} {K : Frag} {mg : Str → Option Value} {cn ql : Str} {bm : List Value} {C fI : Addr}
theorem init (T : Txt K mg cn ql bm C fI) {x t0 : Addr} {v : Value} (X : K.In s.heap) (hlim : s.heap.NoLimit) (hx : s.heap.get? x = some (excO C t0)) (hnx : K.lookup x = none) (hroom : A.depth < recursionLimit)
    (hq : ∀ h' tk dx, InitEnd s.heap h' x C dx t0 v → R (.ok (.ret .none)) { s with heap := h', toks := tk }) :
    codeAny (model prog w) A (.call (.ref fI) ⟨[.ref x, v], []⟩) R s := by
  obtain ⟨oc, od, doc, pm, an, cdv, ct, osl, p1, p2, q1, q2, q3, q4, ho, hcd⟩ := T.fn
  obtain ⟨nm, q, N, bs, sn, sub, ab, col, dd, k0, k1, k2, k3, k5, hC⟩ := T.cls
  have hcl : clsIn K C = some { name := nm, bases := bs, mro := .ref C :: bm, ns := N, qualname := q, hasDict := true, slotNames := sn, subclasses := sub, abstract := ab, collection := col, hasDel := false } := by unfold clsIn; rw [hC] <;> rfl
  refine Att.call_fn (binds := [("self", .ref x), ("at", v)]) X hlim ho hcd hroom (BindsTo.of_eq (by first | rfl | with_unfolding_all rfl)) (by first | rfl | decide | with_unfolding_all rfl) (fun s₁ IC => ?_) rfl rfl rfl
  obtain ⟨h₁, tk₁, rfl⟩ := IC.toInCall.same
  have k : ∀ b o, s.heap.get? b = some o → h₁.get? b = some o := IC.toInCall.keep
  have hn := IC.toInCall.ns
  have X₁ : K.In h₁ := X.keeps k
  have hx₁ := k _ _ hx
  show wpAny _ _ (execs _ _) _ _ _
  refine wpAny_execs_cons (plainObj_wpAny_Assign_Attribute ?_)
  refine ldE (v := v) hn (by first | rfl | with_unfolding_all rfl | kernel_rfl) (ldE (v := .ref x) hn (by first | rfl | with_unfolding_all rfl | kernel_rfl) ?_)
  refine set_plain X₁ (ox := excO C t0) (od := none) ⟨hx₁, rfl, rfl, trivial⟩ T.sa ?_
  refine exc_osaG X₁ hx₁ hcl rfl T.mr rfl T.noN (fun h₃ tk₃ dx k₃ dn dne hx₃ hn₃ => ?_)
  show wpAny _ _ (execs _ _) _ _ _
  have z : s.heap.objs.size < h₁.objs.size := hn.lt
  exact wpAny_execs_nil (hq h₃ tk₃ dx ⟨fun b o hb e => k₃ b o hb (k b o e), hx₃, Nat.le_of_lt (Nat.lt_of_lt_of_le z dn), dne, hn₃⟩)
theorem made (T : Txt K mg cn ql bm C fI) {v : Value} (X : K.In s.heap) (hlim : s.heap.NoLimit) (hroom : A.depth + 1 < recursionLimit)
    (hq : ∀ h' tk e d, OwnMade s.heap h' e C d v → R (.ok (.ret (.ref e))) { s with heap := h', toks := tk }) :
    codeAny (model prog w) A (.call (.ref C) ⟨[v], []⟩) R s := by
  obtain ⟨nm, q, N, bs, sn, sub, ab, col, dd, k0, k1, k2, k3, k5, hC⟩ := T.cls
  obtain ⟨hp, g, dr, tk, os⟩ := s
  have k : ∀ b o, hp.get? b = some o → ((hp.push (kdv_tup [v])).push (excO C hp.objs.size)).get? b = some o := fun b o e => Heap.get?_push_of_some _ (Heap.get?_push_of_some _ e)
  have hget : ((hp.push (kdv_tup [v])).push (excO C hp.objs.size)).get? (hp.objs.size + 1) = some (excO C hp.objs.size) := by heap_get
  have hnx : K.lookup (hp.objs.size + 1) = none := by
    cases e : K.lookup (hp.objs.size + 1) with
    | none => rfl
    | some o =>
      have z : hp.get? (hp.objs.size + 1) = some o := X _ _ e
      exact absurd (Nat.lt_of_succ_lt (Heap.lt_size z)) (Nat.lt_irrefl _)
  refine call_ownG F.excBase_ValueError T.mr (X _ _ hC) (looks_findIn X T.iC) (fun self => bind_fn X self T.tC) (one_le v) ?_
  refine init (s := ⟨(hp.push (kdv_tup [v])).push (excO C hp.objs.size), g, dr, tk, os⟩) T (X.keeps k) (hlim.keeps k) hget hnx ?_ fun h' tk' dx ⟨k', hx, dn, dne, hns⟩ => ?_
  · show A.depth + 1 < recursionLimit
    exact hroom
  · have old : ∀ b o, hp.get? b = some o → h'.get? b = some o := fun b o e => k' b o (Nat.ne_of_lt (Nat.lt_succ_of_lt (Heap.lt_size e))) (k b o e)
    have z : hp.objs.size + 1 + 1 ≤ dx := by
      first
        | (simpa only [Heap.size_push] using dn)
        | exact dn
        | (have q := dn; rw [Heap.size_push, Heap.size_push] at q; exact q)
    exact ⟨rfl, hq h' tk' (hp.objs.size + 1) dx ⟨old, Nat.le_succ _, ⟨_, _, hx, rfl, rfl, rfl, rfl⟩, Nat.le_trans (Nat.le_trans (Nat.le_succ _) (Nat.le_succ _)) z, dne, hns⟩⟩
end
end LAt
end K1
namespace K1
open PySem PySem.Spec PyProof.Rows L2
section
variable {X : Cx} {cn ql : Str} {bm : List Value} {C fI : Addr}
theorem pmk_LAt {a : Expr} {ta : TA} {p pos : Pos} {k : Nat} (T : LAt.Txt X.K X.mg cn ql bm C fI) (hr : Room k X.A) (ha : PA X [a] ta) (hg : Gl X cn := by rfl)
    (he : starEach (a :: []) X.env = (false, eval a X.env) :: starEach [] X.env := by rfl) (hpl : (backTo pos (starEach [] X.env)).any (·.1) = false := by rfl) (hdb : (cn == ("__debug__" : Str)) = false := by decide) :
    PMk X (.Call (.Name cn p) [a] [] pos) (tMkF "at" C ta) := by
  intro pins s σ H Q I h
  refine wpAny_Call_Name_kw (ld_glob I hg T.gC ?_ hdb)
  refine PySem.W.callWith_K (h₀ := X.base) I.ok.mod.kin T.kC (thn (ha.run pos pins s σ H _ I h) fun us s1 hh => ?_) he hpl
  obtain ⟨vs, H1, I1, r1, v, ev, q1⟩ := hh
  subst ev
  refine ⟨I1.kIn, ?_⟩
  cases r1 with
  | cons rv rn =>
    rename_i v' us'
    cases rn
    show wpAny _ _ (call (.ref C) [v']) _ _ _
    have hlim := I1.nolimit
    obtain ⟨hp, g, dr, tk, os⟩ := s1
    refine wpAny_call (LAt.made T I1.kIn hlim (by have := hr.dp; omega) fun h' tk' e d M => ?_)
    show MkP X pins σ Q (.ref e) ⟨h', g, dr, tk', os⟩
    obtain ⟨oe, fv, hoe, hc, hd, hdat, h1⟩ := M.obj
    have hns := M.ns
    obtain ⟨G', g1, g2⟩ := restrict h' fun b => decide (b ≠ e)
    have gk : ∀ b, b ≠ e → G'.get? b = h'.get? b := fun b hb => g1 b (decide_eq_true hb)
    have ge : G'.get? e = none := g2 e (by simp)
    have old : ∀ b o, hp.get? b = some o → G'.get? b = some o := fun b o q => (gk b (Nat.ne_of_lt (Nat.lt_of_lt_of_le (Heap.lt_size q) M.new))).trans (M.keep b o q)
    have ob : ObjOk X.prog X.w (upd H1 d (.xd [(("at" : Str), v)])) G' d (.xd [(("at" : Str), v)]) :=
      ⟨_, hns.at (fun o q => (gk d M.dne).trans q), fun f => relO_one rv f⟩
    have J : Inv X pins σ (upd H1 d (.xd [(("at" : Str), v)])) ⟨G', g, dr, tk', os⟩ := I1.laid (t' := tk') old M.dbig ob
    refine ⟨e, oe, fv, ⟨G', g, dr, tk', os⟩, _, .ref C, some d, rfl, J, fun b o q => ?_, ge, hoe, ⟨hc, hd⟩, hdat, h1, ?_, rfl, I1.bare, raises_own T.exC T.tyC, q1 d (I1.hok.fresh M.dbig)⟩
    · by_cases hb : b = e
      · have q' : G'.get? b = some o := q
        rw [hb, ge] at q'; cases q'
      · exact (gk b hb).symm.trans q
    · rw [upd_ne (Ne.symm M.dne)]
      exact I1.hok.fresh M.new
theorem ps_raise_LAt {a : Expr} {ta : TA} {W : WX} {p pos pos2 : Pos} {k : Nat} (hc : X.calm = true) (T : LAt.Txt X.K X.mg cn ql bm C fI) (hr : Room k X.A) (tk : Takes X W) (ha : PA X [a] ta) (hg : Gl X cn := by rfl)
    (he : starEach (a :: []) X.env = (false, eval a X.env) :: starEach [] X.env := by rfl) (hpl : (backTo pos (starEach [] X.env)).any (·.1) = false := by rfl) (hdb : (cn == ("__debug__" : Str)) = false := by decide) :
    PS X (.Raise (some (.Call (.Name cn p) [a] [] pos)) none pos2) (tRaiseF "at" C W ta) := ps_raise hc tk (pmk_LAt T hr ha hg he hpl hdb)
theorem pe_by_LAt {a : Addr} {oe : Obj} {cls : Value} {d : Option Addr} {pn : List (Addr × Obj)} {e : Expr} {te : TE} {pos : Pos} (T : LAt.Txt X.K X.mg cn ql bm C fI) (hz : Zc cls d oe) (hf : ∃ vs, oe.data = .fields vs) (he : PE (X.suite a ((a, oe) :: pn)) e te)
    (hb : attributeBase e "at" X.env (eval e X.env) = eval e X.env := by rfl) :
    PE (X.suite a ((a, oe) :: pn)) (.Attribute e "at" pos) (tByF "at" C a cls d te) := by
  refine ⟨fun pins s σ H Q I h => ?_⟩
  refine attr_of hb (thn (he.run pins s σ H _ I h) fun u s1 hh => ?_)
  obtain ⟨x, H1, I1, rx, ex, ec, dd, v, ed, ea, q⟩ := hh
  subst ex
  obtain rfl : u = Value.ref a := rx
  subst ec
  subst ed
  obtain ⟨ha, _⟩ := I1.pin (a, oe) (List.mem_append_left _ List.mem_cons_self)
  obtain ⟨vs, hd⟩ := hf
  have hx : ObjOk X.prog X.w H1 s1.heap dd (.xd [(("at" : Str), v)]) := I1.hok dd _ ea
  obtain ⟨mA, hns, hr⟩ := hx
  obtain ⟨od, ho, hl⟩ := lookIn_ns hns
  have l : List.lookup ("at" : Str) [(("at" : Str), v)] = some v := by simp [List.lookup]
  obtain ⟨u, hu, ru⟩ := RelO.some_of (v := v) (o := mA "at") (by rw [← l]; exact hr "at")
  have J : PySem.W.InstAt s1.heap a oe C (some od) := ⟨ha, hz.1, by unfold PySem.W.notCls; rw [hd] <;> rfl, by rw [hz.2]; exact ho⟩
  exact HandSPX.exc_get I1.kIn J T.ga T.gg T.exC (PySem.W.findObj_own T.hdC T.noN rfl (by rw [hl, hu])) (handed_of ru) ⟨v, H1, I1.tok _, ru, q⟩
end
end K1

namespace K1
namespace LHouse
open PySem PySem.W PySem.Calls PyProof.Rows PySem.HandSPX
/-- the text of __init__ -/
def iA (p1 p2 : Pos) : Arguments := { posonlyargs := [], args := [{ arg := "self", annotation := none, pos := p1 }, { arg := "house", annotation := none, pos := p2 }], vararg := none, kwonlyargs := [], kw_defaults := [], kwarg := none, defaults := [] }
def iB (q1 q2 q3 q4 : Pos) : List Stmt := [.Assign [.Attribute (.Name "self" q1) "house" q2] (.Name "house" q3) q4]
def iS : Scope := { kind := .function, names := [(PySem.Str.ofString "self", .local), (PySem.Str.ofString "house", .local)], isGenerator := false, isCoroutine := false, more := [] }
/-- what the written part says of the class at C (named cn), of its chain bm, and of its __init__, at fI -/
structure Txt (K : Frag) (mg : Str → Option Value) (cn ql : Str) (bm : List Value) (C fI : Addr) : Prop where
  gC : mg cn = some (.ref C)
  cls : ∃ nm q N bs sn sub ab col dd k0 k1 k2 k3 k5, K.lookup C = some (excClassObj nm q C N bs bm true sn sub ab col dd k0 k1 k2 k3 k5 "LookupError.__new__")
  mr : Mro "LookupError" bm
  sa : findIn K (.ref C) "__setattr__" = some (some (.builtin "object.__setattr__"))
  ga : findIn K (.ref C) "__getattribute__" = some (some (.builtin "BaseException.__getattribute__"))
  gg : findIn K (.ref C) "__getattr__" = some none
  noN : findIn K (.ref C) "house" = some none
  iC : findIn K (.ref C) "__init__" = some (some (.ref fI))
  tC : typeIn K (.ref fI) = some (.type "function")
  kC : keepIn K (.ref C) = true
  exC : subIn K (.ref C) (.type "BaseException") = some true
  tyC : typeIn K (.ref C) = some (.type "type")
  hdC : hasDictIn K C = true
  fn : ∃ (oc : Value) (od : Option Addr) (doc pm : Value) (an : Option Addr) (cdv ct : Value) (osl : Array (Option Value)) (p1 p2 q1 q2 q3 q4 : Pos),
    K.lookup fI = some ⟨oc, od, .func (fnOf "__init__" ql (iA p1 p2) (iB q1 q2 q3 q4) iS .none .none doc pm an cdv ct), osl⟩ ∧ codeIn K cdv ql = true
/-- what __init__ leaves of a fresh exception at x -/
structure InitEnd (h h' : Heap) (x C dx t1 : Addr) (v : Value) : Prop where
  keep : ∀ b o, b ≠ x → h.get? b = some o → h'.get? b = some o
  obj : h'.get? x = some { cls := .ref C, dict := some dx, data := .fields #[.ref t1, .none, .none, .none, .bool false, .none] }
  dbig : h.objs.size ≤ dx
  dne : dx ≠ x
  ns : h'.Ns1 dx (fun y => if y = "house" then some v else none)
structure OwnMade (h h' : Heap) (e C d : Addr) (v : Value) : Prop where
  keep : ∀ b o, h.get? b = some o → h'.get? b = some o
  new : h.objs.size ≤ e
  obj : ∃ oe vs, h'.get? e = some oe ∧ oe.cls = .ref C ∧ oe.dict = some d ∧ oe.data = .fields vs ∧ vs[1]? = some .none
  dbig : h.objs.size ≤ d
  dne : d ≠ e
  ns : h'.Ns1 d (fun y => if y = "house" then some v else none)
section
variable {prog : Program} {w : World} {A : Around} {E : Value → Shared → Prop} {R : Result → Shared → Prop} {s : Shared} {K : Frag} {mg : Str → Option Value} {cn ql : Str} {bm : List Value} {C fI : Addr}
theorem init (T : Txt K mg cn ql bm C fI) {x t0 : Addr} {v : Value} (X : K.In s.heap) (hlim : s.heap.NoLimit) (hx : s.heap.get? x = some (excO C t0)) (hnx : K.lookup x = none) (hroom : A.depth < recursionLimit)
    (hq : ∀ h' tk dx, InitEnd s.heap h' x C dx t0 v → R (.ok (.ret .none)) { s with heap := h', toks := tk }) :
    codeAny (model prog w) A (.call (.ref fI) ⟨[.ref x, v], []⟩) R s := by
  obtain ⟨oc, od, doc, pm, an, cdv, ct, osl, p1, p2, q1, q2, q3, q4, ho, hcd⟩ := T.fn
  obtain ⟨nm, q, N, bs, sn, sub, ab, col, dd, k0, k1, k2, k3, k5, hC⟩ := T.cls
  have hcl : clsIn K C = some { name := nm, bases := bs, mro := .ref C :: bm, ns := N, qualname := q, hasDict := true, slotNames := sn, subclasses := sub, abstract := ab, collection := col, hasDel := false } := by unfold clsIn; rw [hC] <;> rfl
  refine Att.call_fn (binds := [("self", .ref x), ("house", v)]) X hlim ho hcd hroom (BindsTo.of_eq (by first | rfl | with_unfolding_all rfl)) (by first | rfl | decide | with_unfolding_all rfl) (fun s₁ IC => ?_) rfl rfl rfl
  obtain ⟨h₁, tk₁, rfl⟩ := IC.toInCall.same
  have k : ∀ b o, s.heap.get? b = some o → h₁.get? b = some o := IC.toInCall.keep
  have hn := IC.toInCall.ns
  have X₁ : K.In h₁ := X.keeps k
  have hx₁ := k _ _ hx
  show wpAny _ _ (execs _ _) _ _ _
  refine wpAny_execs_cons (plainObj_wpAny_Assign_Attribute ?_)
  refine ldE (v := v) hn (by first | rfl | with_unfolding_all rfl | kernel_rfl) (ldE (v := .ref x) hn (by first | rfl | with_unfolding_all rfl | kernel_rfl) ?_)
  refine set_plain X₁ (ox := excO C t0) (od := none) ⟨hx₁, rfl, rfl, trivial⟩ T.sa ?_
  refine exc_osaG X₁ hx₁ hcl rfl T.mr rfl T.noN (fun h₃ tk₃ dx k₃ dn dne hx₃ hn₃ => ?_)
  show wpAny _ _ (execs _ _) _ _ _
  have z : s.heap.objs.size < h₁.objs.size := hn.lt
  exact wpAny_execs_nil (hq h₃ tk₃ dx ⟨fun b o hb e => k₃ b o hb (k b o e), hx₃, Nat.le_of_lt (Nat.lt_of_lt_of_le z dn), dne, hn₃⟩)
theorem made (T : Txt K mg cn ql bm C fI) {v : Value} (X : K.In s.heap) (hlim : s.heap.NoLimit) (hroom : A.depth + 1 < recursionLimit)
    (hq : ∀ h' tk e d, OwnMade s.heap h' e C d v → R (.ok (.ret (.ref e))) { s with heap := h', toks := tk }) :
    codeAny (model prog w) A (.call (.ref C) ⟨[v], []⟩) R s := by
  obtain ⟨nm, q, N, bs, sn, sub, ab, col, dd, k0, k1, k2, k3, k5, hC⟩ := T.cls
  obtain ⟨hp, g, dr, tk, os⟩ := s
  have k : ∀ b o, hp.get? b = some o → ((hp.push (kdv_tup [v])).push (excO C hp.objs.size)).get? b = some o := fun b o e => Heap.get?_push_of_some _ (Heap.get?_push_of_some _ e)
  have hget : ((hp.push (kdv_tup [v])).push (excO C hp.objs.size)).get? (hp.objs.size + 1) = some (excO C hp.objs.size) := by heap_get
  have hnx : K.lookup (hp.objs.size + 1) = none := by
    cases e : K.lookup (hp.objs.size + 1) with
    | none => rfl
    | some o =>
      have z : hp.get? (hp.objs.size + 1) = some o := X _ _ e
      exact absurd (Nat.lt_of_succ_lt (Heap.lt_size z)) (Nat.lt_irrefl _)
  refine call_ownG F.excBase_LookupError T.mr (X _ _ hC) (looks_findIn X T.iC) (fun self => bind_fn X self T.tC) (one_le v) ?_
  refine init (s := ⟨(hp.push (kdv_tup [v])).push (excO C hp.objs.size), g, dr, tk, os⟩) T (X.keeps k) (hlim.keeps k) hget hnx ?_ fun h' tk' dx ⟨k', hx, dn, dne, hns⟩ => ?_
  · show A.depth + 1 < recursionLimit
    exact hroom
  · have old : ∀ b o, hp.get? b = some o → h'.get? b = some o := fun b o e => k' b o (Nat.ne_of_lt (Nat.lt_succ_of_lt (Heap.lt_size e))) (k b o e)
    have z : hp.objs.size + 1 + 1 ≤ dx := by
      first
        | (simpa only [Heap.size_push] using dn)
        | exact dn
        | (have q := dn; rw [Heap.size_push, Heap.size_push] at q; exact q)
    exact ⟨rfl, hq h' tk' (hp.objs.size + 1) dx ⟨old, Nat.le_succ _, ⟨_, _, hx, rfl, rfl, rfl, rfl⟩, Nat.le_trans (Nat.le_trans (Nat.le_succ _) (Nat.le_succ _)) z, dne, hns⟩⟩
end
end LHouse
end K1
namespace K1
open PySem PySem.Spec PyProof.Rows L2
section
variable {X : Cx} {cn ql : Str} {bm : List Value} {C fI : Addr}
theorem pmk_LHouse {a : Expr} {ta : TA} {p pos : Pos} {k : Nat} (T : LHouse.Txt X.K X.mg cn ql bm C fI) (hr : Room k X.A) (ha : PA X [a] ta) (hg : Gl X cn := by rfl)
    (he : starEach (a :: []) X.env = (false, eval a X.env) :: starEach [] X.env := by rfl) (hpl : (backTo pos (starEach [] X.env)).any (·.1) = false := by rfl) (hdb : (cn == ("__debug__" : Str)) = false := by decide) :
    PMk X (.Call (.Name cn p) [a] [] pos) (tMkF "house" C ta) := by
  intro pins s σ H Q I h
  refine wpAny_Call_Name_kw (ld_glob I hg T.gC ?_ hdb)
  refine PySem.W.callWith_K (h₀ := X.base) I.ok.mod.kin T.kC (thn (ha.run pos pins s σ H _ I h) fun us s1 hh => ?_) he hpl
  obtain ⟨vs, H1, I1, r1, v, ev, q1⟩ := hh
  subst ev
  refine ⟨I1.kIn, ?_⟩
  cases r1 with
  | cons rv rn =>
    rename_i v' us'
    cases rn
    show wpAny _ _ (call (.ref C) [v']) _ _ _
    have hlim := I1.nolimit
    obtain ⟨hp, g, dr, tk, os⟩ := s1
    refine wpAny_call (LHouse.made T I1.kIn hlim (by have := hr.dp; omega) fun h' tk' e d M => ?_)
    show MkP X pins σ Q (.ref e) ⟨h', g, dr, tk', os⟩
    obtain ⟨oe, fv, hoe, hc, hd, hdat, h1⟩ := M.obj
    have hns := M.ns
    obtain ⟨G', g1, g2⟩ := restrict h' fun b => decide (b ≠ e)
    have gk : ∀ b, b ≠ e → G'.get? b = h'.get? b := fun b hb => g1 b (decide_eq_true hb)
    have ge : G'.get? e = none := g2 e (by simp)
    have old : ∀ b o, hp.get? b = some o → G'.get? b = some o := fun b o q => (gk b (Nat.ne_of_lt (Nat.lt_of_lt_of_le (Heap.lt_size q) M.new))).trans (M.keep b o q)
    have ob : ObjOk X.prog X.w (upd H1 d (.xd [(("house" : Str), v)])) G' d (.xd [(("house" : Str), v)]) :=
      ⟨_, hns.at (fun o q => (gk d M.dne).trans q), fun f => relO_one rv f⟩
    have J : Inv X pins σ (upd H1 d (.xd [(("house" : Str), v)])) ⟨G', g, dr, tk', os⟩ := I1.laid (t' := tk') old M.dbig ob
    refine ⟨e, oe, fv, ⟨G', g, dr, tk', os⟩, _, .ref C, some d, rfl, J, fun b o q => ?_, ge, hoe, ⟨hc, hd⟩, hdat, h1, ?_, rfl, I1.bare, raises_own T.exC T.tyC, q1 d (I1.hok.fresh M.dbig)⟩
    · by_cases hb : b = e
      · have q' : G'.get? b = some o := q
        rw [hb, ge] at q'; cases q'
      · exact (gk b hb).symm.trans q
    · rw [upd_ne (Ne.symm M.dne)]
      exact I1.hok.fresh M.new
theorem ps_raise_LHouse {a : Expr} {ta : TA} {W : WX} {p pos pos2 : Pos} {k : Nat} (hc : X.calm = true) (T : LHouse.Txt X.K X.mg cn ql bm C fI) (hr : Room k X.A) (tk : Takes X W) (ha : PA X [a] ta) (hg : Gl X cn := by rfl)
    (he : starEach (a :: []) X.env = (false, eval a X.env) :: starEach [] X.env := by rfl) (hpl : (backTo pos (starEach [] X.env)).any (·.1) = false := by rfl) (hdb : (cn == ("__debug__" : Str)) = false := by decide) :
    PS X (.Raise (some (.Call (.Name cn p) [a] [] pos)) none pos2) (tRaiseF "house" C W ta) := ps_raise hc tk (pmk_LHouse T hr ha hg he hpl hdb)
theorem pe_by_LHouse {a : Addr} {oe : Obj} {cls : Value} {d : Option Addr} {pn : List (Addr × Obj)} {e : Expr} {te : TE} {pos : Pos} (T : LHouse.Txt X.K X.mg cn ql bm C fI) (hz : Zc cls d oe) (hf : ∃ vs, oe.data = .fields vs) (he : PE (X.suite a ((a, oe) :: pn)) e te)
    (hb : attributeBase e "house" X.env (eval e X.env) = eval e X.env := by rfl) :
    PE (X.suite a ((a, oe) :: pn)) (.Attribute e "house" pos) (tByF "house" C a cls d te) := by
  refine ⟨fun pins s σ H Q I h => ?_⟩
  refine attr_of hb (thn (he.run pins s σ H _ I h) fun u s1 hh => ?_)
  obtain ⟨x, H1, I1, rx, ex, ec, dd, v, ed, ea, q⟩ := hh
  subst ex
  obtain rfl : u = Value.ref a := rx
  subst ec
  subst ed
  obtain ⟨ha, _⟩ := I1.pin (a, oe) (List.mem_append_left _ List.mem_cons_self)
  obtain ⟨vs, hd⟩ := hf
  have hx : ObjOk X.prog X.w H1 s1.heap dd (.xd [(("house" : Str), v)]) := I1.hok dd _ ea
  obtain ⟨mA, hns, hr⟩ := hx
  obtain ⟨od, ho, hl⟩ := lookIn_ns hns
  have l : List.lookup ("house" : Str) [(("house" : Str), v)] = some v := by simp [List.lookup]
  obtain ⟨u, hu, ru⟩ := RelO.some_of (v := v) (o := mA "house") (by rw [← l]; exact hr "house")
  have J : PySem.W.InstAt s1.heap a oe C (some od) := ⟨ha, hz.1, by unfold PySem.W.notCls; rw [hd] <;> rfl, by rw [hz.2]; exact ho⟩
  exact HandSPX.exc_get I1.kIn J T.ga T.gg T.exC (PySem.W.findObj_own T.hdC T.noN rfl (by rw [hl, hu])) (handed_of ru) ⟨v, H1, I1.tok _, ru, q⟩
end
end K1

namespace K1
namespace LTie
open PySem PySem.W PySem.Calls PyProof.Rows PySem.HandSPX
/-- the text of __init__ -/
def iA (p1 p2 : Pos) : Arguments := { posonlyargs := [], args := [{ arg := "self", annotation := none, pos := p1 }, { arg := "tie", annotation := none, pos := p2 }], vararg := none, kwonlyargs := [], kw_defaults := [], kwarg := none, defaults := [] }
def iB (q1 q2 q3 q4 : Pos) : List Stmt := [.Assign [.Attribute (.Name "self" q1) "tie" q2] (.Name "tie" q3) q4]
def iS : Scope := { kind := .function, names := [(PySem.Str.ofString "self", .local), (PySem.Str.ofString "tie", .local)], isGenerator := false, isCoroutine := false, more := [] }
/-- what the written part says of the class at C (named cn), of its chain bm, and of its __init__, at fI -/
structure Txt (K : Frag) (mg : Str → Option Value) (cn ql : Str) (bm : List Value) (C fI : Addr) : Prop where
  gC : mg cn = some (.ref C)
  cls : ∃ nm q N bs sn sub ab col dd k0 k1 k2 k3 k5, K.lookup C = some (excClassObj nm q C N bs bm true sn sub ab col dd k0 k1 k2 k3 k5 "LookupError.__new__")
  mr : Mro "LookupError" bm
  sa : findIn K (.ref C) "__setattr__" = some (some (.builtin "object.__setattr__"))
  ga : findIn K (.ref C) "__getattribute__" = some (some (.builtin "BaseException.__getattribute__"))
  gg : findIn K (.ref C) "__getattr__" = some none
  noN : findIn K (.ref C) "tie" = some none
  iC : findIn K (.ref C) "__init__" = some (some (.ref fI))
  tC : typeIn K (.ref fI) = some (.type "function")
  kC : keepIn K (.ref C) = true
  exC : subIn K (.ref C) (.type "BaseException") = some true
  tyC : typeIn K (.ref C) = some (.type "type")
  hdC : hasDictIn K C = true
  fn : ∃ (oc : Value) (od : Option Addr) (doc pm : Value) (an : Option Addr) (cdv ct : Value) (osl : Array (Option Value)) (p1 p2 q1 q2 q3 q4 : Pos),
    K.lookup fI = some ⟨oc, od, .func (fnOf "__init__" ql (iA p1 p2) (iB q1 q2 q3 q4) iS .none .none doc pm an cdv ct), osl⟩ ∧ codeIn K cdv ql = true
/-- what __init__ leaves of a fresh exception at x -/
structure InitEnd (h h' : Heap) (x C dx t1 : Addr) (v : Value) : Prop where
  keep : ∀ b o, b ≠ x → h.get? b = some o → h'.get? b = some o
  obj : h'.get? x = some { cls := .ref C, dict := some dx, data := .fields #[.ref t1, .none, .none, .none, .bool false, .none] }
  dbig : h.objs.size ≤ dx
  dne : dx ≠ x
  ns : h'.Ns1 dx (fun y => if y = "tie" then some v else none)
structure OwnMade (h h' : Heap) (e C d : Addr) (v : Value) : Prop where
  keep : ∀ b o, h.get? b = some o → h'.get? b = some o
  new : h.objs.size ≤ e
  obj : ∃ oe vs, h'.get? e = some oe ∧ oe.cls = .ref C ∧ oe.dict = some d ∧ oe.data = .fields vs ∧ vs[1]? = some .none
  dbig : h.objs.size ≤ d
  dne : d ≠ e
  ns : h'.Ns1 d (fun y => if y = "tie" then some v else none)
section
variable {prog : Program} {w : World} {A : Around} {E : Value → Shared → Prop} {R : Result → Shared → Prop} {s : Shared} {K : Frag} {mg : Str → Option Value} {cn ql : Str} {bm : List Value} {C fI : Addr}
theorem init (T : Txt K mg cn ql bm C fI) {x t0 : Addr} {v : Value} (X : K.In s.heap) (hlim : s.heap.NoLimit) (hx : s.heap.get? x = some (excO C t0)) (hnx : K.lookup x = none) (hroom : A.depth < recursionLimit)
    (hq : ∀ h' tk dx, InitEnd s.heap h' x C dx t0 v → R (.ok (.ret .none)) { s with heap := h', toks := tk }) :
    codeAny (model prog w) A (.call (.ref fI) ⟨[.ref x, v], []⟩) R s := by
  obtain ⟨oc, od, doc, pm, an, cdv, ct, osl, p1, p2, q1, q2, q3, q4, ho, hcd⟩ := T.fn
  obtain ⟨nm, q, N, bs, sn, sub, ab, col, dd, k0, k1, k2, k3, k5, hC⟩ := T.cls
  have hcl : clsIn K C = some { name := nm, bases := bs, mro := .ref C :: bm, ns := N, qualname := q, hasDict := true, slotNames := sn, subclasses := sub, abstract := ab, collection := col, hasDel := false } := by unfold clsIn; rw [hC] <;> rfl
  refine Att.call_fn (binds := [("self", .ref x), ("tie", v)]) X hlim ho hcd hroom (BindsTo.of_eq (by first | rfl | with_unfolding_all rfl)) (by first | rfl | decide | with_unfolding_all rfl) (fun s₁ IC => ?_) rfl rfl rfl
  obtain ⟨h₁, tk₁, rfl⟩ := IC.toInCall.same
  have k : ∀ b o, s.heap.get? b = some o → h₁.get? b = some o := IC.toInCall.keep
  have hn := IC.toInCall.ns
  have X₁ : K.In h₁ := X.keeps k
  have hx₁ := k _ _ hx
  show wpAny _ _ (execs _ _) _ _ _
  refine wpAny_execs_cons (plainObj_wpAny_Assign_Attribute ?_)
  refine ldE (v := v) hn (by first | rfl | with_unfolding_all rfl | kernel_rfl) (ldE (v := .ref x) hn (by first | rfl | with_unfolding_all rfl | kernel_rfl) ?_)
  refine set_plain X₁ (ox := excO C t0) (od := none) ⟨hx₁, rfl, rfl, trivial⟩ T.sa ?_
  refine exc_osaG X₁ hx₁ hcl rfl T.mr rfl T.noN (fun h₃ tk₃ dx k₃ dn dne hx₃ hn₃ => ?_)
  show wpAny _ _ (execs _ _) _ _ _
  have z : s.heap.objs.size < h₁.objs.size := hn.lt
  exact wpAny_execs_nil (hq h₃ tk₃ dx ⟨fun b o hb e => k₃ b o hb (k b o e), hx₃, Nat.le_of_lt (Nat.lt_of_lt_of_le z dn), dne, hn₃⟩)
theorem made (T : Txt K mg cn ql bm C fI) {v : Value} (X : K.In s.heap) (hlim : s.heap.NoLimit) (hroom : A.depth + 1 < recursionLimit)
    (hq : ∀ h' tk e d, OwnMade s.heap h' e C d v → R (.ok (.ret (.ref e))) { s with heap := h', toks := tk }) :
    codeAny (model prog w) A (.call (.ref C) ⟨[v], []⟩) R s := by
  obtain ⟨nm, q, N, bs, sn, sub, ab, col, dd, k0, k1, k2, k3, k5, hC⟩ := T.cls
  obtain ⟨hp, g, dr, tk, os⟩ := s
  have k : ∀ b o, hp.get? b = some o → ((hp.push (kdv_tup [v])).push (excO C hp.objs.size)).get? b = some o := fun b o e => Heap.get?_push_of_some _ (Heap.get?_push_of_some _ e)
  have hget : ((hp.push (kdv_tup [v])).push (excO C hp.objs.size)).get? (hp.objs.size + 1) = some (excO C hp.objs.size) := by heap_get
  have hnx : K.lookup (hp.objs.size + 1) = none := by
    cases e : K.lookup (hp.objs.size + 1) with
    | none => rfl
    | some o =>
      have z : hp.get? (hp.objs.size + 1) = some o := X _ _ e
      exact absurd (Nat.lt_of_succ_lt (Heap.lt_size z)) (Nat.lt_irrefl _)
  refine call_ownG F.excBase_LookupError T.mr (X _ _ hC) (looks_findIn X T.iC) (fun self => bind_fn X self T.tC) (one_le v) ?_
  refine init (s := ⟨(hp.push (kdv_tup [v])).push (excO C hp.objs.size), g, dr, tk, os⟩) T (X.keeps k) (hlim.keeps k) hget hnx ?_ fun h' tk' dx ⟨k', hx, dn, dne, hns⟩ => ?_
  · show A.depth + 1 < recursionLimit
    exact hroom
  · have old : ∀ b o, hp.get? b = some o → h'.get? b = some o := fun b o e => k' b o (Nat.ne_of_lt (Nat.lt_succ_of_lt (Heap.lt_size e))) (k b o e)
    have z : hp.objs.size + 1 + 1 ≤ dx := by
      first
        | (simpa only [Heap.size_push] using dn)
        | exact dn
        | (have q := dn; rw [Heap.size_push, Heap.size_push] at q; exact q)
    exact ⟨rfl, hq h' tk' (hp.objs.size + 1) dx ⟨old, Nat.le_succ _, ⟨_, _, hx, rfl, rfl, rfl, rfl⟩, Nat.le_trans (Nat.le_trans (Nat.le_succ _) (Nat.le_succ _)) z, dne, hns⟩⟩
end
end LTie
end K1
namespace K1
open PySem PySem.Spec PyProof.Rows L2
section
variable {X : Cx} {cn ql : Str} {bm : List Value} {C fI : Addr}
theorem pmk_LTie {a : Expr} {ta : TA} {p pos : Pos} {k : Nat} (T : LTie.Txt X.K X.mg cn ql bm C fI) (hr : Room k X.A) (ha : PA X [a] ta) (hg : Gl X cn := by rfl)
    (he : starEach (a :: []) X.env = (false, eval a X.env) :: starEach [] X.env := by rfl) (hpl : (backTo pos (starEach [] X.env)).any (·.1) = false := by rfl) (hdb : (cn == ("__debug__" : Str)) = false := by decide) :
    PMk X (.Call (.Name cn p) [a] [] pos) (tMkF "tie" C ta) := by
  intro pins s σ H Q I h
  refine wpAny_Call_Name_kw (ld_glob I hg T.gC ?_ hdb)
  refine PySem.W.callWith_K (h₀ := X.base) I.ok.mod.kin T.kC (thn (ha.run pos pins s σ H _ I h) fun us s1 hh => ?_) he hpl
  obtain ⟨vs, H1, I1, r1, v, ev, q1⟩ := hh
  subst ev
  refine ⟨I1.kIn, ?_⟩
  cases r1 with
  | cons rv rn =>
    rename_i v' us'
    cases rn
    show wpAny _ _ (call (.ref C) [v']) _ _ _
    have hlim := I1.nolimit
    obtain ⟨hp, g, dr, tk, os⟩ := s1
    refine wpAny_call (LTie.made T I1.kIn hlim (by have := hr.dp; omega) fun h' tk' e d M => ?_)
    show MkP X pins σ Q (.ref e) ⟨h', g, dr, tk', os⟩
    obtain ⟨oe, fv, hoe, hc, hd, hdat, h1⟩ := M.obj
    have hns := M.ns
    obtain ⟨G', g1, g2⟩ := restrict h' fun b => decide (b ≠ e)
    have gk : ∀ b, b ≠ e → G'.get? b = h'.get? b := fun b hb => g1 b (decide_eq_true hb)
    have ge : G'.get? e = none := g2 e (by simp)
    have old : ∀ b o, hp.get? b = some o → G'.get? b = some o := fun b o q => (gk b (Nat.ne_of_lt (Nat.lt_of_lt_of_le (Heap.lt_size q) M.new))).trans (M.keep b o q)
    have ob : ObjOk X.prog X.w (upd H1 d (.xd [(("tie" : Str), v)])) G' d (.xd [(("tie" : Str), v)]) :=
      ⟨_, hns.at (fun o q => (gk d M.dne).trans q), fun f => relO_one rv f⟩
    have J : Inv X pins σ (upd H1 d (.xd [(("tie" : Str), v)])) ⟨G', g, dr, tk', os⟩ := I1.laid (t' := tk') old M.dbig ob
    refine ⟨e, oe, fv, ⟨G', g, dr, tk', os⟩, _, .ref C, some d, rfl, J, fun b o q => ?_, ge, hoe, ⟨hc, hd⟩, hdat, h1, ?_, rfl, I1.bare, raises_own T.exC T.tyC, q1 d (I1.hok.fresh M.dbig)⟩
    · by_cases hb : b = e
      · have q' : G'.get? b = some o := q
        rw [hb, ge] at q'; cases q'
      · exact (gk b hb).symm.trans q
    · rw [upd_ne (Ne.symm M.dne)]
      exact I1.hok.fresh M.new
theorem ps_raise_LTie {a : Expr} {ta : TA} {W : WX} {p pos pos2 : Pos} {k : Nat} (hc : X.calm = true) (T : LTie.Txt X.K X.mg cn ql bm C fI) (hr : Room k X.A) (tk : Takes X W) (ha : PA X [a] ta) (hg : Gl X cn := by rfl)
    (he : starEach (a :: []) X.env = (false, eval a X.env) :: starEach [] X.env := by rfl) (hpl : (backTo pos (starEach [] X.env)).any (·.1) = false := by rfl) (hdb : (cn == ("__debug__" : Str)) = false := by decide) :
    PS X (.Raise (some (.Call (.Name cn p) [a] [] pos)) none pos2) (tRaiseF "tie" C W ta) := ps_raise hc tk (pmk_LTie T hr ha hg he hpl hdb)
theorem pe_by_LTie {a : Addr} {oe : Obj} {cls : Value} {d : Option Addr} {pn : List (Addr × Obj)} {e : Expr} {te : TE} {pos : Pos} (T : LTie.Txt X.K X.mg cn ql bm C fI) (hz : Zc cls d oe) (hf : ∃ vs, oe.data = .fields vs) (he : PE (X.suite a ((a, oe) :: pn)) e te)
    (hb : attributeBase e "tie" X.env (eval e X.env) = eval e X.env := by rfl) :
    PE (X.suite a ((a, oe) :: pn)) (.Attribute e "tie" pos) (tByF "tie" C a cls d te) := by
  refine ⟨fun pins s σ H Q I h => ?_⟩
  refine attr_of hb (thn (he.run pins s σ H _ I h) fun u s1 hh => ?_)
  obtain ⟨x, H1, I1, rx, ex, ec, dd, v, ed, ea, q⟩ := hh
  subst ex
  obtain rfl : u = Value.ref a := rx
  subst ec
  subst ed
  obtain ⟨ha, _⟩ := I1.pin (a, oe) (List.mem_append_left _ List.mem_cons_self)
  obtain ⟨vs, hd⟩ := hf
  have hx : ObjOk X.prog X.w H1 s1.heap dd (.xd [(("tie" : Str), v)]) := I1.hok dd _ ea
  obtain ⟨mA, hns, hr⟩ := hx
  obtain ⟨od, ho, hl⟩ := lookIn_ns hns
  have l : List.lookup ("tie" : Str) [(("tie" : Str), v)] = some v := by simp [List.lookup]
  obtain ⟨u, hu, ru⟩ := RelO.some_of (v := v) (o := mA "tie") (by rw [← l]; exact hr "tie")
  have J : PySem.W.InstAt s1.heap a oe C (some od) := ⟨ha, hz.1, by unfold PySem.W.notCls; rw [hd] <;> rfl, by rw [hz.2]; exact ho⟩
  exact HandSPX.exc_get I1.kIn J T.ga T.gg T.exC (PySem.W.findObj_own T.hdC T.noN rfl (by rw [hl, hu])) (handed_of ru) ⟨v, H1, I1.tok _, ru, q⟩
end
end K1
/-! enumerate over a tuple, repr of data of any depth, isinstance of a held exception -/
namespace K1
open PySem PySem.Spec PyProof.Rows L2
theorem meets_enum1 {v : Value} {o : Obj} {H : Heap → Prop} (B : Begins v o H) :
    Meets (Builtin.«enumerate.__new__» ⟨[.type "enumerate", v], []⟩) (fun _ R s => H s.heap ∧
      R (.ok (.ret (.ref (s.heap.push o).objs.size))) { s with heap := (s.heap.push o).push { cls := .type "enumerate", data := .fields #[.none, .bool false, .ref s.heap.objs.size, rawInt 0, .none, .none] } }) :=
  .of_wp fun prog w A R s h => by
    obtain ⟨hp, g, d, tk, os⟩ := s
    obtain ⟨h1, h⟩ := h
    have hsub := sub_enumerate
    have q1 : ∀ {A' : Around} {E : Value → Shared → Prop} {Q : Value → Shared → Prop}, Q (.ref hp.objs.size) ⟨hp.push o, g, d, tk, os⟩ → wpAny (model prog w) A' (pyIter v) Q E ⟨hp, g, d, tk, os⟩ :=
      fun q => B.iter prog w _ _ ⟨hp, g, d, tk, os⟩ _ h1 q
    wp_walk using q1
    refine wpAny_stack_any fun st => wpAny_pure ?_
    split
    · rename_i c _ _ _ _ _
      cases (c == Value.type "enumerate") <;> (wp_walk using q1; exact ⟨_, rfl, h⟩)
    · wp_walk using q1
      exact ⟨_, rfl, h⟩
theorem enum_begins1 {prog : Program} {w : World} {A : Around} {E : Value → Shared → Prop} {s : Shared} {v : Value} {o : Obj} {H : Heap → Prop} {Q : Value → Shared → Prop} (B : Begins v o H) (h1 : H s.heap)
    (h : ∀ h', IsEnum h' (s.heap.objs.size + 1) s.heap.objs.size 0 .none → h'.get? s.heap.objs.size = some o → h'.objs.size = s.heap.objs.size + 2 →
      (∀ b o, s.heap.get? b = some o → h'.get? b = some o) → Q (.ref (s.heap.objs.size + 1)) { s with heap := h' }) :
    wpAny (model prog w) A (call (.type "enumerate") [v]) Q E s := by
  refine callType_new F.called_enumerate (by decide) (F.typeCall_enumerate_1 _) (F.newCall_enumerate_1 _) (fun obj => F.args_object_init_2 obj _) F.entry_enumerate_new (meets_enum1 B) ⟨h1, ?_⟩
  have hz : (s.heap.push o).objs.size = s.heap.objs.size + 1 := Heap.size_push ..
  show _ ∧ _
  rw [hz]
  have he := Heap.get?_push_size (s.heap.push o) (o := { cls := .type "enumerate", data := .fields #[.none, .bool false, .ref s.heap.objs.size, rawInt 0, .none, .none] }) rfl
  rw [hz] at he
  exact ⟨⟨_, he, rfl⟩, h _ he (Heap.get?_push_of_some _ (Heap.get?_push_size _ B.free)) (by rw [Heap.size_push, hz]) fun b o x => Heap.get?_push_of_some _ (Heap.get?_push_of_some _ x)⟩
/-- the tuple at a, each item in a new pair -/
def IteT (K : PySem.W.Frag) (a : Addr) : It :=
  ⟨fun i H => ∃ (xs : List V) (x : V), SqT K H a xs ∧ xs[i]? = some x, fun i H v H' => ∃ T x, v = .ref T ∧ H T = none ∧ H' = upd H T (.tup [.int (i : Nat), x]) ∧ ∀ xs, SqT K H a xs → xs[i]? = some x, fun i H => ∃ xs : List V, SqT K H a xs ∧ xs.length ≤ i⟩
theorem turn_enumT {P : Program} {w : World} {K : PySem.W.Frag} {elts : List Expr} {kk : Nat} {tpos : Pos} (a e it : Addr) :
    Turn P w K (.Tuple elts kk tpos) (IteT K a) [e, it] e (fun i h => (∃ old, IsEnum h e it ((i : Nat) : Int) old) ∧ h.IsTupleIter it a i ∧ e ≠ it ∧ e ≠ a ∧ a ≠ it) where
  mem := by simp
  obj := fun i h st b hb => by
    obtain ⟨⟨old, he⟩, ⟨o, ho, hc, hd⟩, _⟩ := st
    rcases (show b = e ∨ b = it by simpa using hb) with z | z
    · rw [z]; exact ⟨_, he, fun v q => nomatch q⟩
    · rw [z]; exact ⟨o, ho, fun v q => by rw [hd] at q; cases q⟩
  keep := fun i h h' st k => let ⟨⟨old, he⟩, hi, hne⟩ := st; ⟨⟨old, k e (by simp) _ he⟩, hi.at fun o q => k it (by simp) o q, hne⟩
  item := by
    intro X hP hw hK hc i pins s σ H E I hf st hg
    subst hP hw hK
    obtain ⟨⟨old, he⟩, hit, hne, nea, nai⟩ := st
    obtain ⟨xs, x, hq, hx⟩ := hg
    obtain ⟨its, rv, p, hz⟩ := I.tuple hq
    obtain ⟨u, hu, ru⟩ := rv.get hx
    have hil' := (List.getElem?_eq_some_iff.mp hu).1
    have hel : e < s.heap.objs.size := Heap.lt_size he
    have hil : it < s.heap.objs.size := by obtain ⟨_, q, _⟩ := hit; exact Heap.lt_size q
    have D := Draws.tuple (prog := X.prog) (w := X.w) (A := X.A.in1) (show X.A.in1.handled = none from I.ok.hd hc) it a nai its.toArray
    refine wpAny_pyNext_enum_itemD D he ⟨hit, (show s.heap.IsTuple a its.toArray from p)⟩ (by simpa using hil') hne (by simp [hne, nea]) fun y h' tk hy ho hst hT hsz hk => ?_
    have ey : y = u := by
      have z : its[i]? = some y := by simpa using hy
      rw [hu] at z
      exact (Option.some.inj z).symm
    subst ey
    refine ⟨_, rfl, wpAny_letOwnedTupleGo_enum (s := { s with heap := h', toks := tk + 1 }) ho fun h'' he' sb => ?_⟩
    have hT2 : h''.get? s.heap.objs.size = some { cls := .type "tuple", data := .seq #[.int i tk, y] } := (sb.2 _ (Nat.ne_of_gt hel)).trans hT
    have new : ObjOk X.prog X.w (upd H s.heap.objs.size (.tup [.int (i : Nat), x])) h'' s.heap.objs.size (.tup [.int (i : Nat), x]) :=
      ⟨by show 2 ≤ sizeLine; decide, [.int i tk, y], .cons ⟨_, rfl⟩ (.cons ru .nil), ⟨_, hT2, rfl, _, rfl⟩⟩
    have I1 : Inv X pins σ (upd H s.heap.objs.size (.tup [.int (i : Nat), x])) { s with heap := h'', toks := tk + 1 } :=
      I.turnedNew (ch := [e, it]) (fun b ob hb q => (sb.2 b (fun z => hb (by simp [z]))).trans (hk b ob (fun z => hb (by simp [z])) (fun z => hb (by simp [z])) q)) hf (Nat.le_refl _) new
    refine ⟨.ref s.heap.objs.size, _, I1, rfl, ⟨_, x, rfl, I.hok.fresh (Nat.le_refl _), rfl, fun ys hy => by rw [I.tuple_inj hy hq]; exact hx⟩, ⟨⟨y, ?_⟩, hst.1.at fun o q => (sb.2 it (Ne.symm hne)).trans q, hne, nea, nai⟩, fun b hb => ?_⟩
    · have e1 : ((i + 1 : Nat) : Int) = (i : Int) + 1 := by omega
      rw [e1]; exact he'
    · have hb' : b < s.heap.objs.size := by
        rcases (show b = e ∨ b = it by simpa using hb) with z | z
        · rw [z]; exact hel
        · rw [z]; exact hil
      rw [upd_ne (Nat.ne_of_lt hb')]
      exact (hf b hb).1
  done := by
    intro X hP hw hK hc i pins s σ H E I hf st hg
    subst hP hw hK
    obtain ⟨⟨old, he⟩, hit, hne, nea, nai⟩ := st
    obtain ⟨xs, hq, hx⟩ := hg
    obtain ⟨its, rv, p, hz⟩ := I.tuple hq
    obtain ⟨f0, f1, f2, f3, f4, f5⟩ := hf it (by simp)
    have hl := rv.length
    have hTs : s.TypeIs (.ref e) "enumerate" := ⟨_, he, rfl⟩
    unfold pyNext
    refine wpAny_bind (wpAny_attempt (wpAny_callSpecial?_slot (name := Str.ofString "__next__") hTs F.slot_enumerate_next
      (wpAny_call_entry F.slot_enumerate_next hTs F.entry_enumerate_next ?_ (F.args_enumerate_next_1 _))))
    show wpAny _ _ (field (.ref e) 2 >>= _) _ _ _
    refine wpAny_bind (wpAny_field he rfl (x := .ref it) rfl ?_)
    refine wpAny_bind (wpAny_nextOf_tuple_end (show X.A.in1.handled = none from I.ok.hd hc) hit (show s.heap.IsTuple a its.toArray from p) (by simp; omega) fun h' y eb hx' => ?_)
    obtain ⟨o, ho, hc'⟩ := hx'
    refine wpAny_bind (wpAny_isInstance (T := "StopIteration") (b := true) ⟨o, ho, hc'⟩ isSubtype_stop ?_)
    exact wpAny_pure ⟨rfl, I.turned (t' := s.toks) (fun b o hb q => eb b o hb q) f0 f1 f3 f4 f5⟩
  self := fun A i s Q E st h => let ⟨⟨_, he⟩, _⟩ := st; wpAny_pyIter_enum he h
def iEnumA (K : PySem.W.Frag) (ta : TA) : TI := fun σ H R => ta σ H fun vs H1 => ∃ a, vs = [.ref a] ∧ ((∃ xs, SqL K H1 a xs ∧ R (Ite K a) H1) ∨ (∃ xs, SqT K H1 a xs ∧ R (IteT K a) H1))
theorem pi_enumA {X : Cx} {e : Expr} {ta : TA} {p pos tpos : Pos} {elts : List Expr} {kk : Nat} (hg : Gl X "enumerate") (hm : X.mg "enumerate" = none) (ha : PA X [e] ta) (hs : starEach [e] X.env = [(false, eval e X.env)] := by rfl) :
    PI X (.Tuple elts kk tpos) (.Call (.Name "enumerate" p) [e] [] pos) (iEnumA X.K ta) := by
  refine ⟨fun pins s σ H R I h => ?_⟩
  refine Call_ (ld_blt I hg hm boot_enumerate (PyProof.Rows.callWith_type1 (thn (ha.run pos pins s σ H _ I h) fun us s1 ⟨vs, H1, I1, r1, q1⟩ => ?_) hs rfl))
  obtain ⟨a, ex, q⟩ := q1
  subst ex
  cases r1 with
  | cons r rr =>
    cases rr
    cases r
    have big : ∀ b ∈ [s1.heap.objs.size + 1, s1.heap.objs.size], s1.heap.objs.size ≤ b := fun b hb => by
      rcases (show b = s1.heap.objs.size + 1 ∨ b = s1.heap.objs.size by simpa using hb) with z | z
      · rw [z]; exact Nat.le_add_right _ _
      · rw [z]; exact Nat.le_refl _
    rcases q with ⟨xs, hq, q⟩ | ⟨xs, hq, q⟩
    · obtain ⟨its, rv, p', hz⟩ := I1.list hq
      refine call_enumerate_list p'.isList fun h' he hit hsz hk => wpAny_pyIter_enum he ?_
      have I2 : Inv X pins σ H1 { s1 with heap := h' } := I1.kept (t' := s1.toks) hk
      exact ⟨s1.heap.objs.size + 1, [s1.heap.objs.size + 1, s1.heap.objs.size], _, _, H1, rfl, I2, turn_enum a (s1.heap.objs.size + 1) s1.heap.objs.size, ⟨⟨.none, he⟩, hit, Nat.succ_ne_self _⟩, fun b hb => I1.fpOk (big b hb) (I1.hok.fresh (big b hb)), q⟩
    · obtain ⟨its, rv, p', hz⟩ := I1.tuple hq
      have hp : s1.heap.IsTuple a its.toArray := p'
      have hal : a < s1.heap.objs.size := by obtain ⟨_, q, _⟩ := hp; exact Heap.lt_size q
      refine enum_begins1 (begins_tuple a its.toArray) hp fun h' he hit hsz hk => wpAny_pyIter_enum he ?_
      have I2 : Inv X pins σ H1 { s1 with heap := h' } := I1.kept (t' := s1.toks) hk
      exact ⟨s1.heap.objs.size + 1, [s1.heap.objs.size + 1, s1.heap.objs.size], _, _, H1, rfl, I2, turn_enumT a (s1.heap.objs.size + 1) s1.heap.objs.size, ⟨⟨.none, he⟩, ⟨_, hit, rfl, rfl⟩, Nat.succ_ne_self _, Nat.ne_of_gt (Nat.lt_succ_of_lt hal), Nat.ne_of_lt hal⟩, fun b hb => I1.fpOk (big b hb) (I1.hok.fresh (big b hb)), q⟩
section
variable {K : PySem.W.Frag} {a : Addr} {xs : List V} {g : TG} {tb : TS} {D : Ends} {σ : L2.St} {H : Hp}
theorem for_enumL (Pv : Nat → L2.St → Hp → Prop) (h0 : Pv 0 σ H) (hl : ∀ i σ H, i ≤ xs.length → Pv i σ H → SqL K H a xs)
    (hs : ∀ i x T σ H, xs[i]? = some x → H T = none → Pv i σ H → g (.ref T) σ (upd H T (.tup [.int (i : Nat), x])) fun σ2 H2 => tb { D with nx := Pv (i + 1), ct := Pv (i + 1), bk := D.nx } σ2 H2) (hd : ∀ σ H, Pv xs.length σ H → D.nx σ H) :
    ∃ W : Nat → Nat → L2.St → Hp → Prop, (∃ m, W 0 m σ H) ∧ ∀ i m σ H, W i m σ H →
      ((Ite K a).stop i H ∧ D.nx σ H) ∨ ((Ite K a).go i H ∧ ∃ N : L2.St → Hp → Prop, (∀ σ' H', N σ' H' → ∃ m', m' < m ∧ W (i + 1) m' σ' H') ∧ ∀ x H', (Ite K a).yld i H x H' → g x σ H' fun σ2 H2 => tb { D with nx := N, ct := N, bk := D.nx } σ2 H2) := by
  refine ⟨fun i m σ H => m = xs.length - i ∧ i ≤ xs.length ∧ Pv i σ H, ⟨xs.length, by simp, Nat.zero_le _, h0⟩, ?_⟩
  rintro i m σ H ⟨rfl, hi, p⟩
  have q := hl i σ H hi p
  by_cases hlt : i < xs.length
  · refine .inr ⟨⟨xs, xs[i], q, by simp [hlt]⟩, Pv (i + 1), fun σ' H' p' => ⟨xs.length - (i + 1), by omega, rfl, hlt, p'⟩, fun x H' y => ?_⟩
    obtain ⟨T, x', e1, e2, e3, e4⟩ := y
    subst e1 e3
    exact hs i x' T σ H (e4 xs q) e2 p
  · have e : i = xs.length := by omega
    subst e
    exact .inl ⟨⟨xs, q, Nat.le_refl _⟩, hd σ H p⟩
theorem for_enumT (Pv : Nat → L2.St → Hp → Prop) (h0 : Pv 0 σ H) (hl : ∀ i σ H, i ≤ xs.length → Pv i σ H → SqT K H a xs)
    (hs : ∀ i x T σ H, xs[i]? = some x → H T = none → Pv i σ H → g (.ref T) σ (upd H T (.tup [.int (i : Nat), x])) fun σ2 H2 => tb { D with nx := Pv (i + 1), ct := Pv (i + 1), bk := D.nx } σ2 H2) (hd : ∀ σ H, Pv xs.length σ H → D.nx σ H) :
    ∃ W : Nat → Nat → L2.St → Hp → Prop, (∃ m, W 0 m σ H) ∧ ∀ i m σ H, W i m σ H →
      ((IteT K a).stop i H ∧ D.nx σ H) ∨ ((IteT K a).go i H ∧ ∃ N : L2.St → Hp → Prop, (∀ σ' H', N σ' H' → ∃ m', m' < m ∧ W (i + 1) m' σ' H') ∧ ∀ x H', (IteT K a).yld i H x H' → g x σ H' fun σ2 H2 => tb { D with nx := N, ct := N, bk := D.nx } σ2 H2) := by
  refine ⟨fun i m σ H => m = xs.length - i ∧ i ≤ xs.length ∧ Pv i σ H, ⟨xs.length, by simp, Nat.zero_le _, h0⟩, ?_⟩
  rintro i m σ H ⟨rfl, hi, p⟩
  have q := hl i σ H hi p
  by_cases hlt : i < xs.length
  · refine .inr ⟨⟨xs, xs[i], q, by simp [hlt]⟩, Pv (i + 1), fun σ' H' p' => ⟨xs.length - (i + 1), by omega, rfl, hlt, p'⟩, fun x H' y => ?_⟩
    obtain ⟨T, x', e1, e2, e3, e4⟩ := y
    subst e1 e3
    exact hs i x' T σ H (e4 xs q) e2 p
  · have e : i = xs.length := by omega
    subst e
    exact .inl ⟨⟨xs, q, Nat.le_refl _⟩, hd σ H p⟩
end
/-! ### repr -/
/-- repr of what is no object -/
def rReprS : List V → Hp → VK → Prop := fun xs H Q => ∃ v, xs = [v] ∧ ((v = .non ∧ Q (.str "None") H) ∨ (∃ b : Bool, v = .bl b ∧ Q (.str (if b then "True" else "False")) H) ∨ (∃ i : Int, v = .int i ∧ i.natAbs.log2 < 1920 ∧ Q (.str (toString i)) H) ∨
  ∃ x : Str, v = .str x ∧ (reprText x).length ≤ sizeLine ∧ Q (.str (reprText x)) H)
theorem call_reprS {X : Cx} : CallR X (.builtin "repr") rReprS := by
  intro pins s σ H xs us Q I r h
  obtain ⟨v, rfl, h⟩ := h
  obtain ⟨u, rfl, rv⟩ := vals1 r
  rcases h with ⟨rfl, q⟩ | ⟨b, rfl, q⟩ | ⟨i, rfl, hz, q⟩ | ⟨x, rfl, hz, q⟩
  · cases rv
    exact PySem.P.repr_of_none ⟨.str _, H, I.tok _, ⟨_, rfl⟩, q⟩
  · cases rv
    exact PySem.P.repr_of_bool ⟨.str _, H, I.tok _, ⟨_, rfl⟩, q⟩
  · obtain ⟨t, rfl⟩ := rv
    exact PySem.P.repr_of_int hz ⟨.str _, H, I.tok _, ⟨_, rfl⟩, q⟩
  · obtain ⟨t, rfl⟩ := rv
    exact PySem.P.repr_of_str (t := t) ⟨.str _, H, I.tok _, ⟨_, rfl⟩, q⟩ hz
/-- repr of a list or tuple: plain data without dicts -/
def rRepr (K : PySem.W.Frag) : List V → Hp → VK → Prop := fun xs H Q => ∃ a d, xs = [.ref a] ∧ Dp K H (.ref a) d ∧ PyData.showable d = true ∧ PyData.hasDict d = false ∧ PyData.depth d ≤ 40 ∧ d.shown.length ≤ sizeLine ∧ Q (.str d.shown) H
theorem call_repr {X : Cx} (hg : X.A.guards = some []) (hu : X.A.units + 64 < cLine) : CallR X (.builtin "repr") (rRepr X.K) := by
  intro pins s σ H xs us Q I r h
  obtain ⟨a, d, rfl, hd, h1, h2, h3, h4, q⟩ := h
  obtain ⟨u, rfl, rv⟩ := vals1 r
  obtain ⟨as, R⟩ := Dp.reads I d _ u hd rv
  cases rv
  exact repr_of_reads' R h1 (PyData.noDict_hsm h2) hg (by omega) (fun _ _ e => e) (fun h' u' tk k => ⟨.str _, H, I.kept (t' := tk) k, ⟨_, rfl⟩, q⟩) h4
/-! ### isinstance of the exception that a suite holds, its own dict at d -/
structure ExcK (K : PySem.W.Frag) (C : Addr) : Prop where
  cl : (PySem.W.clsIn K C).isSome = true
  ga : PySem.W.findIn K (.ref C) "__getattribute__" = some (some (.builtin "BaseException.__getattribute__"))
  gt : PySem.W.findIn K (.ref C) "__getattr__" = some none
  sb : PySem.W.subIn K (.ref C) (.type "BaseException") = some true
  ca : PySem.W.findIn K (.ref C) "__class__" = some (some (.builtin "object.__class__"))
  sp : PySem.W.specialIn K (.builtin "object.__class__") "__get__" = some (some (.builtin "getset_descriptor.__get__"))
  tk : PySem.W.takesIn K (.builtin "object.__class__") = some true
  mo : PySem.W.mroIn K C (.type "object") = some true
def rIsD (K : PySem.W.Frag) (C d a : Addr) : List V → Hp → VK → Prop := fun xs H Q => ∃ (N : Addr) (g : Str) (v : V) (b : Bool), xs = [.ref a, .ref N] ∧ H d = some (.xd [(g, v)]) ∧ PySem.W.kitOne K (.ref C) (.ref N) = some b ∧ Q (.bl b) H
theorem call_isD {X : Cx} {a C d : Addr} {oe : Obj} {pn : List (Addr × Obj)} (T : ExcK X.K C) (hz : Zc (.ref C) (some d) oe) (hf : ∃ vs, oe.data = .fields vs) : CallR (X.suite a ((a, oe) :: pn)) (.builtin "isinstance") (rIsD X.K C d a) := by
  intro pins s σ H xs us Q I r h
  obtain ⟨N, g, v, b, rfl, hx, e, q⟩ := h
  obtain ⟨u1, u2, rfl, r1, r2⟩ := vals2 r
  cases r1
  cases r2
  obtain ⟨hget, _⟩ := I.pin (a, oe) (List.mem_append.mpr (.inl List.mem_cons_self))
  obtain ⟨vs, hd⟩ := hf
  have hx' : ObjOk X.prog X.w H s.heap d (.xd [(g, v)]) := I.hok d _ hx
  obtain ⟨mA, hns, hr⟩ := hx'
  obtain ⟨od, ho, hl⟩ := lookIn_ns hns
  have J : PySem.W.InstAt s.heap a oe C (some od) := ⟨hget, hz.1, by unfold PySem.W.notCls; rw [hd] <;> rfl, by rw [hz.2]; exact ho⟩
  exact PySem.W.kia_one (PySem.W.kitx_exc T.cl T.ga T.gt T.sb T.ca T.sp T.tk T.mo) I.kIn J e (fun z => nomatch z) fun tk => ⟨.bl b, H, I.kept (t' := tk) fun _ _ z => z, rfl, q⟩
/-! ### defs whose bodies show lists: they are told where nothing is being shown -/
structure FnG (P : Program) (w : World) (K : PySem.W.Frag) (mg : Str → Option Value) (base : Heap) (k : Nat) (f : Addr) (fd : FuncData) (ps : List Str) (sp : Sp) : Prop where
  len : ∀ vs H Q E, sp vs H Q E → vs.length = ps.length
  run : ∀ (A : Around) (outer : List Env) (s : Shared) (H : Hp) (args : Args) (us : List Value) (vs : List V) (Q : VK) (E : XK), Room k A → A.guards = some [] → Env0 P w K mg base A outer s H → BindsTo s fd args (ps.zip us) → Vals vs us → sp vs H Q E →
    codeAny (model P w) A (.call (.ref f) args) (CR CX0 outer P w H s Q E) s
end K1
/-! the text by places; short words for calls -/
namespace K1
open PySem PySem.Spec PyProof.Rows L2
def top (i : Nat) : Stmt := PySem.Challenge.pw_houseslessties_k27_whole_twisted_counter.main.body.getD i (.Pass ⟨0, 0, 0, 0⟩)
abbrev sBadWebInit : Stmt := inClass (top 2) 0
abbrev sRefusedInit : Stmt := inClass (top 3) 0
abbrev sNoHouseInit : Stmt := inClass (top 4) 0
abbrev sNoTieInit : Stmt := inClass (top 5) 0
abbrev sWhole : Stmt := top 7
abbrev sBelow : Stmt := top 8
abbrev sSeq : Stmt := top 9
abbrev sFnb : Stmt := top 10
abbrev sRepl : Stmt := top 11
abbrev sWInit : Stmt := inClass (top 15) 0
abbrev sWEq : Stmt := inClass (top 15) 1
abbrev sPair : Stmt := top 16
abbrev sCTies : Stmt := top 17
abbrev sNeedH : Stmt := top 18
abbrev sNeedT : Stmt := top 19
abbrev sWays : Stmt := top 20
abbrev sFWays : Stmt := top 21
abbrev sPart : Stmt := top 22
abbrev sIsPart : Stmt := top 23
abbrev sTiesIn : Stmt := top 24
abbrev sRingsOf : Stmt := top 25
abbrev sOutward : Stmt := top 26
abbrev sNeedM : Stmt := top 30
abbrev sAmt : Stmt := top 31
abbrev sIsCnt : Stmt := top 32
abbrev sCOf : Stmt := top 33
abbrev sCBy : Stmt := top 34
abbrev sCInit : Stmt := inClass (top 35) 0
abbrev sCDo : Stmt := inClass (top 35) 1
abbrev sCMeet : Stmt := inClass (top 35) 2
abbrev sCBook : Stmt := inClass (top 35) 3
abbrev sIsRest : Stmt := top 37
abbrev sIsAlike : Stmt := top 38
abbrev sSweep : Stmt := top 39
abbrev sLBox : Stmt := top 41
abbrev sLTake : Stmt := top 42
abbrev sLPick : Stmt := top 43
abbrev sLMixed : Stmt := top 44
abbrev sLForest : Stmt := top 45
abbrev sLPart : Stmt := top 46
abbrev sLNumber : Stmt := top 47
abbrev sLWrapped : Stmt := top 48
abbrev sLBook : Stmt := top 49
abbrev sLMet : Stmt := top 50
abbrev sLStepsRight : Stmt := top 51
abbrev sLSwept : Stmt := top 52
abbrev sLaw : Stmt := top 53
/-- a def of the text: its object, its name in the module, how its arguments bind -/
structure Df (K : PySem.W.Frag) (mg : Str → Option Value) (x : Str) (st : Stmt) (ps : List Str) (f : Addr) (fd : FuncData) : Prop where
  F : Fun K x x st f fd
  g : mg x = some (.ref f)
  b : Binds K fd ps []
section
variable {X : Cx} {CX : CXT} {k : Nat} {f : Addr} {fd : FuncData} {ps : List Str} {sp : Sp} {E : XK} {x : Str} {st : Stmt} {p pos : Pos} {e : Expr} {es : List Expr} {t : TA}
/-- x(e, ..) -/
theorem pc (D : Df X.K X.mg x st ps f fd) (G : FnOk X.prog X.w X.K X.mg X.base CX k f fd ps sp) (hr : Room k X.A) (hx : Passes CX X E) (ha : PA X (e :: es) t) (hg : Gl X x := by rfl)
    (hdb : (x == ("__debug__" : Str)) = false := by decide) (he : starEach (e :: es) X.env = (false, eval e X.env) :: starEach es X.env := by rfl) (hpl : (backTo pos (starEach es X.env)).any (·.1) = false := by rfl) :
    PE X (.Call (.Name x p) (e :: es) [] pos) (tCall sp [] E t) := pe_call G hr hg D.g D.F.kp D.b .nil hx ha hdb he hpl
end
/-- what a def that raises may let out at its caller's def -/
theorem pass1 {X : Cx} {E : XK} (tk : Takes X (fun cls d _ H => E cls d H)) : Passes (L2.CX X.prog X.w) X E := passes_call tk fun _ _ _ _ h => h
/-! ### tests by cases -/
theorem ifD {c : Bool} {A B : Prop} (h1 : c = true → A) (h2 : c = false → B) : if c = true then A else B := by
  cases c with
  | true => exact iteT (h1 rfl)
  | false => exact iteF (h2 rfl)
theorem eqv {α : Type} {P : α → Prop} {a b : α} (e : a = b) (h : P b) : P a := e ▸ h
theorem qbl {Q : VK} {H : Hp} {a b : Bool} (e : a = b) (h : Q (.bl b) H) : Q (.bl a) H := e ▸ h
/-! ### values of any kind -/
/-- what a value is: some items for a list or a tuple, none for the others -/
inductive KV (K : PySem.W.Frag) (H : Hp) : V → Option (List V) → Prop
  | int (i : Int) : KV K H (.int i) none
  | bl (b : Bool) : KV K H (.bl b) none
  | non : KV K H .non none
  | str (x : Str) : KV K H (.str x) none
  | lst {a : Addr} {xs : List V} (h : H a = some (.lst xs)) : KV K H (.ref a) (some xs)
  | tup {a : Addr} {xs : List V} (h : H a = some (.tup xs)) : KV K H (.ref a) (some xs)
theorem KV.same {K : PySem.W.Frag} {H H' : Hp} {v : V} {o : Option (List V)} (h : KV K H v o) (s : Same H H') : KV K H' v o := by
  cases h with
  | int i => exact .int i
  | bl b => exact .bl b
  | non => exact .non
  | str x => exact .str x
  | lst h => exact .lst (s _ _ h)
  | tup h => exact .tup (s _ _ h)
def wholeB : V → Bool | .int _ => true | _ => false
def boolB : V → Bool | .bl _ => true | _ => false
inductive Tg where | i | b | n | s | l | t
def Tg.nm : Tg → String | .i => "int" | .b => "bool" | .n => "NoneType" | .s => "str" | .l => "list" | .t => "tuple"
def Tg.isI : Tg → Bool | .i => true | _ => false
def Tg.isB : Tg → Bool | .b => true | _ => false
def Tg.isQ : Tg → Bool | .l => true | .t => true | _ => false
theorem KV.ty {K : PySem.W.Frag} {H : Hp} {v : V} {o : Option (List V)} (h : KV K H v o) : ∃ g : Tg, TyX K H v (.type g.nm) ∧ g.isI = wholeB v ∧ g.isB = boolB v ∧ g.isQ = o.isSome := by
  cases h with
  | int i => exact ⟨.i, .base (.int i), rfl, rfl, rfl⟩
  | bl b => exact ⟨.b, .base (.bl b), rfl, rfl, rfl⟩
  | non => exact ⟨.n, .base .non, rfl, rfl, rfl⟩
  | str x => exact ⟨.s, .base (.str x), rfl, rfl, rfl⟩
  | lst h => exact ⟨.l, .base (.lst h), rfl, rfl, rfl⟩
  | tup h => exact ⟨.t, .base (.tup h), rfl, rfl, rfl⟩
theorem kit_I (K : PySem.W.Frag) (g : Tg) : PySem.W.kitOne K (.type g.nm) (.type "int") = some (g.isI || g.isB) := by
  cases g <;> exact kit_ty (by decide +kernel)
theorem kit_B (K : PySem.W.Frag) (g : Tg) : PySem.W.kitOne K (.type g.nm) (.type "bool") = some g.isB := by
  cases g <;> exact kit_ty (by decide +kernel)
def Tg.isL : Tg → Bool | .l => true | _ => false
def Tg.isT : Tg → Bool | .t => true | _ => false
theorem kit_L (K : PySem.W.Frag) (g : Tg) : PySem.W.kitOne K (.type g.nm) (.type "list") = some g.isL := by
  cases g <;> exact kit_ty (by decide +kernel)
theorem kit_T (K : PySem.W.Frag) (g : Tg) : PySem.W.kitOne K (.type g.nm) (.type "tuple") = some g.isT := by
  cases g <;> exact kit_ty (by decide +kernel)
theorem kit_Q (K : PySem.W.Frag) (g : Tg) : PySem.W.kitAny K (.type g.nm) [.type "list", .type "tuple"] = some g.isQ := by
  refine kitAny_cons (kit_L K g) (fun e => kitAny_cons (kit_T K g) (fun e2 => ?_) fun e2 => ?_) fun e => ?_
  all_goals (cases g <;> first | rfl | (cases e; done) | (cases e2; done))
/-- the built-in names that the text uses are the built-in ones -/
structure Bt (mg : Str → Option Value) : Prop where
  isinstance : mg "isinstance" = none
  int : mg "int" = none
  bool : mg "bool" = none
  list : mg "list" = none
  tuple : mg "tuple" = none
  len : mg "len" = none
  enumerate : mg "enumerate" = none
  range : mg "range" = none
  sorted : mg "sorted" = none
  set : mg "set" = none
  repr : mg "repr" = none
  abs : mg "abs" = none
  min : mg "min" = none
  max : mg "max" = none
  sum : mg "sum" = none
  all : mg "all" = none
  any : mg "any" = none
  zip : mg "zip" = none
  str : mg "str" = none
  dict : mg "dict" = none
  ke : mg "KeyError" = none
end K1
namespace K1
open PySem PySem.Spec PyProof.Rows L2
def belowB (v : V) (lim : Int) : Bool := match v with | .int i => decide (0 ≤ i) && decide (i < lim) | _ => false
def seqB (o : Option (List V)) (least most : Int) : Bool := match o with | some xs => decide (least ≤ (xs.length : Int)) && decide ((xs.length : Int) ≤ most) | none => false
def spWhole (K : PySem.W.Frag) : Sp := fun vs H Q _ => ∃ v o, vs = [v] ∧ KV K H v o ∧ Q (.bl (wholeB v)) H
def spBelow (K : PySem.W.Frag) : Sp := fun vs H Q _ => ∃ v o lim, vs = [v, .int lim] ∧ KV K H v o ∧ Q (.bl (belowB v lim)) H
def spSeq (K : PySem.W.Frag) : Sp := fun vs H Q _ => ∃ v o least most, vs = [v, .int least, .int most] ∧ KV K H v o ∧ ∀ H', Same H H' → Q (.bl (seqB o least most)) H'
section
variable {P : Program} {w : World} {K : PySem.W.Frag} {mg : Str → Option Value} {base : Heap}
theorem scW : FnScope ["value"] ["value"] (defScope sWhole) := ⟨rfl, rfl, rfl, by decide +kernel, rfl, by decide +kernel, by decide +kernel⟩
theorem ok_whole {f : Addr} {fd : FuncData} (D : Df K mg "is_whole" sWhole ["value"] f fd) (B : Bt mg) : FnOk P w K mg base CX0 1 f fd ["value"] (spWhole K) := by
  refine D.F.ok scW (fun vs H Q E h => ?_) (fun cdv A outer s H vs Q E hr h => ?_)
  · obtain ⟨v, o, rfl, _⟩ := h
    rfl
  · obtain ⟨v, o, rfl, kv, q⟩ := h
    obtain ⟨g, ty, eI, eB, eQ⟩ := kv.ty
    refine ⟨_, pss_one (ps_ret (pe_and (pe_callB call_isi (by rfl) B.isinstance (by decide +kernel) (pa_cons (pv 0) (pa_cons (pe_bltn (v := .ty "int") (by rfl) B.int PyProof.Rows.boot_int rfl) pa_nil)))
      (pe_one (pe_not (pe_callB call_isi (by rfl) B.isinstance (by decide +kernel) (pa_cons (pv 0) (pa_cons (pe_bltn (v := .ty "bool") (by rfl) B.bool PyProof.Rows.boot_bool rfl) pa_nil))))))), ?_⟩
    refine ⟨_, rfl, _, _, _, _, _, rfl, .ty _, ty, kit_I K g, _, rfl, ifD (fun e => ?_) fun e => ?_⟩
    · refine ⟨_, rfl, _, _, _, _, _, rfl, .ty _, ty, kit_B K g, _, rfl, ?_⟩
      have z : (!g.isB) = wholeB v := by rw [← eI]; cases g <;> first | rfl | cases e
      exact qbl z q
    · have z : false = wholeB v := by rw [← eI]; cases g <;> first | rfl | cases e
      exact qbl z q
theorem scB : FnScope ["value", "limit"] ["value", "limit"] (defScope sBelow) := ⟨rfl, rfl, rfl, by decide +kernel, rfl, by decide +kernel, by decide +kernel⟩
theorem ok_below {f fW : Addr} {fd fdW : FuncData} (D : Df K mg "is_below" sBelow ["value", "limit"] f fd) (DW : Df K mg "is_whole" sWhole ["value"] fW fdW) (B : Bt mg) : FnOk P w K mg base CX0 2 f fd ["value", "limit"] (spBelow K) := by
  have GW : FnOk P w K mg base CX0 1 fW fdW ["value"] (spWhole K) := ok_whole DW B
  refine D.F.ok scB (fun vs H Q E h => ?_) (fun cdv A outer s H vs Q E hr h => ?_)
  · obtain ⟨v, o, lim, rfl, _⟩ := h
    rfl
  · obtain ⟨v, o, lim, rfl, kv, q⟩ := h
    refine ⟨_, pss_one (ps_ret (pe_and (pc DW GW hr pass0 (pa_cons (pv 0) pa_nil)) (pe_one (pe_chain op_le op_lt pe_int (pv 0) (pv 1))))), ?_⟩
    refine ⟨_, rfl, _, _, rfl, kv, _, rfl, ifD (fun e => ?_) fun e => ?_⟩
    · obtain ⟨i, rfl⟩ : ∃ i, v = .int i := by
        cases v <;> first | exact ⟨_, rfl⟩ | cases e
      refine ⟨_, rfl, _, _, rfl, rfl, _, rfl, ifD (fun e2 => ?_) fun e2 => ?_⟩
      · refine ⟨_, rfl, _, _, rfl, rfl, ?_⟩
        have z : decide (i < lim) = belowB (.int i) lim := by
          show _ = (decide (0 ≤ i) && decide (i < lim))
          rw [e2]; rfl
        exact qbl z q
      · have z : false = belowB (.int i) lim := by
          show _ = (decide (0 ≤ i) && decide (i < lim))
          rw [e2]; rfl
        exact qbl z q
    · have z : false = belowB v lim := by cases v <;> first | rfl | cases e
      exact qbl z q
theorem scS : FnScope ["value", "least", "most"] ["value", "least", "most"] (defScope sSeq) := ⟨rfl, rfl, rfl, by decide +kernel, rfl, by decide +kernel, by decide +kernel⟩
theorem ok_seq {f : Addr} {fd : FuncData} (D : Df K mg "is_sequence" sSeq ["value", "least", "most"] f fd) (B : Bt mg) : FnOk P w K mg base CX0 1 f fd ["value", "least", "most"] (spSeq K) := by
  refine D.F.ok scS (fun vs H Q E h => ?_) (fun cdv A outer s H vs Q E hr h => ?_)
  · obtain ⟨v, o, least, most, rfl, _⟩ := h
    rfl
  · obtain ⟨v, o, least, most, rfl, kv, q⟩ := h
    refine ⟨_, pss_one (ps_ret (pe_and (pe_callB call_isiT (by rfl) B.isinstance (by decide +kernel) (pa_cons (pv 0) (pa_cons (pe_tup (pa_cons (pe_bltn (v := .ty "list") (by rfl) B.list PyProof.Rows.boot_list rfl) (pa_cons (pe_bltn (v := .ty "tuple") (by rfl) B.tuple PyProof.Rows.boot_tuple rfl) pa_nil))) pa_nil)))
      (pe_one (pe_chain op_le op_le (pv 1) (pe_callB call_len_seq (by rfl) B.len PySem.boot_len (pa_cons (pv 0) pa_nil)) (pv 2))))), ?_⟩
    refine ⟨_, rfl, (by show 2 ≤ sizeLine; decide), fun p hp => ?_⟩
    have sm : Same H (upd H p (.tup [.ty "list", .ty "tuple"])) := fun b o e => by rw [upd_ne (ne_of_none e hp)]; exact e
    obtain ⟨g, ty, eI, eB, eQ⟩ := (kv.same sm).ty
    refine ⟨_, _, _, _, _, _, rfl, upd_same, .cons (.ty _) (.cons (.ty _) .nil), ty, kit_Q K g, _, rfl, ifD (fun e => ?_) fun e => ?_⟩
    · have kv2 := kv.same sm
      generalize hH1 : upd H p (.tup [.ty "list", .ty "tuple"]) = H1 at *
      rw [eQ] at e
      have q2 := q _ sm
      cases kv with
      | lst h =>
        rename_i a xs
        have h1 : H1 a = some (.lst xs) := sm _ _ h
        refine ⟨_, rfl, _, rfl, _, _, rfl, .inl (SqL.of h1), _, _, rfl, rfl, _, rfl, ifD (fun e2 => ?_) fun e2 => ?_⟩
        · refine ⟨_, rfl, _, _, rfl, rfl, qbl ?_ q2⟩
          show _ = (decide (least ≤ (xs.length : Int)) && decide ((xs.length : Int) ≤ most))
          rw [e2]; rfl
        · refine qbl ?_ q2
          show _ = (decide (least ≤ (xs.length : Int)) && decide ((xs.length : Int) ≤ most))
          rw [e2]; rfl
      | tup h =>
        rename_i a xs
        have h1 : H1 a = some (.tup xs) := sm _ _ h
        refine ⟨_, rfl, _, rfl, _, _, rfl, .inr (SqT.of h1), _, _, rfl, rfl, _, rfl, ifD (fun e2 => ?_) fun e2 => ?_⟩
        · refine ⟨_, rfl, _, _, rfl, rfl, qbl ?_ q2⟩
          show _ = (decide (least ≤ (xs.length : Int)) && decide ((xs.length : Int) ≤ most))
          rw [e2]; rfl
        · refine qbl ?_ q2
          show _ = (decide (least ≤ (xs.length : Int)) && decide ((xs.length : Int) ≤ most))
          rw [e2]; rfl
      | _ => cases e
    · rw [eQ] at e
      have z : o = none := by cases o <;> first | rfl | cases e
      subst z
      exact q _ sm
end
end K1
namespace K1
open PySem PySem.Spec PyProof.Rows L2
def fnb (xs : List V) (lim : Int) : V := match xs.findIdx? (fun x => !belowB x lim) with | some i => .int (i : Nat) | none => .non
theorem fnb_at {xs : List V} {lim : Int} {i : Nat} {x : V} (hx : xs[i]? = some x) (hn : belowB x lim = false) (hb : ∀ j y, j < i → xs[j]? = some y → belowB y lim = true) : fnb xs lim = .int (i : Nat) := by
  obtain ⟨hi, ex⟩ := List.getElem?_eq_some_iff.mp hx
  have e : xs.findIdx? (fun x => !belowB x lim) = some i := by
    rw [List.findIdx?_eq_some_iff_getElem]
    refine ⟨hi, by rw [ex, hn]; rfl, fun j hj => ?_⟩
    have hj' : j < xs.length := Nat.lt_trans hj hi
    have := hb j xs[j] hj (by simp [hj'])
    simp [this]
  unfold fnb
  rw [e]
theorem fnb_none {xs : List V} {lim : Int} (hb : ∀ j y, j < xs.length → xs[j]? = some y → belowB y lim = true) : fnb xs lim = .non := by
  have e : xs.findIdx? (fun x => !belowB x lim) = none := by
    rw [List.findIdx?_eq_none_iff]
    intro x hx
    obtain ⟨j, hj, e⟩ := List.mem_iff_getElem.mp hx
    have := hb j xs[j] hj (by simp [hj])
    rw [← e, this]; rfl
  unfold fnb
  rw [e]
/-- a list or tuple at a -/
def SeqA (H : Hp) (a : Addr) (xs : List V) : Prop := H a = some (.lst xs) ∨ H a = some (.tup xs)
theorem SeqA.same {H H' : Hp} {a : Addr} {xs : List V} (h : SeqA H a xs) (s : Same H H') : SeqA H' a xs := h.elim (fun h => .inl (s _ _ h)) fun h => .inr (s _ _ h)
theorem SeqA.kv {K : PySem.W.Frag} {H : Hp} {a : Addr} {xs : List V} (h : SeqA H a xs) : KV K H (.ref a) (some xs) := h.elim .lst .tup
/-- each item is of some kind -/
def Kinds (K : PySem.W.Frag) (H : Hp) (xs : List V) : Prop := ∀ x ∈ xs, ∃ o, KV K H x o
theorem Kinds.same {K : PySem.W.Frag} {H H' : Hp} {xs : List V} (h : Kinds K H xs) (s : Same H H') : Kinds K H' xs := fun x hx => let ⟨o, k⟩ := h x hx; ⟨o, k.same s⟩
theorem same_new {H : Hp} {p : Addr} {o : HO} (hp : H p = none) : Same H (upd H p o) := fun b u e => by rw [upd_ne (ne_of_none e hp)]; exact e
def spFnb (K : PySem.W.Frag) : Sp := fun vs H Q _ => ∃ a xs lim, vs = [.ref a, .int lim] ∧ SeqA H a xs ∧ Kinds K H xs ∧ ∀ H', Same H H' → Q (fnb xs lim) H'
section
variable {P : Program} {w : World} {K : PySem.W.Frag} {mg : Str → Option Value} {base : Heap}
theorem scF : FnScope ["items", "limit", "at", "item"] ["items", "limit"] (defScope sFnb) := ⟨rfl, rfl, rfl, by decide +kernel, rfl, by decide +kernel, by decide +kernel⟩
/-- one turn of the search, and the way behind it: the iterator is a list's or a tuple's -/
theorem ok_fnb {f fB : Addr} {fd fdB : FuncData} (D : Df K mg "first_not_below" sFnb ["items", "limit"] f fd) (DB : Df K mg "is_below" sBelow ["value", "limit"] fB fdB) (B : Bt mg)
    (GB : FnOk P w K mg base CX0 2 fB fdB ["value", "limit"] (spBelow K)) : FnOk P w K mg base CX0 3 f fd ["items", "limit"] (spFnb K) := by
  refine D.F.ok scF (fun vs H Q E h => ?_) (fun cdv A outer s H vs Q E hr h => ?_)
  · obtain ⟨a, xs, lim, rfl, _⟩ := h
    rfl
  · obtain ⟨a, xs, lim, rfl, hS, hK, q⟩ := h
    refine ⟨_, pss_cons (ps_for PassesOwn.never rfl (pi_enumA (by rfl) B.enumerate (pa_cons (pv 0) pa_nil))
        (pg_tup rfl (pgs_cons (pg_name (i := 2) scF.nd rfl (.inl rfl)) (pgs_cons (pg_name (i := 3) scF.nd rfl (.inl rfl)) pgs_nil)))
        (pss_one (ps_if (pt_not (pt_val (pc DB GB hr pass0 (pa_cons (pv 3) (pa_cons (pv 1) pa_nil))))) (pss_one (ps_ret (pv 2))) pss_nil)))
      (pss_one (ps_ret pe_non)), ?_⟩
    let Pv : Nat → L2.St → Hp → Prop := fun i σ H' => ∃ v2 v3 : Option V, σ = [some (.ref a), some (.int lim), v2, v3] ∧ Same H H' ∧ ∀ j y, j < i → xs[j]? = some y → belowB y lim = true
    have end_ : ∀ σ H', Pv xs.length σ H' → Q .non H' := fun σ H' ⟨v2, v3, _, sm, hb⟩ => by
      have := q H' sm
      rw [fnb_none hb] at this
      exact this
    refine ⟨_, rfl, a, rfl, ?_⟩
    rcases hS with hS | hS
    · refine .inl ⟨xs, SqL.of hS, for_enumL (K := K) Pv ⟨none, none, rfl, Same.refl H, fun j y hj => absurd hj (Nat.not_lt_zero _)⟩ (fun i σ H' _ ⟨_, _, _, sm, _⟩ => SqL.of (sm _ _ hS)) ?_ end_⟩
      rintro i x T σ H' hx hT ⟨v2, v3, rfl, sm, hb⟩
      have sm2 : Same H (upd H' T (.tup [.int (i : Nat), x])) := sm.trans (same_new hT)
      obtain ⟨o, kv⟩ := hK x (List.mem_of_getElem? hx)
      refine ⟨T, _, rfl, SqT.of upd_same, rfl, _, _, rfl, _, _, rfl, rfl, ?_⟩
      refine ⟨_, rfl, _, rfl, _, o, lim, rfl, kv.same sm2, _, rfl, ?_⟩
      refine ifD (fun e => ?_) fun e => ?_
      · refine ⟨_, rfl, ?_⟩
        have e' : belowB x lim = false := by simpa using e
        have := q _ sm2
        rw [fnb_at hx e' hb] at this
        exact this
      · have e' : belowB x lim = true := by simpa using e
        refine ⟨_, _, rfl, sm2, fun j y hj hy => ?_⟩
        rcases Nat.lt_succ_iff_lt_or_eq.mp hj with z | z
        · exact hb j y z hy
        · subst z
          rw [hx] at hy
          rw [← Option.some.inj hy]
          exact e'
    · refine .inr ⟨xs, SqT.of hS, for_enumT (K := K) Pv ⟨none, none, rfl, Same.refl H, fun j y hj => absurd hj (Nat.not_lt_zero _)⟩ (fun i σ H' _ ⟨_, _, _, sm, _⟩ => SqT.of (sm _ _ hS)) ?_ end_⟩
      rintro i x T σ H' hx hT ⟨v2, v3, rfl, sm, hb⟩
      have sm2 : Same H (upd H' T (.tup [.int (i : Nat), x])) := sm.trans (same_new hT)
      obtain ⟨o, kv⟩ := hK x (List.mem_of_getElem? hx)
      refine ⟨T, _, rfl, SqT.of upd_same, rfl, _, _, rfl, _, _, rfl, rfl, ?_⟩
      refine ⟨_, rfl, _, rfl, _, o, lim, rfl, kv.same sm2, _, rfl, ?_⟩
      refine ifD (fun e => ?_) fun e => ?_
      · refine ⟨_, rfl, ?_⟩
        have e' : belowB x lim = false := by simpa using e
        have := q _ sm2
        rw [fnb_at hx e' hb] at this
        exact this
      · have e' : belowB x lim = true := by simpa using e
        refine ⟨_, _, rfl, sm2, fun j y hj hy => ?_⟩
        rcases Nat.lt_succ_iff_lt_or_eq.mp hj with z | z
        · exact hb j y z hy
        · subst z
          rw [hx] at hy
          rw [← Option.some.inj hy]
          exact e'
end
end K1
namespace K1
open PySem PySem.Spec PyProof.Rows L2
/-! ### small words -/
theorem seqG {t u : TS} {D : Ends} {σ : L2.St} {H : Hp} (G : L2.St → Hp → Prop) (hu : ∀ σ H, G σ H → u D σ H) (ht : (∀ σ H, G σ H → u D σ H) → t { D with nx := u D } σ H) : tSeq t u D σ H := ht hu
theorem gn {i : Nat} {x : V} {σ : L2.St} {H : Hp} {Q : L2.St → Hp → Prop} (h : Q (σ.set i (some x)) H) : gName i x σ H Q := h
theorem nxP {D : Ends} {σ : L2.St} {H : Hp} (h : D.nx σ H) : tNext D σ H := h
theorem nilP {σ : L2.St} {H : Hp} {Q : List V → Hp → Prop} (h : Q [] H) : tNil σ H Q := h
theorem cP {v : V} {σ : L2.St} {H : Hp} {Q : VK} (h : Q v H) : tC v σ H Q := h
theorem noP {σ : L2.St} {H : Hp} {Q : Option Int → Hp → Prop} (h : Q none H) : tNoPart σ H Q := h
theorem iteN {c : Bool} {A B : Prop} (e : c = false) (h : B) : if c = true then A else B := by subst e; exact iteF h
theorem iteY {c : Bool} {A B : Prop} (e : c = true) (h : A) : if c = true then A else B := by subst e; exact iteT h
theorem neV {x : V} {Q : VK} {H : Hp} (hs : scal x x = true) (q : Q (.bl false) H) : rNe x x H Q := ⟨hs, qbl (by rw [decide_eq_true rfl]; rfl) q⟩
theorem eqVV {x : V} {Q : VK} {H : Hp} (hs : scal x x = true) (q : Q (.bl true) H) : rEq x x H Q := ⟨hs, qbl (by rw [decide_eq_true rfl]) q⟩
theorem passF {X : Cx} : Passes (L2.CX X.prog X.w) X (fun _ _ _ => False) := passes_call LamX.takes0 fun _ _ _ _ h => h
theorem take_succ {α : Type} {l : List α} {i : Nat} {x : α} (h : l[i]? = some x) : l.take (i + 1) = l.take i ++ [x] := by
  rw [List.take_add_one, h]; rfl
theorem fnb_all {xs : List V} {lim : Int} (h : ∀ x ∈ xs, belowB x lim = true) : fnb xs lim = .non := fnb_none fun j y _ hy => h y (List.mem_of_getElem? hy)
theorem find_at {α : Type} {rs : List α} {p : α → Bool} {i : Nat} {r : α} (hr : rs[i]? = some r) (hn : p r = true) (hb : ∀ (j : Nat) y, j < i → rs[j]? = some y → p y = false) : rs.findIdx? p = some i := by
  obtain ⟨hi, ex⟩ := List.getElem?_eq_some_iff.mp hr
  rw [List.findIdx?_eq_some_iff_getElem]
  refine ⟨hi, by rw [ex, hn], fun j hj => ?_⟩
  have hj' : j < rs.length := Nat.lt_trans hj hi
  have := hb j rs[j] hj (by simp [hj'])
  simp [this]
theorem find_none {α : Type} {rs : List α} {p : α → Bool} (hb : ∀ (j : Nat) y, j < rs.length → rs[j]? = some y → p y = false) : rs.findIdx? p = none := by
  rw [List.findIdx?_eq_none_iff]
  intro x hx
  obtain ⟨j, hj, e⟩ := List.mem_iff_getElem.mp hx
  exact e ▸ hb j rs[j] hj (by simp [hj])
theorem lookup_same {α : Type} {l : List α} {i : Nat} {x y : α} (h1 : l[i]? = some x) (h2 : l[i]? = some y) : x = y := Option.some.inj (h1.symm.trans h2)
theorem ex_at {α : Type} {l : List α} {i : Nat} (h : i < l.length) : ∃ x, l[i]? = some x := ⟨l[i], List.getElem?_eq_getElem h⟩
theorem lt_at {α : Type} {l : List α} {i : Nat} {x : α} (h : l[i]? = some x) : i < l.length := (List.getElem?_eq_some_iff.mp h).1
theorem map_at {α β : Type} {f : α → β} {l : List α} {i : Nat} {x : α} (h : l[i]? = some x) : (l.map f)[i]? = some (f x) := by rw [List.getElem?_map, h]; rfl
theorem at_map {α β : Type} {f : α → β} {l : List α} {i : Nat} {y : β} (h : (l.map f)[i]? = some y) : ∃ x, l[i]? = some x ∧ y = f x := by
  rw [List.getElem?_map] at h
  cases e : l[i]? with
  | none => rw [e] at h; cases h
  | some x => rw [e] at h; exact ⟨x, rfl, (Option.some.inj h).symm⟩
theorem at_i {xs : List V} {i : Nat} {x : V} (h : xs[i]? = some x) : atI xs (i : Int) = some x := at_of (j := i) rfl h
theorem sz {n : Nat} (h : n ≤ 16777216) : n ≤ sizeLine := by rw [sizeLine_eq]; exact h
theorem szl {n : Nat} (h : n < 16777216) : n < sizeLine := by rw [sizeLine_eq]; exact h
/-! ### rules with the fragment told -/
section
variable {X : Cx} {K : PySem.W.Frag}
theorem neD (h : X.K = K) (hu : X.A.units + 64 < cLine) : OpR X (compareOp .NotEq) (rNeD K) := by subst h; exact op_neD hu
theorem eqD (h : X.K = K) (hu : X.A.units + 64 < cLine) : OpR X (compareOp .Eq) (rEqD K) := by subst h; exact op_eqD hu
def rList (K : PySem.W.Frag) : List V → Hp → VK → Prop := fun xs H Q => ∃ p ys, xs = [.ref p] ∧ (SqL K H p ys ∨ SqT K H p ys) ∧ ∀ l, H l = none → Q (.ref l) (upd H l (.lst ys))
theorem clist (h : X.K = K) : CallR X (.type "list") (rList K) := by subst h; exact call_list_of
def rTup (K : PySem.W.Frag) : List V → Hp → VK → Prop := fun xs H Q => ∃ p ys, xs = [.ref p] ∧ ((SqL K H p ys ∧ ∀ l, H l = none → Q (.ref l) (upd H l (.tup ys))) ∨ (SqT K H p ys ∧ Q (.ref p) H))
theorem ctup (h : X.K = K) : CallR X (.type "tuple") (rTup K) := by subst h; exact call_tuple_of
theorem slL (h : X.K = K) : SlR X (rSlL K) := by subst h; exact sl_list
theorem slA (h : X.K = K) : SlR X (rSlA K) := by subst h; exact sl_tupA
theorem piL {tg l : Expr} {tl : TE} (h : X.K = K) (hl : PE X l tl) : PI X tg l (iList K tl) := by subst h; exact pi_list hl
theorem ixTK (h : X.K = K) : IxR X (rIxT K) := by subst h; exact ix_tup
theorem ixLK (h : X.K = K) : IxR X (rIxL K) := by subst h; exact ix_list
def rLenK (K : PySem.W.Frag) : List V → Hp → VK → Prop := fun xs H Q => ∃ p ys, xs = [.ref p] ∧ (SqL K H p ys ∨ SqT K H p ys) ∧ Q (.int (ys.length : Int)) H
theorem clen (h : X.K = K) : CallR X (.builtin "len") (rLenK K) := by subst h; exact call_len_seq
theorem opInK (h : X.K = K) : OpR X (compareOp .In) (rIn K false) := by subst h; exact op_in_seq
theorem opNotInK (h : X.K = K) : OpR X (compareOp .NotIn) (rIn K true) := by subst h; exact op_notIn_seq
theorem opCatA (h : X.K = K) : OpR X (binaryOp .Add) (rCatA K) := by subst h; exact op_catA
theorem pe_fldK {e : Expr} {f : Str} {te : TE} {pos : Pos} (h : X.K = K) (he : PE X e te) (hb : attributeBase e f X.env (eval e X.env) = eval e X.env) : PE X (.Attribute e f pos) (tFld K te f) := by subst h; exact pe_fld he hb
end
/-! ### slices and sums of tuples -/
theorem cut_to {xs : List V} {k : Nat} (h : k ≤ xs.length) : cutV xs none (some (k : Int)) = xs.take k := by
  unfold cutV
  rw [HT.sIx_nat, HT.sIx_none, Nat.min_eq_left h]; rfl
theorem cut_from {xs : List V} {k : Nat} (h : k ≤ xs.length) : cutV xs (some (k : Int)) none = xs.drop k := by
  unfold cutV
  rw [HT.sIx_nat, HT.sIx_none, Nat.min_eq_left h, ← List.length_drop, List.take_length]
theorem catA_by {K : PySem.W.Frag} {H : Hp} {Q : VK} {a b : Addr} {xs ys : List V} (ha : H a = some (.tup xs)) (hb : H b = some (.tup ys)) (hl : xs.length + ys.length ≤ sizeLine) (q : ∀ p H', Same H H' → H' p = some (.tup (xs ++ ys)) → Q (.ref p) H') : rCatA K (.ref a) (.ref b) H Q := by
  refine ⟨a, b, xs, ys, rfl, rfl, SqT.of ha, SqT.of hb, hl, fun e => ?_, fun _ e => ?_, fun _ _ p hp => q p _ (K1.same_new hp) upd_same⟩
  · subst e
    exact q b H (fun _ _ e => e) hb
  · subst e
    exact q a H (fun _ _ e => e) (by rw [List.append_nil]; exact ha)
theorem slA_by {K : PySem.W.Frag} {H : Hp} {Q : VK} {a : Addr} {xs : List V} {lo hi : Option Int} (ha : H a = some (.tup xs)) (q : ∀ p H', Same H H' → H' p = some (.tup (cutV xs lo hi)) → Q (.ref p) H') : rSlA K (.ref a) lo hi H Q := by
  refine ⟨a, xs, rfl, SqT.of ha, fun e => ?_, fun _ p hp => q p _ (K1.same_new hp) upd_same⟩
  refine q a H (fun _ _ e => e) ?_
  rw [ha]
  unfold cutV
  rw [e.1, e.2, List.drop_zero, Nat.sub_zero, List.take_length]
/-! ### errors, rows of values -/
/-- an error of the class at C, its field f at v -/
def Rz (C : Addr) (f : Str) (v : V) (H : Hp) (E : XK) : Prop := ∀ d H', Same H H' → H d = none → H' d = some (.xd [(f, v)]) → E (.ref C) (some d) H'
/-- a value, whose items (if it has some) are of known kinds -/
structure Rw (K : PySem.W.Frag) (H : Hp) (x : V) (r : Option (List V)) : Prop where
  kv : KV K H x r
  ks : ∀ ys, r = some ys → Kinds K H ys
theorem Rw.same {K : PySem.W.Frag} {H H' : Hp} {x : V} {r : Option (List V)} (h : Rw K H x r) (s : Same H H') : Rw K H' x r := ⟨h.kv.same s, fun ys e => (h.ks ys e).same s⟩
theorem KV.seqA {K : PySem.W.Frag} {H : Hp} {x : V} {ys : List V} (h : KV K H x (some ys)) : ∃ a, x = .ref a ∧ SeqA H a ys := by
  cases h with
  | lst h => exact ⟨_, rfl, .inl h⟩
  | tup h => exact ⟨_, rfl, .inr h⟩
theorem kv_any {K K' : PySem.W.Frag} {H : Hp} {v : V} {o : Option (List V)} (kv : KV K' H v o) : KV K H v o := by cases kv <;> first | exact .int _ | exact .bl _ | exact .non | exact .str _ | exact .lst (by assumption) | exact .tup (by assumption)
/-! ### whole numbers by rows -/
def vrow (t : List Int) : List V := t.map V.int
def dI (t : List Int) : List PyData := t.map PyData.int
theorem dp_ints {K : PySem.W.Frag} {H : Hp} : ∀ t : List Int, DpAll K H (vrow t) (dI t)
  | [] => .nil
  | i :: r => .cons (.int i) (dp_ints r)
theorem dp_tup {K : PySem.W.Frag} {H : Hp} {a : Addr} {t : List Int} (h : H a = some (.tup (vrow t))) : Dp K H (.ref a) (.tuple (dI t)) := .tup (SqT.of h) (dp_ints t)
theorem dp_lst {K : PySem.W.Frag} {H : Hp} {a : Addr} {t : List Int} (h : H a = some (.lst (vrow t))) : Dp K H (.ref a) (.list (dI t)) := .lst (SqL.of h) (dp_ints t)
theorem vrow_set (t : List Int) (i : Nat) (x : Int) : vrow (t.set i x) = (vrow t).set i (.int x) := by unfold vrow; rw [List.map_set]
theorem vrow_len (t : List Int) : (vrow t).length = t.length := List.length_map _
theorem vrow_at {t : List Int} {i : Nat} {v : V} (h : (vrow t)[i]? = some v) : ∃ x, t[i]? = some x ∧ v = .int x := at_map h
theorem vrow_get {t : List Int} {i : Nat} (h : i < t.length) : (vrow t)[i]? = some (V.int (t.getD i 0)) := by
  rw [vrow, List.getElem?_map, List.getD_eq_getElem?_getD, List.getElem?_eq_getElem h]; rfl
/-- plain data: shown shortly, compared by what they hold -/
structure Pl (d : PyData) (n w : Nat) : Prop where
  lay : d.canLay0 = true
  sh : d.showable = true
  nd : d.hasDict = false
  dp : d.depth ≤ n
  wt : d.weight ≤ w
  sr : d.leavesShort 20 = true
structure PlA (ds : List PyData) (n w : Nat) : Prop where
  lay : PyData.canLayAll0 ds = true
  sh : PyData.showableAll ds = true
  nd : PyData.hasDictAll ds = false
  dp : PyData.depthAll ds ≤ n
  wt : PyData.weightAll ds ≤ w
  sr : PyData.leavesShortAll 20 ds = true
theorem Pl.int {i : Int} (h : i.natAbs < 10 ^ 19) : Pl (.int i) 0 64 := by
  have h3 : i.natAbs ≠ 0 → i.natAbs.log2 < 64 := fun z => (Nat.log2_lt z).mpr (Nat.lt_of_lt_of_le h (by decide))
  refine ⟨by simp only [PyData.canLay0], ?_, by simp only [PyData.hasDict], by simp only [PyData.depth]; omega, ?_, ?_⟩
  · simp only [PyData.showable, decide_eq_true_eq]
    by_cases z : i.natAbs = 0
    · rw [z]; decide
    · have := h3 z
      omega
  · simp only [PyData.weight]
    split
    · omega
    · rename_i z
      have := h3 (fun e => z (by rw [Int.natAbs_eq_zero.mp e]; rfl))
      omega
  · have e := int_text_length_le10 (a := i) (k := 19) (by decide) h
    simp only [PyData.leavesShort, decide_eq_true_eq, PyData.shown]
    exact decide_eq_true (Nat.le_trans (Nat.le_of_eq (PySem.ofString_length _)) e)
theorem Pl.bl (b : Bool) : Pl (.bool b) 0 0 := ⟨by simp only [PyData.canLay0], by simp only [PyData.showable], by simp only [PyData.hasDict], by simp only [PyData.depth]; omega, by simp only [PyData.weight]; omega, by simp only [PyData.leavesShort]⟩
theorem PlA.nil : PlA [] 0 0 := ⟨by simp only [PyData.canLayAll0], by simp only [PyData.showableAll], by simp only [PyData.hasDictAll], by simp only [PyData.depthAll]; omega, by simp only [PyData.weightAll]; omega, by simp only [PyData.leavesShortAll]⟩
theorem PlA.cons {d : PyData} {ds : List PyData} {n m u v : Nat} (a : Pl d n u) (b : PlA ds m v) : PlA (d :: ds) (max n m) (u + 1 + v) := by
  refine ⟨by simp only [PyData.canLayAll0, a.lay, b.lay, Bool.and_self], by simp only [PyData.showableAll, a.sh, b.sh, Bool.and_self], by simp only [PyData.hasDictAll, a.nd, b.nd, Bool.or_self], ?_, ?_, by simp only [PyData.leavesShortAll, a.sr, b.sr, Bool.and_self]⟩
  · have h1 := a.dp; have h2 := b.dp
    simp only [PyData.depthAll]; omega
  · have h1 := a.wt; have h2 := b.wt
    simp only [PyData.weightAll]; omega
theorem Pl.list {ds : List PyData} {n w : Nat} (a : PlA ds n w) : Pl (.list ds) (n + 1) w := by
  refine ⟨by simp only [PyData.canLay0, a.lay], by simp only [PyData.showable, a.sh], by simp only [PyData.hasDict, a.nd], ?_, ?_, by simp only [PyData.leavesShort, a.sr]⟩
  · have h1 := a.dp
    simp only [PyData.depth]; omega
  · have h1 := a.wt
    simp only [PyData.weight]; omega
theorem Pl.tuple {ds : List PyData} {n w : Nat} (a : PlA ds n w) : Pl (.tuple ds) (n + 1) w := by
  refine ⟨by simp only [PyData.canLay0, a.lay], by simp only [PyData.showable, a.sh], by simp only [PyData.hasDict, a.nd], ?_, ?_, by simp only [PyData.leavesShort, a.sr]⟩
  · have h1 := a.dp
    simp only [PyData.depth]; omega
  · have h1 := a.wt
    simp only [PyData.weight]; omega
theorem Pl.mono {d : PyData} {n w m v : Nat} (a : Pl d n w) (h1 : n ≤ m) (h2 : w ≤ v) : Pl d m v := ⟨a.lay, a.sh, a.nd, Nat.le_trans a.dp h1, Nat.le_trans a.wt h2, a.sr⟩
theorem PlA.mono {d : List PyData} {n w m v : Nat} (a : PlA d n w) (h1 : n ≤ m) (h2 : w ≤ v) : PlA d m v := ⟨a.lay, a.sh, a.nd, Nat.le_trans a.dp h1, Nat.le_trans a.wt h2, a.sr⟩
theorem Pl.shaped {d : PyData} {n w : Nat} (a : Pl d n w) (h : n ≤ 40) : SeqAt.shaped d = true := by
  have := a.dp
  unfold SeqAt.shaped
  rw [a.lay, decide_eq_true (by omega)]; rfl
theorem Pl.short {d : PyData} {n w : Nat} (a : Pl d n w) (h : w ≤ 100000) : d.shown.length ≤ sizeLine := by
  have h1 := PyData.shown_le 20 (by decide) d a.sr
  have h2 := a.wt
  rw [sizeLine_eq]
  omega
/-- rows of whole numbers below 10 ^ 19 -/
theorem pla_ints : ∀ t : List Int, (∀ i ∈ t, i.natAbs < 10 ^ 19) → PlA (dI t) 0 (t.length * 65)
  | [], _ => PlA.nil
  | i :: r, h => (PlA.cons (Pl.int (h i List.mem_cons_self)) (pla_ints r fun j hj => h j (List.mem_cons_of_mem _ hj))).mono (by omega) (by show 64 + 1 + r.length * 65 ≤ (r.length + 1) * 65; omega)
abbrev Ts := List (List Int)
theorem pla_rows {n : Nat} : ∀ ts : Ts, (∀ t ∈ ts, t.length ≤ n ∧ ∀ i ∈ t, i.natAbs < 10 ^ 19) → PlA (ts.map fun t => PyData.tuple (dI t)) 1 (ts.length * (n * 65 + 1))
  | [], _ => PlA.nil.mono (by omega) (by omega)
  | t :: r, h => by
    obtain ⟨h1, h2⟩ := h t List.mem_cons_self
    refine (PlA.cons (Pl.tuple (pla_ints t h2)) (pla_rows r fun u hu => h u (List.mem_cons_of_mem _ hu))).mono (by omega) ?_
    show t.length * 65 + 1 + r.length * (n * 65 + 1) ≤ (r.length + 1) * (n * 65 + 1)
    rw [Nat.add_mul]
    omega

theorem pl_str {x : Str} (h1 : PyData.strOk x = true) (h2 : x.cps.size ≤ 100) (h3 : (x.cps.toList.all fun c => decide (c < 16 ^ 8)) = true) : Pl (.str x) 0 100 :=
  ⟨by simp only [PyData.canLay0]; exact h1, by simp only [PyData.showable], by simp only [PyData.hasDict], by simp only [PyData.depth]; omega, by simp only [PyData.weight]; exact h2, by simp only [PyData.leavesShort]; exact h3⟩
theorem pl_non : Pl .none 0 100 := ⟨rfl, rfl, rfl, by show 0 ≤ 0; decide, by show _ ≤ 100; decide +kernel, rfl⟩
/-! ### what repr gives -/
theorem reprP {K : PySem.W.Frag} {p : Addr} {d : PyData} {n w : Nat} {H : Hp} {Q : VK} (hd : Dp K H (.ref p) d) (pl : Pl d n w) (hn : n ≤ 40) (hw : w ≤ 100000) (q : Q (.str d.shown) H) : rRepr K [.ref p] H Q := ⟨p, d, rfl, hd, pl.sh, pl.nd, Nat.le_trans pl.dp hn, pl.short hw, q⟩
theorem neDP {K : PySem.W.Frag} {x y : V} {d : PyData} {n w : Nat} {H : Hp} {Q : VK} (h1 : Dp K H x d) (h2 : Dp K H y d) (pl : Pl d n w) (hn : n ≤ 40) (q : Q (.bl false) H) : rNeD K x y H Q := ⟨d, d, h1, h2, pl.shaped hn, pl.shaped hn, qbl (by rw [SeqAt.eqv_refl _ pl.lay]; rfl) q⟩
theorem eqDP {K : PySem.W.Frag} {x y : V} {d : PyData} {n w : Nat} {H : Hp} {Q : VK} (h1 : Dp K H x d) (h2 : Dp K H y d) (pl : Pl d n w) (hn : n ≤ 40) (q : Q (.bl true) H) : rEqD K x y H Q := ⟨d, d, h1, h2, pl.shaped hn, pl.shaped hn, qbl (SeqAt.eqv_refl _ pl.lay) q⟩
/-! ### what stays: all but the things at xs, and the tables of code -/
def Ks (xs : List Addr) (H H' : Hp) : Prop := ∀ c o, H c = some o → c ∉ xs → (∀ ps, o ≠ .tbl ps) → H' c = some o
section
variable {xs ys : List Addr} {H H1 H2 : Hp}
theorem Ks.refl : Ks xs H H := fun _ _ e _ _ => e
theorem Ks.trans (a : Ks xs H H1) (b : Ks xs H1 H2) : Ks xs H H2 := fun c o e n1 n2 => b c o (a c o e n1 n2) n1 n2
theorem Ks.same (a : Ks xs H H1) (s : Same H1 H2) : Ks xs H H2 := fun c o e n1 n2 => s _ _ (a c o e n1 n2)
theorem Same.ks (s : Same H H1) : Ks xs H H1 := fun c o e _ _ => s _ _ e
theorem Ks.mono (a : Ks xs H H1) (h : ∀ c ∈ xs, c ∈ ys) : Ks ys H H1 := fun c o e n1 n2 => a c o e (fun z => n1 (h c z)) n2
theorem Ks.tup {c : Addr} {vs : List V} (a : Ks xs H H1) (h : H c = some (.tup vs)) (n : c ∉ xs) : H1 c = some (.tup vs) := a c _ h n fun ps z => by cases z
theorem Ks.lst {c : Addr} {vs : List V} (a : Ks xs H H1) (h : H c = some (.lst vs)) (n : c ∉ xs) : H1 c = some (.lst vs) := a c _ h n fun ps z => by cases z
theorem Ks.ins {c C dx : Addr} {fs : List (Str × V)} (a : Ks xs H H1) (h : H c = some (.ins C dx fs)) (n : c ∉ xs) : H1 c = some (.ins C dx fs) := a c _ h n fun ps z => by cases z
end
end K1
namespace K1
open PySem PySem.Spec PyProof.Rows L2
/-! ### replaced -/
def spRepl : Sp := fun vs H Q _ => ∃ (p : Addr) (xs : List V) (i : Nat) (v : V), vs = [.ref p, .int (i : Int), v] ∧ H p = some (.tup xs) ∧ i < xs.length ∧ xs.length ≤ 1000 ∧ ∀ q H', Same H H' → H' q = some (.tup (xs.set i v)) → Q (.ref q) H'
/-! ### webs -/
abbrev Prs := List (Nat × Nat)
def pV (p : Nat × Nat) : List V := [.int (p.1 : Int), .int (p.2 : Int)]
structure Wv (n : Nat) (ts : Prs) : Prop where
  n1 : 1 ≤ n
  n12 : n ≤ 12
  t20 : ts.length ≤ 20
  pr : ∀ p ∈ ts, p.1 < n ∧ p.2 < n ∧ p.1 ≠ p.2
theorem Wv.at_ {n : Nat} {ts : Prs} (h : Wv n ts) {i : Nat} {p : Nat × Nat} (e : ts[i]? = some p) : p.1 < n ∧ p.2 < n ∧ p.1 ≠ p.2 := h.pr p (List.mem_of_getElem? e)
def wf (ta : Addr) (n : Int) : List (Str × V) := putF "houses" (.int n) (putF "ties" (.ref ta) [])
theorem wf_t (ta : Addr) (n : Int) : (wf ta n).lookup ("ties" : Str) = some (.ref ta) := by
  unfold wf
  rw [lookup_putF, if_neg (by decide +kernel), lookup_putF, if_pos rfl]
theorem wf_h (ta : Addr) (n : Int) : (wf ta n).lookup ("houses" : Str) = some (.int n) := by
  unfold wf
  rw [lookup_putF, if_pos rfl]
/-- pairs as tuples -/
def PrsA (H : Hp) (as : List Addr) (ts : Prs) : Prop := as.length = ts.length ∧ ∀ (i : Nat) a t, as[i]? = some a → ts[i]? = some t → H a = some (.tup (pV t))
theorem PrsA.same {H H' : Hp} {as : List Addr} {ts : Prs} (h : PrsA H as ts) (s : Same H H') : PrsA H' as ts := ⟨h.1, fun i a t e1 e2 => s _ _ (h.2 i a t e1 e2)⟩
theorem PrsA.get {H : Hp} {as : List Addr} {ts : Prs} (h : PrsA H as ts) {i : Nat} {t : Nat × Nat} (e : ts[i]? = some t) : ∃ a, as[i]? = some a ∧ H a = some (.tup (pV t)) := by
  obtain ⟨a, ha⟩ := ex_at (l := as) (i := i) (by rw [h.1]; exact lt_at e)
  exact ⟨a, ha, h.2 i a t ha e⟩
theorem PrsA.get' {H : Hp} {as : List Addr} {ts : Prs} (h : PrsA H as ts) {i : Nat} {x : V} (e : (as.map V.ref)[i]? = some x) : ∃ a t, x = .ref a ∧ as[i]? = some a ∧ ts[i]? = some t ∧ H a = some (.tup (pV t)) := by
  obtain ⟨a, ha, rfl⟩ := at_map e
  obtain ⟨t, ht⟩ := ex_at (l := ts) (i := i) (by rw [← h.1]; exact lt_at ha)
  exact ⟨a, t, rfl, ha, ht, h.2 i a t ha ht⟩
def TiesT (H : Hp) (ta : Addr) (ts : Prs) : Prop := ∃ as : List Addr, H ta = some (.tup (as.map V.ref)) ∧ PrsA H as ts
theorem TiesT.same {H H' : Hp} {ta : Addr} {ts : Prs} (h : TiesT H ta ts) (s : Same H H') : TiesT H' ta ts := let ⟨as, h1, h2⟩ := h; ⟨as, s _ _ h1, h2.same s⟩
/-- the web at w -/
def WebAt (W : Addr) (H : Hp) (w : Addr) (n : Nat) (ts : Prs) : Prop := ∃ dx ta, H w = some (.ins W dx (wf ta (n : Int))) ∧ TiesT H ta ts
theorem WebAt.same {W : Addr} {H H' : Hp} {w : Addr} {n : Nat} {ts : Prs} (h : WebAt W H w n ts) (s : Same H H') : WebAt W H' w n ts := let ⟨dx, ta, h1, h2⟩ := h; ⟨dx, ta, s _ _ h1, h2.same s⟩
/-- what the walk asks of the class Web, at W -/
structure WcT (K : PySem.W.Frag) (mg : Str → Option Value) (W : Addr) : Prop where
  cl : Cls K W
  nT : NoAttr K W "ties"
  nH : NoAttr K W "houses"
  g : mg "Web" = some (.ref W)
/-- the module's numbers -/
structure Cw (mg : Str → Option Value) : Prop where
  houses : ∃ t, mg "MOST_HOUSES" = some (.int 12 t)
  ties : ∃ t, mg "MOST_TIES" = some (.int 20 t)
/-- a pair of unlike numbers below n -/
def pairB (o : Option (List V)) (n : Int) : Bool := match o with
  | some [x, y] => belowB x n && belowB y n && !decide (x = y)
  | _ => false
theorem fnb_two (x y : V) (n : Int) : decide (fnb [x, y] n = .non) = (belowB x n && belowB y n) := by
  unfold fnb
  rw [List.findIdx?_cons, List.findIdx?_cons, List.findIdx?_nil]
  cases belowB x n <;> cases belowB y n <;> rfl
theorem scal_int {x y : V} {n : Int} (h1 : belowB x n = true) (h2 : belowB y n = true) : scal x y = true := by
  cases x <;> first | (cases h1; done) | skip
  cases y <;> first | (cases h2; done) | rfl
def spPair (K : PySem.W.Frag) : Sp := fun vs H Q _ => ∃ v o n, vs = [v, .int n] ∧ Rw K H v o ∧ ∀ H', Same H H' → Q (.bl (pairB o n)) H'
/-- checked_ties of a good web -/
def spCTies : Sp := fun vs H Q _ => ∃ (n : Nat) (p : Addr) (as : List Addr) (ts : Prs), vs = [.int (n : Int), .ref p] ∧ SeqA H p (as.map V.ref) ∧ PrsA H as ts ∧ Wv n ts ∧ ∀ ta H', Same H H' → TiesT H' ta ts → Q (.ref ta) H'
def spWInit (W : Addr) : Sp := fun vs H Q _ => ∃ (w dx : Addr) (n : Nat) (p : Addr) (as : List Addr) (ts : Prs), vs = [.ref w, .int (n : Int), .ref p] ∧ H w = some (.ins W dx []) ∧ SeqA H p (as.map V.ref) ∧ PrsA H as ts ∧ Wv n ts ∧
  ∀ H', (∀ b u, H b = some u → b ≠ w → H' b = some u) → WebAt W H' w n ts → Q .non H'
def spNeedH (K : PySem.W.Frag) (W C : Addr) : Sp := fun vs H Q E => ∃ w v o n ts, vs = [.ref w, v] ∧ WebAt W H w n ts ∧ KV K H v o ∧ (belowB v (n : Int) = true → Q v H) ∧ (belowB v (n : Int) = false → Rz C "house" v H E)
def spNeedT (K : PySem.W.Frag) (W C : Addr) : Sp := fun vs H Q E => ∃ w v o n ts, vs = [.ref w, v] ∧ WebAt W H w n ts ∧ KV K H v o ∧ (belowB v (ts.length : Int) = true → Q v H) ∧ (belowB v (ts.length : Int) = false → Rz C "tie" v H E)
section
variable {P : Program} {w : World} {K : PySem.W.Frag} {mg : Str → Option Value} {base : Heap}
theorem scRe : FnScope ["items", "at", "item"] ["items", "at", "item"] (defScope sRepl) := ⟨rfl, rfl, rfl, by decide +kernel, rfl, by decide +kernel, by decide +kernel⟩
theorem ok_repl {f : Addr} {fd : FuncData} (D : Df K mg "replaced" sRepl ["items", "at", "item"] f fd) : FnOk P w K mg base CX0 1 f fd ["items", "at", "item"] spRepl := by
  refine D.F.ok scRe (fun vs H Q E h => ?_) (fun cdv A outer s H vs Q E hr h => ?_)
  · obtain ⟨p, xs, i, v, rfl, _⟩ := h
    rfl
  · obtain ⟨p, xs, i, v, rfl, hp, hi, hl, q⟩ := h
    refine ⟨_, pss_one (ps_ret (pe_op op_catA (pe_op op_catA (pe_slice sl_tupA (pv 0) po_none (po_some (pv 1))) (pe_tup (pa_cons (pv 2) pa_nil))) (pe_slice sl_tupA (pv 0) (po_some (pe_op op_add (pv 1) pe_int)) po_none))), ?_⟩
    refine ⟨_, rfl, noP ⟨_, rfl, _, rfl, slA_by hp fun p1 H1 s1 hp1 => ?_⟩⟩
    rw [cut_to (by omega)] at hp1
    refine ⟨_, rfl, (by show 1 ≤ sizeLine; decide), fun p2 hp2 => ?_⟩
    refine catA_by (same_new hp2 _ _ hp1) upd_same (sz (by rw [List.length_take]; simp only [List.length_cons, List.length_nil]; omega)) fun p3 H3 s3 hp3 => ?_
    have s03 := (s1.trans (same_new (o := HO.tup [v]) hp2)).trans s3
    refine ⟨_, rfl, _, rfl, _, _, rfl, rfl, _, rfl, noP (slA_by (s03 _ _ hp) fun p4 H4 s4 hp4 => ?_)⟩
    have e1 : ((i : Int) + 1) = ((i + 1 : Nat) : Int) := by omega
    rw [e1, cut_from (by omega)] at hp4
    refine catA_by (s4 _ _ hp3) hp4 (sz (by rw [List.length_append, List.length_take, List.length_drop]; simp only [List.length_cons, List.length_nil]; omega)) fun p5 H5 s5 hp5 => ?_
    refine q p5 H5 ((s03.trans s4).trans s5) ?_
    rw [hp5, List.set_eq_take_append_cons_drop, if_pos hi, List.append_assoc]; rfl
theorem scPr : FnScope ["value", "houses"] ["value", "houses"] (defScope sPair) := ⟨rfl, rfl, rfl, by decide +kernel, rfl, by decide +kernel, by decide +kernel⟩
theorem ok_pair {f fS fF : Addr} {fd fdS fdF : FuncData} (D : Df K mg "is_pair" sPair ["value", "houses"] f fd) (DS : Df K mg "is_sequence" sSeq ["value", "least", "most"] fS fdS) (DF : Df K mg "first_not_below" sFnb ["items", "limit"] fF fdF)
    (GS : FnOk P w K mg base CX0 1 fS fdS ["value", "least", "most"] (spSeq K)) (GF : FnOk P w K mg base CX0 3 fF fdF ["items", "limit"] (spFnb K)) : FnOk P w K mg base CX0 4 f fd ["value", "houses"] (spPair K) := by
  refine D.F.ok scPr (fun vs H Q E h => ?_) (fun cdv A outer s H vs Q E hr h => ?_)
  · obtain ⟨v, o, n, rfl, _⟩ := h
    rfl
  · obtain ⟨v, o, n, rfl, hw, q⟩ := h
    refine ⟨_, pss_cons (ps_if (PW.pt (pw_or (pt_not (pt_val (pc DS GS (hr.mono (by decide)) pass0 (pa_cons (pv 0) (pa_cons pe_int (pa_cons pe_int pa_nil)))))) (pw_or1 (pt_cmp (pc_notN (pc DF GF hr pass0 (pa_cons (pv 0) (pa_cons (pv 1) pa_nil)))))))) (pss_one (ps_ret pe_bl)) pss_nil)
      (pss_one (ps_ret (pe_cmpR op_ne (pe_ix ix_seq (pv 0) pe_int (fun _ _ => rfl)) (pe_ix ix_seq (pv 0) pe_int (fun _ _ => rfl)) (nomark _)))), ?_⟩
    refine ⟨_, rfl, _, o, 2, 2, rfl, hw.kv, fun H1 s1 => ⟨_, rfl, ?_⟩⟩
    by_cases e : seqB o 2 2 = true
    · rw [e]
      refine iteF ?_
      cases o with
      | none => cases e
      | some ys =>
        have hl : ys.length = 2 := by
          have z : (decide ((2 : Int) ≤ (ys.length : Int)) && decide ((ys.length : Int) ≤ 2)) = true := e
          simp only [Bool.and_eq_true, decide_eq_true_eq] at z
          omega
        obtain ⟨x, y, rfl⟩ : ∃ x y, ys = [x, y] := by
          match ys, hl with
          | [x, y], _ => exact ⟨x, y, rfl⟩
        obtain ⟨a, rfl, hS⟩ := hw.kv.seqA
        refine ⟨_, rfl, _, rfl, a, _, n, rfl, hS.same s1, (hw.ks _ rfl).same s1, fun H2 s2 => ⟨_, rfl, ?_⟩⟩
        have s12 := s1.trans s2
        have hS2 := hS.same s12
        have fe := fnb_two x y n
        rw [fe]
        by_cases e2 : (belowB x n && belowB y n) = true
        · have hb := e2
          simp only [Bool.and_eq_true] at hb
          rw [e2]
          refine iteF (nxP ?_)
          have rd : ∀ (j : Nat) (v : V) (Q : VK), [x, y][j]? = some v → Q v H2 → rIx K (.ref a) (.int (j : Int)) H2 Q := fun j v Q hj q => by
            rcases hS2 with h | h
            · exact .inl ⟨a, _, _, v, rfl, rfl, SqL.of h, at_i hj, q⟩
            · exact .inr (.inl ⟨a, _, _, v, rfl, rfl, SqT.of h, at_i hj, q⟩)
          refine ⟨_, rfl, rd 0 x _ rfl ⟨_, rfl, rd 1 y _ rfl ⟨scal_int hb.1 hb.2, qbl ?_ (q _ s12)⟩⟩⟩
          show _ = (belowB x n && belowB y n && !decide (x = y))
          rw [e2]; rfl
        · have e3 : (belowB x n && belowB y n) = false := by simpa using e2
          rw [e3]
          refine iteT (qbl ?_ (q _ s12))
          show _ = (belowB x n && belowB y n && !decide (x = y))
          rw [e3]; rfl
    · have e3 : seqB o 2 2 = false := by simpa using e
      rw [e3]
      refine iteT (iteT (qbl ?_ (q _ s1)))
      cases o with
      | none => rfl
      | some ys =>
        match ys, e3 with
        | [], _ => rfl
        | [x], _ => rfl
        | [x, y], e3 => cases e3
        | x :: y :: z :: r, _ => rfl
end
end K1
namespace K1
open PySem PySem.Spec PyProof.Rows L2
/-! ### walks over a list or a tuple -/
def iSeqA (K : PySem.W.Frag) (tl : TE) : TI := fun σ H R => tl σ H fun x H1 => ∃ a, x = .ref a ∧ ((∃ xs, SqL K H1 a xs ∧ R (Itl K a) H1) ∨ (∃ xs, SqT K H1 a xs ∧ R (Itt K a) H1))
theorem pi_seqA {X : Cx} {tg l : Expr} {tl : TE} (hl : PE X l tl) : PI X tg l (iSeqA X.K tl) := by
  refine ⟨fun pins s σ H R I h => ?_⟩
  refine thn (hl.run pins s σ H _ I h) fun v s1 ⟨x, H1, I1, r1, q1⟩ => ?_
  obtain ⟨a, e, q⟩ := q1
  subst e
  cases r1
  rcases q with ⟨xs, hq, q⟩ | ⟨xs, hq, q⟩
  · obtain ⟨its, rv, p, hz⟩ := I1.list hq
    refine wpAny_pyIter_list p.isList ?_
    refine ⟨s1.heap.objs.size, [s1.heap.objs.size], _, _, H1, rfl, I1.kept (t' := s1.toks) fun b o e => Heap.get?_push_of_some _ e, turn_list a _, ⟨_, Heap.get?_push_size _ rfl, rfl, rfl⟩, fun b hb => ?_, q⟩
    have e : b = s1.heap.objs.size := by simpa using hb
    subst e
    exact I1.fpOk (Nat.le_refl _) (I1.hok.fresh (Nat.le_refl _))
  · obtain ⟨its, rv, p, hz⟩ := I1.tuple hq
    refine wpAny_pyIter_tuple (show s1.heap.IsTuple a its.toArray from p) ?_
    refine ⟨s1.heap.objs.size, [s1.heap.objs.size], _, _, H1, rfl, I1.kept (t' := s1.toks) fun b o e => Heap.get?_push_of_some _ e, turn_tuple a _, ⟨_, Heap.get?_push_size _ rfl, rfl, rfl⟩, fun b hb => ?_, q⟩
    have e : b = s1.heap.objs.size := by simpa using hb
    subst e
    exact I1.fpOk (Nat.le_refl _) (I1.hok.fresh (Nat.le_refl _))
theorem pi_seqK {X : Cx} {K : PySem.W.Frag} {tg l : Expr} {tl : TE} (h : X.K = K) (hl : PE X l tl) : PI X tg l (iSeqA K tl) := by subst h; exact pi_seqA hl
theorem pi_enumK {X : Cx} {K : PySem.W.Frag} {e : Expr} {ta : TA} {p pos tpos : Pos} {elts : List Expr} {kk : Nat} (h : X.K = K) (hg : Gl X "enumerate") (hm : X.mg "enumerate" = none) (ha : PA X [e] ta) (hs : starEach [e] X.env = [(false, eval e X.env)] := by rfl) :
    PI X (.Tuple elts kk tpos) (.Call (.Name "enumerate" p) [e] [] pos) (iEnumA K ta) := by subst h; exact pi_enumA hg hm ha hs
/-- a list, or a tuple, at a wherever Pv holds -/
def AtA {α : Type} (Pv : α → Hp → Prop) (a : Addr) (xs : List V) : Prop := (∀ y H, Pv y H → H a = some (.lst xs)) ∨ (∀ y H, Pv y H → H a = some (.tup xs))
section
variable {K : PySem.W.Frag} {a : Addr} {xs : List V}
/-- a comprehension over enumerate of a tuple -/
theorem lc_enumT {g : TG} {tt : TT} {te : TE} {vs : List Nat} {σ : L2.St} {H1 : Hp} {D : Addr} {Qd : Hp → Prop} (Pv : Nat → Hp → Prop) (h0 : Pv 0 (upd H1 D (.lst []))) (hl : ∀ i H, i ≤ xs.length → Pv i H → SqT K H a xs)
    (hs : ∀ i x T H, xs[i]? = some x → H T = none → Pv i H → g (.ref T) (wipe σ vs) (upd H T (.tup [.int (i : Nat), x])) fun σ2 H2 => wipe σ2 vs = wipe σ vs ∧ tt σ2 H2 fun b H3 =>
      if b = true then te σ2 H3 fun y H4 => ∃ acc, H4 D = some (.lst acc) ∧ acc.length < sizeLine ∧ Pv (i + 1) (upd H4 D (.lst (acc ++ [y]))) else Pv (i + 1) H3) (hd : ∀ H, Pv xs.length H → Qd H) :
    ∃ W : Nat → Nat → Hp → Prop, (∃ m, W 0 m (upd H1 D (.lst []))) ∧ ∀ i m H, W i m H →
      ((IteT K a).stop i H ∧ Qd H) ∨ ((IteT K a).go i H ∧ ∃ Nx : Hp → Prop, (∀ H', Nx H' → ∃ m', m' < m ∧ W (i + 1) m' H') ∧ ∀ x H', (IteT K a).yld i H x H' → g x (wipe σ vs) H' fun σ2 H2 => wipe σ2 vs = wipe σ vs ∧ tt σ2 H2 fun b H3 =>
        if b = true then te σ2 H3 fun y H4 => ∃ acc, H4 D = some (.lst acc) ∧ acc.length < sizeLine ∧ Nx (upd H4 D (.lst (acc ++ [y]))) else Nx H3) := by
  refine ⟨fun i m H => m = xs.length - i ∧ i ≤ xs.length ∧ Pv i H, ⟨xs.length, by simp, Nat.zero_le _, h0⟩, ?_⟩
  rintro i m H ⟨rfl, hi, p⟩
  have q := hl i H hi p
  by_cases hlt : i < xs.length
  · refine .inr ⟨⟨xs, xs[i], q, by simp [hlt]⟩, Pv (i + 1), fun H' p' => ⟨xs.length - (i + 1), by omega, rfl, hlt, p'⟩, fun x H' y => ?_⟩
    obtain ⟨T, x', e1, e2, e3, e4⟩ := y
    subst e1 e3
    exact hs i x' T H (e4 xs q) e2 p
  · have e : i = xs.length := by omega
    subst e
    exact .inl ⟨⟨xs, q, Nat.le_refl _⟩, hd H p⟩
end
section
variable {P : Program} {w : World} {K : PySem.W.Frag} {mg : Str → Option Value} {base : Heap}
theorem pair_ok {n : Nat} {ts : Prs} (hW : Wv n ts) {i : Nat} {t : Nat × Nat} (ht : ts[i]? = some t) : pairB (some (pV t)) (n : Int) = true := by
  obtain ⟨h1, h2, h3⟩ := hW.at_ ht
  show ((decide (0 ≤ (t.1 : Int)) && decide ((t.1 : Int) < (n : Int))) && (decide (0 ≤ (t.2 : Int)) && decide ((t.2 : Int) < (n : Int))) && !decide (V.int (t.1 : Int) = V.int (t.2 : Int))) = true
  rw [decide_eq_true (by omega), decide_eq_true (by omega), decide_eq_true (by omega), decide_eq_true (by omega), decide_eq_false (by intro e; injection e with e; omega)]; rfl
theorem kinds_pV {H : Hp} (t : Nat × Nat) : Kinds K H (pV t) := fun x hx => by
  simp only [pV, List.mem_cons, List.mem_nil_iff, or_false] at hx
  rcases hx with rfl | rfl <;> exact ⟨_, .int _⟩
theorem rw_pV {H : Hp} {a : Addr} {t : Nat × Nat} (h : H a = some (.tup (pV t))) : Rw K H (.ref a) (some (pV t)) := ⟨.tup h, fun ys e => by obtain rfl := Option.some.inj e; exact kinds_pV t⟩
theorem scCT : FnScope ["houses", "ties", "at", "pair"] ["houses", "ties"] (defScope sCTies) := ⟨rfl, rfl, rfl, by decide +kernel, rfl, by decide +kernel, by decide +kernel⟩
theorem ok_cties {f fW fS fP C cI : Addr} {fd fdW fdS fdP : FuncData} {bm : List Value} {ql : Str} (D : Df K mg "checked_ties" sCTies ["houses", "ties"] f fd) (DW : Df K mg "is_whole" sWhole ["value"] fW fdW) (DS : Df K mg "is_sequence" sSeq ["value", "least", "most"] fS fdS) (DP : Df K mg "is_pair" sPair ["value", "houses"] fP fdP)
    (B : Bt mg) (c : Cw mg) (T : LAt.Txt K mg "BadWeb" ql bm C cI) (GW : FnOk P w K mg base CX0 1 fW fdW ["value"] (spWhole K)) (GS : FnOk P w K mg base CX0 1 fS fdS ["value", "least", "most"] (spSeq K)) (GP : FnOk P w K mg base CX0 4 fP fdP ["value", "houses"] (spPair K)) :
    FnOk P w K mg base (L2.CX P w) 5 f fd ["houses", "ties"] spCTies := by
  obtain ⟨t1, hc1⟩ := c.houses
  obtain ⟨t2, hc2⟩ := c.ties
  refine D.F.okX scCT (fun vs H Q E h => ?_) (fun cdv A outer s H vs Q E hr h => ?_)
  · obtain ⟨n, p, as, ts, rfl, _⟩ := h
    rfl
  · obtain ⟨n, p, as, ts, rfl, hS, hA, hW, q⟩ := h
    have hr1 : Room 1 _ := hr.mono (by decide)
    refine ⟨_, pss_cons (ps_if (PW.pt (pw_or (pt_not (pt_val (pc DW GW hr1 pass0 (pa_cons (pv 0) pa_nil)))) (pw_or (pt_not (pt_chain op_le op_le pe_int (pv 0) (pe_glob (v := .int 12) (by rfl) hc1 ⟨_, rfl⟩))) (pw_or1 (pt_not (pt_val (pc DS GS hr1 pass0 (pa_cons (pv 1) (pa_cons pe_int (pa_cons (pe_glob (v := .int 20) (by rfl) hc2 ⟨_, rfl⟩) pa_nil)))))))))) (pss_one (ps_raise_LAt rfl T hr (takes_of rfl rfl rfl rfl) (pa_cons (pe_un un_neg pe_int) pa_nil))) pss_nil)
      (pss_cons (ps_for (passes_of rfl) rfl (pi_enumA (by rfl) B.enumerate (pa_cons (pv 1) pa_nil)) (pg_tup rfl (pgs_cons (pg_name (i := 2) scCT.nd rfl (.inl rfl)) (pgs_cons (pg_name (i := 3) scCT.nd rfl (.inl rfl)) pgs_nil)))
        (pss_one (ps_if (pt_not (pt_val (pc DP GP hr pass0 (pa_cons (pv 3) (pa_cons (pv 0) pa_nil))))) (pss_one (ps_raise_LAt rfl T hr (takes_of rfl rfl rfl rfl) (pa_cons (pv 2) pa_nil))) pss_nil)))
      (pss_one (ps_ret (pe_callTy call_tuple_of (by rfl) B.tuple (by decide +kernel) (pa_cons
        (pe_lc (own := [("pair", 3)]) (g := gName 3) (tt := tYes) rfl scCT.nd (pi_seqA (pv 1)) (blkOk_by (N := ["houses", "ties", "at", "pair"]) (sc := defScope sCTies) (by decide +kernel)) (fun _ _ _ _ _ => pg_name (i := 3) scCT.nd rfl (Or.inl rfl)) (fun _ _ _ _ _ => pts_nil)
          (fun _ _ _ _ _ => pe_callTy (ctup (K := K) rfl) (by rfl) B.tuple PyProof.Rows.boot_tuple (pa_cons (pv 3) pa_nil))) pa_nil))))), ?_⟩
    have n1 := hW.n1
    have n12 := hW.n12
    have t20 := hW.t20
    have la : (as.map V.ref).length = ts.length := by rw [List.length_map, hA.1]
    have lt20 : (as.map V.ref).length ≤ 20 := by omega
    have sq : seqB (some (as.map V.ref)) 0 20 = true := by
      show (decide ((0 : Int) ≤ ((as.map V.ref).length : Int)) && decide (((as.map V.ref).length : Int) ≤ 20)) = true
      rw [decide_eq_true (by omega), decide_eq_true (by omega)]; rfl
    refine ⟨_, rfl, _, none, rfl, .int _, true, rfl, iteF ?_⟩
    refine ⟨_, rfl, _, _, rfl, rfl, _, rfl, iteY (decide_eq_true (by omega)) ⟨_, _, rfl, rfl, true, congrArg V.bl (decide_eq_true (show (n : Int) ≤ 12 by omega)), iteF ?_⟩⟩
    refine ⟨_, rfl, _, some (as.map V.ref), 0, 20, rfl, hS.kv, fun H1 s1 => ⟨_, rfl, ?_⟩⟩
    rw [sq]
    refine iteF (nxP ?_)
    refine ⟨_, rfl, p, rfl, ?_⟩
    rcases hS with hS | hS
    · refine .inl ⟨_, SqL.of (s1 _ _ hS), for_enumL (K := K) (fun (_ : Nat) (σ : L2.St) (H' : Hp) => ∃ v2 v3 : Option V, σ = [some (.int (n : Int)), some (.ref p), v2, v3] ∧ Same H H') ⟨none, none, rfl, s1⟩ (fun i σ H' _ ⟨_, _, _, sm⟩ => SqL.of (sm _ _ hS)) ?_ ?_⟩
      · rintro i x T σ H' hx hT ⟨v2, v3, rfl, sm⟩
        obtain ⟨a, t, rfl, ha, ht, hat⟩ := hA.get' hx
        have sm2 := sm.trans (same_new (o := HO.tup [.int (i : Nat), .ref a]) hT)
        refine ⟨T, _, rfl, SqT.of upd_same, rfl, _, _, rfl, _, _, rfl, rfl, ?_⟩
        refine ⟨_, rfl, _, rfl, .ref a, some (pV t), (n : Int), rfl, rw_pV (sm2 _ _ hat), fun H3 s3 => ⟨_, rfl, ?_⟩⟩
        rw [pair_ok hW ht]
        exact iteF ⟨_, _, rfl, sm2.trans s3⟩
      · rintro σ H' ⟨v2, v3, rfl, sm⟩
        refine ⟨_, rfl, p, rfl, .inl ⟨_, SqL.of (sm _ _ hS), fun D hD => lc_list (K := K) (a := p) (xs := as.map V.ref) (fun i H2 => Same H' H2 ∧ H2 D = some (.lst ((as.map V.ref).take i))) ⟨same_new hD, by rw [upd_same]; rfl⟩ (fun i H2 _ ⟨s5, _⟩ => SqL.of (s5 _ _ (sm _ _ hS))) ?_ ?_⟩⟩
        · rintro i x H2 hx ⟨s5, hD2⟩
          obtain ⟨a, t, e, ha, ht, hat⟩ := hA.get' hx
          subst e
          refine ⟨rfl, _, rfl, a, pV t, rfl, .inr ⟨SqT.of (s5 _ _ (sm _ _ hat)), _, hD2, szl (by rw [List.length_take]; omega), fun c o e => ?_, ?_⟩⟩
          · rw [upd_ne (ne_of_none e hD)]
            exact s5 _ _ e
          · rw [upd_same, take_succ hx]
        · rintro H2 ⟨s5, hD2⟩
          rw [List.take_of_length_le (Nat.le_refl _)] at hD2
          refine ⟨D, _, rfl, .inl ⟨SqL.of hD2, fun ta hta => ?_⟩⟩
          have s6 := (sm.trans s5).trans (same_new (o := HO.tup (as.map V.ref)) hta)
          exact q ta _ s6 ⟨as, upd_same, hA.same s6⟩
    · refine .inr ⟨_, SqT.of (s1 _ _ hS), for_enumT (K := K) (fun (_ : Nat) (σ : L2.St) (H' : Hp) => ∃ v2 v3 : Option V, σ = [some (.int (n : Int)), some (.ref p), v2, v3] ∧ Same H H') ⟨none, none, rfl, s1⟩ (fun i σ H' _ ⟨_, _, _, sm⟩ => SqT.of (sm _ _ hS)) ?_ ?_⟩
      · rintro i x T σ H' hx hT ⟨v2, v3, rfl, sm⟩
        obtain ⟨a, t, rfl, ha, ht, hat⟩ := hA.get' hx
        have sm2 := sm.trans (same_new (o := HO.tup [.int (i : Nat), .ref a]) hT)
        refine ⟨T, _, rfl, SqT.of upd_same, rfl, _, _, rfl, _, _, rfl, rfl, ?_⟩
        refine ⟨_, rfl, _, rfl, .ref a, some (pV t), (n : Int), rfl, rw_pV (sm2 _ _ hat), fun H3 s3 => ⟨_, rfl, ?_⟩⟩
        rw [pair_ok hW ht]
        exact iteF ⟨_, _, rfl, sm2.trans s3⟩
      · rintro σ H' ⟨v2, v3, rfl, sm⟩
        refine ⟨_, rfl, p, rfl, .inr ⟨_, SqT.of (sm _ _ hS), fun D hD => lc_tup (K := K) (a := p) (xs := as.map V.ref) (fun i H2 => Same H' H2 ∧ H2 D = some (.lst ((as.map V.ref).take i))) ⟨same_new hD, by rw [upd_same]; rfl⟩ (fun i H2 _ ⟨s5, _⟩ => SqT.of (s5 _ _ (sm _ _ hS))) ?_ ?_⟩⟩
        · rintro i x H2 hx ⟨s5, hD2⟩
          obtain ⟨a, t, e, ha, ht, hat⟩ := hA.get' hx
          subst e
          refine ⟨rfl, _, rfl, a, pV t, rfl, .inr ⟨SqT.of (s5 _ _ (sm _ _ hat)), _, hD2, szl (by rw [List.length_take]; omega), fun c o e => ?_, ?_⟩⟩
          · rw [upd_ne (ne_of_none e hD)]
            exact s5 _ _ e
          · rw [upd_same, take_succ hx]
        · rintro H2 ⟨s5, hD2⟩
          rw [List.take_of_length_le (Nat.le_refl _)] at hD2
          refine ⟨D, _, rfl, .inl ⟨SqL.of hD2, fun ta hta => ?_⟩⟩
          have s6 := (sm.trans s5).trans (same_new (o := HO.tup (as.map V.ref)) hta)
          exact q ta _ s6 ⟨as, upd_same, hA.same s6⟩
theorem scWI : FnScope ["self", "houses", "ties"] ["self", "houses", "ties"] (defScope sWInit) := ⟨rfl, rfl, rfl, by decide +kernel, rfl, by decide +kernel, by decide +kernel⟩
theorem ok_winit {f fC W : Addr} {fd fdC : FuncData} (F : Fun K "__init__" "Web.__init__" sWInit f fd) (DC : Df K mg "checked_ties" sCTies ["houses", "ties"] fC fdC) (T : WcT K mg W)
    (GC : FnOk P w K mg base (L2.CX P w) 5 fC fdC ["houses", "ties"] spCTies) : FnOk P w K mg base (L2.CX P w) 6 f fd ["self", "houses", "ties"] (spWInit W) := by
  refine F.okX scWI (fun vs H Q E h => ?_) (fun cdv A outer s H vs Q E hr h => ?_)
  · obtain ⟨w, dx, n, p, as, ts, rfl, _⟩ := h
    rfl
  · obtain ⟨w, dx, n, p, as, ts, rfl, hw, hS, hA, hW, q⟩ := h
    refine ⟨_, pss_cons (ps_fld (pv 0) (pc DC GC hr (pass1 (takes_of rfl rfl rfl rfl)) (pa_cons (pv 1) (pa_cons (pv 2) pa_nil))) rfl) (pss_one (ps_fld (pv 0) (pv 1) rfl)), ?_⟩
    refine ⟨_, rfl, _, rfl, n, p, as, ts, rfl, hS, hA, hW, fun ta H' sm hT => ?_⟩
    have hw1 := sm _ _ hw
    refine ⟨_, rfl, w, W, dx, [], rfl, hw1, T.cl, T.nT, (by show 0 < 1000; decide), ?_⟩
    refine ⟨_, rfl, _, rfl, w, W, dx, _, rfl, upd_same, T.cl, T.nH, (by show 1 < 1000; decide), ?_⟩
    rw [upd_upd]
    obtain ⟨bs, k1, k2⟩ := hT
    have kp : ∀ b u, H' b = some u → b ≠ w → (upd H' w (.ins W dx (wf ta (n : Int)))) b = some u := fun b u e nb => by rw [upd_ne nb]; exact e
    have nw : ∀ {c : Addr} {xs : List V}, H' c = some (.tup xs) → c ≠ w := fun h e => by rw [e, hw1] at h; cases h
    exact q _ (fun b u e nb => kp b u (sm _ _ e) nb) ⟨dx, ta, upd_same, bs, kp _ _ k1 (nw k1), k2.1, fun i a t e1 e2 => kp _ _ (k2.2 i a t e1 e2) (nw (k2.2 i a t e1 e2))⟩
theorem scNH : FnScope ["web", "house"] ["web", "house"] (defScope sNeedH) := ⟨rfl, rfl, rfl, by decide +kernel, rfl, by decide +kernel, by decide +kernel⟩
theorem ok_needH {f fB C W cI : Addr} {fd fdB : FuncData} {bm : List Value} {ql : Str} (D : Df K mg "need_house" sNeedH ["web", "house"] f fd) (DB : Df K mg "is_below" sBelow ["value", "limit"] fB fdB) (T : WcT K mg W) (TX : LHouse.Txt K mg "NoHouse" ql bm C cI)
    (GB : FnOk P w K mg base CX0 2 fB fdB ["value", "limit"] (spBelow K)) : FnOk P w K mg base (L2.CX P w) 3 f fd ["web", "house"] (spNeedH K W C) := by
  refine D.F.okX scNH (fun vs H Q E h => ?_) (fun cdv A outer s H vs Q E hr h => ?_)
  · obtain ⟨w, v, o, n, ts, rfl, _⟩ := h
    rfl
  · obtain ⟨w, v, o, n, ts, rfl, ⟨dx, ta, h1, _⟩, kv, q1, q2⟩ := h
    refine ⟨_, pss_cons (ps_if (pt_not (pt_val (pc DB GB hr pass0 (pa_cons (pv 1) (pa_cons (pe_fld (pv 0) rfl) pa_nil))))) (pss_one (ps_raise_LHouse rfl TX hr (takes_of rfl rfl rfl rfl) (pa_cons (pv 1) pa_nil))) pss_nil) (pss_one (ps_ret (pv 1))), ?_⟩
    refine ⟨_, rfl, _, rfl, w, W, dx, _, _, rfl, h1, T.cl, T.nH, wf_h _ _, v, o, _, rfl, kv, _, rfl, ifD (fun e => ?_) fun e => ?_⟩
    · exact ⟨_, rfl, _, rfl, fun d hd => q2 (by simpa using e) d _ (same_new hd) hd upd_same⟩
    · exact ⟨_, rfl, q1 (by simpa using e)⟩
theorem scNT : FnScope ["web", "tie"] ["web", "tie"] (defScope sNeedT) := ⟨rfl, rfl, rfl, by decide +kernel, rfl, by decide +kernel, by decide +kernel⟩
theorem ok_needT {f fB C W cI : Addr} {fd fdB : FuncData} {bm : List Value} {ql : Str} (D : Df K mg "need_tie" sNeedT ["web", "tie"] f fd) (DB : Df K mg "is_below" sBelow ["value", "limit"] fB fdB) (B : Bt mg) (T : WcT K mg W) (TX : LTie.Txt K mg "NoTie" ql bm C cI)
    (GB : FnOk P w K mg base CX0 2 fB fdB ["value", "limit"] (spBelow K)) : FnOk P w K mg base (L2.CX P w) 3 f fd ["web", "tie"] (spNeedT K W C) := by
  refine D.F.okX scNT (fun vs H Q E h => ?_) (fun cdv A outer s H vs Q E hr h => ?_)
  · obtain ⟨w, v, o, n, ts, rfl, _⟩ := h
    rfl
  · obtain ⟨w, v, o, n, ts, rfl, ⟨dx, ta, h1, as, g1, g2⟩, kv, q1, q2⟩ := h
    refine ⟨_, pss_cons (ps_if (pt_not (pt_val (pc DB GB hr pass0 (pa_cons (pv 1) (pa_cons (pe_callB call_len_seq (by rfl) B.len PySem.boot_len (pa_cons (pe_fld (pv 0) rfl) pa_nil)) pa_nil))))) (pss_one (ps_raise_LTie rfl TX hr (takes_of rfl rfl rfl rfl) (pa_cons (pv 1) pa_nil))) pss_nil) (pss_one (ps_ret (pv 1))), ?_⟩
    have el : ((as.map V.ref).length : Int) = (ts.length : Int) := by rw [List.length_map, g2.1]
    refine ⟨_, rfl, _, rfl, w, W, dx, _, _, rfl, h1, T.cl, T.nT, wf_t _ _, ta, _, rfl, .inr (SqT.of g1), v, o, _, rfl, kv, _, rfl, ?_⟩
    rw [el]
    refine ifD (fun e => ?_) fun e => ?_
    · exact ⟨_, rfl, _, rfl, fun d hd => q2 (by simpa using e) d _ (same_new hd) hd upd_same⟩
    · exact ⟨_, rfl, q1 (by simpa using e)⟩
end
end K1
namespace K1
/-! ### rows: the shorter ones ahead, then by their deeds -/
def LL : List Int → List Int → Prop
  | _, [] => False
  | [], _ :: _ => True
  | a :: r, b :: q => a < b ∨ (a = b ∧ LL r q)
theorem LL.irrefl : ∀ r, ¬ LL r r
  | [], h => h
  | a :: r, h => by
    rcases h with h | ⟨_, h⟩
    · omega
    · exact LL.irrefl r h
theorem LL.trans : ∀ {r q s : List Int}, LL r q → LL q s → LL r s
  | _, _, [], _, h => by
    cases ‹List Int› <;> exact absurd h (by simp [LL])
  | _, [], _ :: _, h, _ => by
    cases ‹List Int› <;> exact absurd h (by simp [LL])
  | [], _ :: _, _ :: _, _, _ => True.intro
  | a :: r, b :: q, c :: s, h1, h2 => by
    rcases h1 with h1 | ⟨rfl, h1⟩
    · rcases h2 with h2 | ⟨rfl, h2⟩
      · exact .inl (by omega)
      · exact .inl h1
    · rcases h2 with h2 | ⟨rfl, h2⟩
      · exact .inl h2
      · exact .inr ⟨rfl, h1.trans h2⟩
theorem LL.tri : ∀ {r q : List Int}, r.length = q.length → r = q ∨ LL r q ∨ LL q r
  | [], [], _ => .inl rfl
  | a :: r, b :: q, h => by
    by_cases e1 : a < b
    · exact .inr (.inl (.inl e1))
    · by_cases e2 : b < a
      · exact .inr (.inr (.inl e2))
      · obtain rfl : a = b := by omega
        rcases LL.tri (r := r) (q := q) (by simpa using h) with e | e | e
        · exact .inl (by rw [e])
        · exact .inr (.inl (.inr ⟨rfl, e⟩))
        · exact .inr (.inr (.inr ⟨rfl, e⟩))
  | [], _ :: _, h => by cases h
  | _ :: _, [], h => by cases h
theorem LL.app : ∀ {r q : List Int} (s t : List Int), r.length = q.length → LL r q → LL (r ++ s) (q ++ t)
  | [], [], _, _, _, h => h.elim
  | a :: r, b :: q, s, t, hl, h => by
    rcases h with h | ⟨e, h⟩
    · exact .inl h
    · exact .inr ⟨e, LL.app s t (by simpa using hl) h⟩
  | [], _ :: _, _, _, h, _ => by cases h
  | _ :: _, [], _, _, h, _ => by cases h
theorem LL.app' : ∀ (r : List Int) {s t : List Int}, LL s t → LL (r ++ s) (r ++ t)
  | [], _, _, h => h
  | _ :: r, _, _, h => .inr ⟨rfl, LL.app' r h⟩
def rlt (r q : List Int) : Prop := r.length < q.length ∨ (r.length = q.length ∧ LL r q)
theorem rlt.irrefl (r : List Int) : ¬ rlt r r := fun h => by
  rcases h with h | ⟨_, h⟩
  · omega
  · exact LL.irrefl r h
theorem rlt.trans {r q s : List Int} (a : rlt r q) (b : rlt q s) : rlt r s := by
  rcases a with a | ⟨a1, a2⟩ <;> rcases b with b | ⟨b1, b2⟩
  · exact .inl (by omega)
  · exact .inl (by omega)
  · exact .inl (by omega)
  · exact .inr ⟨by omega, a2.trans b2⟩
theorem rlt.tri (r q : List Int) : r = q ∨ rlt r q ∨ rlt q r := by
  by_cases e1 : r.length < q.length
  · exact .inr (.inl (.inl e1))
  · by_cases e2 : q.length < r.length
    · exact .inr (.inr (.inl e2))
    · have e : r.length = q.length := by omega
      rcases LL.tri e with h | h | h
      · exact .inl h
      · exact .inr (.inl (.inr ⟨e, h⟩))
      · exact .inr (.inr (.inr ⟨e.symm, h⟩))
theorem rlt.app {r q : List Int} (d e : Int) (h : rlt r q) : rlt (r ++ [d]) (q ++ [e]) := by
  rcases h with h | ⟨h1, h2⟩
  · exact .inl (by simp only [List.length_append, List.length_cons, List.length_nil]; omega)
  · exact .inr ⟨by simp only [List.length_append, List.length_cons, List.length_nil]; omega, LL.app _ _ h1 h2⟩
theorem rlt.last (r : List Int) {d e : Int} (h : d < e) : rlt (r ++ [d]) (r ++ [e]) := .inr ⟨by simp, LL.app' r (.inl h)⟩
theorem rlt.nil {r : List Int} (h : r ≠ []) : rlt [] r := .inl (by cases r with | nil => exact absurd rfl h | cons a r => simp)
def rle (r q : List Int) : Prop := r = q ∨ rlt r q
theorem rle.trans {r q s : List Int} (a : rle r q) (b : rle q s) : rle r s := by
  rcases a with rfl | a
  · exact b
  · rcases b with rfl | b
    · exact .inr a
    · exact .inr (a.trans b)
theorem rle.anti {r q : List Int} (a : rle r q) (b : rle q r) : r = q := by
  rcases a with rfl | a
  · rfl
  · rcases b with rfl | b
    · rfl
    · exact absurd (a.trans b) (rlt.irrefl _)
theorem rle.app {r q : List Int} (d : Int) (h : rle r q) : rle (r ++ [d]) (q ++ [d]) := by
  rcases h with rfl | h
  · exact .inl rfl
  · exact .inr (h.app d d)
/-! ### the search by rows, told without a heap -/
abbrev KR := List Int × List Int
def path {α : Type} (act : α → Int → α) (s : α) (r : List Int) : α := r.foldl act s
theorem path_snoc {α : Type} (act : α → Int → α) (s : α) (r : List Int) (d : Int) : path act s (r ++ [d]) = act (path act s r) d := by
  unfold path
  rw [List.foldl_append]; rfl
/-- all deeds of the first i things, and the first d deeds of the next one, are done -/
structure Bf {α : Type} (act : α → Int → α) (n : Nat) (s : α) (F : List (α × List Int)) (i d : Nat) : Prop where
  nd : (F.map (·.1)).Nodup
  h0 : F[0]? = some (s, [])
  pth : ∀ (j : Nat) k r, F[j]? = some (k, r) → k = path act s r ∧ (∀ e ∈ r, 0 ≤ e ∧ e < (n : Int)) ∧ r.length ≤ j
  asc : ∀ (j j' : Nat) k k' r r', j < j' → F[j]? = some (k, r) → F[j']? = some (k', r') → rlt r r'
  old : ∀ (j : Nat) k r, F[j]? = some (k, r) → r = [] ∨ ∃ (p : Nat) (kp : α) (rp : List Int) (e : Int), F[p]? = some (kp, rp) ∧ r = rp ++ [e] ∧ 0 ≤ e ∧ (p < i ∨ (p = i ∧ e < (d : Int)))
  cl : ∀ (p : Nat) kp rp (e : Int), F[p]? = some (kp, rp) → 0 ≤ e → e < (n : Int) → (p < i ∨ (p = i ∧ e < (d : Int))) → ∃ (j : Nat) (r : List Int), F[j]? = some (act kp e, r) ∧ rle r (rp ++ [e])
variable {α : Type} {act : α → Int → α} {n : Nat} {s : α} {F : List (α × List Int)} {i d : Nat}
theorem Bf.init : Bf act n s [(s, [])] 0 0 := by
  have one : ∀ (j : Nat) k r, ([(s, [])] : List (α × List Int))[j]? = some (k, r) → j = 0 ∧ k = s ∧ r = [] := fun j k r h => by
    cases j with
    | zero =>
      have e : (s, []) = (k, r) := Option.some.inj h
      injection e with e1 e2
      exact ⟨rfl, e1.symm, e2.symm⟩
    | succ j => cases h
  refine ⟨by simp, rfl, fun j k r h => ?_, fun j j' k k' r r' hj h h' => ?_, fun j k r h => .inl (one j k r h).2.2, fun p kp rp e h _ _ z => ?_⟩
  · obtain ⟨rfl, rfl, rfl⟩ := one j k r h
    exact ⟨rfl, fun e he => absurd he (by simp), Nat.zero_le _⟩
  · have := (one j' k' r' h').1
    omega
  · obtain ⟨rfl, rfl, rfl⟩ := one p kp rp h
    omega
/-- a row of the search against the row that is looked at -/
theorem Bf.ahead (b : Bf act n s F i d) {ki : α} {ri : List Int} (hi : F[i]? = some (ki, ri)) {j : Nat} {k : α} {r : List Int} (h : F[j]? = some (k, r)) : rlt r (ri ++ [(d : Int)]) := by
  rcases b.old j k r h with rfl | ⟨p, kp, rp, e, hp, rfl, _, z⟩
  · exact rlt.nil (by simp)
  · rcases z with z | ⟨rfl, z⟩
    · exact (b.asc p i kp ki rp ri z hp hi).app _ _
    · rw [hp] at hi
      have e2 : (kp, rp) = (ki, ri) := Option.some.inj hi
      injection e2 with _ e2
      subst e2
      exact rlt.last _ z
theorem Bf.more (b : Bf act n s F i d) {j : Nat} {k : α} {r : List Int} {ki : α} {ri : List Int} (hi : F[i]? = some (ki, ri)) (h : F[j]? = some (k, r)) (hk : k = act ki d) : Bf act n s F i (d + 1) := by
  refine ⟨b.nd, b.h0, b.pth, b.asc, fun j k r h => ?_, fun p kp rp e hp h0 hn z => ?_⟩
  · rcases b.old j k r h with e | ⟨p, kp, rp, e, hp, e1, e2, z⟩
    · exact .inl e
    · exact .inr ⟨p, kp, rp, e, hp, e1, e2, by omega⟩
  · by_cases q : p < i ∨ (p = i ∧ e < (d : Int))
    · exact b.cl p kp rp e hp h0 hn q
    · obtain ⟨rfl, rfl⟩ : p = i ∧ e = (d : Int) := by omega
      rw [hi] at hp
      have e2 : (ki, ri) = (kp, rp) := Option.some.inj hp
      injection e2 with e1 e2
      subst e1
      subst e2
      subst hk
      exact ⟨j, r, h, .inr (b.ahead hi h)⟩
theorem Bf.put (b : Bf act n s F i d) {ki : α} {ri : List Int} (hi : F[i]? = some (ki, ri)) (hn : act ki d ∉ F.map (·.1)) (hd : d < n) : Bf act n s (F ++ [(act ki d, ri ++ [(d : Int)])]) i (d + 1) := by
  have hil : i < F.length := (List.getElem?_eq_some_iff.mp hi).1
  have at_ : ∀ (j : Nat) k r, (F ++ [(act ki d, ri ++ [(d : Int)])])[j]? = some (k, r) → F[j]? = some (k, r) ∨ (j = F.length ∧ k = act ki d ∧ r = ri ++ [(d : Int)]) := fun j k r h => by
    by_cases hj : j < F.length
    · rw [List.getElem?_append_left hj] at h
      exact .inl h
    · rw [List.getElem?_append_right (by omega)] at h
      cases e : j - F.length with
      | zero =>
        rw [e] at h
        have e2 : (act ki d, ri ++ [(d : Int)]) = (k, r) := Option.some.inj h
        injection e2 with e1 e2
        exact .inr ⟨by omega, e1.symm, e2.symm⟩
      | succ q => rw [e] at h; cases h
  have up : ∀ (j : Nat) x, F[j]? = some x → (F ++ [(act ki d, ri ++ [(d : Int)])])[j]? = some x := fun j x h => by
    rw [List.getElem?_append_left (List.getElem?_eq_some_iff.mp h).1]; exact h
  have new : (F ++ [(act ki d, ri ++ [(d : Int)])])[F.length]? = some (act ki d, ri ++ [(d : Int)]) := by
    rw [List.getElem?_append_right (Nat.le_refl _), Nat.sub_self]; rfl
  refine ⟨?_, up _ _ b.h0, fun j k r h => ?_, fun j j' k k' r r' hj h h' => ?_, fun j k r h => ?_, fun p kp rp e hp h0 hne z => ?_⟩
  · rw [List.map_append, List.nodup_append]
    exact ⟨b.nd, by simp, fun y hy z hz e => by
      rw [List.map_cons, List.map_nil, List.mem_singleton] at hz
      rw [e, hz] at hy
      exact hn hy⟩
  · rcases at_ j k r h with h | ⟨rfl, rfl, rfl⟩
    · exact b.pth j k r h
    · obtain ⟨p1, p2, p3⟩ := b.pth i ki ri hi
      refine ⟨by rw [path_snoc, ← p1], fun e he => ?_, by simp only [List.length_append, List.length_cons, List.length_nil]; omega⟩
      rcases List.mem_append.mp he with he | he
      · exact p2 e he
      · rw [List.mem_singleton.mp he]; omega
  · rcases at_ j' k' r' h' with h' | ⟨rfl, rfl, rfl⟩
    · have hj' := (List.getElem?_eq_some_iff.mp h').1
      rcases at_ j k r h with h | ⟨rfl, _, _⟩
      · exact b.asc j j' k k' r r' hj h h'
      · omega
    · rcases at_ j k r h with h | ⟨rfl, _, _⟩
      · exact b.ahead hi h
      · omega
  · rcases at_ j k r h with h | ⟨rfl, rfl, rfl⟩
    · rcases b.old j k r h with e | ⟨p, kp, rp, e, hp, e1, e2, z⟩
      · exact .inl e
      · exact .inr ⟨p, kp, rp, e, up _ _ hp, e1, e2, by omega⟩
    · exact .inr ⟨i, ki, ri, d, up _ _ hi, rfl, by omega, by omega⟩
  · rcases at_ p kp rp hp with hp | ⟨rfl, _, _⟩
    · by_cases q : p < i ∨ (p = i ∧ e < (d : Int))
      · obtain ⟨j, r, h1, h2⟩ := b.cl p kp rp e hp h0 hne q
        exact ⟨j, r, up _ _ h1, h2⟩
      · obtain ⟨rfl, rfl⟩ : p = i ∧ e = (d : Int) := by omega
        rw [hi] at hp
        have e2 : (ki, ri) = (kp, rp) := Option.some.inj hp
        injection e2 with e1 e2
        subst e1
        subst e2
        exact ⟨F.length, _, new, .inl rfl⟩
    · omega
theorem Bf.next (b : Bf act n s F i n) : Bf act n s F (i + 1) 0 := by
  refine ⟨b.nd, b.h0, b.pth, b.asc, fun j k r h => ?_, fun p kp rp e hp h0 hn z => b.cl p kp rp e hp h0 hn (by omega)⟩
  rcases b.old j k r h with e | ⟨p, kp, rp, e, hp, e1, e2, z⟩
  · exact .inl e
  · exact .inr ⟨p, kp, rp, e, hp, e1, e2, by omega⟩
/-- all rows' first ones, ascending -/
structure Fst {α : Type} (act : α → Int → α) (n : Nat) (s : α) (F : List (α × List Int)) : Prop where
  nd : (F.map (·.1)).Nodup
  h0 : F[0]? = some (s, [])
  pth : ∀ (j : Nat) k r, F[j]? = some (k, r) → k = path act s r ∧ (∀ e ∈ r, 0 ≤ e ∧ e < (n : Int)) ∧ r.length ≤ j
  asc : ∀ (j j' : Nat) k k' r r', j < j' → F[j]? = some (k, r) → F[j']? = some (k', r') → rlt r r'
  all : ∀ r : List Int, (∀ e ∈ r, 0 ≤ e ∧ e < (n : Int)) → ∃ (j : Nat) (r' : List Int), F[j]? = some (path act s r, r') ∧ rle r' r
theorem Bf.done (b : Bf act n s F i 0) (hi : F.length ≤ i) : Fst act n s F := by
  refine ⟨b.nd, b.h0, b.pth, b.asc, fun r => ?_⟩
  generalize hm : r.length = m
  induction m generalizing r with
  | zero =>
    intro _
    obtain rfl : r = [] := List.eq_nil_of_length_eq_zero hm
    exact ⟨0, [], b.h0, .inl rfl⟩
  | succ m ih =>
    intro hr
    rcases List.eq_nil_or_concat r with rfl | ⟨q, e, rfl⟩
    · cases hm
    · have hq : q.length = m := by
        simp only [List.concat_eq_append, List.length_append, List.length_cons, List.length_nil] at hm
        omega
      rw [List.concat_eq_append] at hr ⊢
      obtain ⟨j, r', h1, h2⟩ := ih q hq fun x hx => hr x (List.mem_append_left _ hx)
      have he := hr e (List.mem_append_right _ (List.mem_singleton.mpr rfl))
      have hj := (List.getElem?_eq_some_iff.mp h1).1
      obtain ⟨j2, r2, h3, h4⟩ := b.cl j _ _ e h1 he.1 he.2 (.inl (by omega))
      exact ⟨j2, r2, by rw [path_snoc]; exact h3, h4.trans (h2.app e)⟩
end K1
namespace K1
open PySem PySem.Spec PyProof.Rows L2
/-! ### the ways on from a house -/
def inc (h : Nat) (p : Nat × Nat) : Bool := decide (h = p.1) || decide (h = p.2)
def oth (h : Nat) (p : Nat × Nat) : Nat := p.1 + p.2 - h
def wOnK (ts : Prs) (h k : Nat) : Prs := ((ts.take k).zipIdx.filter fun q => inc h q.1).map fun q => (q.2, oth h q.1)
def wOn (ts : Prs) (h : Nat) : Prs := wOnK ts h ts.length
theorem wOnK_succ {ts : Prs} {h k : Nat} {p : Nat × Nat} (e : ts[k]? = some p) : wOnK ts h (k + 1) = wOnK ts h k ++ if inc h p = true then [(k, oth h p)] else [] := by
  have hk := lt_at e
  have hl : (ts.take k).length = k := by rw [List.length_take]; omega
  unfold wOnK
  rw [take_succ e, List.zipIdx_append, hl, List.filter_append, List.map_append]
  congr 1
  show List.map _ (List.filter _ (List.zipIdx [p] (0 + k))) = _
  rw [Nat.zero_add]
  show List.map _ (List.filter _ [(p, k)]) = _
  rw [List.filter_cons]
  cases e2 : inc h p with
  | true => rfl
  | false => rfl
theorem wOnK_len (ts : Prs) (h k : Nat) : (wOnK ts h k).length ≤ ts.length := by
  unfold wOnK
  rw [List.length_map]
  refine Nat.le_trans (List.length_filter_le _ _) ?_
  rw [List.length_zipIdx, List.length_take]; omega
theorem wOn_mem {ts : Prs} {h : Nat} {q : Nat × Nat} : q ∈ wOn ts h ↔ ∃ p, ts[q.1]? = some p ∧ inc h p = true ∧ q.2 = oth h p := by
  unfold wOn wOnK
  rw [List.take_length, List.mem_map]
  constructor
  · rintro ⟨x, hx, e⟩
    obtain ⟨hx1, hx2⟩ := List.mem_filter.mp hx
    have hx1 := List.mem_zipIdx' hx1
    subst e
    exact ⟨x.1, by rw [List.getElem?_eq_getElem hx1.1]; exact congrArg some hx1.2.symm, hx2, rfl⟩
  · rintro ⟨p, e1, e2, e3⟩
    refine ⟨(p, q.1), List.mem_filter.mpr ⟨?_, e2⟩, by rw [← e3]⟩
    rw [List.mem_zipIdx_iff_getElem?]
    exact e1
/-- the ties of the ways on stand in their order -/
theorem wOn_asc (ts : Prs) (h : Nat) : ((wOn ts h).map (·.1)).Pairwise (· < ·) := by
  unfold wOn wOnK
  rw [List.take_length, List.map_map]
  have z : (ts.zipIdx.map (·.2)).Pairwise (· < ·) := by
    rw [List.zipIdx_map_snd]
    exact List.pairwise_lt_range'
  rw [List.pairwise_map] at z ⊢
  exact z.sublist List.filter_sublist
theorem inV_pV (h : Nat) (p : Nat × Nat) : inV (.int (h : Int)) (pV p) = inc h p := by
  show ((p.1 : Int) == (h : Int) || ((p.2 : Int) == (h : Int) || false)) = (decide (h = p.1) || decide (h = p.2))
  rw [Bool.or_false]
  have e : ∀ a : Nat, ((a : Int) == (h : Int)) = decide (h = a) := fun a => by
    by_cases z : h = a
    · rw [decide_eq_true z, z]; simp
    · rw [decide_eq_false z]
      simp only [beq_eq_false_iff_ne, ne_eq]
      omega
  rw [e, e]
theorem PrsA.snoc {H : Hp} {as : List Addr} {ts : Prs} {a : Addr} {t : Nat × Nat} (h : PrsA H as ts) (ha : H a = some (.tup (pV t))) : PrsA H (as ++ [a]) (ts ++ [t]) := by
  refine ⟨by rw [List.length_append, List.length_append, h.1]; rfl, fun i b u e1 e2 => ?_⟩
  by_cases hi : i < as.length
  · rw [List.getElem?_append_left hi] at e1
    rw [List.getElem?_append_left (by rw [← h.1]; exact hi)] at e2
    exact h.2 i b u e1 e2
  · rw [List.getElem?_append_right (by omega)] at e1
    rw [List.getElem?_append_right (by rw [← h.1]; omega), ← h.1] at e2
    cases z : i - as.length with
    | zero =>
      rw [z] at e1 e2
      obtain rfl : a = b := Option.some.inj e1
      obtain rfl : t = u := Option.some.inj e2
      exact ha
    | succ n => rw [z] at e1; cases e1
theorem PrsA.kp {H H' : Hp} {as : List Addr} {ts : Prs} (h : PrsA H as ts) (k : ∀ a xs, H a = some (.tup xs) → H' a = some (.tup xs)) : PrsA H' as ts := ⟨h.1, fun i a t e1 e2 => k _ _ (h.2 i a t e1 e2)⟩
def spWays (W : Addr) : Sp := fun vs H Q _ => ∃ (w : Addr) (n : Nat) (ts : Prs) (h : Nat), vs = [.ref w, .int (h : Int)] ∧ WebAt W H w n ts ∧ Wv n ts ∧ h < n ∧ ∀ l as H', Same H H' → H l = none → H' l = some (.lst (as.map V.ref)) → PrsA H' as (wOn ts h) → Q (.ref l) H'
section
variable {P : Program} {w : World} {K : PySem.W.Frag} {mg : Str → Option Value} {base : Heap}
abbrev nWy : List Str := ["web", "house", "tie", "pair"]
theorem scWy : FnScope nWy ["web", "house"] (defScope sWays) := ⟨rfl, rfl, rfl, by decide +kernel, rfl, by decide +kernel, by decide +kernel⟩
theorem ok_ways {f W : Addr} {fd : FuncData} (D : Df K mg "ways_on" sWays ["web", "house"] f fd) (B : Bt mg) (T : WcT K mg W) : FnOk P w K mg base CX0 1 f fd ["web", "house"] (spWays W) := by
  refine D.F.ok scWy (fun vs H Q E h => ?_) (fun cdv A outer s H vs Q E hr h => ?_)
  · obtain ⟨w, n, ts, h, rfl, _⟩ := h
    rfl
  · obtain ⟨w, n, ts, h, rfl, ⟨dx, ta, h1, tas, g1, g2⟩, hW, hn, q⟩ := h
    refine ⟨_, pss_one (ps_ret (pe_lc (own := [("tie", 2), ("pair", 3)]) (g := gTup K 2 (gCons (gName 2) (gCons (gName 3) gNil))) rfl scWy.nd (pi_enumA (by rfl) B.enumerate (pa_cons (pe_fld (pv 0) rfl) pa_nil)) (blkOk_by (N := nWy) (sc := defScope sWays) (by decide +kernel))
      (fun _ _ _ _ _ => pg_tup rfl (pgs_cons (pg_name (i := 2) scWy.nd rfl (.inl rfl)) (pgs_cons (pg_name (i := 3) scWy.nd rfl (.inl rfl)) pgs_nil)))
      (fun _ _ _ _ _ => pts_one (pt_cmpR (opInK (K := K) rfl) (pv 1) (pv 3) rfl))
      (fun _ _ _ _ _ => pe_tup (pa_cons (pv 2) (pa_cons (pe_op op_sub (pe_op op_add (pe_ix (ixTK (K := K) rfl) (pv 3) pe_int (fun _ _ => rfl)) (pe_ix (ixTK (K := K) rfl) (pv 3) pe_int (fun _ _ => rfl))) (pv 1)) pa_nil))))), ?_⟩
    refine ⟨_, rfl, w, W, dx, _, _, rfl, h1, T.cl, T.nT, wf_t _ _, ta, rfl, .inr ⟨_, SqT.of g1, fun D0 hD0 => lc_enumT (K := K) (a := ta) (xs := tas.map V.ref)
      (fun i H2 => ∃ as : List Addr, Same H H2 ∧ H2 D0 = some (.lst (as.map V.ref)) ∧ PrsA H2 as (wOnK ts h i)) ⟨[], same_new hD0, by rw [upd_same]; rfl, rfl, fun i a t e => by cases e⟩ (fun i H2 _ ⟨_, s2, _⟩ => SqT.of (s2 _ _ g1)) ?_ ?_⟩⟩
    · rintro i x T0 H2 hx hT0 ⟨as, s2, hD2, hA⟩
      obtain ⟨a, t, rfl, ha, ht, hat⟩ := g2.get' hx
      have sT := same_new (o := HO.tup [.int (i : Nat), .ref a]) hT0
      have hat2 := sT _ _ (s2 _ _ hat)
      have hD2' := sT _ _ hD2
      have s2' := s2.trans sT
      have hA' := hA.same sT
      have hT2 : (upd H2 T0 (.tup [.int (i : Nat), .ref a])) T0 = some (.tup [.int (i : Nat), .ref a]) := upd_same
      generalize upd H2 T0 (.tup [.int (i : Nat), .ref a]) = H3 at hat2 hD2' s2' hA' hT2 ⊢
      refine ⟨T0, _, rfl, SqT.of hT2, rfl, _, _, rfl, _, _, rfl, rfl, rfl, ?_⟩
      refine ⟨_, rfl, _, rfl, a, pV t, rfl, .inr (SqT.of hat2), rfl, rfl, _, rfl, ?_⟩
      rw [inV_pV]
      have ws := wOnK_succ (h := h) ht
      have lw := wOnK_len ts h i
      have t20 := hW.t20
      refine ifD (fun e => ?_) fun e => ?_
      · replace e : inc h t = true := by simpa using e
        rw [if_pos e] at ws
        refine ⟨_, rfl, _, rfl, a, _, 0, .int (t.1 : Int), rfl, rfl, SqT.of hat2, atI_nat (j := 0) rfl, _, rfl, a, _, 1, .int (t.2 : Int), rfl, rfl, SqT.of hat2, atI_nat (j := 1) rfl, _, _, rfl, rfl, _, rfl, _, _, rfl, rfl, (by show 2 ≤ sizeLine; decide), fun p hp => ?_⟩
        have sp := same_new (o := HO.tup [V.int (i : Nat), V.int ((t.1 : Int) + (t.2 : Int) - (h : Int))]) hp
        have eo : V.int ((t.1 : Int) + (t.2 : Int) - (h : Int)) = V.int ((oth h t : Nat) : Int) := by
          unfold oth
          unfold inc at e
          simp only [Bool.or_eq_true, decide_eq_true_eq] at e
          congr 1
          omega
        have hD4 := sp _ _ hD2'
        have keep : ∀ c ys, (upd H3 p (.tup [V.int (i : Nat), V.int ((t.1 : Int) + (t.2 : Int) - (h : Int))])) c = some (.tup ys) → (upd (upd H3 p (.tup [V.int (i : Nat), V.int ((t.1 : Int) + (t.2 : Int) - (h : Int))])) D0 (.lst (as.map V.ref ++ [.ref p]))) c = some (.tup ys) := fun c ys e => by
          rw [upd_ne (ne_of e hD4 (by intro z; cases z))]; exact e
        refine ⟨as.map V.ref, hD4, szl (by rw [List.length_map, hA.1]; omega), as ++ [p], fun c o eo => ?_, by rw [upd_same, List.map_append]; rfl, ?_⟩
        · rw [upd_ne (ne_of_none eo hD0)]
          exact sp _ _ (s2' _ _ eo)
        · rw [ws]
          refine ((hA'.same sp).kp keep).snoc (keep _ _ ?_)
          rw [upd_same, eo]; rfl
      · replace e : inc h t = false := by simpa using e
        rw [if_neg (by rw [e]; decide), List.append_nil] at ws
        exact ⟨as, s2', hD2', by rw [ws]; exact hA'⟩
    · rintro H2 ⟨as, s2, hD2, hA⟩
      rw [List.length_map, g2.1] at hA
      exact q D0 as H2 s2 hD0 hD2 hA
end
end K1
namespace K1
open PySem PySem.Spec PyProof.Rows L2
theorem nodup_le : ∀ (n : Nat) (L : List Int), L.Nodup → (∀ x ∈ L, 0 ≤ x ∧ x < (n : Int)) → L.length ≤ n
  | 0, L, _, h => by
    cases L with
    | nil => exact Nat.le_refl _
    | cons a r => have := h a List.mem_cons_self; omega
  | n + 1, L, nd, h => by
    have ih := nodup_le n (L.erase (n : Int)) (nd.erase _) fun x hx => by
      have h1 := h x (List.mem_of_mem_erase hx)
      have h2 : x ≠ (n : Int) := fun e => by
        rw [e] at hx
        exact (List.Nodup.mem_erase_iff nd).mp hx |>.1 rfl
      omega
    have h3 : L.length ≤ (L.erase (n : Int)).length + 1 := by
      by_cases hm : (n : Int) ∈ L
      · rw [List.length_erase_of_mem hm]; omega
      · rw [List.erase_of_not_mem hm]; omega
    omega
/-! ### dicts of numbers -/
theorem val_mem {k : Key} {v : V} : ∀ {kvs : List (Key × V)}, (kvs.map (·.1)).Nodup → (k, v) ∈ kvs → valV kvs k = some v
  | [], _, h => nomatch h
  | p :: r, nd, h => by
    rw [List.map_cons, List.nodup_cons] at nd
    rcases List.mem_cons.mp h with e | e
    · rw [← e, valV_pos (p := (k, v)) rfl]
    · rw [valV_neg fun z => nd.1 (by rw [z]; exact List.mem_map.mpr ⟨_, e, rfl⟩)]
      exact val_mem nd.2 e
theorem val_none {k : Key} {kvs : List (Key × V)} (h : k ∉ kvs.map (·.1)) : valV kvs k = none := by
  unfold valV
  rw [List.find?_eq_none.mpr fun x hx => ?_]; rfl
  intro e
  exact h (List.mem_map.mpr ⟨x, hx, of_decide_eq_true e⟩)
abbrev WR := Int × List Int
/-- the dict of the ways: each house with the tuple of its ties -/
def kvW (F : List WR) (ps : List Addr) : List (Key × V) := (F.zip ps).map fun e => (Sum.inl e.1.1, V.ref e.2)
theorem kvW_keys {F : List WR} {ps : List Addr} (h : ps.length = F.length) : (kvW F ps).map (·.1) = F.map fun e => (Sum.inl e.1 : Key) := by
  unfold kvW
  rw [List.map_map]
  have e : F.map (fun e => (Sum.inl e.1 : Key)) = ((F.zip ps).map (·.1)).map fun e => (Sum.inl e.1 : Key) := by rw [List.map_fst_zip (Nat.le_of_eq h.symm)]
  rw [e, List.map_map]; rfl
theorem kvW_len {F : List WR} {ps : List Addr} (h : ps.length = F.length) : (kvW F ps).length = F.length := by
  unfold kvW
  rw [List.length_map, List.length_zip, h, Nat.min_self]
theorem kvW_nd {F : List WR} {ps : List Addr} (h : ps.length = F.length) (nd : (F.map (·.1)).Nodup) : ((kvW F ps).map (·.1)).Nodup := by
  rw [kvW_keys h]
  have e : F.map (fun e => (Sum.inl e.1 : Key)) = (F.map (·.1)).map (Sum.inl : Int → Key) := by rw [List.map_map]; rfl
  rw [e]
  exact nd.map _ fun a b ne z => ne (by injection z)
theorem kvW_at {F : List WR} {ps : List Addr} {i : Nat} {x : Int} {r : List Int} {c : Addr} (h : ps.length = F.length) (nd : (F.map (·.1)).Nodup) (hi : F[i]? = some (x, r)) (hc : ps[i]? = some c) : valV (kvW F ps) (.inl x) = some (.ref c) := by
  refine val_mem (kvW_nd h nd) ?_
  unfold kvW
  refine List.mem_map.mpr ⟨((x, r), c), List.mem_of_getElem? (i := i) ?_, rfl⟩
  rw [List.getElem?_zip_eq_some]
  exact ⟨hi, hc⟩
theorem kvW_none {F : List WR} {ps : List Addr} {x : Int} (h : ps.length = F.length) (hx : x ∉ F.map (·.1)) : valV (kvW F ps) (.inl x) = none := by
  refine val_none ?_
  rw [kvW_keys h]
  intro z
  obtain ⟨e, he, ee⟩ := List.mem_map.mp z
  injection ee with ee
  exact hx (List.mem_map.mpr ⟨e, he, ee⟩)
theorem kvW_snoc {F : List WR} {ps : List Addr} {x : Int} {r : List Int} {c : Addr} (h : ps.length = F.length) : kvW (F ++ [(x, r)]) (ps ++ [c]) = kvW F ps ++ [(.inl x, .ref c)] := by
  unfold kvW
  rw [List.zip_append h.symm, List.map_append]; rfl
/-- how the search stands: the dict at d, the queue at q -/
structure WQ (H : Hp) (d q : Addr) (F : List WR) (ps : List Addr) : Prop where
  hd : H d = some (.dK (kvW F ps))
  hq : H q = some (.lst (F.map fun e => V.int e.1))
  ln : ps.length = F.length
  it : ∀ (i : Nat) c x r, ps[i]? = some c → F[i]? = some (x, r) → H c = some (.tup (vrow r))
theorem WQ.same {H H' : Hp} {d q : Addr} {F : List WR} {ps : List Addr} (b : WQ H d q F ps) (s : Same H H') : WQ H' d q F ps := ⟨s _ _ b.hd, s _ _ b.hq, b.ln, fun i c x r e1 e2 => s _ _ (b.it i c x r e1 e2)⟩
theorem snoc_at {α : Type} {l : List α} {i : Nat} {a b : α} (h : (l ++ [a])[i]? = some b) : l[i]? = some b ∨ (i = l.length ∧ a = b) := by
  by_cases hi : i < l.length
  · rw [List.getElem?_append_left hi] at h
    exact .inl h
  · rw [List.getElem?_append_right (by omega)] at h
    cases z : i - l.length with
    | zero =>
      rw [z] at h
      exact .inr ⟨by omega, Option.some.inj h⟩
    | succ n => rw [z] at h; cases h
theorem WQ.put {H : Hp} {d q : Addr} {F : List WR} {ps : List Addr} (b : WQ H d q F ps) {x : Int} {r : List Int} {c : Addr} (hx : x ∉ F.map (·.1)) (hc : H c = some (.tup (vrow r))) :
    (upd H d (.dK (putK (kvW F ps) (.inl x) (.ref c)))) q = some (.lst (F.map fun e => V.int e.1)) ∧ WQ (upd (upd H d (.dK (putK (kvW F ps) (.inl x) (.ref c)))) q (.lst ((F.map fun e => V.int e.1) ++ [.int x]))) d q (F ++ [(x, r)]) (ps ++ [c]) := by
  have ndq : d ≠ q := ne_of b.hd b.hq (by intro z; cases z)
  have h1 : (upd H d (.dK (putK (kvW F ps) (.inl x) (.ref c)))) q = some (.lst (F.map fun e => V.int e.1)) := by rw [upd_ne ndq.symm]; exact b.hq
  have keep : ∀ a ys, H a = some (.tup ys) → (upd (upd H d (.dK (putK (kvW F ps) (.inl x) (.ref c)))) q (.lst ((F.map fun e => V.int e.1) ++ [.int x]))) a = some (.tup ys) := fun a ys e => by
    rw [upd_ne (ne_of e b.hq (by intro z; cases z)), upd_ne (ne_of e b.hd (by intro z; cases z))]; exact e
  refine ⟨h1, by rw [upd_ne ndq, upd_same, kvW_snoc b.ln, putK_new _ (kvW_none b.ln hx)], by rw [upd_same, List.map_append]; rfl, by rw [List.length_append, List.length_append, b.ln]; rfl, fun i a y t e1 e2 => ?_⟩
  rcases snoc_at e1 with e1 | ⟨i1, rfl⟩
  · rcases snoc_at e2 with e2 | ⟨i2, _⟩
    · exact keep _ _ (b.it i a y t e1 e2)
    · have := lt_at e1
      have := b.ln
      omega
  · rcases snoc_at e2 with e2 | ⟨_, e2⟩
    · have := lt_at e2
      have := b.ln
      omega
    · injection e2 with _ e2
      subst e2
      exact keep _ _ hc
/-- where a tie leads a house (where it stands, if it is none of its ties, or the barred one) -/
def actW (ts : Prs) (bar : Option Nat) (x t : Int) : Int := match ts[t.toNat]? with
  | some p => if inc x.toNat p = true ∧ bar ≠ some t.toNat then (oth x.toNat p : Int) else x
  | none => x
def barV : Option Nat → V | none => .non | some b => .int (b : Int)
theorem actW_rng {n : Nat} {ts : Prs} {bar : Option Nat} {x t : Int} (hW : Wv n ts) (h : 0 ≤ x ∧ x < (n : Int)) : 0 ≤ actW ts bar x t ∧ actW ts bar x t < (n : Int) := by
  unfold actW
  cases e : ts[t.toNat]? with
  | none => exact h
  | some p =>
    obtain ⟨h1, h2, h3⟩ := hW.at_ e
    dsimp only
    split
    · rename_i hc
      have hi := hc.1
      unfold inc at hi
      simp only [Bool.or_eq_true, decide_eq_true_eq] at hi
      unfold oth
      omega
    · exact h
theorem pathW_rng {n : Nat} {ts : Prs} {bar : Option Nat} (hW : Wv n ts) : ∀ (r : List Int) (x : Int), 0 ≤ x ∧ x < (n : Int) → 0 ≤ path (actW ts bar) x r ∧ path (actW ts bar) x r < (n : Int)
  | [], _, h => h
  | t :: r, x, h => pathW_rng hW r (actW ts bar x t) (actW_rng hW h)
theorem Bf.skip {α : Type} {act : α → Int → α} {n : Nat} {s : α} {F : List (α × List Int)} {i : Nat} {x : α} {r : List Int} (hx : F[i]? = some (x, r)) : ∀ (k j : Nat), Bf act n s F i j → (∀ t, j ≤ t → t < j + k → act x (t : Int) = x) → Bf act n s F i (j + k)
  | 0, j, b, _ => b
  | k + 1, j, b, h => by
    have b1 := b.more (j := i) (k := x) (r := r) hx hx (h j (Nat.le_refl _) (by omega)).symm
    have := Bf.skip hx k (j + 1) b1 fun t h1 h2 => h t (by omega) (by omega)
    rw [show j + (k + 1) = j + 1 + k by omega]
    exact this
theorem Bf.fewW {n : Nat} {ts : Prs} {bar : Option Nat} {s : Int} {F : List WR} {i d : Nat} (b : Bf (actW ts bar) ts.length s F i d) (hW : Wv n ts) (hs : 0 ≤ s ∧ s < (n : Int)) : F.length ≤ n := by
  have := nodup_le n (F.map (·.1)) b.nd fun x hx => by
    obtain ⟨⟨k, r⟩, he, rfl⟩ := List.mem_map.mp hx
    obtain ⟨j, hj⟩ := List.getElem?_of_mem he
    rw [(b.pth j k r hj).1]
    exact pathW_rng hW r s hs
  rw [List.length_map] at this
  exact this
def spFWays (W : Addr) : Sp := fun vs H Q _ => ∃ (w : Addr) (n : Nat) (ts : Prs) (h : Nat) (bar : Option Nat), vs = [.ref w, .int (h : Int), barV bar] ∧ WebAt W H w n ts ∧ Wv n ts ∧ h < n ∧
  ∀ d q F ps H', Same H H' → H d = none → WQ H' d q F ps → Fst (actW ts bar) ts.length (h : Int) F → F.length ≤ n → Q (.ref d) H'
section
variable {P : Program} {w : World} {K : PySem.W.Frag} {mg : Str → Option Value} {base : Heap}
abbrev nFW : List Str := ["web", "house", "barred", "ways", "queue", "at", "here", "tie", "other"]
theorem scFW : FnScope nFW ["web", "house", "barred"] (defScope sFWays) := ⟨rfl, rfl, rfl, by decide +kernel, rfl, by decide +kernel, by decide +kernel⟩
theorem ok_fways {f fW W : Addr} {fd fdW : FuncData} (D : Df K mg "first_ways" sFWays ["web", "house", "barred"] f fd) (DW : Df K mg "ways_on" sWays ["web", "house"] fW fdW) (B : Bt mg)
    (GW : FnOk P w K mg base CX0 1 fW fdW ["web", "house"] (spWays W)) : FnOk P w K mg base CX0 2 f fd ["web", "house", "barred"] (spFWays W) := by
  refine D.F.ok scFW (fun vs H Q E h => ?_) (fun cdv A outer s H vs Q E hr h => ?_)
  · obtain ⟨w, n, ts, h, bar, rfl, _⟩ := h
    rfl
  · obtain ⟨w, n, ts, h, bar, rfl, hw, hW, hn, q⟩ := h
    have hu := hu_of hr
    refine ⟨_, pss_cons (ps_set (i := 3) scFW.nd rfl (.inl rfl) (pe_disp (pps_cons (pv 1) (pe_tup pa_nil) pps_nil) rfl rfl (List.cons_ne_nil _ _) (by decide)))
      (pss_cons (ps_set (i := 4) scFW.nd rfl (.inl rfl) (pe_lst (pa_cons (pv 1) pa_nil)))
      (pss_cons (ps_set (i := 5) scFW.nd rfl (.inl rfl) pe_int)
      (pss_cons (ps_while PassesOwn.never (pt_cmpR op_lt (pv 5) (pe_callB call_len_seq (by rfl) B.len PySem.boot_len (pa_cons (pv 4) pa_nil)) (nomark _))
        (pss_cons (ps_set (i := 6) scFW.nd rfl (.inl rfl) (pe_ix ix_list (pv 4) (pv 5) (fun _ _ => rfl)))
        (pss_cons (ps_for PassesOwn.never rfl (pi_list (pc DW GW hr pass0 (pa_cons (pv 0) (pa_cons (pv 6) pa_nil)))) (pg_tup rfl (pgs_cons (pg_name (i := 7) scFW.nd rfl (.inl rfl)) (pgs_cons (pg_name (i := 8) scFW.nd rfl (.inl rfl)) pgs_nil)))
          (pss_one (ps_if (PW.pt (pw_and (pt_cmpR op_ne (pv 7) (pv 2) (nomark _)) (pw_and1 (pt_cmp (pc_dnotin hu (pv 8) (pv 3))))))
            (pss_cons (ps_dput hu (pv 3) (pv 8) (pe_op op_catA (pe_dget hu (pv 3) (pv 6) (fun _ _ => rfl)) (pe_tup (pa_cons (pv 7) pa_nil))) rfl)
            (pss_one (ps_expr (pe_bm PySem.F.plainAttrs_list PySem.F.slot_list_append PySem.F.type_list_append mt_append (pv 4) (pa_cons (pv 8) pa_nil))))) pss_nil)))
        (pss_one (ps_aug (i := 5) scFW.nd rfl (.inl rfl) pe_int ip_add)))))
      (pss_one (ps_ret (pv 3)))))), ?_⟩
    intro d hd
    refine ⟨_, rfl, (by show 0 ≤ sizeLine; decide), fun e0 he0 => ?_⟩
    have ned : e0 ≠ d := fun z => by rw [z, upd_same] at he0; cases he0
    refine ⟨by rw [upd_ne ned.symm, upd_same], [(.inl (h : Int), .ref e0)], rfl, (by show 1 ≤ 15; decide), ?_⟩
    generalize hH1 : upd (upd (upd H d (.dK [])) e0 (.tup [])) d (.dK (mergeK [] [(.inl (h : Int), .ref e0)])) = H1
    have se : Same H (upd (upd H d (.dK [])) e0 (.tup [])) := (same_new hd).trans (same_new he0)
    have s1 : Same H H1 := fun b o e => by
      rw [← hH1, upd_ne (ne_of_none e hd)]
      exact se _ _ e
    have hd1 : H1 d = some (.dK (kvW [((h : Int), [])] [e0])) := by rw [← hH1, upd_same]; rfl
    have he1 : H1 e0 = some (.tup []) := by rw [← hH1, upd_ne ned, upd_same]
    refine ⟨_, rfl, (by show 1 ≤ sizeLine; decide), fun q0 hq0 => ?_⟩
    have s2 : Same H (upd H1 q0 (.lst [.int (h : Int)])) := s1.trans (same_new hq0)
    have b0 : WQ (upd H1 q0 (.lst [.int (h : Int)])) d q0 [((h : Int), [])] [e0] := by
      have sm := same_new (o := HO.lst [V.int (h : Int)]) hq0
      refine ⟨sm _ _ hd1, upd_same, rfl, fun i c x r e1 e2 => ?_⟩
      match i, e1, e2 with
      | 0, e1, e2 =>
        obtain rfl : e0 = c := Option.some.inj e1
        have z : ((h : Int), ([] : List Int)) = (x, r) := Option.some.inj e2
        injection z with _ z
        subst z
        exact sm _ _ he1
      | i + 1, e1, _ => cases e1
    have hh : 0 ≤ (h : Int) ∧ (h : Int) < (n : Int) := by omega
    have n12 := hW.n12
    have nq0 : H q0 = none := s1.free hq0
    refine while_by (fun σ H' => ∃ (i : Nat) (F : List WR) (ps : List Addr) (v6 v7 v8 : Option V), σ = [some (.ref w), some (.int (h : Int)), some (barV bar), some (.ref d), some (.ref q0), some (.int (i : Int)), v6, v7, v8] ∧ Same H H' ∧ WQ H' d q0 F ps ∧ Bf (actW ts bar) ts.length (h : Int) F i 0 ∧ i ≤ F.length)
      (fun (σ : L2.St) _ => match σ[5]? with | some (some (V.int i)) => 1000 - i.toNat | _ => 0) ⟨0, _, _, none, none, none, rfl, s2, b0, Bf.init, Nat.zero_le _⟩ ?_
      (fun σ H Q Q' hQ ⟨v, h1, v3, h2, p, ys, h3, h4, i, j, h5, h6, k, h7, h8⟩ => ⟨v, h1, v3, h2, p, ys, h3, h4, i, j, h5, h6, k, h7, hQ _ _ h8⟩)
    rintro σ H' ⟨i, F, ps, v6, v7, v8, rfl, sm, b, bf, hi⟩
    have fF := bf.fewW hW hh
    refine ⟨_, rfl, _, rfl, q0, _, rfl, .inl (SqL.of b.hq), _, _, rfl, rfl, _, rfl, ifD (fun ec => ?_) fun ec => ?_⟩
    · have hlt : i < F.length := by
        have z : (i : Int) < ((F.map fun e => V.int e.1).length : Int) := of_decide_eq_true ec
        rw [List.length_map] at z
        omega
      obtain ⟨⟨x, rx⟩, hx⟩ := ex_at (l := F) hlt
      obtain ⟨px, pv', pl⟩ := bf.pth i x rx hx
      have xr : 0 ≤ x ∧ x < (n : Int) := by rw [px]; exact pathW_rng hW rx _ hh
      refine ⟨_, rfl, _, rfl, q0, _, (i : Int), .int x, rfl, rfl, SqL.of b.hq, at_i (map_at hx), ?_⟩
      refine gn ?_
      dsimp only [List.set]
      have ex : ((x.toNat : Nat) : Int) = x := by omega
      refine ⟨_, rfl, _, rfl, w, n, ts, x.toNat, (by rw [ex]; rfl), hw.same sm, hW, by omega, fun l as H2 sm2 hl0 hl hA => ⟨l, rfl, ⟨_, SqL.of hl⟩, ?_⟩⟩
      have lq : l ≠ q0 := fun z => by rw [z, b.hq] at hl0; cases hl0
      have lwo : (wOn ts x.toNat).length ≤ 20 := Nat.le_trans (wOnK_len ts _ _) hW.t20
      have asc := wOn_asc ts x.toNat
      refine for_list (K := K) (a := l) (xs := as.map V.ref) (fun k σ H' => ∃ (F : List WR) (ps : List Addr) (j : Nat) (v7 v8 : Option V), σ = [some (.ref w), some (.int (h : Int)), some (barV bar), some (.ref d), some (.ref q0), some (.int (i : Int)), some (.int x), v7, v8] ∧ Same H H' ∧ WQ H' d q0 F ps ∧ Bf (actW ts bar) ts.length (h : Int) F i j ∧ F[i]? = some (x, rx) ∧ H' l = some (.lst (as.map V.ref)) ∧ PrsA H' as (wOn ts x.toNat) ∧
          j ≤ ts.length ∧ (∀ (k' : Nat) (e : Nat × Nat), k ≤ k' → (wOn ts x.toNat)[k']? = some e → j ≤ e.1) ∧ (∀ (k' : Nat) (e : Nat × Nat), k' < k → (wOn ts x.toNat)[k']? = some e → e.1 < j))
        ⟨F, ps, 0, _, _, rfl, sm.trans sm2, b.same sm2, bf, hx, hl, hA, Nat.zero_le _, fun _ _ _ _ => Nat.zero_le _, fun k' e hk => absurd hk (Nat.not_lt_zero _)⟩ (fun k σ H' _ ⟨_, _, _, _, _, _, _, _, _, _, hl', _⟩ => SqL.of hl') ?_ ?_
      · rintro k y σ H3 hy ⟨F, ps, j, v7, v8, rfl, sm, b, bf, hx, hl, hA, jn, j1, j2⟩
        obtain ⟨a, ⟨t, o⟩, rfl, ha, hto, hat⟩ := hA.get' hy
        obtain ⟨p, tp, ti, to_⟩ := wOn_mem.mp (List.mem_of_getElem? hto)
        replace to_ : o = oth x.toNat p := to_
        have jt := j1 k (t, o) (Nat.le_refl _) hto
        have tl := lt_at tp
        have fF := bf.fewW hW hh
        -- no way on between
        have gap : ∀ t', j ≤ t' → t' < t → actW ts bar x (t' : Int) = x := fun t' g1 g2 => by
          unfold actW
          rw [Int.toNat_natCast]
          cases e : ts[t']? with
          | none => rfl
          | some p' =>
            dsimp only
            refine if_neg fun hc => ?_
            obtain ⟨k', hk'⟩ := List.getElem?_of_mem (wOn_mem.mpr ⟨p', e, hc.1, rfl⟩ : (t', oth x.toNat p') ∈ wOn ts x.toNat)
            by_cases kk : k' < k
            · have := j2 k' _ kk hk'
              dsimp only at this
              omega
            · by_cases ke : k' = k
              · subst ke
                rw [hto] at hk'
                have z := Option.some.inj hk'
                injection z with z _
                omega
              · rw [List.pairwise_iff_getElem] at asc
                have l1 := lt_at hk'
                have l2 := lt_at hto
                have := asc k k' (by rw [List.length_map]; exact l2) (by rw [List.length_map]; exact l1) (by omega)
                rw [List.getElem_map, List.getElem_map] at this
                rw [List.getElem?_eq_getElem l1] at hk'
                rw [List.getElem?_eq_getElem l2] at hto
                rw [Option.some.inj hk', Option.some.inj hto] at this
                dsimp only at this
                omega
        have bft : Bf (actW ts bar) ts.length (h : Int) F i t := by
          have := Bf.skip hx (t - j) j bf fun t' g1 g2 => gap t' g1 (by omega)
          rw [show j + (t - j) = t by omega] at this
          exact this
        have nj1 : ∀ (k' : Nat) (e : Nat × Nat), k + 1 ≤ k' → (wOn ts x.toNat)[k']? = some e → t + 1 ≤ e.1 := fun k' e hk he => by
          rw [List.pairwise_iff_getElem] at asc
          have l1 := lt_at he
          have l2 := lt_at hto
          have := asc k k' (by rw [List.length_map]; exact l2) (by rw [List.length_map]; exact l1) (by omega)
          rw [List.getElem_map, List.getElem_map] at this
          rw [List.getElem?_eq_getElem l1] at he
          rw [List.getElem?_eq_getElem l2] at hto
          rw [Option.some.inj he, Option.some.inj hto] at this
          exact this
        have nj2 : ∀ (k' : Nat) (e : Nat × Nat), k' < k + 1 → (wOn ts x.toNat)[k']? = some e → e.1 < t + 1 := fun k' e hk he => by
          by_cases kk : k' = k
          · subst kk
            rw [hto] at he
            rw [← Option.some.inj he]
            exact Nat.lt_succ_self _
          · have := j2 k' e (by omega) he
            omega
        have hact : bar ≠ some t → actW ts bar x (t : Int) = (o : Int) := fun hb => by
          unfold actW
          rw [Int.toNat_natCast, tp]
          dsimp only
          rw [if_pos ⟨ti, hb⟩, ← to_]
        have hact' : bar = some t → actW ts bar x (t : Int) = x := fun hb => by
          unfold actW
          rw [Int.toNat_natCast, tp]
          dsimp only
          rw [if_neg fun z => z.2 hb]
        have hat' : H3 a = some (.tup [.int (t : Int), .int (o : Int)]) := hat
        refine ⟨a, _, rfl, SqT.of hat', rfl, _, _, rfl, _, _, rfl, rfl, ?_⟩
        have scb : scal (.int (t : Int)) (barV bar) = true := by cases bar <;> rfl
        refine ⟨_, rfl, _, rfl, scb, _, rfl, ifD (fun e1 => ?_) fun e1 => ?_⟩
        · have hb : bar ≠ some t := fun z => by
            rw [z] at e1
            have : decide (V.int (t : Int) = barV (some t)) = true := decide_eq_true rfl
            rw [this] at e1
            cases e1
          refine ⟨_, rfl, _, rfl, d, _, rfl, DGet.k (k := .inl (o : Int)) b.hd, _, rfl, ?_⟩
          by_cases hin : (o : Int) ∈ F.map (·.1)
          · obtain ⟨⟨o', ro⟩, he, e2⟩ := List.mem_map.mp hin
            obtain ⟨j3, hj3⟩ := List.getElem?_of_mem he
            dsimp only at e2
            subst e2
            obtain ⟨c, hc⟩ := ex_at (l := ps) (i := j3) (by rw [b.ln]; exact lt_at hj3)
            rw [kvW_at b.ln bf.nd hj3 hc]
            refine iteF ?_
            exact ⟨F, ps, t + 1, _, _, rfl, sm, b, bft.more (j := j3) (k := (o : Int)) (r := ro) hx hj3 (hact hb).symm, hx, hl, hA, tl, nj1, nj2⟩
          · rw [kvW_none b.ln hin]
            refine iteT ?_
            obtain ⟨c, hc⟩ := ex_at (l := ps) (i := i) (by rw [b.ln]; exact lt_at hx)
            have hcr := b.it i c x rx hc hx
            refine ⟨_, rfl, _, rfl, d, .ref c, rfl, by rw [← kvW_at b.ln bf.nd hx hc]; exact DGet.k (k := .inl x) b.hd, _, rfl, (by show 1 ≤ sizeLine; decide), fun dt hdt => ?_⟩
            have s5 := same_new (o := HO.tup [V.int (t : Int)]) hdt
            obtain ⟨_, _, pl'⟩ := bft.pth i x rx hx
            have li := lt_at hx
            refine catA_by (s5 _ _ hcr) upd_same (sz (by rw [vrow_len]; simp only [List.length_cons, List.length_nil]; omega)) fun rb H6 s6 hrb => ?_
            have s56 := s5.trans s6
            have b6 := b.same s56
            have hrb' : H6 rb = some (.tup (vrow (rx ++ [(t : Int)]))) := by rw [hrb, vrow, vrow, List.map_append]; rfl
            obtain ⟨g1, g2⟩ := b6.put (x := (o : Int)) hin hrb'
            refine ⟨_, rfl, _, rfl, d, _, rfl, DPut.k (k := .inl (o : Int)) b6.hd (szl (by rw [kvW_len b.ln]; omega)), ?_⟩
            refine ⟨_, rfl, .inl ⟨rfl, _, SqL.of g1⟩, _, rfl, q0, _, _, rfl, rfl, g1, szl (by rw [List.length_map]; omega), ?_⟩
            have keep : ∀ a ys, H6 a = some (.tup ys) → (upd (upd H6 d (.dK (putK (kvW F ps) (.inl (o : Int)) (.ref rb)))) q0 (.lst ((F.map fun e => V.int e.1) ++ [.int (o : Int)]))) a = some (.tup ys) := fun a ys e => by
              rw [upd_ne (ne_of e b6.hq (by intro z; cases z)), upd_ne (ne_of e b6.hd (by intro z; cases z))]; exact e
            have hl6 := s56 _ _ hl
            refine ⟨_, _, t + 1, _, _, rfl, fun c' u e => ?_, g2, ?_, ?_, ?_, (hA.same s56).kp keep, tl, nj1, nj2⟩
            · rw [upd_ne (ne_of_none e nq0), upd_ne (ne_of_none e hd)]
              exact s56 _ _ (sm _ _ e)
            · rw [← hact hb]
              exact bft.put hx (by rw [hact hb]; exact hin) tl
            · rw [List.getElem?_append_left li]; exact hx
            · rw [upd_ne lq, upd_ne (ne_of hl6 b6.hd (by intro z; cases z))]
              exact hl6
        · have hb : bar = some t := by
            cases bar with
            | none => cases e1
            | some b' =>
              have z : ¬ (V.int (t : Int) = V.int (b' : Int)) → False := fun ne => by
                rw [show decide (V.int (t : Int) = barV (some b')) = false from decide_eq_false ne] at e1
                cases e1
              by_cases tb : t = b'
              · rw [tb]
              · exact (z fun e => by injection e with e; omega).elim
          exact ⟨F, ps, t + 1, _, _, rfl, sm, b, bft.more (j := i) (k := x) (r := rx) hx hx (hact' hb).symm, hx, hl, hA, tl, nj1, nj2⟩
      · rintro σ H3 ⟨F, ps, j, v7, v8, rfl, sm, b, bf, hx, hl, hA, jn, j1, j2⟩
        rw [List.length_map, hA.1] at j1 j2
        have gap : ∀ t', j ≤ t' → t' < j + (ts.length - j) → actW ts bar x (t' : Int) = x := fun t' g1 g2 => by
          unfold actW
          rw [Int.toNat_natCast]
          cases e : ts[t']? with
          | none => rfl
          | some p' =>
            dsimp only
            refine if_neg fun hc => ?_
            obtain ⟨k', hk'⟩ := List.getElem?_of_mem (wOn_mem.mpr ⟨p', e, hc.1, rfl⟩ : (t', oth x.toNat p') ∈ wOn ts x.toNat)
            have := j2 k' _ (lt_at hk') hk'
            dsimp only at this
            omega
        have bfn := Bf.skip hx (ts.length - j) j bf gap
        rw [show j + (ts.length - j) = ts.length by omega] at bfn
        have li := lt_at hx
        refine ⟨_, rfl, _, _, rfl, rfl, ?_⟩
        refine ⟨⟨i + 1, F, ps, some (.int x), v7, v8, ?_, sm, b, bfn.next, by omega⟩, ?_⟩
        · have z : ((i + 1 : Nat) : Int) = (i : Int) + 1 := by omega
          rw [z]; rfl
        · have fF := bf.fewW hW hh
          show 1000 - ((i : Int) + 1).toNat < 1000 - (i : Int).toNat
          omega
    · have hge : F.length ≤ i := by
        have z : ¬ ((i : Int) < ((F.map fun e => V.int e.1).length : Int)) := of_decide_eq_false ec
        rw [List.length_map] at z
        omega
      exact ⟨_, rfl, q d q0 F ps H' sm hd b (bf.done hge) fF⟩
end
end K1
namespace K1
open PySem PySem.Spec PyProof.Rows L2
/-! ### parts -/
def vn (ns : List Nat) : List V := ns.map fun (x : Nat) => V.int (x : Int)
theorem vn_len (ns : List Nat) : (vn ns).length = ns.length := List.length_map _
theorem vn_at {ns : List Nat} {i : Nat} {x : Nat} (h : ns[i]? = some x) : (vn ns)[i]? = some (.int (x : Int)) := map_at h
theorem at_vn {ns : List Nat} {i : Nat} {v : V} (h : (vn ns)[i]? = some v) : ∃ x, ns[i]? = some x ∧ v = .int (x : Int) := at_map h
theorem flat_vn (ns : List Nat) : (vn ns).all flatV = true := by
  rw [List.all_eq_true]
  intro x hx
  obtain ⟨y, _, rfl⟩ := List.mem_map.mp hx
  rfl
theorem inV_vn (a : Nat) (ns : List Nat) : inV (.int (a : Int)) (vn ns) = decide (a ∈ ns) := by
  unfold inV vn
  rw [List.any_map]
  induction ns with
  | nil => rfl
  | cons b r ih =>
    rw [List.any_cons, ih]
    have e : (eqV (V.int (b : Int)) (V.int (a : Int))) = decide (a = b) := by
      show ((b : Int) == (a : Int)) = _
      by_cases z : a = b
      · rw [decide_eq_true z, z]; simp
      · rw [decide_eq_false z]
        simp only [beq_eq_false_iff_ne, ne_eq]
        omega
    show (eqV (V.int (b : Int)) (V.int (a : Int)) || _) = _
    rw [e]
    by_cases z : a = b
    · rw [decide_eq_true z, decide_eq_true (show a ∈ b :: r by rw [z]; exact List.mem_cons_self)]; rfl
    · rw [decide_eq_false z, Bool.false_or]
      congr 1
      exact propext ⟨fun h => List.mem_cons_of_mem _ h, fun h => (List.mem_cons.mp h).resolve_left z⟩
/-- house b stands in one tie with c -/
def Jn (ts : Prs) (b c : Nat) : Prop := ∃ p ∈ ts, (b = p.1 ∧ c = p.2) ∨ (b = p.2 ∧ c = p.1)
theorem Jn.sym {ts : Prs} {b c : Nat} (h : Jn ts b c) : Jn ts c b := by
  obtain ⟨p, hp, h | h⟩ := h
  · exact ⟨p, hp, .inr ⟨h.2, h.1⟩⟩
  · exact ⟨p, hp, .inl ⟨h.2, h.1⟩⟩
/-- ties lead from a to b -/
inductive Cn (ts : Prs) (a : Nat) : Nat → Prop
  | refl : Cn ts a a
  | step {b c : Nat} (h : Cn ts a b) (j : Jn ts b c) : Cn ts a c
theorem Cn.trans {ts : Prs} {a b c : Nat} (h : Cn ts a b) (k : Cn ts b c) : Cn ts a c := by
  induction k with
  | refl => exact h
  | step _ j ih => exact ih.step j
theorem Cn.sym {ts : Prs} {a b : Nat} (h : Cn ts a b) : Cn ts b a := by
  induction h with
  | refl => exact .refl
  | step _ j ih => exact (Cn.refl.step j.sym).trans ih
theorem Cn.lt {n : Nat} {ts : Prs} {a b : Nat} (hW : Wv n ts) (ha : a < n) (h : Cn ts a b) : b < n := by
  induction h with
  | refl => exact ha
  | step _ j _ =>
    obtain ⟨p, hp, h | h⟩ := j
    · have := hW.pr p hp; omega
    · have := hW.pr p hp; omega
theorem Jn.tie {n : Nat} {ts : Prs} {b c : Nat} (hW : Wv n ts) (h : Jn ts b c) : ∃ (t : Nat) (p : Nat × Nat), ts[t]? = some p ∧ inc b p = true ∧ c = oth b p := by
  obtain ⟨p, hp, h⟩ := h
  obtain ⟨t, ht⟩ := List.getElem?_of_mem hp
  have := hW.pr p hp
  refine ⟨t, p, ht, ?_, ?_⟩
  · unfold inc
    simp only [Bool.or_eq_true, decide_eq_true_eq]
    omega
  · unfold oth
    omega
theorem Jn.of {n : Nat} {ts : Prs} {b t : Nat} {p : Nat × Nat} (hW : Wv n ts) (ht : ts[t]? = some p) (hi : inc b p = true) : Jn ts b (oth b p) := by
  have := hW.at_ ht
  unfold inc at hi
  simp only [Bool.or_eq_true, decide_eq_true_eq] at hi
  refine ⟨p, List.mem_of_getElem? ht, ?_⟩
  unfold oth
  omega
theorem actW_cn {n : Nat} {ts : Prs} {x t : Int} (hW : Wv n ts) (hx : 0 ≤ x) : Cn ts x.toNat (actW ts none x t).toNat := by
  unfold actW
  cases e : ts[t.toNat]? with
  | none => exact .refl
  | some p =>
    dsimp only
    split
    · rename_i hc
      rw [Int.toNat_natCast]
      exact Cn.refl.step (Jn.of hW e hc.1)
    · exact .refl
theorem path_cn {n : Nat} {ts : Prs} (hW : Wv n ts) : ∀ (r : List Int) (x : Int), 0 ≤ x ∧ x < (n : Int) → Cn ts x.toNat (path (actW ts none) x r).toNat
  | [], _, _ => .refl
  | t :: r, x, h => (actW_cn hW h.1).trans (path_cn hW r (actW ts none x t) (actW_rng hW h))
theorem cn_path {n : Nat} {ts : Prs} (hW : Wv n ts) {a b : Nat} (h : Cn ts a b) : ∃ r : List Int, (∀ e ∈ r, 0 ≤ e ∧ e < (ts.length : Int)) ∧ path (actW ts none) (a : Int) r = (b : Int) := by
  induction h with
  | refl => exact ⟨[], fun e he => (by cases he), rfl⟩
  | step _ j ih =>
    obtain ⟨r, h1, h2⟩ := ih
    obtain ⟨t, p, ht, hi, hc⟩ := j.tie hW
    refine ⟨r ++ [(t : Int)], fun e he => ?_, ?_⟩
    · rcases List.mem_append.mp he with he | he
      · exact h1 e he
      · have := lt_at ht
        rw [List.mem_singleton.mp he]; omega
    · rw [path_snoc, h2]
      unfold actW
      rw [Int.toNat_natCast, ht]
      dsimp only
      rw [Int.toNat_natCast, if_pos ⟨hi, by intro z; cases z⟩, ← hc]
/-- the part of a house, ascending -/
structure PartL (ts : Prs) (h : Nat) (ns : List Nat) : Prop where
  asc : ns.Pairwise (· < ·)
  mem : ∀ x, x ∈ ns ↔ Cn ts h x
theorem PartL.lt {n : Nat} {ts : Prs} {h : Nat} {ns : List Nat} (p : PartL ts h ns) (hW : Wv n ts) (hn : h < n) {x : Nat} (hx : x ∈ ns) : x < n := ((p.mem x).mp hx).lt hW hn
/-- the ties whose first house is among ns -/
def tInK (ts : Prs) (ns : List Nat) (k : Nat) : List Nat := ((ts.take k).zipIdx.filter fun q => decide (q.1.1 ∈ ns)).map (·.2)
def tIn (ts : Prs) (ns : List Nat) : List Nat := tInK ts ns ts.length
theorem tInK_succ {ts : Prs} {ns : List Nat} {k : Nat} {p : Nat × Nat} (e : ts[k]? = some p) : tInK ts ns (k + 1) = tInK ts ns k ++ if p.1 ∈ ns then [k] else [] := by
  have hk := lt_at e
  have hl : (ts.take k).length = k := by rw [List.length_take]; omega
  unfold tInK
  rw [take_succ e, List.zipIdx_append, hl, List.filter_append, List.map_append]
  congr 1
  show List.map _ (List.filter _ (List.zipIdx [p] (0 + k))) = _
  rw [Nat.zero_add]
  show List.map _ (List.filter _ [(p, k)]) = _
  rw [List.filter_cons]
  by_cases e2 : p.1 ∈ ns
  · rw [if_pos e2, if_pos (decide_eq_true e2)]; rfl
  · rw [if_neg e2, if_neg (by simpa using e2)]; rfl
theorem tInK_len (ts : Prs) (ns : List Nat) (k : Nat) : (tInK ts ns k).length ≤ ts.length := by
  unfold tInK
  rw [List.length_map]
  refine Nat.le_trans (List.length_filter_le _ _) ?_
  rw [List.length_zipIdx, List.length_take]; omega
theorem tIn_mem {ts : Prs} {ns : List Nat} {t : Nat} : t ∈ tIn ts ns ↔ ∃ p, ts[t]? = some p ∧ p.1 ∈ ns := by
  unfold tIn tInK
  rw [List.take_length, List.mem_map]
  constructor
  · rintro ⟨x, hx, e⟩
    obtain ⟨hx1, hx2⟩ := List.mem_filter.mp hx
    have hx1 := List.mem_zipIdx' hx1
    subst e
    exact ⟨x.1, by rw [List.getElem?_eq_getElem hx1.1]; exact congrArg some hx1.2.symm, of_decide_eq_true hx2⟩
  · rintro ⟨p, e1, e2⟩
    refine ⟨(p, t), List.mem_filter.mpr ⟨?_, decide_eq_true e2⟩, rfl⟩
    rw [List.mem_zipIdx_iff_getElem?]
    exact e1
def spPart (K : PySem.W.Frag) (W C : Addr) : Sp := fun vs H Q E => ∃ (w : Addr) (v : V) (o : Option (List V)) (n : Nat) (ts : Prs), vs = [.ref w, v] ∧ WebAt W H w n ts ∧ Wv n ts ∧ KV K H v o ∧ (belowB v (n : Int) = false → Rz C "house" v H E) ∧
  (∀ h : Nat, v = .int (h : Int) → h < n → ∀ ns p H', Same H H' → H' p = some (.tup (vn ns)) → PartL ts h ns → Q (.ref p) H')
def spTiesIn (K : PySem.W.Frag) (W : Addr) : Sp := fun vs H Q _ => ∃ (w p : Addr) (n : Nat) (ts : Prs) (ns : List Nat), vs = [.ref w, .ref p] ∧ WebAt W H w n ts ∧ Wv n ts ∧ SeqA H p (vn ns) ∧ ∀ l H', Same H H' → H l = none → H' l = some (.lst (vn (tIn ts ns))) → Q (.ref l) H'
section
variable {P : Program} {w : World} {K : PySem.W.Frag} {mg : Str → Option Value} {base : Heap}
theorem scPa : FnScope ["web", "house"] ["web", "house"] (defScope sPart) := ⟨rfl, rfl, rfl, by decide +kernel, rfl, by decide +kernel, by decide +kernel⟩
theorem ok_part {f fN fF W C : Addr} {fd fdN fdF : FuncData} (D : Df K mg "part_of" sPart ["web", "house"] f fd) (DN : Df K mg "need_house" sNeedH ["web", "house"] fN fdN) (DF : Df K mg "first_ways" sFWays ["web", "house", "barred"] fF fdF) (B : Bt mg)
    (GN : FnOk P w K mg base (L2.CX P w) 3 fN fdN ["web", "house"] (spNeedH K W C)) (GF : FnOk P w K mg base CX0 2 fF fdF ["web", "house", "barred"] (spFWays W)) : FnOk P w K mg base (L2.CX P w) 4 f fd ["web", "house"] (spPart K W C) := by
  refine D.F.okX scPa (fun vs H Q E h => ?_) (fun cdv A outer s H vs Q E hr h => ?_)
  · obtain ⟨w, v, o, n, ts, rfl, _⟩ := h
    rfl
  · obtain ⟨w, v, o, n, ts, rfl, hw, hW, kv, q1, q2⟩ := h
    refine ⟨_, pss_cons (ps_expr (pc DN GN hr (pass1 (takes_of rfl rfl rfl rfl)) (pa_cons (pv 0) (pa_cons (pv 1) pa_nil))))
      (pss_one (ps_ret (pe_callTy call_tuple_of (by rfl) B.tuple PyProof.Rows.boot_tuple (pa_cons (pe_callB (call_sortedDI rfl) (by rfl) B.sorted (by decide +kernel) (pa_cons (pc DF GF (hr.mono (by decide)) pass0 (pa_cons (pv 0) (pa_cons (pv 1) (pa_cons pe_non pa_nil)))) pa_nil)) pa_nil)))), ?_⟩
    refine ⟨_, rfl, _, rfl, w, v, o, n, ts, rfl, hw, kv, fun hb => ?_, fun hb => q1 hb⟩
    obtain ⟨h, rfl, hn⟩ : ∃ h : Nat, v = .int (h : Int) ∧ h < n := by
      cases v <;> first | (cases hb; done) | skip
      rename_i i
      have z : (decide (0 ≤ i) && decide (i < (n : Int))) = true := hb
      simp only [Bool.and_eq_true, decide_eq_true_eq] at z
      exact ⟨i.toNat, by congr 1; omega, by omega⟩
    refine ⟨_, rfl, _, rfl, w, n, ts, h, none, rfl, hw, hW, hn, fun d q0 F ps H1 s1 hd0 b fs fF => ?_⟩
    have n12 := hW.n12
    have hh : 0 ≤ (h : Int) ∧ (h : Int) < (n : Int) := by omega
    refine ⟨d, _, F.map (·.1), rfl, .inl b.hd, by rw [kvW_keys b.ln, List.map_map]; rfl, by rw [List.length_map]; omega, fun ys p hp asc np => ?_⟩
    refine ⟨p, _, rfl, .inl ⟨SqL.of upd_same, fun l hl => ?_⟩⟩
    have mem : ∀ y, y ∈ ys ↔ 0 ≤ y ∧ Cn ts h y.toNat := fun y => by
      rw [hp.mem_iff]
      constructor
      · intro hy
        obtain ⟨⟨x, r⟩, he, rfl⟩ := List.mem_map.mp hy
        obtain ⟨j, hj⟩ := List.getElem?_of_mem he
        obtain ⟨p1, p2, _⟩ := fs.pth j x r hj
        have := pathW_rng (bar := none) hW r _ hh
        have c := path_cn hW r (h : Int) hh
        rw [Int.toNat_natCast] at c
        rw [p1]
        exact ⟨this.1, c⟩
      · rintro ⟨y0, c⟩
        obtain ⟨r, r1, r2⟩ := cn_path hW c
        obtain ⟨j, r', e1, _⟩ := fs.all r r1
        rw [r2, show ((y.toNat : Nat) : Int) = y by omega] at e1
        exact List.mem_map.mpr ⟨_, List.mem_of_getElem? e1, rfl⟩
    have nd : ys.Nodup := hp.nodup_iff.mpr fs.nd
    have eys : ys.map V.int = vn (ys.map Int.toNat) := by
      unfold vn
      rw [List.map_map]
      refine List.map_congr_left fun y hy => ?_
      have := ((mem y).mp hy).1
      show V.int y = V.int ((y.toNat : Nat) : Int)
      congr 1; omega
    refine q2 h rfl hn (ys.map Int.toNat) l _ ((s1.trans (same_new np)).trans (same_new hl)) (by rw [upd_same, eys]) ⟨?_, fun x => ?_⟩
    · rw [List.pairwise_map]
      refine (asc.and nd).imp_of_mem fun {a b} ha hb hab => ?_
      have := ((mem a).mp ha).1
      have := ((mem b).mp hb).1
      have := hab.1
      have := hab.2
      omega
    · rw [List.mem_map]
      constructor
      · rintro ⟨y, hy, rfl⟩
        exact ((mem y).mp hy).2
      · intro c
        exact ⟨(x : Int), (mem _).mpr ⟨by omega, by rw [Int.toNat_natCast]; exact c⟩, Int.toNat_natCast x⟩
abbrev nTi : List Str := ["web", "part", "tie", "pair"]
theorem scTi : FnScope nTi ["web", "part"] (defScope sTiesIn) := ⟨rfl, rfl, rfl, by decide +kernel, rfl, by decide +kernel, by decide +kernel⟩
theorem ok_tiesIn {f W : Addr} {fd : FuncData} (D : Df K mg "ties_in" sTiesIn ["web", "part"] f fd) (B : Bt mg) (T : WcT K mg W) : FnOk P w K mg base CX0 1 f fd ["web", "part"] (spTiesIn K W) := by
  refine D.F.ok scTi (fun vs H Q E h => ?_) (fun cdv A outer s H vs Q E hr h => ?_)
  · obtain ⟨w, p, n, ts, ns, rfl, _⟩ := h
    rfl
  · obtain ⟨w, p, n, ts, ns, rfl, ⟨dx, ta, h1, tas, g1, g2⟩, hW, hp, q⟩ := h
    refine ⟨_, pss_one (ps_ret (pe_lc (own := [("tie", 2), ("pair", 3)]) (g := gTup K 2 (gCons (gName 2) (gCons (gName 3) gNil))) rfl scTi.nd (pi_enumA (by rfl) B.enumerate (pa_cons (pe_fld (pv 0) rfl) pa_nil)) (blkOk_by (N := nTi) (sc := defScope sTiesIn) (by decide +kernel))
      (fun _ _ _ _ _ => pg_tup rfl (pgs_cons (pg_name (i := 2) scTi.nd rfl (.inl rfl)) (pgs_cons (pg_name (i := 3) scTi.nd rfl (.inl rfl)) pgs_nil)))
      (fun _ _ _ _ _ => pts_one (pt_cmpR (opInK (K := K) rfl) (pe_ix (ixTK (K := K) rfl) (pv 3) pe_int (fun _ _ => rfl)) (pv 1) rfl))
      (fun _ _ _ _ _ => pv 2))), ?_⟩
    refine ⟨_, rfl, w, W, dx, _, _, rfl, h1, T.cl, T.nT, wf_t _ _, ta, rfl, .inr ⟨_, SqT.of g1, fun D0 hD0 => lc_enumT (K := K) (a := ta) (xs := tas.map V.ref)
      (fun i H2 => Same H H2 ∧ H2 D0 = some (.lst (vn (tInK ts ns i)))) ⟨same_new hD0, by rw [upd_same]; rfl⟩ (fun i H2 _ ⟨s2, _⟩ => SqT.of (s2 _ _ g1)) ?_ ?_⟩⟩
    · rintro i x T0 H2 hx hT0 ⟨s2, hD2⟩
      obtain ⟨a, t, rfl, ha, ht, hat⟩ := g2.get' hx
      have sT := same_new (o := HO.tup [.int (i : Nat), .ref a]) hT0
      have hat2 := sT _ _ (s2 _ _ hat)
      have hD2' := sT _ _ hD2
      have s2' := s2.trans sT
      have hT2 : (upd H2 T0 (.tup [.int (i : Nat), .ref a])) T0 = some (.tup [.int (i : Nat), .ref a]) := upd_same
      generalize upd H2 T0 (.tup [.int (i : Nat), .ref a]) = H3 at hat2 hD2' s2' hT2 ⊢
      refine ⟨T0, _, rfl, SqT.of hT2, rfl, _, _, rfl, _, _, rfl, rfl, rfl, ?_⟩
      have hp3 := hp.same s2'
      refine ⟨_, rfl, a, _, 0, .int (t.1 : Int), rfl, rfl, SqT.of hat2, atI_nat (j := 0) rfl, _, rfl, p, vn ns, rfl, hp3.elim (fun h => .inl (SqL.of h)) (fun h => .inr (SqT.of h)), rfl, flat_vn ns, _, rfl, ?_⟩
      rw [inV_vn]
      have ws := tInK_succ (ns := ns) ht
      have lw := tInK_len ts ns i
      have t20 := hW.t20
      refine ifD (fun e => ?_) fun e => ?_
      · replace e : t.1 ∈ ns := by simpa using e
        rw [if_pos e] at ws
        refine ⟨_, rfl, _, hD2', szl (by rw [vn_len]; omega), fun c o eo => ?_, ?_⟩
        · rw [upd_ne (ne_of_none eo hD0)]
          exact s2' _ _ eo
        · rw [upd_same, ws, vn, vn, List.map_append]; rfl
      · replace e : t.1 ∉ ns := by simpa using e
        rw [if_neg e, List.append_nil] at ws
        exact ⟨s2', by rw [ws]; exact hD2'⟩
    · rintro H2 ⟨s2, hD2⟩
      rw [List.length_map, g2.1] at hD2
      exact q D0 H2 s2 hD0 hD2
end
end K1
namespace K1
open PySem PySem.Spec PyProof.Rows L2
/-! ### numbers of counters -/
structure Cn2 (mg : Str → Option Value) : Prop where
  mod : ∃ t, mg "MOST_MODULUS" = some (.int 1000000 t)
  num : ∃ t, mg "MOST_NUMBER" = some (.int 1000000000000000000 t)
def modB : V → Bool | .int i => decide (0 ≤ i) && decide (i < 1000001) && !decide (i = 1) | _ => false
def amtB : V → Bool | .int i => decide (-1000000000000000000 ≤ i) && decide (i ≤ 1000000000000000000) | _ => false
def cntB (m : Int) (v : V) : Bool := if m = 0 then amtB v else belowB v m
def cofB (m k : Int) (o : Option (List V)) : Bool := seqB o k k && (o.getD []).all (cntB m)
def cby (m x : Int) : Int := if m = 0 then x else x % m
def spNeedM (K : PySem.W.Frag) (C : Addr) : Sp := fun vs H Q E => ∃ v o, vs = [v] ∧ KV K H v o ∧ (modB v = true → Q v H) ∧ (modB v = false → Rz C "at" v H E)
def spAmt (K : PySem.W.Frag) : Sp := fun vs H Q _ => ∃ v o, vs = [v] ∧ KV K H v o ∧ Q (.bl (amtB v)) H
def spIsCnt (K : PySem.W.Frag) : Sp := fun vs H Q _ => ∃ m v o, vs = [.int m, v] ∧ KV K H v o ∧ Q (.bl (cntB m v)) H
def spCOf (K : PySem.W.Frag) (C : Addr) : Sp := fun vs H Q E => ∃ (m : Int) (k : Int) (v : V) (o : Option (List V)), vs = [.int m, .int k, v] ∧ k ≤ 1000 ∧ Rw K H v o ∧ (cofB m k o = false → Rz C "at" v H E) ∧ (cofB m k o = true → ∀ xs, o = some xs → ∀ p H', Same H H' → H' p = some (.tup xs) → Q (.ref p) H')
def spCBy : Sp := fun vs H Q _ => ∃ (m x : Int), vs = [.int m, .int x] ∧ 0 ≤ m ∧ Q (.int (cby m x)) H
section
variable {P : Program} {w : World} {K : PySem.W.Frag} {mg : Str → Option Value} {base : Heap}
theorem scNM : FnScope ["value"] ["value"] (defScope sNeedM) := ⟨rfl, rfl, rfl, by decide +kernel, rfl, by decide +kernel, by decide +kernel⟩
theorem ok_needM {f fB C cI : Addr} {fd fdB : FuncData} {bm : List Value} {ql : Str} (D : Df K mg "need_modulus" sNeedM ["value"] f fd) (DB : Df K mg "is_below" sBelow ["value", "limit"] fB fdB) (c : Cn2 mg) (TX : LAt.Txt K mg "Refused" ql bm C cI)
    (GB : FnOk P w K mg base CX0 2 fB fdB ["value", "limit"] (spBelow K)) : FnOk P w K mg base (L2.CX P w) 3 f fd ["value"] (spNeedM K C) := by
  obtain ⟨t1, hc1⟩ := c.mod
  refine D.F.okX scNM (fun vs H Q E h => ?_) (fun cdv A outer s H vs Q E hr h => ?_)
  · obtain ⟨v, o, rfl, _⟩ := h
    rfl
  · obtain ⟨v, o, rfl, kv, q1, q2⟩ := h
    refine ⟨_, pss_cons (ps_if (PW.pt (pw_or (pt_not (pt_val (pc DB GB hr pass0 (pa_cons (pv 0) (pa_cons (pe_op op_add (pe_glob (v := .int 1000000) (by rfl) hc1 ⟨_, rfl⟩) pe_int) pa_nil))))) (pw_or1 (pt_cmpR op_eq (pv 0) pe_int (nomark _))))) (pss_one (ps_raise_LAt rfl TX hr (takes_of rfl rfl rfl rfl) (pa_cons (pv 0) pa_nil))) pss_nil) (pss_one (ps_ret (pv 0))), ?_⟩
    refine ⟨_, rfl, _, _, rfl, rfl, v, o, _, rfl, kv, _, rfl, ifD (fun e => ?_) fun e => ?_⟩
    · refine iteT ⟨_, rfl, _, rfl, fun d hd => q2 ?_ d _ (same_new hd) hd upd_same⟩
      replace e : belowB v 1000001 = false := by simpa using e
      cases v <;> first | rfl | skip
      rename_i i
      have e' : (decide (0 ≤ i) && decide (i < 1000001)) = false := e
      show (decide (0 ≤ i) && decide (i < 1000001) && !decide (i = 1)) = false
      rw [e']; rfl
    · replace e : belowB v 1000001 = true := by simpa using e
      obtain ⟨i, rfl⟩ : ∃ i, v = .int i := by
        cases v <;> first | exact ⟨_, rfl⟩ | cases e
      have e' : (decide (0 ≤ i) && decide (i < 1000001)) = true := e
      refine ⟨_, rfl, rfl, _, rfl, ifD (fun e2 => ?_) fun e2 => ?_⟩
      · refine ⟨_, rfl, _, rfl, fun d hd => q2 ?_ d _ (same_new hd) hd upd_same⟩
        show (decide (0 ≤ i) && decide (i < 1000001) && !decide (i = 1)) = false
        have e3 : i = 1 := by
          have z : V.int i = V.int 1 := of_decide_eq_true e2
          injection z
        rw [e', decide_eq_true e3]; rfl
      · refine ⟨_, rfl, q1 ?_⟩
        show (decide (0 ≤ i) && decide (i < 1000001) && !decide (i = 1)) = true
        have e3 : ¬ i = 1 := fun z => by
          have y : ¬ (V.int i = V.int 1) := of_decide_eq_false e2
          exact y (by rw [z])
        rw [e', decide_eq_false e3]; rfl
theorem scAm : FnScope ["value"] ["value"] (defScope sAmt) := ⟨rfl, rfl, rfl, by decide +kernel, rfl, by decide +kernel, by decide +kernel⟩
theorem ok_amt {f fW : Addr} {fd fdW : FuncData} (D : Df K mg "is_amount" sAmt ["value"] f fd) (DW : Df K mg "is_whole" sWhole ["value"] fW fdW) (c : Cn2 mg) (GW : FnOk P w K mg base CX0 1 fW fdW ["value"] (spWhole K)) : FnOk P w K mg base CX0 2 f fd ["value"] (spAmt K) := by
  obtain ⟨t1, hc1⟩ := c.num
  refine D.F.ok scAm (fun vs H Q E h => ?_) (fun cdv A outer s H vs Q E hr h => ?_)
  · obtain ⟨v, o, rfl, _⟩ := h
    rfl
  · obtain ⟨v, o, rfl, kv, q⟩ := h
    refine ⟨_, pss_one (ps_ret (pe_and (pc DW GW hr pass0 (pa_cons (pv 0) pa_nil)) (pe_one (pe_chain op_le op_le (pe_un un_neg (pe_glob (v := .int 1000000000000000000) (by rfl) hc1 ⟨_, rfl⟩)) (pv 0) (pe_glob (v := .int 1000000000000000000) (by rfl) hc1 ⟨_, rfl⟩))))), ?_⟩
    refine ⟨_, rfl, _, _, rfl, kv, _, rfl, ifD (fun e => ?_) fun e => ?_⟩
    · obtain ⟨i, rfl⟩ : ∃ i, v = .int i := by
        cases v <;> first | exact ⟨_, rfl⟩ | cases e
      refine ⟨_, rfl, _, rfl, _, _, rfl, rfl, _, rfl, ifD (fun e2 => ?_) fun e2 => ?_⟩
      · refine ⟨_, _, rfl, rfl, ?_⟩
        have z : decide (i ≤ 1000000000000000000) = amtB (.int i) := by
          show _ = (decide (-1000000000000000000 ≤ i) && decide (i ≤ 1000000000000000000))
          rw [e2]; rfl
        exact qbl z q
      · have z : false = amtB (.int i) := by
          show _ = (decide (-1000000000000000000 ≤ i) && decide (i ≤ 1000000000000000000))
          rw [e2]; rfl
        exact qbl z q
    · have z : false = amtB v := by cases v <;> first | rfl | cases e
      exact qbl z q
theorem scIC : FnScope ["modulus", "value"] ["modulus", "value"] (defScope sIsCnt) := ⟨rfl, rfl, rfl, by decide +kernel, rfl, by decide +kernel, by decide +kernel⟩
theorem ok_isCnt {f fA fB : Addr} {fd fdA fdB : FuncData} (D : Df K mg "is_counter" sIsCnt ["modulus", "value"] f fd) (DA : Df K mg "is_amount" sAmt ["value"] fA fdA) (DB : Df K mg "is_below" sBelow ["value", "limit"] fB fdB)
    (GA : FnOk P w K mg base CX0 2 fA fdA ["value"] (spAmt K)) (GB : FnOk P w K mg base CX0 2 fB fdB ["value", "limit"] (spBelow K)) : FnOk P w K mg base CX0 3 f fd ["modulus", "value"] (spIsCnt K) := by
  refine D.F.ok scIC (fun vs H Q E h => ?_) (fun cdv A outer s H vs Q E hr h => ?_)
  · obtain ⟨m, v, o, rfl, _⟩ := h
    rfl
  · obtain ⟨m, v, o, rfl, kv, q⟩ := h
    refine ⟨_, pss_one (ps_ret (pe_ifExp (pt_cmpR op_eq (pv 0) pe_int (nomark _)) (pc DA GA hr pass0 (pa_cons (pv 1) pa_nil)) (pc DB GB hr pass0 (pa_cons (pv 1) (pa_cons (pv 0) pa_nil))))), ?_⟩
    refine ⟨_, rfl, rfl, _, rfl, ifD (fun e => ?_) fun e => ?_⟩
    · have e3 : m = 0 := by
        have z : V.int m = V.int 0 := of_decide_eq_true e
        injection z
      refine ⟨_, rfl, v, o, rfl, kv, qbl ?_ q⟩
      unfold cntB
      rw [if_pos e3]
    · have e3 : ¬ m = 0 := fun z => by
        have y : ¬ (V.int m = V.int 0) := of_decide_eq_false e
        exact y (by rw [z])
      refine ⟨_, rfl, _, rfl, v, o, m, rfl, kv, qbl ?_ q⟩
      unfold cntB
      rw [if_neg e3]
theorem scCB : FnScope ["modulus", "number"] ["modulus", "number"] (defScope sCBy) := ⟨rfl, rfl, rfl, by decide +kernel, rfl, by decide +kernel, by decide +kernel⟩
theorem ok_cby {f : Addr} {fd : FuncData} (D : Df K mg "counted_by" sCBy ["modulus", "number"] f fd) : FnOk P w K mg base CX0 1 f fd ["modulus", "number"] spCBy := by
  refine D.F.ok scCB (fun vs H Q E h => ?_) (fun cdv A outer s H vs Q E hr h => ?_)
  · obtain ⟨m, x, rfl, _⟩ := h
    rfl
  · obtain ⟨m, x, rfl, h0, q⟩ := h
    refine ⟨_, pss_one (ps_ret (pe_ifExp (pt_cmpR op_eq (pv 0) pe_int (nomark _)) (pv 1) (pe_op op_mod (pv 1) (pv 0)))), ?_⟩
    refine ⟨_, rfl, rfl, _, rfl, ifD (fun e => ?_) fun e => ?_⟩
    · have e3 : m = 0 := by
        have z : V.int m = V.int 0 := of_decide_eq_true e
        injection z
      refine ⟨_, rfl, ?_⟩
      unfold cby at q
      rw [if_pos e3] at q
      exact q
    · have e3 : ¬ m = 0 := fun z => by
        have y : ¬ (V.int m = V.int 0) := of_decide_eq_false e
        exact y (by rw [z])
      unfold cby at q
      rw [if_neg e3] at q
      exact ⟨_, rfl, _, rfl, _, _, rfl, rfl, by omega, q⟩
abbrev nCO : List Str := ["modulus", "many", "value", "item"]
theorem scCO : FnScope nCO ["modulus", "many", "value"] (defScope sCOf) := ⟨rfl, rfl, rfl, by decide +kernel, rfl, by decide +kernel, by decide +kernel⟩
theorem ok_cof {f fS fI C cI : Addr} {fd fdS fdI : FuncData} {bm : List Value} {ql : Str} (D : Df K mg "counters_of" sCOf ["modulus", "many", "value"] f fd) (DS : Df K mg "is_sequence" sSeq ["value", "least", "most"] fS fdS) (DI : Df K mg "is_counter" sIsCnt ["modulus", "value"] fI fdI) (B : Bt mg) (TX : LAt.Txt K mg "Refused" ql bm C cI)
    (GS : FnOk P w K mg base CX0 1 fS fdS ["value", "least", "most"] (spSeq K)) (GI : FnOk P w K mg base CX0 3 fI fdI ["modulus", "value"] (spIsCnt K)) : FnOk P w K mg base (L2.CX P w) 4 f fd ["modulus", "many", "value"] (spCOf K C) := by
  refine D.F.okX scCO (fun vs H Q E h => ?_) (fun cdv A outer s H vs Q E hr h => ?_)
  · obtain ⟨m, k, v, o, rfl, _⟩ := h
    rfl
  · obtain ⟨m, k, v, o, rfl, k1000, rw_, q1, q2⟩ := h
    refine ⟨_, pss_cons (ps_if (PW.pt (pw_or (pt_not (pt_val (pc DS GS (hr.mono (by decide)) pass0 (pa_cons (pv 2) (pa_cons (pv 1) (pa_cons (pv 1) pa_nil)))))) (pw_or1 (pt_not (pt_val (pe_callB (cr_all rfl) (by rfl) B.all (by decide +kernel) (pa_cons
        (pe_lc (own := [("item", 3)]) (g := gName 3) (tt := tYes) rfl scCO.nd (pi_seqK (K := K) rfl (pv 2)) (blkOk_by (N := nCO) (sc := defScope sCOf) (by decide +kernel)) (fun _ _ _ _ _ => pg_name (i := 3) scCO.nd rfl (Or.inl rfl)) (fun _ _ _ _ _ => pts_nil)
          (fun _ _ _ _ _ => pc DI GI hr pass0 (pa_cons (pv 0) (pa_cons (pv 3) pa_nil)))) pa_nil))))))) (pss_one (ps_raise_LAt rfl TX hr (takes_of rfl rfl rfl rfl) (pa_cons (pv 2) pa_nil))) pss_nil)
      (pss_one (ps_ret (pe_callTy call_tuple_of (by rfl) B.tuple PyProof.Rows.boot_tuple (pa_cons (pv 2) pa_nil)))), ?_⟩
    refine ⟨_, rfl, _, rfl, _, rfl, v, o, k, k, rfl, rw_.kv, fun H1 s1 => ⟨_, rfl, ifD (fun e => ?_) fun e => ?_⟩⟩
    · replace e : seqB o k k = false := by simpa using e
      have z : cofB m k o = false := by unfold cofB; rw [e]; rfl
      exact iteT ⟨_, rfl, _, rfl, fun d hd => q1 z d _ (s1.trans (same_new hd)) (s1.free hd) upd_same⟩
    · replace e : seqB o k k = true := by simpa using e
      cases o with
      | none => cases e
      | some xs =>
        obtain ⟨a, rfl, hS⟩ := rw_.kv.seqA
        have hks := rw_.ks xs rfl
        have hl : xs.length ≤ 1000 := by
          have z : (decide (k ≤ (xs.length : Int)) && decide ((xs.length : Int) ≤ k)) = true := e
          simp only [Bool.and_eq_true, decide_eq_true_eq] at z
          omega
        have eall : cofB m k (some xs) = (xs.map (cntB m)).all id := by
          unfold cofB
          rw [e, Bool.true_and, List.all_map]; rfl
        have emap : (xs.map fun x => V.bl (cntB m x)) = (xs.map (cntB m)).map V.bl := by rw [List.map_map]; rfl
        refine ⟨_, rfl, a, rfl, ?_⟩
        rcases hS.same s1 with hS1 | hS1
        · refine .inl ⟨xs, SqL.of hS1, fun D0 hD0 => lc_list (K := K) (a := a) (xs := xs) (fun i H2 => Same H1 H2 ∧ H2 D0 = some (.lst ((xs.map fun x => V.bl (cntB m x)).take i))) ⟨same_new hD0, by rw [upd_same]; rfl⟩ (fun i H2 _ ⟨s2, _⟩ => SqL.of (s2 _ _ hS1)) ?_ ?_⟩
          · rintro i x H2 hx ⟨s2, hD⟩
            obtain ⟨o', kv'⟩ := hks x (List.mem_of_getElem? hx)
            refine ⟨rfl, _, rfl, _, rfl, m, x, o', rfl, kv'.same (s1.trans s2), _, hD, szl (by rw [List.length_take, List.length_map]; omega), fun c o e => ?_, ?_⟩
            · rw [upd_ne (ne_of_none e hD0)]
              exact s2 _ _ e
            · rw [upd_same, take_succ (map_at hx)]
          · rintro H2 ⟨s2, hD⟩
            rw [List.take_of_length_le (by rw [List.length_map]; exact Nat.le_refl _), emap] at hD
            refine ⟨D0, xs.map (cntB m), rfl, SqL.of hD, _, rfl, ?_⟩
            rw [← eall]
            refine ifD (fun e2 => ?_) fun e2 => ?_
            · have z : cofB m k (some xs) = false := by simpa using e2
              exact ⟨_, rfl, _, rfl, fun d hd => q1 z d _ ((s1.trans s2).trans (same_new hd)) ((s1.trans s2).free hd) upd_same⟩
            · have z : cofB m k (some xs) = true := by simpa using e2
              exact ⟨_, rfl, a, xs, rfl, .inl ⟨SqL.of (s2 _ _ hS1), fun l hl => q2 z xs rfl l _ ((s1.trans s2).trans (same_new hl)) upd_same⟩⟩
        · refine .inr ⟨xs, SqT.of hS1, fun D0 hD0 => lc_tup (K := K) (a := a) (xs := xs) (fun i H2 => Same H1 H2 ∧ H2 D0 = some (.lst ((xs.map fun x => V.bl (cntB m x)).take i))) ⟨same_new hD0, by rw [upd_same]; rfl⟩ (fun i H2 _ ⟨s2, _⟩ => SqT.of (s2 _ _ hS1)) ?_ ?_⟩
          · rintro i x H2 hx ⟨s2, hD⟩
            obtain ⟨o', kv'⟩ := hks x (List.mem_of_getElem? hx)
            refine ⟨rfl, _, rfl, _, rfl, m, x, o', rfl, kv'.same (s1.trans s2), _, hD, szl (by rw [List.length_take, List.length_map]; omega), fun c o e => ?_, ?_⟩
            · rw [upd_ne (ne_of_none e hD0)]
              exact s2 _ _ e
            · rw [upd_same, take_succ (map_at hx)]
          · rintro H2 ⟨s2, hD⟩
            rw [List.take_of_length_le (by rw [List.length_map]; exact Nat.le_refl _), emap] at hD
            refine ⟨D0, xs.map (cntB m), rfl, SqL.of hD, _, rfl, ?_⟩
            rw [← eall]
            refine ifD (fun e2 => ?_) fun e2 => ?_
            · have z : cofB m k (some xs) = false := by simpa using e2
              exact ⟨_, rfl, _, rfl, fun d hd => q1 z d _ ((s1.trans s2).trans (same_new hd)) ((s1.trans s2).free hd) upd_same⟩
            · have z : cofB m k (some xs) = true := by simpa using e2
              exact ⟨_, rfl, a, xs, rfl, .inr ⟨SqT.of (s2 _ _ hS1), q2 z xs rfl a _ (s1.trans s2) (s2 _ _ hS1)⟩⟩
end
end K1
namespace K1
open PySem PySem.Spec PyProof.Rows L2
/-! ### nets of counters -/
def nf (m : Int) (sa aa w : Addr) : List (Str × V) := [("modulus", .int m), ("states", .ref sa), ("archives", .ref aa), ("web", .ref w)]
theorem nf_m (m : Int) (sa aa w : Addr) : (nf m sa aa w).lookup ("modulus" : Str) = some (.int m) := by rfl
theorem nf_s (m : Int) (sa aa w : Addr) : (nf m sa aa w).lookup ("states" : Str) = some (.ref sa) := by rfl
theorem nf_a (m : Int) (sa aa w : Addr) : (nf m sa aa w).lookup ("archives" : Str) = some (.ref aa) := by rfl
theorem nf_w (m : Int) (sa aa w : Addr) : (nf m sa aa w).lookup ("web" : Str) = some (.ref w) := by rfl
theorem nf_ps (m : Int) (sa aa w x : Addr) : putF ("states" : Str) (.ref x) (nf m sa aa w) = nf m x aa w := by rfl
theorem nf_pa (m : Int) (sa aa w x : Addr) : putF ("archives" : Str) (.ref x) (nf m sa aa w) = nf m sa x w := by rfl
structure NetAt (N W : Addr) (H : Hp) (c : Addr) (m : Int) (ss ar : List Int) (w : Addr) (n : Nat) (ts : Prs) : Prop where
  ob : ∃ dx sa aa, H c = some (.ins N dx (nf m sa aa w)) ∧ H sa = some (.tup (vrow ss)) ∧ H aa = some (.tup (vrow ar))
  wb : WebAt W H w n ts
  ls : ss.length = n
  la : ar.length = ts.length
  m0 : 0 ≤ m
theorem NetAt.same {N W : Addr} {H H' : Hp} {c : Addr} {m : Int} {ss ar : List Int} {w : Addr} {n : Nat} {ts : Prs} (h : NetAt N W H c m ss ar w n ts) (s : Same H H') : NetAt N W H' c m ss ar w n ts :=
  ⟨let ⟨dx, sa, aa, h1, h2, h3⟩ := h.ob; ⟨dx, sa, aa, s _ _ h1, s _ _ h2, s _ _ h3⟩, h.wb.same s, h.ls, h.la, h.m0⟩
structure NcT (K : PySem.W.Frag) (mg : Str → Option Value) (N : Addr) : Prop where
  cl : Cls K N
  nM : NoAttr K N "modulus"
  nS : NoAttr K N "states"
  nA : NoAttr K N "archives"
  nW : NoAttr K N "web"
  g : mg "CounterNet" = some (.ref N)
/-- all stands but c -/
def But (c : Addr) (H H' : Hp) : Prop := ∀ b u, H b = some u → b ≠ c → H' b = some u
theorem But.refl {c : Addr} {H : Hp} : But c H H := fun _ _ e _ => e
theorem But.trans {c : Addr} {H H1 H2 : Hp} (a : But c H H1) (b : But c H1 H2) : But c H H2 := fun d u e n => b d u (a d u e n) n
theorem But.same {c : Addr} {H H1 H2 : Hp} (a : But c H H1) (s : Same H1 H2) : But c H H2 := fun d u e n => s _ _ (a d u e n)
theorem Same.but {c : Addr} {H H1 : Hp} (s : Same H H1) : But c H H1 := fun d u e _ => s _ _ e
theorem But.upd {c : Addr} {H : Hp} {o : HO} : But c H (upd H c o) := fun d u e n => by rw [upd_ne n]; exact e
theorem But.put {c : Addr} {H H' : Hp} {o : HO} (s : Same H H') : But c H (L2.upd H' c o) := fun d u e n => by rw [upd_ne n]; exact s _ _ e
/-- a web's things are no net -/
theorem WebAt.but {N W : Addr} {H H' : Hp} {c w : Addr} {n : Nat} {ts : Prs} {dx : Addr} {fs : List (Str × V)} (h : WebAt W H w n ts) (hc : H c = some (.ins N dx fs)) (nw : w ≠ c) (b : But c H H') : WebAt W H' w n ts := by
  obtain ⟨dx', ta, h1, as, h2, h3⟩ := h
  have nt : ∀ {a : Addr} {xs : List V}, H a = some (.tup xs) → a ≠ c := fun e z => by rw [z, hc] at e; cases e
  exact ⟨dx', ta, b _ _ h1 nw, as, b _ _ h2 (nt h2), h3.1, fun i a t e1 e2 => b _ _ (h3.2 i a t e1 e2) (nt (h3.2 i a t e1 e2))⟩
/-- an error, all but c as it was -/
def Rzx (C c : Addr) (f : Str) (v : V) (H : Hp) (E : XK) : Prop := ∀ d H', But c H H' → H d = none → H' d = some (.xd [(f, v)]) → E (.ref C) (some d) H'
def spCInit (K : PySem.W.Frag) (N W C : Addr) : Sp := fun vs H Q E => ∃ (c dx w : Addr) (vm vst va : V) (om o1 o2 : Option (List V)) (n : Nat) (ts : Prs), vs = [.ref c, .ref w, vm, vst, va] ∧ H c = some (.ins N dx []) ∧ WebAt W H w n ts ∧ w ≠ c ∧ Wv n ts ∧ KV K H vm om ∧ Rw K H vst o1 ∧ Rw K H va o2 ∧
  (modB vm = false → Rzx C c "at" vm H E) ∧ (∀ m, vm = .int m → modB vm = true → (cofB m n o1 = false → Rzx C c "at" vst H E) ∧ (cofB m n o1 = true → (cofB m ts.length o2 = false → Rzx C c "at" va H E) ∧
    (cofB m ts.length o2 = true → ∀ ss ar, o1 = some (vrow ss) → o2 = some (vrow ar) → ∀ H', But c H H' → NetAt N W H' c m ss ar w n ts → Q .non H')))
def spDo (K : PySem.W.Frag) (N W CH CR : Addr) : Sp := fun vs H Q E => ∃ (c w : Addr) (v a : V) (o1 o2 : Option (List V)) (m : Int) (ss ar : List Int) (n : Nat) (ts : Prs), vs = [.ref c, v, a] ∧ NetAt N W H c m ss ar w n ts ∧ w ≠ c ∧ Wv n ts ∧ KV K H v o1 ∧ KV K H a o2 ∧
  (belowB v (n : Int) = false → Rz CH "house" v H E) ∧ (∀ h : Nat, v = .int (h : Int) → h < n → (amtB a = false → Rz CR "at" a H E) ∧ (∀ i, a = .int i → amtB a = true → ∀ H', But c H H' → NetAt N W H' c m (ss.set h (cby m (ss.getD h 0 + i))) ar w n ts → Q (.int (cby m (ss.getD h 0 + i))) H'))
def metN (m : Int) (ss ar : List Int) (p : Nat × Nat) (t : Nat) : Int := cby m (ss.getD p.1 0 + ss.getD p.2 0 - ar.getD t 0)
def spMeet (K : PySem.W.Frag) (N W CT : Addr) : Sp := fun vs H Q E => ∃ (c w : Addr) (v : V) (o1 : Option (List V)) (m : Int) (ss ar : List Int) (n : Nat) (ts : Prs), vs = [.ref c, v] ∧ NetAt N W H c m ss ar w n ts ∧ w ≠ c ∧ Wv n ts ∧ KV K H v o1 ∧
  (belowB v (ts.length : Int) = false → Rz CT "tie" v H E) ∧ (∀ (t : Nat) p, v = .int (t : Int) → ts[t]? = some p → ∀ H', But c H H' → NetAt N W H' c m ((ss.set p.1 (metN m ss ar p t)).set p.2 (metN m ss ar p t)) (ar.set t (metN m ss ar p t)) w n ts → Q (.int (metN m ss ar p t)) H')
def bookN (m : Int) (ss ar : List Int) (ts : Prs) (ns : List Nat) : Int := cby m ((ns.map fun x => ss.getD x 0).sum - ((tIn ts ns).map fun t => ar.getD t 0).sum)
def spBook (K : PySem.W.Frag) (N W CH : Addr) : Sp := fun vs H Q E => ∃ (c w : Addr) (v : V) (o1 : Option (List V)) (m : Int) (ss ar : List Int) (n : Nat) (ts : Prs), vs = [.ref c, v] ∧ NetAt N W H c m ss ar w n ts ∧ Wv n ts ∧ KV K H v o1 ∧
  (belowB v (n : Int) = false → Rz CH "house" v H E) ∧ (∀ h : Nat, v = .int (h : Int) → h < n → ∀ ns H', Same H H' → PartL ts h ns → Q (.int (bookN m ss ar ts ns)) H')
theorem below_nat {v : V} {n : Nat} (hb : belowB v (n : Int) = true) : ∃ h : Nat, v = .int (h : Int) ∧ h < n := by
  cases v <;> first | (cases hb; done) | skip
  rename_i i
  have z : (decide (0 ≤ i) && decide (i < (n : Int))) = true := hb
  simp only [Bool.and_eq_true, decide_eq_true_eq] at z
  exact ⟨i.toNat, by congr 1; omega, by omega⟩
theorem NetAt.upd {N W : Addr} {H H' : Hp} {c w dx sa aa : Addr} {m : Int} {ss ar ss' ar' : List Int} {n : Nat} {ts : Prs} (h : NetAt N W H c m ss ar w n ts) (nw : w ≠ c) (s : Same H H') (h1 : H' sa = some (.tup (vrow ss'))) (h2 : H' aa = some (.tup (vrow ar'))) (l1 : ss'.length = n) (l2 : ar'.length = ts.length) :
    NetAt N W (L2.upd H' c (.ins N dx (nf m sa aa w))) c m ss' ar' w n ts := by
  obtain ⟨dx0, sa0, aa0, g1, g2, g3⟩ := h.ob
  have g1' := s _ _ g1
  have nt : ∀ {a : Addr} {xs : List V}, H' a = some (.tup xs) → a ≠ c := fun e z => by rw [z, g1'] at e; cases e
  exact ⟨⟨dx, sa, aa, upd_same, by rw [upd_ne (nt h1)]; exact h1, by rw [upd_ne (nt h2)]; exact h2⟩, (h.wb.same s).but g1' nw But.upd, l1, l2, h.m0⟩
section
variable {P : Program} {w : World} {K : PySem.W.Frag} {mg : Str → Option Value} {base : Heap}
theorem cof_ints {m k : Int} {xs : List V} (h : cofB m k (some xs) = true) : ∃ ss : List Int, xs = vrow ss ∧ (ss.length : Int) = k := by
  unfold cofB at h
  simp only [Bool.and_eq_true, Option.getD_some, List.all_eq_true] at h
  obtain ⟨h1, h2⟩ := h
  have z : (decide (k ≤ (xs.length : Int)) && decide ((xs.length : Int) ≤ k)) = true := h1
  simp only [Bool.and_eq_true, decide_eq_true_eq] at z
  have key : ∀ ys : List V, (∀ x ∈ ys, cntB m x = true) → ∃ ss : List Int, ys = vrow ss := fun ys => by
    induction ys with
    | nil => intro _; exact ⟨[], rfl⟩
    | cons y r ih =>
      intro hy
      obtain ⟨ss, rfl⟩ := ih fun x hx => hy x (List.mem_cons_of_mem _ hx)
      have hc := hy y List.mem_cons_self
      obtain ⟨i, rfl⟩ : ∃ i, y = .int i := by
        unfold cntB at hc
        cases y <;> first | exact ⟨_, rfl⟩ | skip
        all_goals (split at hc <;> cases hc)
      exact ⟨i :: ss, rfl⟩
  obtain ⟨ss, rfl⟩ := key xs h2
  rw [vrow_len] at z
  exact ⟨ss, rfl, by omega⟩
theorem scCI : FnScope ["self", "web", "modulus", "states", "archives"] ["self", "web", "modulus", "states", "archives"] (defScope sCInit) := ⟨rfl, rfl, rfl, by decide +kernel, rfl, by decide +kernel, by decide +kernel⟩
theorem ok_cinit {f fM fO C W N : Addr} {fd fdM fdO : FuncData} (F : Fun K "__init__" "CounterNet.__init__" sCInit f fd) (DM : Df K mg "need_modulus" sNeedM ["value"] fM fdM) (DO : Df K mg "counters_of" sCOf ["modulus", "many", "value"] fO fdO) (B : Bt mg) (T : NcT K mg N) (TW : WcT K mg W)
    (GM : FnOk P w K mg base (L2.CX P w) 3 fM fdM ["value"] (spNeedM K C)) (GO : FnOk P w K mg base (L2.CX P w) 4 fO fdO ["modulus", "many", "value"] (spCOf K C)) : FnOk P w K mg base (L2.CX P w) 5 f fd ["self", "web", "modulus", "states", "archives"] (spCInit K N W C) := by
  refine F.okX scCI (fun vs H Q E h => ?_) (fun cdv A outer s H vs Q E hr h => ?_)
  · obtain ⟨c, dx, w, vm, vst, va, om, o1, o2, n, ts, rfl, _⟩ := h
    rfl
  · obtain ⟨c, dx, w, vm, vst, va, om, o1, o2, n, ts, rfl, hc, hw, nw, hW, kvm, r1, r2, q1, q2⟩ := h
    refine ⟨_, pss_cons (ps_fld (pv 0) (pc DM GM (hr.mono (by decide)) (pass1 (takes_of rfl rfl rfl rfl)) (pa_cons (pv 2) pa_nil)) rfl)
      (pss_cons (ps_fld (pv 0) (pc DO GO hr (pass1 (takes_of rfl rfl rfl rfl)) (pa_cons (pv 2) (pa_cons (pe_fld (pv 1) rfl) (pa_cons (pv 3) pa_nil)))) rfl)
      (pss_cons (ps_fld (pv 0) (pc DO GO hr (pass1 (takes_of rfl rfl rfl rfl)) (pa_cons (pv 2) (pa_cons (pe_callB call_len_seq (by rfl) B.len PySem.boot_len (pa_cons (pe_fld (pv 1) rfl) pa_nil)) (pa_cons (pv 4) pa_nil)))) rfl)
      (pss_one (ps_fld (pv 0) (pv 1) rfl)))), ?_⟩
    have n12 := hW.n12
    have t20 := hW.t20
    refine ⟨_, rfl, vm, om, rfl, kvm, fun hm => ?_, fun hm d H' sm hd he => q1 hm d H' (Same.but sm) hd he⟩
    obtain ⟨m, rfl⟩ : ∃ m, vm = .int m := by
      cases vm <;> first | exact ⟨_, rfl⟩ | cases hm
    have m0 : 0 ≤ m := by
      have z : (decide (0 ≤ m) && decide (m < 1000001) && !decide (m = 1)) = true := hm
      simp only [Bool.and_eq_true, decide_eq_true_eq] at z
      exact z.1.1
    obtain ⟨qa, qb⟩ := q2 m rfl hm
    refine ⟨_, rfl, c, N, dx, [], rfl, hc, T.cl, T.nM, (by show 0 < 1000; decide), ?_⟩
    have hc1 : (upd H c (.ins N dx (putF "modulus" (.int m) []))) c = some (.ins N dx (putF "modulus" (.int m) [])) := upd_same
    have b1 : But c H (upd H c (.ins N dx (putF "modulus" (.int m) []))) := But.upd
    generalize upd H c (.ins N dx (putF "modulus" (.int m) [])) = H1 at hc1 b1 ⊢
    have nc : ∀ {a : Addr} {o : HO}, H a = some o → (∀ dx fs, o ≠ .ins N dx fs) → a ≠ c := fun e ne z => by
      rw [z, hc] at e
      exact ne _ _ (Option.some.inj e).symm
    have hw1 := hw.but hc nw b1
    have kv1 : ∀ {v : V} {o : Option (List V)}, Rw K H v o → Rw K H1 v o := fun {v o} r => by
      have kk : ∀ {v : V} {o : Option (List V)}, KV K H v o → KV K H1 v o := fun {v o} k => by
        cases k with
        | int i => exact .int i
        | bl b => exact .bl b
        | non => exact .non
        | str x => exact .str x
        | lst h => exact .lst (b1 _ _ h (nc h fun _ _ z => by cases z))
        | tup h => exact .tup (b1 _ _ h (nc h fun _ _ z => by cases z))
      exact ⟨kk r.kv, fun ys e y hy => let ⟨o', k'⟩ := r.ks ys e y hy; ⟨o', kk k'⟩⟩
    have r1' := kv1 r1
    have r2' := kv1 r2
    obtain ⟨dxw, ta, w1, tas, w2, w3⟩ := id hw1
    have hfree : ∀ {d : Addr}, H1 d = none → H d = none := fun {d} hd => by
      by_cases z : d = c
      · rw [z, hc1] at hd; cases hd
      · cases e : H d with
        | none => rfl
        | some u => rw [b1 _ _ e z] at hd; cases hd
    refine ⟨_, rfl, _, rfl, w, W, dxw, _, _, rfl, w1, TW.cl, TW.nH, wf_h _ _, _, rfl, m, (n : Int), vst, o1, rfl, by omega, r1', fun hf d H' sm hd he => qa hf d H' (b1.same sm) (hfree hd) he, fun ht xs exs sa H2 s2 hsa => ?_⟩
    obtain ⟨qc, qd⟩ := qb ht
    refine ⟨_, rfl, c, N, dx, _, rfl, s2 _ _ hc1, T.cl, T.nS, (by show 1 < 1000; decide), ?_⟩
    generalize hH3 : upd H2 c (.ins N dx (putF "states" (.ref sa) (putF "modulus" (.int m) []))) = H3
    have hc3 : H3 c = some (.ins N dx (putF "states" (.ref sa) (putF "modulus" (.int m) []))) := by rw [← hH3]; exact upd_same
    have b3 : But c H1 H3 := by rw [← hH3]; exact But.put s2
    have nsa : sa ≠ c := fun z => by rw [z, s2 _ _ hc1] at hsa; cases hsa
    have hsa3 : H3 sa = some (.tup xs) := by rw [← hH3, upd_ne nsa]; exact hsa
    have nt1 : ∀ {a : Addr} {xs : List V}, H1 a = some (.tup xs) → a ≠ c := fun e z => by rw [z, hc1] at e; cases e
    have hfree3 : ∀ {d : Addr}, H3 d = none → H1 d = none := fun {d} hd => by
      by_cases z : d = c
      · rw [z, hc3] at hd; cases hd
      · cases e : H1 d with
        | none => rfl
        | some u => rw [b3 _ _ e z] at hd; cases hd
    have nc1 : ∀ {a : Addr} {o : HO}, H1 a = some o → (∀ dx fs, o ≠ .ins N dx fs) → a ≠ c := fun e ne z => by
      rw [z, hc1] at e
      exact ne _ _ (Option.some.inj e).symm
    have r23 : Rw K H3 va o2 := by
      have kk : ∀ {v : V} {o : Option (List V)}, KV K H1 v o → KV K H3 v o := fun {v o} k => by
        cases k with
        | int i => exact .int i
        | bl b => exact .bl b
        | non => exact .non
        | str x => exact .str x
        | lst h => exact .lst (b3 _ _ h (nc1 h fun _ _ z => by cases z))
        | tup h => exact .tup (b3 _ _ h (nc1 h fun _ _ z => by cases z))
      exact ⟨kk r2'.kv, fun ys e y hy => let ⟨o', k'⟩ := r2'.ks ys e y hy; ⟨o', kk k'⟩⟩
    have el : ((tas.map V.ref).length : Int) = (ts.length : Int) := by rw [List.length_map, w3.1]
    refine ⟨_, rfl, _, rfl, w, W, dxw, _, _, rfl, b3 _ _ w1 nw, TW.cl, TW.nT, wf_t _ _, ta, _, rfl, .inr (SqT.of (b3 _ _ w2 (nt1 w2))), ?_⟩
    rw [el]
    refine ⟨_, rfl, m, (ts.length : Int), va, o2, rfl, by omega, r23, fun hf d H' sm hd he => qc hf d H' ((b1.trans b3).same sm) (hfree (hfree3 hd)) he, fun ht2 ys eys aa H4 s4 haa => ?_⟩
    refine ⟨_, rfl, c, N, dx, _, rfl, s4 _ _ hc3, T.cl, T.nA, (by show 2 < 1000; decide), ?_⟩
    refine ⟨_, rfl, _, rfl, c, N, dx, _, rfl, upd_same, T.cl, T.nW, (by show 3 < 1000; decide), ?_⟩
    rw [upd_upd]
    have enf : putF ("web" : Str) (.ref w) (putF ("archives" : Str) (.ref aa) (putF ("states" : Str) (.ref sa) (putF ("modulus" : Str) (.int m) []))) = nf m sa aa w := by rfl
    rw [enf]
    subst exs
    subst eys
    obtain ⟨ss, rfl, ls⟩ := cof_ints ht
    obtain ⟨ar, rfl, la⟩ := cof_ints ht2
    have hc4 := s4 _ _ hc3
    have nt4 : ∀ {a : Addr} {xs : List V}, H4 a = some (.tup xs) → a ≠ c := fun e z => by rw [z, hc4] at e; cases e
    have hw4 : WebAt W (upd H4 c (.ins N dx (nf m sa aa w))) w n ts := (hw.but hc nw (b1.trans b3)).same s4 |>.but hc4 nw But.upd
    exact qd ht2 ss ar rfl rfl _ ((b1.trans b3).trans (But.put s4)) ⟨⟨dx, sa, aa, upd_same, by rw [upd_ne nsa]; exact s4 _ _ hsa3, by rw [upd_ne (nt4 haa)]; exact haa⟩, hw4, by omega, by omega, m0⟩
theorem scCD : FnScope ["self", "house", "amount", "number"] ["self", "house", "amount"] (defScope sCDo) := ⟨rfl, rfl, rfl, by decide +kernel, rfl, by decide +kernel, by decide +kernel⟩
theorem ok_cdo {f fH fA fC fR CH CR W N cI : Addr} {fd fdH fdA fdC fdR : FuncData} {bm : List Value} {ql : Str} (F : Fun K "do" "CounterNet.do" sCDo f fd) (DH : Df K mg "need_house" sNeedH ["web", "house"] fH fdH) (DA : Df K mg "is_amount" sAmt ["value"] fA fdA) (DC : Df K mg "counted_by" sCBy ["modulus", "number"] fC fdC) (DR : Df K mg "replaced" sRepl ["items", "at", "item"] fR fdR)
    (T : NcT K mg N) (TX : LAt.Txt K mg "Refused" ql bm CR cI) (GH : FnOk P w K mg base (L2.CX P w) 3 fH fdH ["web", "house"] (spNeedH K W CH)) (GA : FnOk P w K mg base CX0 2 fA fdA ["value"] (spAmt K)) (GC : FnOk P w K mg base CX0 1 fC fdC ["modulus", "number"] spCBy) (GR : FnOk P w K mg base CX0 1 fR fdR ["items", "at", "item"] spRepl) :
    FnOk P w K mg base (L2.CX P w) 4 f fd ["self", "house", "amount"] (spDo K N W CH CR) := by
  refine F.okX scCD (fun vs H Q E h => ?_) (fun cdv A outer s H vs Q E hr h => ?_)
  · obtain ⟨c, w, v, a, o1, o2, m, ss, ar, n, ts, rfl, _⟩ := h
    rfl
  · obtain ⟨c, w, v, a, o1, o2, m, ss, ar, n, ts, rfl, hN, nw, hW, kv, ka, q1, q2⟩ := h
    have hr1 := hr.mono (show 1 ≤ 3 by decide)
    have hr2 := hr.mono (show 2 ≤ 3 by decide)
    refine ⟨_, pss_cons (ps_expr (pc DH GH hr (pass1 (takes_of rfl rfl rfl rfl)) (pa_cons (pe_fld (pv 0) rfl) (pa_cons (pv 1) pa_nil))))
      (pss_cons (ps_if (pt_not (pt_val (pc DA GA hr2 pass0 (pa_cons (pv 2) pa_nil)))) (pss_one (ps_raise_LAt rfl TX hr (takes_of rfl rfl rfl rfl) (pa_cons (pv 2) pa_nil))) pss_nil)
      (pss_cons (ps_set (i := 3) scCD.nd rfl (.inl rfl) (pc DC GC hr1 pass0 (pa_cons (pe_fld (pv 0) rfl) (pa_cons (pe_op op_add (pe_ix ix_tup (pe_fld (pv 0) rfl) (pv 1) (fun _ _ => rfl)) (pv 2)) pa_nil))))
      (pss_cons (ps_fld (pv 0) (pc DR GR hr1 pass0 (pa_cons (pe_fld (pv 0) rfl) (pa_cons (pv 1) (pa_cons (pv 3) pa_nil)))) rfl)
      (pss_one (ps_ret (pv 3)))))), ?_⟩
    obtain ⟨dx, sa, aa, h1, h2, h3⟩ := hN.ob
    have n12 := hW.n12
    have ls := hN.ls
    refine ⟨_, rfl, c, N, dx, _, _, rfl, h1, T.cl, T.nW, nf_w _ _ _ _, _, rfl, w, v, o1, n, ts, rfl, hN.wb, kv, fun hb => ?_, fun hb => q1 hb⟩
    obtain ⟨h, rfl, hn⟩ := below_nat hb
    obtain ⟨qa, qb⟩ := q2 h rfl hn
    refine ⟨_, rfl, a, o2, rfl, ka, _, rfl, ifD (fun e => ?_) fun e => ?_⟩
    · exact ⟨_, rfl, _, rfl, fun d hd => qa (by simpa using e) d _ (same_new hd) hd upd_same⟩
    · replace e : amtB a = true := by simpa using e
      obtain ⟨i, rfl⟩ : ∃ i, a = .int i := by
        cases a <;> first | exact ⟨_, rfl⟩ | cases e
      refine ⟨_, rfl, c, N, dx, _, _, rfl, h1, T.cl, T.nM, nf_m _ _ _ _, _, rfl, c, N, dx, _, _, rfl, h1, T.cl, T.nS, nf_s _ _ _ _, _, rfl, sa, _, (h : Int), .int (ss.getD h 0), rfl, rfl, SqT.of h2, at_i (vrow_get (by omega)), _, rfl, _, _, rfl, rfl, m, _, rfl, hN.m0, ?_⟩
      generalize hx : cby m (ss.getD h 0 + i) = x at qb ⊢
      refine gn ?_
      dsimp only [List.set]
      refine ⟨_, rfl, c, N, dx, _, _, rfl, h1, T.cl, T.nS, nf_s _ _ _ _, _, rfl, _, rfl, sa, _, h, .int x, rfl, h2, by rw [vrow_len]; omega, by rw [vrow_len]; omega, fun p H1 s1 hp => ?_⟩
      refine ⟨_, rfl, c, N, dx, _, rfl, s1 _ _ h1, T.cl, T.nS, (by show 4 < 1000; decide), ?_⟩
      rw [nf_ps]
      refine ⟨_, rfl, ?_⟩
      have z := qb i rfl e
      rw [hx] at z
      rw [← vrow_set] at hp
      exact z _ (But.put s1) (hN.upd nw s1 hp (s1 _ _ h3) (by rw [List.length_set]; exact ls) hN.la)
theorem scCM : FnScope ["self", "tie", "one", "other", "number"] ["self", "tie"] (defScope sCMeet) := ⟨rfl, rfl, rfl, by decide +kernel, rfl, by decide +kernel, by decide +kernel⟩
theorem ok_cmeet {f fT fC fR CT W N : Addr} {fd fdT fdC fdR : FuncData} (F : Fun K "meet" "CounterNet.meet" sCMeet f fd) (DT : Df K mg "need_tie" sNeedT ["web", "tie"] fT fdT) (DC : Df K mg "counted_by" sCBy ["modulus", "number"] fC fdC) (DR : Df K mg "replaced" sRepl ["items", "at", "item"] fR fdR)
    (T : NcT K mg N) (TW : WcT K mg W) (GT : FnOk P w K mg base (L2.CX P w) 3 fT fdT ["web", "tie"] (spNeedT K W CT)) (GC : FnOk P w K mg base CX0 1 fC fdC ["modulus", "number"] spCBy) (GR : FnOk P w K mg base CX0 1 fR fdR ["items", "at", "item"] spRepl) :
    FnOk P w K mg base (L2.CX P w) 4 f fd ["self", "tie"] (spMeet K N W CT) := by
  refine F.okX scCM (fun vs H Q E h => ?_) (fun cdv A outer s H vs Q E hr h => ?_)
  · obtain ⟨c, w, v, o1, m, ss, ar, n, ts, rfl, _⟩ := h
    rfl
  · obtain ⟨c, w, v, o1, m, ss, ar, n, ts, rfl, hN, nw, hW, kv, q1, q2⟩ := h
    have hr1 := hr.mono (show 1 ≤ 3 by decide)
    refine ⟨_, pss_cons (ps_asg (pe_ix ix_tup (pe_fld (pe_fld (pv 0) rfl) rfl) (pc DT GT hr (pass1 (takes_of rfl rfl rfl rfl)) (pa_cons (pe_fld (pv 0) rfl) (pa_cons (pv 1) pa_nil))) (fun _ _ => rfl)) (pg_tup rfl (pgs_cons (pg_name (i := 2) scCM.nd rfl (.inl rfl)) (pgs_cons (pg_name (i := 3) scCM.nd rfl (.inl rfl)) pgs_nil))))
      (pss_cons (ps_set (i := 4) scCM.nd rfl (.inl rfl) (pc DC GC hr1 pass0 (pa_cons (pe_fld (pv 0) rfl) (pa_cons (pe_op op_sub (pe_op op_add (pe_ix ix_tup (pe_fld (pv 0) rfl) (pv 2) (fun _ _ => rfl)) (pe_ix ix_tup (pe_fld (pv 0) rfl) (pv 3) (fun _ _ => rfl))) (pe_ix ix_tup (pe_fld (pv 0) rfl) (pv 1) (fun _ _ => rfl))) pa_nil))))
      (pss_cons (ps_fld (pv 0) (pc DR GR hr1 pass0 (pa_cons (pc DR GR hr1 pass0 (pa_cons (pe_fld (pv 0) rfl) (pa_cons (pv 2) (pa_cons (pv 4) pa_nil)))) (pa_cons (pv 3) (pa_cons (pv 4) pa_nil)))) rfl)
      (pss_cons (ps_fld (pv 0) (pc DR GR hr1 pass0 (pa_cons (pe_fld (pv 0) rfl) (pa_cons (pv 1) (pa_cons (pv 4) pa_nil)))) rfl)
      (pss_one (ps_ret (pv 4)))))), ?_⟩
    obtain ⟨dx, sa, aa, h1, h2, h3⟩ := hN.ob
    have n12 := hW.n12
    have t20 := hW.t20
    have ls := hN.ls
    have la := hN.la
    obtain ⟨dxw, ta, w1, tas, w2, w3⟩ := hN.wb
    refine ⟨_, rfl, c, N, dx, _, _, rfl, h1, T.cl, T.nW, nf_w _ _ _ _, w, W, dxw, _, _, rfl, w1, TW.cl, TW.nT, wf_t _ _, _, rfl, c, N, dx, _, _, rfl, h1, T.cl, T.nW, nf_w _ _ _ _, _, rfl, w, v, o1, n, ts, rfl, hN.wb, kv, fun hb => ?_, fun hb => q1 hb⟩
    obtain ⟨t, rfl, tn⟩ := below_nat hb
    obtain ⟨p, hp⟩ := ex_at tn
    obtain ⟨p1, p2, p3⟩ := hW.at_ hp
    obtain ⟨pa, ha, hpa⟩ := w3.get hp
    have hpa' : H pa = some (.tup [.int (p.1 : Int), .int (p.2 : Int)]) := hpa
    refine ⟨ta, _, (t : Int), .ref pa, rfl, rfl, SqT.of w2, at_i (map_at ha), pa, _, rfl, SqT.of hpa', rfl, _, _, rfl, _, _, rfl, rfl, ?_⟩
    have rdS : ∀ {j : Nat}, j < n → atI (vrow ss) (j : Int) = some (.int (ss.getD j 0)) := fun hj => at_i (vrow_get (by omega))
    have rdA : atI (vrow ar) (t : Int) = some (.int (ar.getD t 0)) := at_i (vrow_get (by omega))
    refine ⟨_, rfl, c, N, dx, _, _, rfl, h1, T.cl, T.nM, nf_m _ _ _ _, _, rfl, c, N, dx, _, _, rfl, h1, T.cl, T.nS, nf_s _ _ _ _, _, rfl, sa, _, (p.1 : Int), _, rfl, rfl, SqT.of h2, rdS p1, _, rfl, c, N, dx, _, _, rfl, h1, T.cl, T.nS, nf_s _ _ _ _, _, rfl, sa, _, (p.2 : Int), _, rfl, rfl, SqT.of h2, rdS p2, _, _, rfl, rfl,
      _, rfl, c, N, dx, _, _, rfl, h1, T.cl, T.nA, nf_a _ _ _ _, _, rfl, aa, _, (t : Int), _, rfl, rfl, SqT.of h3, rdA, _, _, rfl, rfl, m, _, rfl, hN.m0, ?_⟩
    have z := q2 t p rfl hp
    generalize hx : metN m ss ar p t = x at z
    have hx' : cby m (ss.getD p.1 0 + ss.getD p.2 0 - ar.getD t 0) = x := hx
    rw [hx']
    refine gn ?_
    dsimp only [List.set]
    refine ⟨_, rfl, c, N, dx, _, _, rfl, h1, T.cl, T.nS, nf_s _ _ _ _, _, rfl, _, rfl, sa, _, p.1, .int x, rfl, h2, by rw [vrow_len]; omega, by rw [vrow_len]; omega, fun y1 H1 s1 hy1 => ?_⟩
    rw [← vrow_set] at hy1
    refine ⟨_, rfl, _, rfl, y1, _, p.2, .int x, rfl, hy1, by rw [vrow_len, List.length_set]; omega, by rw [vrow_len, List.length_set]; omega, fun y2 H2 s2 hy2 => ?_⟩
    rw [← vrow_set] at hy2
    have s12 := s1.trans s2
    refine ⟨_, rfl, c, N, dx, _, rfl, s12 _ _ h1, T.cl, T.nS, (by show 4 < 1000; decide), ?_⟩
    rw [nf_ps]
    have N2 : NetAt N W (upd H2 c (.ins N dx (nf m y2 aa w))) c m ((ss.set p.1 x).set p.2 x) ar w n ts := hN.upd nw s12 hy2 (s12 _ _ h3) (by rw [List.length_set, List.length_set]; exact ls) la
    have b2 : But c H (upd H2 c (.ins N dx (nf m y2 aa w))) := But.put s12
    have hc2 : (upd H2 c (.ins N dx (nf m y2 aa w))) c = some (.ins N dx (nf m y2 aa w)) := upd_same
    have nc : ∀ {a : Addr} {xs : List V}, H2 a = some (.tup xs) → a ≠ c := fun e z => by rw [z, s12 _ _ h1] at e; cases e
    have hy2' : (upd H2 c (.ins N dx (nf m y2 aa w))) y2 = some (.tup (vrow ((ss.set p.1 x).set p.2 x))) := by rw [upd_ne (nc hy2)]; exact hy2
    have h3' : (upd H2 c (.ins N dx (nf m y2 aa w))) aa = some (.tup (vrow ar)) := by rw [upd_ne (nc (s12 _ _ h3))]; exact s12 _ _ h3
    generalize upd H2 c (.ins N dx (nf m y2 aa w)) = H3 at N2 b2 hc2 hy2' h3' ⊢
    refine ⟨_, rfl, c, N, dx, _, _, rfl, hc2, T.cl, T.nA, nf_a _ _ _ _, _, rfl, _, rfl, aa, _, t, .int x, rfl, h3', by rw [vrow_len]; omega, by rw [vrow_len]; omega, fun y4 H4 s4 hy4 => ?_⟩
    rw [← vrow_set] at hy4
    refine ⟨_, rfl, c, N, dx, _, rfl, s4 _ _ hc2, T.cl, T.nA, (by show 4 < 1000; decide), ?_⟩
    rw [nf_pa]
    refine ⟨_, rfl, ?_⟩
    exact z _ (b2.trans (But.put s4)) (N2.upd nw s4 (s4 _ _ hy2') hy4 (by rw [List.length_set, List.length_set]; exact ls) (by rw [List.length_set]; exact la))
end
end K1
namespace K1
open PySem PySem.Spec PyProof.Rows L2
section
variable {P : Program} {w : World} {K : PySem.W.Frag} {mg : Str → Option Value} {base : Heap}
abbrev nBk : List Str := ["self", "house", "part", "houses", "one", "tie"]
theorem scBk : FnScope nBk ["self", "house"] (defScope sCBook) := ⟨rfl, rfl, rfl, by decide +kernel, rfl, by decide +kernel, by decide +kernel⟩
theorem ok_cbook {f fP fC fI CH W N : Addr} {fd fdP fdC fdI : FuncData} (F : Fun K "book" "CounterNet.book" sCBook f fd) (DP : Df K mg "part_of" sPart ["web", "house"] fP fdP) (DC : Df K mg "counted_by" sCBy ["modulus", "number"] fC fdC) (DI : Df K mg "ties_in" sTiesIn ["web", "part"] fI fdI)
    (B : Bt mg) (T : NcT K mg N) (GP : FnOk P w K mg base (L2.CX P w) 4 fP fdP ["web", "house"] (spPart K W CH)) (GC : FnOk P w K mg base CX0 1 fC fdC ["modulus", "number"] spCBy) (GI : FnOk P w K mg base CX0 1 fI fdI ["web", "part"] (spTiesIn K W)) :
    FnOk P w K mg base (L2.CX P w) 5 f fd ["self", "house"] (spBook K N W CH) := by
  refine F.okX scBk (fun vs H Q E h => ?_) (fun cdv A outer s H vs Q E hr h => ?_)
  · obtain ⟨c, w, v, o1, m, ss, ar, n, ts, rfl, _⟩ := h
    rfl
  · obtain ⟨c, w, v, o1, m, ss, ar, n, ts, rfl, hN, hW, kv, q1, q2⟩ := h
    have hr1 := hr.mono (show 1 ≤ 4 by decide)
    refine ⟨_, pss_cons (ps_set (i := 2) scBk.nd rfl (.inl rfl) (pc DP GP hr (pass1 (takes_of rfl rfl rfl rfl)) (pa_cons (pe_fld (pv 0) rfl) (pa_cons (pv 1) pa_nil))))
      (pss_cons (ps_set (i := 3) scBk.nd rfl (.inl rfl) (pe_callB (cr_sum rfl) (by rfl) B.sum (by decide +kernel) (pa_cons (pe_lc (own := [("one", 4)]) (g := gName 4) (tt := tYes) rfl scBk.nd (pi_tup (pv 2)) (blkOk_by (N := nBk) (sc := defScope sCBook) (by decide +kernel)) (fun _ _ _ _ _ => pg_name (i := 4) scBk.nd rfl (Or.inl rfl)) (fun _ _ _ _ _ => pts_nil)
          (fun _ _ _ _ _ => pe_ix (ixTK (K := K) rfl) (pe_fldK (K := K) rfl (pv 0) rfl) (pv 4) (fun _ _ => rfl))) pa_nil)))
      (pss_one (ps_ret (pc DC GC hr1 pass0 (pa_cons (pe_fld (pv 0) rfl) (pa_cons (pe_op op_sub (pv 3) (pe_callB (cr_sum rfl) (by rfl) B.sum (by decide +kernel) (pa_cons (pe_lc (own := [("tie", 5)]) (g := gName 5) (tt := tYes) rfl scBk.nd (pi_list (pc DI GI hr1 pass0 (pa_cons (pe_fld (pv 0) rfl) (pa_cons (pv 2) pa_nil)))) (blkOk_by (N := nBk) (sc := defScope sCBook) (by decide +kernel)) (fun _ _ _ _ _ => pg_name (i := 5) scBk.nd rfl (Or.inl rfl)) (fun _ _ _ _ _ => pts_nil)
          (fun _ _ _ _ _ => pe_ix (ixTK (K := K) rfl) (pe_fldK (K := K) rfl (pv 0) rfl) (pv 5) (fun _ _ => rfl))) pa_nil))) pa_nil)))))), ?_⟩
    obtain ⟨dx, sa, aa, h1, h2, h3⟩ := hN.ob
    have n12 := hW.n12
    have t20 := hW.t20
    have ls := hN.ls
    have la := hN.la
    refine ⟨_, rfl, c, N, dx, _, _, rfl, h1, T.cl, T.nW, nf_w _ _ _ _, _, rfl, w, v, o1, n, ts, rfl, hN.wb, hW, kv, fun hb => q1 hb, fun h ev hn ns p H1 s1 hp PL => ?_⟩
    subst ev
    have lns : ∀ x ∈ ns, x < n := fun x hx => PL.lt hW hn hx
    have nsl : ns.length ≤ 12 := by
      have nd : (ns.map fun (x : Nat) => (x : Int)).Nodup := by
        rw [List.nodup_iff_pairwise_ne, List.pairwise_map]
        exact PL.asc.imp fun {a b} hab => by omega
      have := nodup_le n _ nd fun y hy => by
        obtain ⟨x, hx, rfl⟩ := List.mem_map.mp hy
        have := lns x hx
        omega
      rw [List.length_map] at this
      omega
    refine gn ?_
    dsimp only [List.set]
    refine ⟨_, rfl, p, rfl, ⟨_, SqT.of hp⟩, fun D0 hD0 => lc_tup (K := K) (a := p) (xs := vn ns) (fun i H2 => Same H1 H2 ∧ H2 D0 = some (.lst (vrow ((ns.map fun x => ss.getD x 0).take i)))) ⟨same_new hD0, by rw [upd_same]; rfl⟩ (fun i H2 _ ⟨s2, _⟩ => SqT.of (s2 _ _ hp)) ?_ ?_⟩
    · rintro i x H2 hx ⟨s2, hD⟩
      obtain ⟨y, hy, rfl⟩ := at_vn hx
      have yn := lns y (List.mem_of_getElem? hy)
      have s12 := s1.trans s2
      refine ⟨rfl, _, rfl, c, N, dx, _, _, rfl, s12 _ _ h1, T.cl, T.nS, nf_s _ _ _ _, _, rfl, sa, _, (y : Int), _, rfl, rfl, SqT.of (s12 _ _ h2), at_i (vrow_get (by omega)), _, hD, szl (by rw [vrow_len, List.length_take, List.length_map]; omega), fun d o e => ?_, ?_⟩
      · rw [upd_ne (ne_of_none e hD0)]
        exact s2 _ _ e
      · rw [upd_same, take_succ (map_at hy), vrow, vrow, List.map_append]; rfl
    · rintro H2 ⟨s2, hD⟩
      rw [List.take_of_length_le (by rw [vn_len, List.length_map]; exact Nat.le_refl _)] at hD
      refine ⟨D0, _, rfl, SqL.of hD, ?_⟩
      refine gn ?_
      dsimp only [List.set]
      have s12 := s1.trans s2
      refine ⟨_, rfl, c, N, dx, _, _, rfl, s12 _ _ h1, T.cl, T.nM, nf_m _ _ _ _, _, rfl, _, rfl, c, N, dx, _, _, rfl, s12 _ _ h1, T.cl, T.nW, nf_w _ _ _ _, _, rfl, w, p, n, ts, ns, rfl, hN.wb.same s12, hW, .inr (s2 _ _ hp), fun l H3 s3 hl0 hl => ?_⟩
      have s13 := s12.trans s3
      have ltn := tInK_len ts ns ts.length
      have ltn' : (tIn ts ns).length ≤ ts.length := ltn
      refine ⟨l, rfl, ⟨_, SqL.of hl⟩, fun D1 hD1 => lc_list (K := K) (a := l) (xs := vn (tIn ts ns)) (fun i H4 => Same H3 H4 ∧ H4 D1 = some (.lst (vrow (((tIn ts ns).map fun t => ar.getD t 0).take i)))) ⟨same_new hD1, by rw [upd_same]; rfl⟩ (fun i H4 _ ⟨s4, _⟩ => SqL.of (s4 _ _ hl)) ?_ ?_⟩
      · rintro i x H4 hx ⟨s4, hD⟩
        obtain ⟨y, hy, rfl⟩ := at_vn hx
        obtain ⟨py, ey, _⟩ := tIn_mem.mp (List.mem_of_getElem? hy)
        have yn := lt_at ey
        have s14 := s13.trans s4
        refine ⟨rfl, _, rfl, c, N, dx, _, _, rfl, s14 _ _ h1, T.cl, T.nA, nf_a _ _ _ _, _, rfl, aa, _, (y : Int), _, rfl, rfl, SqT.of (s14 _ _ h3), at_i (vrow_get (by omega)), _, hD, szl (by rw [vrow_len, List.length_take, List.length_map]; omega), fun d o e => ?_, ?_⟩
        · rw [upd_ne (ne_of_none e hD1)]
          exact s4 _ _ e
        · rw [upd_same, take_succ (map_at hy), vrow, vrow, List.map_append]; rfl
      · rintro H4 ⟨s4, hD⟩
        rw [List.take_of_length_le (by rw [vn_len, List.length_map]; exact Nat.le_refl _)] at hD
        refine ⟨D1, _, rfl, SqL.of hD, _, _, rfl, rfl, m, _, rfl, hN.m0, ?_⟩
        exact q2 h rfl hn ns H4 (s13.trans s4) PL
end
end K1
namespace K1
open PySem PySem.Spec PyProof.Rows L2
/-- a source of draws -/
def BoxO (H : Hp) (b : Addr) : Prop := ∃ x y : Int, H b = some (.lst [.int x, .int y])
/-- all but the source stands, which is one again -/
def Bx (b : Addr) (H H' : Hp) : Prop := BoxO H' b ∧ ∀ c o, H c = some o → c ≠ b → H' c = some o
theorem Bx.refl {b : Addr} {H : Hp} (h : BoxO H b) : Bx b H H := ⟨h, fun _ _ e _ => e⟩
theorem Bx.trans {b : Addr} {H H1 H2 : Hp} (a : Bx b H H1) (c : Bx b H1 H2) : Bx b H H2 := ⟨c.1, fun d o e n => c.2 d o (a.2 d o e n) n⟩
theorem BoxO.same {b : Addr} {H H' : Hp} (h : BoxO H b) (s : Same H H') : BoxO H' b := let ⟨x, y, e⟩ := h; ⟨x, y, s _ _ e⟩
theorem Bx.same {b : Addr} {H H1 H2 : Hp} (a : Bx b H H1) (s : Same H1 H2) : Bx b H H2 := ⟨a.1.same s, fun d o e n => s _ _ (a.2 d o e n)⟩
theorem Same.bx {b : Addr} {H H1 H2 : Hp} (s : Same H H1) (a : Bx b H1 H2) : Bx b H H2 := ⟨a.1, fun d o e n => a.2 d o (s _ _ e) n⟩
theorem Bx.set {b : Addr} {H : Hp} {x y : Int} : Bx b H (upd H b (.lst [.int x, .int y])) := ⟨⟨x, y, upd_same⟩, fun c o e n => by rw [upd_ne n]; exact e⟩
theorem Bx.free {b c : Addr} {H H' : Hp} (a : Bx b H H') (hb : c ≠ b) (h : H' c = none) : H c = none := by
  cases q : H c with
  | none => rfl
  | some o => rw [a.2 c o q hb] at h; cases h
theorem BoxO.ne {b c : Addr} {H : Hp} {o : HO} (h : BoxO H b) (e : H c = some o) (n : ∀ xs, o ≠ .lst xs) : c ≠ b := fun z => by
  obtain ⟨x, y, hb⟩ := h
  rw [z, hb] at e
  exact n _ (Option.some.inj e).symm
theorem Bx.ne {b c : Addr} {H H' : Hp} (a : Bx b H H') (h : H' c = none) : c ≠ b := fun z => by
  obtain ⟨x, y, hb⟩ := a.1
  rw [z, hb] at h
  cases h
theorem Bx.new {b p : Addr} {H H' : Hp} {o : HO} (a : Bx b H H') (h : H' p = none) : Bx b H (upd H' p o) := a.same (same_new h)
theorem Bx.put {b p : Addr} {H H' : Hp} {o : HO} (a : Bx b H H') (hp : H p = none) (n : p ≠ b) : Bx b H (upd H' p o) := ⟨let ⟨x, y, e⟩ := a.1; ⟨x, y, by rw [upd_ne n.symm]; exact e⟩, fun c o' e n' => by rw [upd_ne (ne_of_none e hp)]; exact a.2 c o' e n'⟩
theorem Bx.tup {b c : Addr} {H H' : Hp} {xs : List V} (x : Bx b H H') (hb : BoxO H b) (h : H c = some (.tup xs)) : H' c = some (.tup xs) := x.2 _ _ h (hb.ne h fun xs => by intro z; cases z)
def spTake : Sp := fun vs H Q _ => ∃ b n, vs = [.ref b, .int n] ∧ BoxO H b ∧ 1 ≤ n ∧ n < 1073741824 ∧ ∀ r H', 0 ≤ r → r < n → Bx b H H' → Q (.int r) H'
def spPick : Sp := fun vs H Q _ => ∃ (b l : Addr) (xs : List V), vs = [.ref b, .ref l] ∧ BoxO H b ∧ H l = some (.lst xs) ∧ l ≠ b ∧ 1 ≤ xs.length ∧ xs.length ≤ 1000 ∧ ∀ (i : Nat) v H', xs[i]? = some v → Bx b H H' → Q v H'
def spBox (K : PySem.W.Frag) : Sp := fun vs H Q _ => ∃ (a : Addr) (ns : List Int) (k : Int), vs = [.ref a, .int k] ∧ SqL K H a (ns.map V.int) ∧ ns.length ≤ 63 ∧ 0 ≤ k ∧ k ≤ 10 ∧ ∀ b H', Same H H' → H b = none → BoxO H' b → Q (.ref b) H'
section
variable {P : Program} {w : World} {K : PySem.W.Frag} {mg : Str → Option Value} {base : Heap}
theorem scTk : FnScope ["_law_box_here", "_law_many", "_law_digit", "_law_raw"] ["_law_box_here", "_law_many"] (defScope sLTake) := ⟨rfl, rfl, rfl, by decide +kernel, rfl, by decide +kernel, by decide +kernel⟩
theorem ok_take {f : Addr} {fd : FuncData} (D : Df K mg "_law_take" sLTake ["_law_box_here", "_law_many"] f fd) (B : Bt mg) : FnOk P w K mg base CX0 1 f fd ["_law_box_here", "_law_many"] spTake := by
  refine D.F.ok scTk (fun vs H Q E h => ?_) (fun cdv A outer s H vs Q E hr h => ?_)
  · obtain ⟨b, n, rfl, _⟩ := h
    rfl
  · obtain ⟨b, n, rfl, ⟨x, y, hb⟩, h1, h2, q⟩ := h
    refine ⟨_, pss_cons (ps_if (pt_cmpR op_gt (pe_ix ix_list (pv 0) pe_int (fun _ _ => rfl)) pe_int (nomark _))
        (pss_cons (ps_set (i := 2) scTk.nd rfl (.inl rfl) (pe_op op_mod (pe_callTy call_int1 (by rfl) B.int PyProof.Rows.boot_int (pa_cons (pe_ix ix_list (pv 0) pe_int (fun _ _ => rfl)) pa_nil)) (pv 1)))
        (pss_cons (ps_asg (pe_op op_fdivN (pe_ix ix_list (pv 0) pe_int (fun _ _ => rfl)) (pv 1)) (pg_sub (pv 0) pe_int set_list))
        (pss_one (ps_ret (pv 2))))) pss_nil)
      (pss_cons (ps_set (i := 3) scTk.nd rfl (.inl rfl) (pe_op op_mod (pe_callTy call_int1 (by rfl) B.int PyProof.Rows.boot_int (pa_cons (pe_op op_add (pe_op op_mul (pe_ix ix_list (pv 0) pe_int (fun _ _ => rfl)) pe_int) pe_int) pa_nil)) pe_int))
      (pss_cons (ps_asg (pe_op op_add (pe_op op_mod (pe_callTy call_int1 (by rfl) B.int PyProof.Rows.boot_int (pa_cons (pe_op op_add (pe_op op_mul (pv 3) pe_int) pe_int) pa_nil)) pe_int) pe_int) (pg_sub (pv 0) pe_int set_list))
      (pss_one (ps_ret (pe_op op_mod (pe_callTy call_int1 (by rfl) B.int PyProof.Rows.boot_int (pa_cons (pe_op op_fdivN (pe_op op_add (pe_op op_mul (pv 3) pe_int) (pe_ix ix_list (pv 0) pe_int (fun _ _ => rfl))) pe_int) pa_nil)) (pv 1)))))), ?_⟩
    have a0 : ∀ {u v : Int}, atI [V.int u, V.int v] 0 = some (V.int u) := fun {u v} => atI_nat (j := 0) rfl
    have a1 : ∀ {u v : Int}, atI [V.int u, V.int v] 1 = some (V.int v) := fun {u v} => atI_nat (j := 1) rfl
    have np : 0 < n := by omega
    refine ⟨_, rfl, b, _, 0, .int x, rfl, rfl, SqL.of hb, a0, _, _, rfl, rfl, _, rfl, ifD (fun e => ?_) fun e => ?_⟩
    · refine ⟨_, rfl, b, _, 0, .int x, rfl, rfl, SqL.of hb, a0, .inl ⟨x, rfl, _, rfl, _, _, rfl, rfl, np, ?_⟩⟩
      refine ⟨_, rfl, b, _, 0, .int x, rfl, rfl, SqL.of hb, a0, _, rfl, _, _, rfl, rfl, ⟨by omega, by omega⟩, _, rfl, b, _, 0, 0, rfl, rfl, hb, rfl, ?_⟩
      exact ⟨_, rfl, q _ _ (Int.emod_nonneg _ (by omega)) (Int.emod_lt_of_pos _ np) Bx.set⟩
    · refine ⟨_, rfl, b, _, 1, .int y, rfl, rfl, SqL.of hb, a1, _, _, rfl, rfl, .inr ⟨by decide, by decide⟩, _, _, rfl, rfl, .inl ⟨_, rfl, _, _, rfl, rfl, (by decide : (0 : Int) < 2147483399), ?_⟩⟩
      refine ⟨_, rfl, _, _, rfl, rfl, .inr ⟨by decide, by decide⟩, _, _, rfl, rfl, .inl ⟨_, rfl, _, _, rfl, rfl, (by decide : (0 : Int) < 2147483587), _, _, rfl, rfl, _, rfl, b, _, 1, 1, rfl, rfl, hb, rfl, ?_⟩⟩
      generalize hH2 : upd H b _ = H2
      have hb2 : ∃ y', H2 b = some (.lst [.int x, .int y']) := ⟨_, by rw [← hH2, upd_same]; rfl⟩
      obtain ⟨y', hb2⟩ := hb2
      have bx : Bx b H H2 := ⟨⟨_, _, hb2⟩, fun c o e n => by rw [← hH2, upd_ne n]; exact e⟩
      refine ⟨_, rfl, _, _, rfl, rfl, .inr ⟨by decide, by decide⟩, _, rfl, b, _, 1, .int y', rfl, rfl, SqL.of hb2, a1, _, _, rfl, rfl, _, _, rfl, rfl, ⟨by decide, by decide⟩, .inl ⟨_, rfl, _, rfl, _, _, rfl, rfl, np, ?_⟩⟩
      exact q _ _ (Int.emod_nonneg _ (by omega)) (Int.emod_lt_of_pos _ np) bx
theorem scPi : FnScope ["_law_box_here", "_law_some"] ["_law_box_here", "_law_some"] (defScope sLPick) := ⟨rfl, rfl, rfl, by decide +kernel, rfl, by decide +kernel, by decide +kernel⟩
theorem ok_pick {f fT : Addr} {fd fdT : FuncData} (D : Df K mg "_law_pick" sLPick ["_law_box_here", "_law_some"] f fd) (DT : Df K mg "_law_take" sLTake ["_law_box_here", "_law_many"] fT fdT) (B : Bt mg) (GT : FnOk P w K mg base CX0 1 fT fdT ["_law_box_here", "_law_many"] spTake) :
    FnOk P w K mg base CX0 2 f fd ["_law_box_here", "_law_some"] spPick := by
  refine D.F.ok scPi (fun vs H Q E h => ?_) (fun cdv A outer s H vs Q E hr h => ?_)
  · obtain ⟨b, l, xs, rfl, _⟩ := h
    rfl
  · obtain ⟨b, l, xs, rfl, hb, hl, hne, h1, h2, q⟩ := h
    refine ⟨_, pss_one (ps_ret (pe_ix ix_list (pv 1) (pc DT GT hr pass0 (pa_cons (pv 0) (pa_cons (pe_callB call_len_seq (by rfl) B.len PySem.boot_len (pa_cons (pv 1) pa_nil)) pa_nil))) (fun _ _ => rfl))), ?_⟩
    refine ⟨_, rfl, _, rfl, _, rfl, l, xs, rfl, .inl (SqL.of hl), b, _, rfl, hb, by omega, by omega, fun r H' r0 r1 bx => ?_⟩
    have hi : r.toNat < xs.length := by omega
    refine ⟨l, xs, r, xs[r.toNat], rfl, rfl, SqL.of (bx.2 _ _ hl hne), at_of (j := r.toNat) (by omega) (List.getElem?_eq_getElem hi), q r.toNat _ H' (List.getElem?_eq_getElem hi) bx⟩
theorem scBx : FnScope ["_law_script", "_law_k", "_law_cell", "_law_great"] ["_law_script", "_law_k"] (defScope sLBox) := ⟨rfl, rfl, rfl, by decide +kernel, rfl, by decide +kernel, by decide +kernel⟩
theorem ok_box {f : Addr} {fd : FuncData} (D : Df K mg "_law_box" sLBox ["_law_script", "_law_k"] f fd) (B : Bt mg) : FnOk P w K mg base CX0 1 f fd ["_law_script", "_law_k"] (spBox K) := by
  refine D.F.ok scBx (fun vs H Q E h => ?_) (fun cdv A outer s H vs Q E hr h => ?_)
  · obtain ⟨a, ns, k, rfl, _⟩ := h
    rfl
  · obtain ⟨a, ns, k, rfl, hS, hl, k0, k1, q⟩ := h
    refine ⟨_, pss_cons (ps_set (i := 2) scBx.nd rfl (.inl rfl) (pe_op op_add (pe_op op_mul pe_int (pv 1)) pe_int))
      (pss_cons (ps_if (pt_cmpR op_lt (pv 1) (pe_callB call_len_seq (by rfl) B.len PySem.boot_len (pa_cons (pv 0) pa_nil)) (nomark _))
        (pss_one (ps_set (i := 2) scBx.nd rfl (.inl rfl) (pe_callB call_abs (by rfl) B.abs (by decide +kernel) (pa_cons (pe_callTy call_int1 (by rfl) B.int PyProof.Rows.boot_int (pa_cons (pe_ix ix_list (pv 0) (pv 1) (fun _ _ => rfl)) pa_nil)) pa_nil))))
        (pss_one (ps_if (pt_cmpR op_gt (pe_callB call_len_seq (by rfl) B.len PySem.boot_len (pa_cons (pv 0) pa_nil)) pe_int (nomark _))
          (pss_one (ps_set (i := 2) scBx.nd rfl (.inl rfl) (pe_op op_add (pv 2) (pe_op op_mul (pe_op op_mod (pe_callTy call_int1 (by rfl) B.int PyProof.Rows.boot_int (pa_cons (pe_callB call_abs (by rfl) B.abs (by decide +kernel) (pa_cons (pe_callTy call_int1 (by rfl) B.int PyProof.Rows.boot_int (pa_cons (pe_ix ix_list (pv 0)
            (pe_op op_mod (pe_callTy call_int1 (by rfl) B.int PyProof.Rows.boot_int (pa_cons (pv 1) pa_nil)) (pe_callB call_len_seq (by rfl) B.len PySem.boot_len (pa_cons (pv 0) pa_nil))) (fun _ _ => rfl)) pa_nil)) pa_nil)) pa_nil)) pe_int) pe_int)))) pss_nil)))
      (pss_cons (ps_set (i := 3) scBx.nd rfl (.inl rfl) (pe_ifExp (pt_cmpR op_ge (pv 2) (pe_op op_pow pe_int pe_int) (nomark _)) (pv 2) pe_int))
      (pss_one (ps_ret (pe_lst (pa_cons (pv 3)
        (pa_cons (pe_op op_add (pe_op op_mod (pe_callTy call_int1 (by rfl) B.int PyProof.Rows.boot_int (pa_cons (pe_op op_add (pe_op op_mul (pe_op op_mod (pe_callTy call_int1 (by rfl) B.int PyProof.Rows.boot_int (pa_cons (pv 2) pa_nil)) pe_int) pe_int) (pe_op op_mul pe_int (pv 1))) pa_nil)) pe_int) pe_int) pa_nil))))))), ?_⟩
    have hget : ∀ (j : Int), 0 ≤ j → j < (ns.length : Int) → ∃ z : Int, atI (ns.map V.int) j = some (V.int z) := fun j h0 h1 => by
      have hj : j.toNat < ns.length := by omega
      exact ⟨ns[j.toNat], at_of (j := j.toNat) (by omega) (by rw [List.getElem?_map, List.getElem?_eq_getElem hj]; rfl)⟩
    refine ⟨_, rfl, _, _, rfl, rfl, .inl ⟨by decide, by decide⟩, _, _, rfl, rfl, ?_⟩
    refine gn ?_
    dsimp only
    refine seqG (fun σ H' => ∃ c : Int, σ = [some (.ref a), some (.int k), some (.int c), none] ∧ H' = H) ?_ (fun kk => ?_)
    · rintro σ H' ⟨c, rfl, rfl⟩
      refine seqG (fun σ H'' => ∃ g : Int, σ = [some (.ref a), some (.int k), some (.int c), some (.int g)] ∧ H'' = H') ?_ (fun k2 => ⟨_, rfl, _, _, rfl, rfl, ⟨by decide, by decide, by decide⟩, _, _, rfl, rfl, _, rfl, ifD (fun e => ⟨_, rfl, k2 _ _ ⟨_, rfl, rfl⟩⟩) fun e => k2 _ _ ⟨_, rfl, rfl⟩⟩)
      rintro σ H'' ⟨g, rfl, e⟩
      subst e
      refine ⟨_, rfl, _, rfl, .inl ⟨_, rfl, _, _, rfl, rfl, (by decide : (0 : Int) < 2147483587), _, _, rfl, rfl, .inr ⟨by decide, by decide⟩, _, rfl, _, _, rfl, rfl, .inl ⟨by decide, by decide⟩, _, _, rfl, rfl, .inl ⟨_, rfl, _, _, rfl, rfl, (by decide : (0 : Int) < 2147483587), _, _, rfl, rfl, (by show 2 ≤ sizeLine; decide), fun p hp => ?_⟩⟩⟩
      exact q p _ (same_new hp) hp ⟨_, _, upd_same⟩
    · refine ⟨_, rfl, _, rfl, a, _, rfl, .inl (hS), _, _, rfl, rfl, _, rfl, ifD (fun e => ?_) fun e => ?_⟩
      · have e' : k < (ns.length : Int) := by
          have z := of_decide_eq_true e
          rw [List.length_map] at z
          exact z
        obtain ⟨z, hz⟩ := hget k k0 e'
        refine ⟨_, rfl, _, rfl, a, _, k, _, rfl, rfl, hS, hz, ?_⟩
        refine .inl ⟨z, rfl, _, rfl, ?_⟩
        exact kk _ _ ⟨_, rfl, rfl⟩
      · refine ⟨_, rfl, a, _, rfl, .inl hS, _, _, rfl, rfl, _, rfl, ifD (fun e => ?_) fun e => ?_⟩
        · have e' : 0 < (ns.length : Int) := by
            have z := of_decide_eq_true e
            rw [List.length_map] at z
            omega
          have em : (k % ((ns.map V.int).length : Int)) = k % (ns.length : Int) := by rw [List.length_map]
          obtain ⟨z, hz⟩ := hget (k % (ns.length : Int)) (Int.emod_nonneg _ (by omega)) (Int.emod_lt_of_pos _ e')
          refine ⟨_, rfl, _, rfl, _, rfl, .inl ⟨_, rfl, _, rfl, a, _, rfl, .inl hS, _, _, rfl, rfl, (by rw [List.length_map]; exact e'), a, _, _, _, rfl, rfl, hS, (by rw [em]; exact hz), ?_⟩⟩
          refine .inl ⟨z, rfl, _, rfl, .inl ⟨_, rfl, _, _, rfl, rfl, (by decide : (0 : Int) < 2147483587), _, _, rfl, rfl, .inr ⟨by decide, by decide⟩, _, _, rfl, rfl, ?_⟩⟩
          exact kk _ _ ⟨_, rfl, rfl⟩
        · exact kk _ _ ⟨_, rfl, rfl⟩
end
end K1
/-! several clauses 'except x as n', the same n -/
namespace K1
open PySem PySem.Spec PyProof.Rows L2
/-- what the clauses wish of an exception of the body, one after the other; slot i is the name's -/
def wAll (K : PySem.W.Frag) (i : Nat) (Wout : WX) (D : Ends) : List (Value × (Addr → Value → Option Addr → TS)) → WX
  | [] => Wout
  | (c, ts) :: r => fun cls d σ H => ∃ b, PySem.W.exmOne K cls c = some b ∧ (b = true → ∀ a, H a = none → ts a cls d { nx := fun σ' H' => D.nx (σ'.set i none) H', rt := D.rt, bk := fun σ' H' => D.bk (σ'.set i none) H', ct := fun σ' H' => D.ct (σ'.set i none) H' } (σ.set i (some (.ref a))) H) ∧
      (b = false → wAll K i Wout D r cls d σ H)
inductive HdsA (X : Cx) (n : Str) : List ExceptHandler → List (Value × (Addr → Value → Option Addr → TS)) → Prop
  | nil : HdsA X n [] []
  | cons {x : Str} {c : Value} {ts : Addr → Value → Option Addr → TS} {b₀ : Stmt} {suite : List Stmt} {np pos' : Pos} {hds : List ExceptHandler} {l : List (Value × (Addr → Value → Option Addr → TS))} (hc : Names X x c)
      (hsu : ∀ (a : Addr) (oe : Obj) (cls : Value) (d : Option Addr) (pn : List (Addr × Obj)), Zc cls d oe → (∃ vs, oe.data = .fields vs) → PSs (X.suite a ((a, oe) :: pn)) (b₀ :: suite) (ts a cls d)) (r : HdsA X n hds l) :
      HdsA X n (.ExceptHandler (some (.Name x np)) (some n) (b₀ :: suite) pos' :: hds) ((c, ts) :: l)
section
variable {X : Cx} {n : Str} {i : Nat} {body : List Stmt} {h₀ : ExceptHandler} {hds : List ExceptHandler} {l : List (Value × (Addr → Value → Option Addr → TS))} {pos : Pos} {tb : WX → TS} {Wout : WX}
theorem ps_try_all (hs : X.stack = X.env :: X.outer) (hf : X.env.frame = some X.env.locals) (hN : X.N.Nodup) (hi : X.N[i]? = some n) (hln : X.env.kindOf n = some .local) (tk : Takes X Wout)
    (hb : ∀ (W : WX) (pn : List (Addr × Obj)) (xe : Value → Shared → Prop), Takes (X.tr pn xe) W → PassesOwn (model X.prog X.w) X.A X.env xe → PSs (X.tr pn xe) body (tb W))
    (hh : HdsA X n (h₀ :: hds) l) : PS X (.Try body (h₀ :: hds) [] [] pos) (fun D σ H => tb (wAll X.K i Wout D l) D σ H) := by
  refine ⟨fun pins s σ H D I h => ?_⟩
  have ok := I.ok
  have hfr : X.A.frames = some (X.env :: X.outer) := by rw [ok.frames, hs]
  have hloc : Loc X.env.scope n := .inl hln
  refine wpAny_Try_except ?_
  refine wpAny_mono ((hb (wAll X.K i Wout D l) (X.pn ++ pins) (fun e s₁ => wpAny (model X.prog X.w) X.A (noteFrame e X.env) (fun _ s₂ => wpAny (model X.prog X.w) X.A (setFlight e none) (fun _ s₃ =>
    wpAny (model X.prog X.w) X.A (handleBy e X.env (h₀ :: hds)) (SP X pins D) X.xe s₃) X.xe s₂) X.xe s₁) (fun u s' xx => ?_) PassesOwn.looking).run [] s σ H D (I.toTry _) h) (fun f s1 hsp => ?_) (fun e s1 he => he)
  · -- the catch
    obtain ⟨a, B, sI, pins', σ', H', cls, d, rfl, J', nb, up, sky, na, os, ag, w⟩ := xx
    have J : Inv X pins σ' H' sI := J'.ofTry ok
    have sky' : Sky B (X.env :: X.outer) a (Zc cls d) X.env.locals s'.heap := by rw [← hs]; exact sky
    show wpAny (model X.prog X.w) X.A (noteFrame (.ref a) X.env) _ _ _
    refine Sky.land Zc.steady hfr hf sky' fun h3 fl3 up3 => ?_
    have J3 : Inv X pins σ' H' { s' with heap := h3 } := J.landed nb fl3.1 (up.trans up3) os ag
    obtain ⟨oe3, vs3, he3, hz3, hd3⟩ := fl3.there
    have notFr : ∀ {h : Heap} {o : Obj} {vs : Array Value}, h.FunFrames B (X.env :: X.outer) → h.get? a = some o → o.data = .fields vs → a ∉ frs (X.env :: X.outer) := fun {h o vs} ff e dd hm => by
      obtain ⟨_, o', e', hnf⟩ := ff.mem hm
      rw [e] at e'; cases e'
      exact hnf _ dd
    have nfr := notFr fl3.2.2.1 he3 hd3
    have nL : a ≠ X.env.locals := fun z => nfr (List.mem_filterMap.mpr ⟨X.env, List.mem_cons_self, by rw [hf, z]⟩)
    have nF : a ∉ X.fs := fun hm => by
      obtain ⟨e, he, q⟩ := List.mem_filterMap.mp hm
      exact nfr (List.mem_filterMap.mpr ⟨e, List.mem_cons_of_mem _ he, q⟩)
    have S3 := J3.suite he3 hd3 na nL nF
    have go : ∀ {hds' : List ExceptHandler} {l' : List (Value × (Addr → Value → Option Addr → TS))}, HdsA X n hds' l' → wAll X.K i Wout D l' cls d σ' H' →
        wpAny (model X.prog X.w) X.A (handleBy (.ref a) X.env hds') (SP X pins D) X.xe { s' with heap := h3 } := by
      intro hds' l' hk
      induction hk with
      | nil =>
        intro w
        refine wpAny_handleBy_nil ?_
        obtain ⟨k1, k2, k3, oe, vs, T, oT, ts', he, hz, hd, h1, hr⟩ := id fl3
        unfold PySem.passOn
        refine wpAny_bind (wpAny_field he hd h1 ?_)
        rw [if_neg (show ¬ ((Value.ref T == Value.none) = true) from by simp)]
        have fin : wpAny (model X.prog X.w) X.A (setFlight (.ref a) X.env.frame) (fun _ s4 => wpAny (model X.prog X.w) X.A (throw (.ref a) : Sem Flow) (SP X pins D) X.xe s4) X.xe { s' with heap := h3 } := by
          rw [hf]
          refine HandSPX.setFlight_upZ fl3 fun h4 hh4 up4 => wpAny_throw (tk _ _ ?_)
          exact ⟨a, B, sI, pins, σ', H', cls, d, rfl, J, nb, (up.trans up3).trans up4, .inr (.inr (by rw [hs]; exact hh4)), na, os, ag, w⟩
        first
          | exact wpAny_bind (wpAny_pure (wpAny_bind fin))
          | exact wpAny_bind fin
      | @cons x c ts b₀ suite np pos' hds2 l2 hc hsu r ih =>
        intro w
        obtain ⟨b, hb1, hyes, hno⟩ := w
        refine wpAny_handleBy_cons (codeAny_handlers_test ?_) (by intro q; cases q)
        have LT : PySem.W.Looks (model X.prog X.w) h3 (typeOf (.ref a)) cls := fun A Q E s k q => wpAny_typeOf_ref (k _ _ he3) (by rw [hz3.1]; exact q)
        have LM := PySem.W.exm_one (M := model X.prog X.w) (J3.kIn) LT hb1
        have test : ∀ {Q : Value → Shared → Prop} {E : Value → Shared → Prop}, Q c { s' with heap := h3 } → wpAny (model X.prog X.w) (X.A.mark (some (.ref a))) (eval (.Name x np) X.env) Q E { s' with heap := h3 } := fun {Q E} q => by
          obtain ⟨hg, hdbg, hm | ⟨hm, hv, hnn⟩⟩ := hc
          · exact ld_glob (X := X.suite a ((a, oe3) :: (X.pn ++ pins))) S3 hg hm q hdbg
          · exact ld_blt (X := X.suite a ((a, oe3) :: (X.pn ++ pins))) S3 hg hm hv q hnn hdbg
        refine test (LM.here ?_)
        cases b with
        | true =>
          refine codeAny_handlers_suite_as ?_
          refine HandSPX.lands_againZ fl3 fun h4 fl4 up4 => ?_
          have J4 : Inv X pins σ' H' { s' with heap := h4 } := J.landed nb fl4.1 ((up.trans up3).trans up4) os ag
          obtain ⟨oe4, vs4, he4, hz4, hd4⟩ := fl4.there
          have S4 := J4.suite he4 hd4 na nL nF
          refine store_ok (X := X.suite a ((a, oe4) :: (X.pn ++ pins))) (v := .ref a) S4 hN hi hloc rfl (fun s5 S5 => ?_) (.inr hln)
          refine wpAny_mono ((hsu a oe4 cls d (X.pn ++ pins) hz4 ⟨_, hd4⟩).run [] s5 _ H' _ S5 (hyes rfl a na)) (fun f s6 hsp => ?_) (fun _ _ z => False.elim z)
          have end_ : ∀ {σ6 : L2.St} {H6 : Hp} {Q : Shared → Prop}, Inv (X.suite a ((a, oe4) :: (X.pn ++ pins))) [] σ6 H6 s6 → (∀ s7, Inv X pins (σ6.set i none) H6 s7 → Q s7) →
              wpAny (model X.prog X.w) X.A (do bindName X.env n .none; unbindBehindTheSuite X.env n pos') (fun _ s7 => Q s7) X.xe s6 := fun {σ6 H6 Q} S6 hq => gone_ok (S6.unsuite ok) hN hi hln hq
          cases f with
          | next =>
            obtain ⟨σ6, H6, S6, q6⟩ := hsp
            exact end_ S6 fun s7 J7 => ⟨_, _, J7, q6⟩
          | brk =>
            obtain ⟨σ6, H6, S6, q6⟩ := hsp
            exact end_ S6 fun s7 J7 => ⟨_, _, J7, q6⟩
          | cont =>
            obtain ⟨σ6, H6, S6, q6⟩ := hsp
            exact end_ S6 fun s7 J7 => ⟨_, _, J7, q6⟩
          | ret u =>
            obtain ⟨v6, σ6, H6, S6, r6, q6⟩ := hsp
            exact end_ S6 fun s7 J7 => ⟨_, _, _, J7, r6, q6⟩
        | false =>
          show wpAny _ X.A (handleBy (.ref a) X.env hds2) _ _ _
          exact ih (hno rfl)
    exact go hh w
  · cases f with
    | next =>
      obtain ⟨σ', H', J', q⟩ := hsp
      exact wpAny_execs_nil ⟨σ', H', J'.ofTry ok, q⟩
    | brk =>
      obtain ⟨σ', H', J', q⟩ := hsp
      exact ⟨σ', H', J'.ofTry ok, q⟩
    | cont =>
      obtain ⟨σ', H', J', q⟩ := hsp
      exact ⟨σ', H', J'.ofTry ok, q⟩
    | ret u =>
      obtain ⟨v, σ', H', J', r, q⟩ := hsp
      exact ⟨v, σ', H', J'.ofTry ok, r, q⟩
end
end K1
namespace K1
open PySem PySem.Spec PyProof.Rows L2
/-! ### x != y of instances whose class has an __eq__ of its own and object's __ne__ -/
section
variable {prog : Program} {w : World} {A : Around} {E : Value → Shared → Prop} {s : Shared} {K : PySem.W.Frag} {x C f : Addr} {ox : Obj} {od : Option Obj} {b : Value}
theorem ifBound_ne {M : Model} {args : List Value} {Q : Option Value → Shared → Prop} (X : K.In s.heap) (I : PySem.W.InstAt s.heap x ox C od) (hs : PySem.W.findIn K (.ref C) "__ne__" = some (some (.builtin "object.__ne__")))
    (h : wpAny M A (call (.builtin "object.__ne__") (.ref x :: args)) (fun v => Q (some v)) E s) : wpAny M A (callSpecialIfBound? (.ref x) "__ne__" args) Q E s := by
  simp only [callSpecialIfBound?, bindSpecialIfBound?]
  refine wpAny_holding (wpAny_bind (wpAny_bind (wpAny_bind (I.type.here ((PySem.W.looks_findIn X hs).here ?_)))))
  simp only [F.cmp_object.ne.bind]
  refine wpAny_bind (wpAny_askSetting (wpAny_ite ?_))
  have fin : wpAny M A (call (.builtin "object.__ne__") ([.ref x] ++ args) >>= fun v => pure (some v)) Q E s := wpAny_bind (wpAny_mono h (fun v s' h' => wpAny_pure h') fun _ _ h' => h')
  split
  · exact wpAny_bind (wpAny_pure (wpAny_pure fin))
  · exact wpAny_tryCatch (wpAny_bind (wpAny_pure (wpAny_pure fin)))
theorem check_ne {M : Model} {rest : List Value} {Q : Unit → Shared → Prop} (X : K.In s.heap) (I : PySem.W.InstAt s.heap x ox C od) (hm : PySem.W.mroIn K C (.type "object") = some true) (ha : argsOk "object.__ne__" ⟨.ref x :: rest, []⟩) (hq : Q () s) :
    wpAny M A (checkBuiltinCall "object.__ne__" ⟨.ref x :: rest, []⟩) Q E s := by
  have L0 := I.type (M := M)
  have L1 := PySem.W.looks_mroIn (M := M) X hm
  simp only [checkBuiltinCall, F.cmpKind_ne, F.cmpSplit_ne]
  refine wpAny_bind ?_
  unfold isInstance
  refine wpAny_bind (L0.here (L1.here ?_))
  cases hsig : Manifest.signature? "object.__ne__" with
  | none => exact wpAny_pure hq
  | some sig =>
    simp only [argsOk, hsig] at ha
    have h2 : Bind.checkArgs "object.__ne__" sig ⟨.ref x :: rest, []⟩ = pure () := ha
    show wpAny M A (Bind.checkArgs "object.__ne__" sig ⟨.ref x :: rest, []⟩) Q E _
    rw [h2]; exact wpAny_pure hq
theorem ne_K {Q : Value → Shared → Prop} (hu : A.units + 1 < cLine) (X : K.In s.heap) (I : PySem.W.InstAt s.heap x ox C od) (hb : PySem.W.Looks (model prog w) s.heap (typeOf b) (.ref C))
    (hn : PySem.W.findIn K (.ref C) "__ne__" = some (some (.builtin "object.__ne__"))) (hm : PySem.W.mroIn K C (.type "object") = some true)
    (hs : PySem.W.findIn K (.ref C) "__eq__" = some (some (.ref f))) (hf : PySem.W.isFn K (.ref f) = true)
    (h : wpAny (model prog w) A.in1 (call (.ref f) [.ref x, b]) (fun v s' => ∃ k, v = .bool k ∧ Q (.bool (!k)) s') E s) : wpAny (model prog w) A (richCompare .NotEq (.ref x) b) Q E s := by
  have entry : wpAny (model prog w) A.in1 (Builtin.«object.__ne__» ⟨[.ref x, b], []⟩) (fun r s' => ∃ k, r = .done (.ret (.bool k)) ∧ Q (.bool k) s') E s := by
    have hu1 : A.in1.units < cLine := hu
    unfold Builtin.«object.__ne__»
    repeat (first
      | with_reducible refine wpAny_cRoomFor hu1 ?_
      | (refine wpAny_bind (m := callSpecialIfBound? (.ref x) (Str.ofString "__eq__") [b])
          (PySem.W.ifBound_K X I hs hf (wpAny_mono h (fun r s' hr => by
            obtain ⟨k, rfl, hq⟩ := hr
            repeat (first | exact ⟨_, rfl, hq⟩ | exact wpAny_pure ⟨_, rfl, hq⟩ | exact wpAny_truthy_bool ⟨_, rfl, hq⟩ | (refine wpAny_bind (m := truthy (.bool _)) (wpAny_truthy_bool ?_)) | wp_step)) fun _ _ e => e)))
      | wp_step)
  have one : wpAny (model prog w) A (tryCompare (.ref x) "__ne__" b) (fun r s' => ∃ v, r = some v ∧ Q v s') E s := by
    unfold tryCompare
    refine wpAny_bind (ifBound_ne X I hn (wpAny_call (codeAny_call_builtin F.cmp_object.ne.plain F.cmpEntry_ne (check_ne X I hm (F.cmpArgs_ne _ _) (wpAny_mono entry (fun r s' hr => ?_) fun _ _ e => e)))))
    obtain ⟨k, rfl, hq⟩ := hr
    exact wpAny_pure ⟨_, rfl, hq⟩
  unfold richCompare
  simp only [oneThing_ref]
  refine wpAny_holding (wpAny_bind (wpAny_cRoomFor (Nat.lt_of_succ_lt hu) ?_))
  rw [cmpInfo_NotEq]
  dsimp only
  refine wpAny_bind (I.type.here (wpAny_bind (hb.here ?_)))
  rw [show (Value.ref C != Value.ref C) = false from by simp]
  simp only [Bool.false_eq_true, if_false]
  refine wpAny_bind (wpAny_pure ?_)
  simp only [Bool.false_eq_true, if_false]
  refine wpAny_bind (wpAny_mono one (fun r s' z => ?_) fun _ _ e => e)
  obtain ⟨v, rfl, hq⟩ := z
  exact wpAny_pure hq
end
def rNeOwn (C : Addr) (sp : Sp) : R2 := fun x y H Q => ∃ (a b dx dy : Addr) (fs gs : List (Str × V)), x = .ref a ∧ H a = some (.ins C dx fs) ∧ y = .ref b ∧ H b = some (.ins C dy gs) ∧ sp [x, y] H (fun v H' => ∃ k, v = .bl k ∧ Q (.bl (!k)) H') E0
theorem op_neOwn {X : Cx} {n : Nat} {C f : Addr} {fd : FuncData} {ps : List Str} {sp : Sp} (F : FnOk X.prog X.w X.K X.mg X.base CX0 n f fd ps sp) (hr : Room (n + 1) X.A)
    (hn : PySem.W.findIn X.K (.ref C) "__ne__" = some (some (.builtin "object.__ne__"))) (hm : PySem.W.mroIn X.K C (.type "object") = some true)
    (hs : PySem.W.findIn X.K (.ref C) "__eq__" = some (some (.ref f))) (hf : PySem.W.isFn X.K (.ref f) = true) (hb : Binds X.K fd ps []) : OpR X (compareOp .NotEq) (rNeOwn C sp) := by
  intro pins s σ H x y v u Q I rx ry hq
  obtain ⟨a, b, dx, dy, fs, gs, rfl, ha, rfl, hb', hsp⟩ := hq
  cases rx
  cases ry
  show wpAny (model X.prog X.w) X.A (richCompare .NotEq (.ref a) (.ref b)) (EP X pins σ Q) X.xe s
  obtain ⟨mA, J, _⟩ := ins_get I.hok ha
  obtain ⟨od, J, _⟩ := J.look
  obtain ⟨mB, J', _⟩ := ins_get I.hok hb'
  obtain ⟨od', J', _⟩ := J'.look
  refine ne_K (Nat.lt_of_le_of_lt (Nat.add_le_add_left (by decide : 1 ≤ 64) _) hr.units) I.kIn J J'.type hn hm hs hf ?_
  have hl := F.len _ _ _ _ hsp
  have r2 : Vals [V.ref a, V.ref b] [Value.ref a, Value.ref b] := .cons rfl (.cons rfl .nil)
  refine wpAny_call (codeAny_mono (F.run X.A.in1 X.stack s H ⟨[.ref a, .ref b], []⟩ [.ref a, .ref b] [.ref a, .ref b] _ E0 hr.in1 I.env0.in1 (by
    have := hb s [.ref a, .ref b] I.kIn (by simpa using hl)
    simpa using this) r2 hsp) fun r s' hq => ?_)
  cases r with
  | error e => exact (show False from hq).elim
  | ok fl =>
    cases fl with
    | ret w =>
      obtain ⟨z, H', I', rz, k, ez, q⟩ := I.after hq
      subst ez
      cases rz
      exact ⟨k, rfl, .bl (!k), H', I', rfl, q⟩
    | next => exact False.elim hq
    | brk => exact False.elim hq
    | cont => exact False.elim hq
/-! ### methods by names of their arguments -/
abbrev gM : List Value → List Value → List Value := fun us ws => us ++ ws.reverse
abbrev gMV : List V → List V → List V := fun us ws => us ++ ws.reverse
theorem kb_two {K : PySem.W.Frag} {f : Addr} {fd : FuncData} (F : Fun K "do" "CounterNet.do" sCDo f fd) : KBn K fd ["self", "house", "amount"] 1 ["amount", "house"] gM gMV := by
  obtain ⟨oc, od, kV, doc, pm, an, cdv, ct, osl, rfl, lk, hcd⟩ := F.ex
  refine ⟨fun s us ws _ h0 h1 => .of_eq ?_, fun r q => r.append q.reverse⟩
  match us, ws, h0, h1 with
  | [_], [_, _], _, _ => rfl
theorem kb_meet {K : PySem.W.Frag} {f : Addr} {fd : FuncData} (F : Fun K "meet" "CounterNet.meet" sCMeet f fd) : KBn K fd ["self", "tie"] 1 ["tie"] gM gMV := by
  obtain ⟨oc, od, kV, doc, pm, an, cdv, ct, osl, rfl, lk, hcd⟩ := F.ex
  refine ⟨fun s us ws _ h0 h1 => .of_eq ?_, fun r q => r.append q.reverse⟩
  match us, ws, h0, h1 with
  | [_], [_], _, _ => rfl
theorem kb_book {K : PySem.W.Frag} {f : Addr} {fd : FuncData} (F : Fun K "book" "CounterNet.book" sCBook f fd) : KBn K fd ["self", "house"] 1 ["house"] gM gMV := by
  obtain ⟨oc, od, kV, doc, pm, an, cdv, ct, osl, rfl, lk, hcd⟩ := F.ex
  refine ⟨fun s us ws _ h0 h1 => .of_eq ?_, fun r q => r.append q.reverse⟩
  match us, ws, h0, h1 with
  | [_], [_], _, _ => rfl
theorem kb_rest {K : PySem.W.Frag} {f : Addr} {fd : FuncData} (F : Fun K "is_rest" "is_rest" sIsRest f fd) : KBn K fd ["net"] 0 ["net"] gM gMV := by
  obtain ⟨oc, od, kV, doc, pm, an, cdv, ct, osl, rfl, lk, hcd⟩ := F.ex
  refine ⟨fun s us ws _ h0 h1 => .of_eq ?_, fun r q => r.append q.reverse⟩
  match us, ws, h0, h1 with
  | [], [_], _, _ => rfl
section
variable {X : Cx} {k : Nat} {f C : Addr} {fd : FuncData} {ps ks : List Str} {sp : Sp} {x m : Str} {st : Stmt} {p pos apos : Pos} {o : Expr} {kws : List Keyword} {tk : TA} {ta : TE}
theorem pe_methW {CX : CXT} {E : XK} {g : List Value → List Value → List Value} {gV : List V → List V → List V} {pl : Sem Bool} (ho : PE X o ta) (c : Cls X.K C) (hm : Meth X.K C m f) (G : FnOk X.prog X.w X.K X.mg X.base CX k f fd ps sp) (hr : Room k X.A) (hb : KBn X.K fd ps 1 ks g gV) (hx : Passes CX X E) (hkw : PK X kws tk)
    (hall : (backToKw pos (keywordEach kws X.env)).all (·.1.isSome) = true := by rfl) (hks : (backToKw pos (keywordEach kws X.env)).filterMap (·.1) = ks := by rfl)
    (hpl : ((backTo pos (starEach [] X.env)).any (·.1) || (backToKw pos (keywordEach kws X.env)).any (·.1.isNone)) = false := by rfl)
    (he : eval (.Call (.Attribute o m apos) [] kws pos) X.env = (do
      let ov ← eval o X.env
      standAt apos.atName
      let __x ← holding [ov] (getMethod ov m pl)
      match __x with
      | (f, first) => callWith pos f first (backTo pos (starEach [] X.env)) (backToKw pos (keywordEach kws X.env))) := by rfl) :
    PE X (.Call (.Attribute o m apos) [] kws pos) (fun σ H Q => ta σ H fun x H1 => ∃ (a dx : Addr) (fs : List (Str × V)), x = .ref a ∧ H1 a = some (.ins C dx fs) ∧ fs.lookup m = none ∧ tk σ H1 fun zs H2 => zs.length = ks.length ∧ sp (gV [x] zs) H2 Q E) := by
  refine ⟨fun pins s σ H Q I h => ?_⟩
  refine PySem.W.methodCall_KW (thn (ho.run pins s σ H _ I h) fun v s1 ⟨x, H1, I1, r1, a, dx, fs, ex, ha, hl, q⟩ => ?_) he
  subst ex
  cases r1
  refine getmeth_ok I1 ha c hm hl ?_
  refine PySem.W.callWith_KW0 (h₀ := X.base) I1.ok.mod.kin hm.kp hall ?_ hpl
  refine thn (hkw.run pos pins s1 σ H1 _ I1 q) fun ws s2 ⟨zs, H2, I2, rz, l2, q2⟩ => ⟨I2.kIn, ?_⟩
  rw [hks]
  exact run_fnN (us := [.ref a]) (vs := [.ref a]) G hr hb hx I2 (.cons rfl .nil) rz rfl l2 q2
theorem pe_callW {CX : CXT} {E : XK} {g : List Value → List Value → List Value} {gV : List V → List V → List V} (D : Df X.K X.mg x st ps f fd) (G : FnOk X.prog X.w X.K X.mg X.base CX k f fd ps sp) (hr : Room k X.A) (hb : KBn X.K fd ps 0 ks g gV) (hx : Passes CX X E) (hkw : PK X kws tk) (hg : Gl X x := by rfl)
    (hall : (backToKw pos (keywordEach kws X.env)).all (·.1.isSome) = true := by rfl) (hks : (backToKw pos (keywordEach kws X.env)).filterMap (·.1) = ks := by rfl) (hdb : (x == ("__debug__" : Str)) = false := by decide)
    (hpl : ((backTo pos (starEach [] X.env)).any (·.1) || (backToKw pos (keywordEach kws X.env)).any (·.1.isNone)) = false := by rfl) :
    PE X (.Call (.Name x p) [] kws pos) (fun σ H Q => tk σ H fun zs H1 => zs.length = ks.length ∧ sp (gV [] zs) H1 Q E) := by
  refine ⟨fun pins s σ H Q I h => ?_⟩
  refine wpAny_Call_Name_kw (ld_glob I hg D.g ?_ hdb)
  refine PySem.W.callWith_KW0 (h₀ := X.base) I.ok.mod.kin D.F.kp hall ?_ hpl
  refine thn (hkw.run pos pins s σ H _ I h) fun ws s2 ⟨zs, H2, I2, rz, l2, q2⟩ => ⟨I2.kIn, ?_⟩
  rw [hks]
  exact run_fnN (us := []) (vs := []) G hr hb hx I2 .nil rz rfl l2 q2
end
/-! ### the pairs of a dict that nobody else sees -/
def iItemsK (td : TE) : TI := fun σ H R => td σ H fun x H1 => ∃ d kvs, x = .ref d ∧ H1 d = some (.dK kvs) ∧ ∀ o, R (Iti d o kvs) (upd H1 d (.frz o (.dK kvs)))
theorem pi_itemsK {X : Cx} {e : Expr} {td : TE} {apos cpos : Pos} {elts : List Expr} {kk : Nat} {tpos : Pos} (he : PE X e td) (hbase : attributeBase e "items" X.env (eval e X.env) = eval e X.env := by rfl) (hline : (apos.endLine == cpos.line) = true := by rfl) :
    PI X (.Tuple elts kk tpos) (.Call (.Attribute e "items" apos) [] [] cpos) (iItemsK td) := by
  refine ⟨fun pins s σ H R I h => ?_⟩
  refine wpAny_Call_method (T := "dict") (id := "dict.items") hbase rfl hline F.plainAttrs_dict F.slot_dict_items F.type_dict_items (thn (he.run pins s σ H _ I h) fun u s1 ⟨x, H0, I0, rx, d, kvs, ex, hd0, q⟩ => ?_)
  subst ex
  obtain rfl : u = Value.ref d := rx
  obtain ⟨o, I1⟩ := I0.lock hd0 trivial
  obtain ⟨hs, hgd, hx, es, ep, wz, hdt, hsz, ent⟩ := I1.frzK upd_same
  have hm : s1.heap.DictRaw d es ep := ⟨o, hgd, hx, hdt⟩
  refine ⟨hm.typeIs, fun a ea => ?_, ?_⟩
  · cases ea
    exact ⟨o, hgd, hx.2.1⟩
  have I2 : Inv X pins σ (upd H0 d (.frz o (.dK kvs))) { s1 with heap := s1.heap.push { cls := .type "dict_items", data := .fields #[.ref d] } } := I1.kept (t' := s1.toks) fun b ob q => Heap.get?_push_of_some _ q
  have fin : wpAny (model X.prog X.w) X.A (pyIter (.ref s1.heap.objs.size)) (PIE X pins σ (.Tuple elts kk tpos) R) X.xe { s1 with heap := s1.heap.push { cls := .type "dict_items", data := .fields #[.ref d] } } := by
    refine wpAny_pyIter_items_raw (d := d) ⟨_, Heap.get?_push_size _ rfl, rfl, rfl⟩ (hm.at fun ob e => Heap.get?_push_of_some _ e) (pi_one (tk := s1.toks) I2 _ (turn_items _ hdt) ⟨.none, .none, ?_⟩ (q o))
    rw [← hsz]
    exact Heap.get?_push_size _ rfl
  show wpAny _ _ (callWith cpos (.builtin "dict.items") [.ref d] [] []) _ X.xe s1
  exact method_meetsIn F.slot_dict_items F.entry_dict_items rfl (PySem.evalArgs_none ⟨rfl, hm.typeIs, F.args_dict_items_1 _, _, meets_dict_items_raw d hs, ⟨es, ep, hm⟩, fin⟩)
theorem lc_itemsK {d : Addr} {o : Obj} {kvs : List (Key × V)} {g : TG} {tt : TT} {te : TE} {vs : List Nat} {σ : L2.St} {H1 : Hp} {D : Addr} {Qd : Hp → Prop} (Pv : Nat → Hp → Prop) (h0 : Pv 0 (upd H1 D (.lst []))) (hl : ∀ i H, i ≤ kvs.length → Pv i H → H d = some (.frz o (.dK kvs)))
    (hs : ∀ (i : Nat) k v T H, kvs[i]? = some (k, v) → H T = none → Pv i H → g (.ref T) (wipe σ vs) (upd H T (.tup [kV k, v])) fun σ2 H2 => wipe σ2 vs = wipe σ vs ∧ tt σ2 H2 fun b H3 =>
      if b = true then te σ2 H3 fun y H4 => ∃ acc, H4 D = some (.lst acc) ∧ acc.length < sizeLine ∧ Pv (i + 1) (upd H4 D (.lst (acc ++ [y]))) else Pv (i + 1) H3) (hd : ∀ H, Pv kvs.length H → Qd H) :
    ∃ W : Nat → Nat → Hp → Prop, (∃ m, W 0 m (upd H1 D (.lst []))) ∧ ∀ i m H, W i m H →
      ((Iti d o kvs).stop i H ∧ Qd H) ∨ ((Iti d o kvs).go i H ∧ ∃ Nx : Hp → Prop, (∀ H', Nx H' → ∃ m', m' < m ∧ W (i + 1) m' H') ∧ ∀ x H', (Iti d o kvs).yld i H x H' → g x (wipe σ vs) H' fun σ2 H2 => wipe σ2 vs = wipe σ vs ∧ tt σ2 H2 fun b H3 =>
        if b = true then te σ2 H3 fun y H4 => ∃ acc, H4 D = some (.lst acc) ∧ acc.length < sizeLine ∧ Nx (upd H4 D (.lst (acc ++ [y]))) else Nx H3) := by
  refine ⟨fun i m H => m = kvs.length - i ∧ i ≤ kvs.length ∧ Pv i H, ⟨kvs.length, by simp, Nat.zero_le _, h0⟩, ?_⟩
  rintro i m H ⟨rfl, hi, p⟩
  have q := hl i H hi p
  by_cases hlt : i < kvs.length
  · refine .inr ⟨⟨q, hlt⟩, Pv (i + 1), fun H' p' => ⟨kvs.length - (i + 1), by omega, rfl, hlt, p'⟩, fun x H' y => ?_⟩
    obtain ⟨T, k, v, e1, e2, e3, e5⟩ := y
    subst e2
    rw [e5]
    exact hs i k v T _ e1 e3 p
  · have e : i = kvs.length := by omega
    subst e
    exact .inl ⟨⟨q, Nat.le_refl _⟩, hd H p⟩
end K1
namespace K1
open PySem PySem.Spec PyProof.Rows L2
/-! ### lists without repetition -/
theorem nodup_sub {α : Type} [DecidableEq α] : ∀ (a b : List α), a.Nodup → (∀ x ∈ a, x ∈ b) → a.length ≤ b.length
  | [], _, _, _ => Nat.zero_le _
  | x :: a, b, nd, h => by
    rw [List.nodup_cons] at nd
    have hb := h x List.mem_cons_self
    have := nodup_sub a (b.erase x) nd.2 fun y hy => by
      have ne : y ≠ x := fun z => nd.1 (z ▸ hy)
      exact (List.mem_erase_of_ne ne).mpr (h y (List.mem_cons_of_mem _ hy))
    rw [List.length_erase_of_mem hb] at this
    have : 0 < b.length := List.length_pos_of_mem hb
    rw [List.length_cons]
    omega
theorem nodup_perm {α : Type} [DecidableEq α] {a b : List α} (ha : a.Nodup) (hb : b.Nodup) (h : ∀ x ∈ a, x ∈ b) (l : b.length ≤ a.length) : a.Perm b := by
  refine (List.perm_ext_iff_of_nodup ha hb).mpr fun x => ⟨h x, fun hx => ?_⟩
  by_cases z : x ∈ a
  · exact z
  · have := nodup_sub (x :: a) b (List.nodup_cons.mpr ⟨z, ha⟩) fun y hy => by
      rcases List.mem_cons.mp hy with e | e
      · rw [e]; exact hx
      · exact h y e
    rw [List.length_cons] at this
    omega
theorem perm_sumI {a b : List Int} (h : a.Perm b) : a.sum = b.sum := by
  induction h with
  | nil => rfl
  | cons x _ ih => rw [List.sum_cons, List.sum_cons, ih]
  | swap x y l => simp only [List.sum_cons]; omega
  | trans _ _ h1 h2 => rw [h1, h2]
/-! ### ways: each but the first comes by its last tie from an earlier one -/
theorem Fst.par {ts : Prs} {n : Nat} {s : Int} {F : List WR} (f : Fst (actW ts none) n s F) {j : Nat} {x : Int} {r : List Int} (h : F[j]? = some (x, r)) (j0 : 0 < j) :
    ∃ (p : Nat) (y : Int) (q : List Int) (t : Int), p < j ∧ F[p]? = some (y, q) ∧ r = q ++ [t] ∧ 0 ≤ t ∧ t < (n : Int) ∧ x = actW ts none y t ∧ x ≠ y := by
  obtain ⟨ex, hr, hl⟩ := f.pth j x r h
  have rn : r ≠ [] := fun z => by
    have := f.asc 0 j s x [] r j0 f.h0 h
    rw [z] at this
    exact rlt.irrefl _ this
  obtain ⟨q, t, rfl⟩ : ∃ q t, r = q ++ [t] := by
    rcases List.eq_nil_or_concat r with e | ⟨q, t, e⟩
    · exact absurd e rn
    · exact ⟨q, t, by rw [e, List.concat_eq_append]⟩
  obtain ⟨p, r', hp, hle⟩ := f.all q fun e he => hr e (List.mem_append_left _ he)
  have ht := hr t (List.mem_append_right _ (List.mem_singleton.mpr rfl))
  obtain ⟨ey, hr', _⟩ := f.pth p _ r' hp
  obtain ⟨j', r'', hj', hle'⟩ := f.all (r' ++ [t]) fun e he => by
    rcases List.mem_append.mp he with he | he
    · exact hr' e he
    · rw [List.mem_singleton.mp he]; exact ht
  have eq1 : path (actW ts none) s (r' ++ [t]) = x := by rw [path_snoc, ← ey, ex, path_snoc]
  rw [eq1] at hj'
  have jj : j' = j := by
    have n1 := f.nd
    rw [List.nodup_iff_pairwise_ne, List.pairwise_map, List.pairwise_iff_getElem] at n1
    have l1 := lt_at hj'
    have l2 := lt_at h
    rw [List.getElem?_eq_getElem l1] at hj'
    rw [List.getElem?_eq_getElem l2] at h
    by_cases c1 : j' < j
    · have := n1 j' j l1 l2 c1
      rw [Option.some.inj hj', Option.some.inj h] at this
      exact absurd rfl this
    · by_cases c2 : j < j'
      · have := n1 j j' l2 l1 c2
        rw [Option.some.inj hj', Option.some.inj h] at this
        exact absurd rfl this
      · omega
  subst jj
  have er : r'' = q ++ [t] := by
    rw [h] at hj'
    have z := Option.some.inj hj'
    injection z with _ z
    exact z.symm
  subst er
  have eqr : r' = q := by
    have a := rle.anti (hle.app t) hle'
    exact List.append_cancel_right a
  subst eqr
  have pj : p < j' := by
    by_cases c1 : p < j'
    · exact c1
    · by_cases c2 : p = j'
      · rw [c2, h] at hp
        have z := Option.some.inj hp
        injection z with _ z
        have := congrArg List.length z
        simp at this
      · have a1 := f.asc j' p _ _ _ _ (by omega) h hp
        have a2 : rlt r' (r' ++ [t]) := .inl (by simp)
        exact absurd (a2.trans a1) (rlt.irrefl _)
  refine ⟨p, _, r', t, pj, hp, rfl, ht.1, ht.2, by rw [ex, path_snoc], fun z => ?_⟩
  have n1 := f.nd
  rw [List.nodup_iff_pairwise_ne, List.pairwise_map, List.pairwise_iff_getElem] at n1
  have l1 := lt_at hp
  have l2 := lt_at h
  have := n1 p j' l1 l2 pj
  rw [List.getElem?_eq_getElem l1] at hp
  rw [List.getElem?_eq_getElem l2] at h
  rw [Option.some.inj hp, Option.some.inj h] at this
  exact this z.symm
/-- the part of a house, as the ways lead through it: houses xs, from each but the first the tie (of tl) that leads to it -/
structure Tree (ts : Prs) (h : Nat) (xs tl : List Nat) : Prop where
  nd : xs.Nodup
  h0 : xs[0]? = some h
  len : xs.length = tl.length + 1
  mem : ∀ x, x ∈ xs ↔ Cn ts h x
  par : ∀ (j t : Nat), tl[j]? = some t → ∃ (i x y : Nat) (p : Nat × Nat), i ≤ j ∧ xs[i]? = some y ∧ xs[j + 1]? = some x ∧ ts[t]? = some p ∧ ((p.1 = x ∧ p.2 = y) ∨ (p.1 = y ∧ p.2 = x))
  tnd : tl.Nodup
/-- the last ties of the ways -/
def lastT (F : List WR) : List Nat := (F.drop 1).map fun e => (e.2.getLast?.getD 0).toNat
theorem Fst.tree {ts : Prs} {n h : Nat} {F : List WR} (hW : Wv n ts) (hn : h < n) (f : Fst (actW ts none) ts.length (h : Int) F) : Tree ts h (F.map fun e => e.1.toNat) (lastT F) := by
  have hh : 0 ≤ (h : Int) ∧ (h : Int) < (n : Int) := by omega
  have lF : 0 < F.length := lt_at f.h0
  have pos : ∀ (j : Nat) x r, F[j]? = some (x, r) → 0 ≤ x := fun j x r e => by
    obtain ⟨p1, _⟩ := f.pth j x r e
    rw [p1]; exact (pathW_rng (bar := none) hW r _ hh).1
  have xsAt : ∀ (j : Nat) x r, F[j]? = some (x, r) → (F.map fun e => e.1.toNat)[j]? = some x.toNat := fun j x r e => map_at e
  have nd : (F.map fun e => e.1.toNat).Nodup := by
    have n1 := f.nd
    rw [List.nodup_iff_pairwise_ne, List.pairwise_map] at n1 ⊢
    refine n1.imp_of_mem fun {a b} ha hb hab => ?_
    obtain ⟨i, hi⟩ := List.getElem?_of_mem ha
    obtain ⟨k, hk⟩ := List.getElem?_of_mem hb
    have := pos i a.1 a.2 hi
    have := pos k b.1 b.2 hk
    omega
  have par : ∀ (j t : Nat), (lastT F)[j]? = some t → ∃ (i x y : Nat) (p : Nat × Nat), i ≤ j ∧ (F.map fun e => e.1.toNat)[i]? = some y ∧ (F.map fun e => e.1.toNat)[j + 1]? = some x ∧ ts[t]? = some p ∧ ((p.1 = x ∧ p.2 = y) ∨ (p.1 = y ∧ p.2 = x)) := fun j t e => by
    obtain ⟨⟨x, r⟩, hj, et⟩ := at_map e
    rw [List.getElem?_drop, Nat.add_comm] at hj
    obtain ⟨i, y, q, t', ij, hi, er, t0, t1, ea, ne⟩ := f.par hj (Nat.succ_pos _)
    have et' : t = t'.toNat := by
      rw [et]
      show (r.getLast?.getD 0).toNat = _
      rw [er, List.getLast?_concat]; rfl
    have hx := pos _ _ _ hj
    have hy := pos _ _ _ hi
    unfold actW at ea
    rw [← et'] at ea
    cases hp : ts[t]? with
    | none =>
      rw [hp] at ea
      exact absurd ea ne
    | some p =>
      rw [hp] at ea
      dsimp only at ea
      split at ea
      · rename_i hc
        refine ⟨i, x.toNat, y.toNat, p, by omega, xsAt _ _ _ hi, xsAt _ _ _ hj, rfl, ?_⟩
        have hi' := hc.1
        unfold inc at hi'
        simp only [Bool.or_eq_true, decide_eq_true_eq] at hi'
        unfold oth at ea
        have := hW.at_ hp
        omega
      · exact absurd ea ne
  refine ⟨nd, by rw [xsAt 0 _ _ f.h0]; rfl, by unfold lastT; rw [List.length_map, List.length_map, List.length_drop]; omega, fun x => ?_, par, ?_⟩
  · rw [List.mem_map]
    constructor
    · rintro ⟨⟨y, r⟩, hy, rfl⟩
      obtain ⟨j, hj⟩ := List.getElem?_of_mem hy
      obtain ⟨p1, p2, _⟩ := f.pth j y r hj
      have c := path_cn hW r (h : Int) hh
      rw [Int.toNat_natCast, ← p1] at c
      exact c
    · intro c
      obtain ⟨r, r1, r2⟩ := cn_path hW c
      obtain ⟨j, r', e1, _⟩ := f.all r r1
      rw [r2] at e1
      exact ⟨_, List.mem_of_getElem? e1, Int.toNat_natCast x⟩
  · rw [List.nodup_iff_pairwise_ne, List.pairwise_iff_getElem]
    intro a b ha hb ab e
    obtain ⟨i1, x1, y1, p1, g1, g2, g3, g4, g5⟩ := par a _ (List.getElem?_eq_getElem ha)
    obtain ⟨i2, x2, y2, p2, k1, k2, k3, k4, k5⟩ := par b _ (List.getElem?_eq_getElem hb)
    rw [e] at g4
    obtain rfl := lookup_same g4 k4
    have inj : ∀ {i j v : Nat}, (F.map fun e => e.1.toNat)[i]? = some v → (F.map fun e => e.1.toNat)[j]? = some v → i = j := fun {i j v} e1 e2 => by
      rw [List.nodup_iff_pairwise_ne, List.pairwise_iff_getElem] at nd
      have l1 := lt_at e1
      have l2 := lt_at e2
      rw [List.getElem?_eq_getElem l1] at e1
      rw [List.getElem?_eq_getElem l2] at e2
      by_cases c1 : i < j
      · exact absurd ((Option.some.inj e1).trans (Option.some.inj e2).symm) (nd i j l1 l2 c1)
      · by_cases c2 : j < i
        · exact absurd ((Option.some.inj e2).trans (Option.some.inj e1).symm) (nd j i l2 l1 c2)
        · omega
    have xx : x1 ≠ x2 := fun z => by
      rw [z] at g3
      have := inj g3 k3
      omega
    obtain ⟨z1, z2⟩ : x1 = y2 ∧ x2 = y1 := by
      rcases g5 with ⟨u1, u2⟩ | ⟨u1, u2⟩ <;> rcases k5 with ⟨v1, v2⟩ | ⟨v1, v2⟩ <;> omega
    rw [← z2] at g2
    have := inj g2 k3
    omega
/-! ### webs without rings -/
def lat (rk : Nat → Nat) (p : Nat × Nat) : Nat := if rk p.2 < rk p.1 then p.1 else p.2
structure Fo (rk : Nat → Nat) (ts : Prs) : Prop where
  ne : ∀ p ∈ ts, rk p.1 ≠ rk p.2
  nd : (ts.map (lat rk)).Nodup
theorem tIn_nd (ts : Prs) (ns : List Nat) : (tIn ts ns).Nodup := by
  unfold tIn tInK
  have h : ((ts.take ts.length).zipIdx.map (·.2)).Nodup := by
    rw [List.zipIdx_map_snd]
    exact List.nodup_range'
  exact h.sublist (List.Sublist.map _ List.filter_sublist)
theorem exists_min (rk : Nat → Nat) : ∀ ns : List Nat, ns ≠ [] → ∃ x ∈ ns, ∀ y ∈ ns, rk x ≤ rk y
  | [], h => absurd rfl h
  | [a], _ => ⟨a, List.mem_singleton.mpr rfl, fun y hy => by rw [List.mem_singleton.mp hy]; exact Nat.le_refl _⟩
  | a :: b :: r, _ => by
    obtain ⟨x, hx, m⟩ := exists_min rk (b :: r) (List.cons_ne_nil _ _)
    by_cases c : rk a ≤ rk x
    · exact ⟨a, List.mem_cons_self, fun y hy => by
        rcases List.mem_cons.mp hy with e | e
        · rw [e]; exact Nat.le_refl _
        · exact Nat.le_trans c (m y e)⟩
    · exact ⟨x, List.mem_cons_of_mem _ hx, fun y hy => by
        rcases List.mem_cons.mp hy with e | e
        · rw [e]; omega
        · exact m y e⟩
/-- a part of such a web has fewer ties than houses -/
theorem Fo.few {rk : Nat → Nat} {ts : Prs} {h : Nat} {ns : List Nat} (fo : Fo rk ts) (mem : ∀ x, x ∈ ns ↔ Cn ts h x) : (tIn ts ns).length + 1 ≤ ns.length := by
  have hh : h ∈ ns := (mem h).mpr .refl
  obtain ⟨m, hm, mn⟩ := exists_min rk ns fun z => by rw [z] at hh; cases hh
  have l0 : 0 < ns.length := List.length_pos_of_mem hh
  have nd : ((tIn ts ns).map fun t => lat rk (ts.getD t (0, 0))).Nodup := by
    rw [List.nodup_iff_pairwise_ne, List.pairwise_map]
    have := tIn_nd ts ns
    rw [List.nodup_iff_pairwise_ne] at this
    refine this.imp_of_mem fun {a b} ha hb hab e => ?_
    obtain ⟨p, hp, _⟩ := tIn_mem.mp ha
    obtain ⟨q, hq, _⟩ := tIn_mem.mp hb
    rw [List.getD_eq_getElem?_getD, List.getD_eq_getElem?_getD, hp, hq] at e
    have n1 := fo.nd
    rw [List.nodup_iff_pairwise_ne, List.pairwise_map, List.pairwise_iff_getElem] at n1
    have l1 := lt_at hp
    have l2 := lt_at hq
    rw [List.getElem?_eq_getElem l1] at hp
    rw [List.getElem?_eq_getElem l2] at hq
    replace e : lat rk p = lat rk q := e
    by_cases c1 : a < b
    · have := n1 a b l1 l2 c1
      rw [Option.some.inj hp, Option.some.inj hq] at this
      exact this e
    · have := n1 b a l2 l1 (by omega)
      rw [Option.some.inj hp, Option.some.inj hq] at this
      exact this e.symm
  have := nodup_sub _ (ns.erase m) nd fun y hy => by
    obtain ⟨t, ht, rfl⟩ := List.mem_map.mp hy
    obtain ⟨p, hp, hpn⟩ := tIn_mem.mp ht
    rw [List.getD_eq_getElem?_getD, hp]
    show lat rk p ∈ _
    have hpm := List.mem_of_getElem? hp
    have hp2 : p.2 ∈ ns := (mem _).mpr (((mem _).mp hpn).step ⟨p, hpm, .inl ⟨rfl, rfl⟩⟩)
    have ne := fo.ne p hpm
    have m1 := mn _ hpn
    have m2 := mn _ hp2
    unfold lat
    by_cases c : rk p.2 < rk p.1
    · rw [if_pos c]
      exact (List.mem_erase_of_ne fun z => by rw [z] at c; omega).mpr hpn
    · rw [if_neg c]
      exact (List.mem_erase_of_ne fun z => by rw [z] at c ne; omega).mpr hp2
  rw [List.length_map, List.length_erase_of_mem hm] at this
  omega
theorem Fo.perm {rk : Nat → Nat} {a b : Prs} (f : Fo rk a) (h : a.Perm b) : Fo rk b := ⟨fun p hp => f.ne p (h.mem_iff.mpr hp), ((h.map _).nodup_iff).mp f.nd⟩
/-- the ties of the part are those by which the ways lead -/
theorem Tree.ties {rk : Nat → Nat} {ts : Prs} {h : Nat} {xs tl ns : List Nat} (T : Tree ts h xs tl) (fo : Fo rk ts) (pl : PartL ts h ns) : tl.Perm (tIn ts ns) ∧ xs.Perm ns ∧ (tIn ts ns).length + 1 = ns.length := by
  have nn : ns.Nodup := pl.asc.imp fun {a b} h => by omega
  have px : xs.Perm ns := (List.perm_ext_iff_of_nodup T.nd nn).mpr fun x => by rw [T.mem, pl.mem]
  have few := fo.few pl.mem
  have lx := px.length_eq
  have sub : ∀ t ∈ tl, t ∈ tIn ts ns := fun t ht => by
    obtain ⟨j, hj⟩ := List.getElem?_of_mem ht
    obtain ⟨i, x, y, p, _, g2, g3, g4, g5⟩ := T.par j t hj
    have hx : x ∈ ns := px.mem_iff.mp (List.mem_of_getElem? g3)
    have hy : y ∈ ns := px.mem_iff.mp (List.mem_of_getElem? g2)
    refine tIn_mem.mpr ⟨p, g4, ?_⟩
    rcases g5 with ⟨e, _⟩ | ⟨e, _⟩ <;> rw [e] <;> assumption
  have := T.len
  have pt := nodup_perm T.tnd (tIn_nd ts ns) sub (by omega)
  exact ⟨pt, px, by have := pt.length_eq; omega⟩
end K1
namespace K1
open PySem PySem.Spec PyProof.Rows L2
/-! ### numbers counted by a modulus -/
theorem cby_cong {m : Int} (x k : Int) : cby m (x + m * k) = cby m x := by
  unfold cby
  split
  · rename_i h; rw [h, Int.zero_mul, Int.add_zero]
  · exact Int.add_mul_emod_self_left x m k
theorem cby_is (m x : Int) : ∃ k, cby m x = x + m * k := by
  unfold cby
  split
  · exact ⟨0, by rw [Int.mul_zero, Int.add_zero]⟩
  · refine ⟨-(x / m), ?_⟩
    have := Int.emod_add_mul_ediv x m
    have e : m * -(x / m) = -(m * (x / m)) := Int.mul_neg _ _
    omega
theorem cby_cby (m x : Int) : cby m (cby m x) = cby m x := by
  obtain ⟨k, e⟩ := cby_is m x
  rw [e, cby_cong]
  exact e
/-! ### lists of numbers -/
theorem getD_set {l : List Int} {i j : Nat} {x : Int} (h : i < l.length) : (l.set i x).getD j 0 = if j = i then x else l.getD j 0 := by
  rw [List.getD_eq_getElem?_getD, List.getElem?_set]
  by_cases e : i = j
  · rw [if_pos e, if_pos h, if_pos e.symm]; rfl
  · rw [if_neg e, if_neg (fun z => e z.symm), List.getD_eq_getElem?_getD]
theorem set_self {l : List Int} {i : Nat} {x : Int} (h : l.getD i 0 = x) (hi : i < l.length) : l.set i x = l := by
  refine List.ext_getElem? fun j => ?_
  rw [List.getElem?_set]
  by_cases e : i = j
  · subst e
    rw [if_pos rfl, if_pos hi]
    rw [List.getD_eq_getElem?_getD, List.getElem?_eq_getElem hi] at h
    rw [List.getElem?_eq_getElem hi, ← h]; rfl
  · rw [if_neg e]
theorem sum_point {s s' : Nat → Int} {y : Nat} : ∀ (L : List Nat), L.Nodup → y ∈ L → (∀ z ∈ L, z ≠ y → s' z = s z) → (L.map s').sum = (L.map s).sum - s y + s' y
  | [], _, h, _ => nomatch h
  | a :: r, nd, h, e => by
    rw [List.nodup_cons] at nd
    rw [List.map_cons, List.map_cons, List.sum_cons, List.sum_cons]
    by_cases z : y = a
    · subst z
      have : r.map s' = r.map s := List.map_congr_left fun b hb => e b (List.mem_cons_of_mem _ hb) fun q => nd.1 (q ▸ hb)
      rw [this]; omega
    · have hr : y ∈ r := (List.mem_cons.mp h).resolve_left z
      have := sum_point r nd.2 hr fun b hb => e b (List.mem_cons_of_mem _ hb)
      rw [this, e a List.mem_cons_self fun q => z q.symm]; omega
abbrev NSt := List Int × List Int
def metS (m : Int) (ts : Prs) (st : NSt) (t : Nat) : NSt := match ts[t]? with
  | some p => ((st.1.set p.1 (metN m st.1 st.2 p t)).set p.2 (metN m st.1 st.2 p t), st.2.set t (metN m st.1 st.2 p t))
  | none => st
structure Ln (n : Nat) (ts : Prs) (st : NSt) : Prop where
  s : st.1.length = n
  a : st.2.length = ts.length
theorem Ln.met {m : Int} {n : Nat} {ts : Prs} {st : NSt} (l : Ln n ts st) (t : Nat) : Ln n ts (metS m ts st t) := by
  unfold metS
  split
  · exact ⟨by rw [List.length_set, List.length_set]; exact l.s, by rw [List.length_set]; exact l.a⟩
  · exact l
theorem met_s {m : Int} {n : Nat} {ts : Prs} {st : NSt} (hW : Wv n ts) (l : Ln n ts st) {t : Nat} {p : Nat × Nat} (hp : ts[t]? = some p) (z : Nat) : (metS m ts st t).1.getD z 0 = if z = p.1 ∨ z = p.2 then metN m st.1 st.2 p t else st.1.getD z 0 := by
  obtain ⟨h1, h2, h3⟩ := hW.at_ hp
  have e := l.s
  unfold metS
  rw [hp]
  dsimp only
  rw [getD_set (by rw [List.length_set]; omega), getD_set (by omega)]
  by_cases c1 : z = p.2
  · rw [if_pos c1, if_pos (.inr c1)]
  · rw [if_neg c1]
    by_cases c2 : z = p.1
    · rw [if_pos c2, if_pos (.inl c2)]
    · rw [if_neg c2, if_neg (by omega)]
theorem met_a {m : Int} {n : Nat} {ts : Prs} {st : NSt} (l : Ln n ts st) {t : Nat} {p : Nat × Nat} (hp : ts[t]? = some p) (z : Nat) : (metS m ts st t).2.getD z 0 = if z = t then metN m st.1 st.2 p t else st.2.getD z 0 := by
  have := lt_at hp
  have e := l.a
  unfold metS
  rw [hp]
  dsimp only
  rw [getD_set (by omega)]
/-- the states are counted -/
def Rdc (m : Int) (st : NSt) : Prop := ∀ x, cby m (st.1.getD x 0) = st.1.getD x 0
theorem Rdc.met {m : Int} {n : Nat} {ts : Prs} {st : NSt} (hW : Wv n ts) (l : Ln n ts st) (r : Rdc m st) (t : Nat) : Rdc m (metS m ts st t) := fun x => by
  cases hp : ts[t]? with
  | none =>
    have : metS m ts st t = st := by unfold metS; rw [hp]
    rw [this]; exact r x
  | some p =>
    rw [met_s hW l hp]
    split
    · exact cby_cby _ _
    · exact r x
def runS (m : Int) (ts : Prs) (st : NSt) (o : List Nat) : NSt := o.foldl (metS m ts) st
theorem runS_snoc (m : Int) (ts : Prs) (st : NSt) (o : List Nat) (t : Nat) : runS m ts st (o ++ [t]) = metS m ts (runS m ts st o) t := by unfold runS; rw [List.foldl_append]; rfl
theorem runS_app (m : Int) (ts : Prs) (st : NSt) (o q : List Nat) : runS m ts st (o ++ q) = runS m ts (runS m ts st o) q := by unfold runS; rw [List.foldl_append]
theorem Ln.run {m : Int} {n : Nat} {ts : Prs} : ∀ {st : NSt} (o : List Nat), Ln n ts st → Ln n ts (runS m ts st o)
  | _, [], l => l
  | _, t :: o, l => Ln.run o (l.met t)
theorem Rdc.run {m : Int} {n : Nat} {ts : Prs} (hW : Wv n ts) : ∀ {st : NSt} (o : List Nat), Ln n ts st → Rdc m st → Rdc m (runS m ts st o)
  | _, [], _, r => r
  | _, t :: o, l, r => Rdc.run hW o (l.met t) (r.met hW l t)
def SwO (tl : List Nat) : List Nat := tl.reverse ++ tl.drop 1
section
variable {m : Int} {n h : Nat} {ts : Prs} {xs tl : List Nat} {B : Int} {st0 : NSt}
theorem Tree.inj (T : Tree ts h xs tl) {i j v : Nat} (e1 : xs[i]? = some v) (e2 : xs[j]? = some v) : i = j := by
  have nd := T.nd
  rw [List.nodup_iff_pairwise_ne, List.pairwise_iff_getElem] at nd
  have l1 := lt_at e1
  have l2 := lt_at e2
  rw [List.getElem?_eq_getElem l1] at e1
  rw [List.getElem?_eq_getElem l2] at e2
  by_cases c1 : i < j
  · exact absurd ((Option.some.inj e1).trans (Option.some.inj e2).symm) (nd i j l1 l2 c1)
  · by_cases c2 : j < i
    · exact absurd ((Option.some.inj e2).trans (Option.some.inj e1).symm) (nd j i l2 l1 c2)
    · omega
theorem Tree.injT (T : Tree ts h xs tl) {i j v : Nat} (e1 : tl[i]? = some v) (e2 : tl[j]? = some v) : i = j := by
  have nd := T.tnd
  rw [List.nodup_iff_pairwise_ne, List.pairwise_iff_getElem] at nd
  have l1 := lt_at e1
  have l2 := lt_at e2
  rw [List.getElem?_eq_getElem l1] at e1
  rw [List.getElem?_eq_getElem l2] at e2
  by_cases c1 : i < j
  · exact absurd ((Option.some.inj e1).trans (Option.some.inj e2).symm) (nd i j l1 l2 c1)
  · by_cases c2 : j < i
    · exact absurd ((Option.some.inj e2).trans (Option.some.inj e1).symm) (nd j i l2 l1 c2)
    · omega
/-- what stands outside of the part -/
structure Off (xs tl : List Nat) (st0 st : NSt) : Prop where
  s : ∀ z, z ∉ xs → st.1.getD z 0 = st0.1.getD z 0
  a : ∀ t, t ∉ tl → st.2.getD t 0 = st0.2.getD t 0
theorem Off.met {st : NSt} (hW : Wv n ts) (T : Tree ts h xs tl) (l : Ln n ts st) (o : Off xs tl st0 st) {j t : Nat} (ht : tl[j]? = some t) : Off xs tl st0 (metS m ts st t) := by
  obtain ⟨i, x, y, p, _, g2, g3, g4, g5⟩ := T.par j t ht
  have hx := List.mem_of_getElem? g3
  have hy := List.mem_of_getElem? g2
  refine ⟨fun z hz => ?_, fun u hu => ?_⟩
  · rw [met_s hW l g4, if_neg (by
      rintro (e | e) <;> rcases g5 with ⟨e1, e2⟩ | ⟨e1, e2⟩ <;> first | (rw [e, e1] at hz; exact hz (by assumption)) | (rw [e, e2] at hz; exact hz (by assumption)))]
    exact o.s z hz
  · rw [met_a l g4, if_neg (by rintro rfl; exact hu (List.mem_of_getElem? ht))]
    exact o.a u hu
/-- inward, j ties are left -/
structure InP (m : Int) (xs tl : List Nat) (B : Int) (st0 : NSt) (j : Nat) (st : NSt) : Prop where
  sum : ∃ k, ((xs.take (j + 1)).map fun x => st.1.getD x 0).sum - ((tl.take j).map fun t => st.2.getD t 0).sum = B + m * k
  eq : ∀ (i x t : Nat), j ≤ i → xs[i + 1]? = some x → tl[i]? = some t → st.1.getD x 0 = st.2.getD t 0
  top : ∀ (x t : Nat), j = 0 → xs[0]? = some x → tl[0]? = some t → st.1.getD x 0 = st.2.getD t 0
  off : Off xs tl st0 st
theorem InP.step {st : NSt} (hW : Wv n ts) (T : Tree ts h xs tl) (l : Ln n ts st) {j t : Nat} (ht : tl[j]? = some t) (I : InP m xs tl B st0 (j + 1) st) : InP m xs tl B st0 j (metS m ts st t) := by
  obtain ⟨i, x, y, p, ij, g2, g3, g4, g5⟩ := T.par j t ht
  have xy : x ≠ y := fun z => by
    rw [z] at g3
    have := T.inj g2 g3
    omega
  have ev : metN m st.1 st.2 p t = cby m (st.1.getD y 0 + st.1.getD x 0 - st.2.getD t 0) := by
    unfold metN
    rcases g5 with ⟨e1, e2⟩ | ⟨e1, e2⟩
    · rw [e1, e2, Int.add_comm]
    · rw [e1, e2]
  have ms : ∀ z, (metS m ts st t).1.getD z 0 = if z = x ∨ z = y then metN m st.1 st.2 p t else st.1.getD z 0 := fun z => by
    rw [met_s hW l g4]
    rcases g5 with ⟨e1, e2⟩ | ⟨e1, e2⟩
    · rw [e1, e2]
    · rw [e1, e2]
      by_cases c : z = y ∨ z = x
      · rw [if_pos c, if_pos c.symm]
      · rw [if_neg c, if_neg fun q => c q.symm]
  have ma : ∀ z, (metS m ts st t).2.getD z 0 = if z = t then metN m st.1 st.2 p t else st.2.getD z 0 := fun z => met_a l g4 z
  have nx : x ∉ xs.take (j + 1) := fun q => by
    obtain ⟨k, hk⟩ := List.getElem?_of_mem q
    rw [List.getElem?_take] at hk
    split at hk
    · have := T.inj hk g3; omega
    · cases hk
  have hy : y ∈ xs.take (j + 1) := List.mem_of_getElem? (i := i) (by rw [List.getElem?_take, if_pos (by omega)]; exact g2)
  have nt : t ∉ tl.take j := fun q => by
    obtain ⟨k, hk⟩ := List.getElem?_of_mem q
    rw [List.getElem?_take] at hk
    split at hk
    · have := T.injT hk ht; omega
    · cases hk
  refine ⟨?_, fun k x' t' hk hx ht' => ?_, fun x' t' j0 hx ht' => ?_, I.off.met hW T l ht⟩
  · obtain ⟨k, hk⟩ := I.sum
    rw [take_succ g3, take_succ ht, List.map_append, List.map_append, List.sum_append, List.sum_append] at hk
    simp only [List.map_cons, List.map_nil, List.sum_cons, List.sum_nil, Int.add_zero] at hk
    obtain ⟨k2, hk2⟩ := cby_is m (st.1.getD y 0 + st.1.getD x 0 - st.2.getD t 0)
    have e1 := sum_point (s := fun x => st.1.getD x 0) (s' := fun x => (metS m ts st t).1.getD x 0) (y := y) (xs.take (j + 1)) (T.nd.sublist (List.take_sublist _ _)) hy fun z hz ne => by
      rw [ms, if_neg (by rintro (e | e); exact nx (e ▸ hz); exact ne e)]
    have e2 : (tl.take j).map (fun t' => (metS m ts st t).2.getD t' 0) = (tl.take j).map fun t' => st.2.getD t' 0 := List.map_congr_left fun z hz => by
      rw [ma, if_neg (fun (e : z = t) => nt (e ▸ hz))]
    refine ⟨k + k2, ?_⟩
    rw [e1, e2]
    rw [ms y, if_pos (.inr rfl), ev, hk2, Int.mul_add]
    omega
  · by_cases kj : k = j
    · subst kj
      obtain rfl := lookup_same hx g3
      obtain rfl := lookup_same ht' ht
      rw [ms, ma, if_pos (.inl rfl), if_pos rfl]
    · have e1 : x' ≠ x := fun e => by
        rw [e] at hx
        have := T.inj hx g3; omega
      have e2 : x' ≠ y := fun e => by
        rw [e] at hx
        have := T.inj hx g2; omega
      have e3 : t' ≠ t := fun e => by
        rw [e] at ht'
        have := T.injT ht' ht; omega
      rw [ms, ma, if_neg (by rintro (e | e); exact e1 e; exact e2 e), if_neg e3]
      exact I.eq k x' t' (by omega) hx ht'
  · subst j0
    obtain rfl : i = 0 := by omega
    obtain rfl := lookup_same hx g2
    obtain rfl := lookup_same ht' ht
    rw [ms, ma, if_pos (.inr rfl), if_pos rfl]
/-- outward, i ties are done -/
structure OutP (m : Int) (xs tl : List Nat) (b : Int) (st0 : NSt) (i : Nat) (st : NSt) : Prop where
  s : ∀ (l x : Nat), l ≤ i → xs[l]? = some x → st.1.getD x 0 = b
  a : ∀ (l t : Nat), l < i → tl[l]? = some t → st.2.getD t 0 = b
  eq : ∀ (l x t : Nat), i ≤ l → xs[l + 1]? = some x → tl[l]? = some t → st.1.getD x 0 = st.2.getD t 0
  off : Off xs tl st0 st
theorem OutP.step {st : NSt} {b : Int} (hb : cby m b = b) (hW : Wv n ts) (T : Tree ts h xs tl) (l : Ln n ts st) {j t : Nat} (ht : tl[j]? = some t) (I : OutP m xs tl b st0 j st) : OutP m xs tl b st0 (j + 1) (metS m ts st t) := by
  obtain ⟨i, x, y, p, ij, g2, g3, g4, g5⟩ := T.par j t ht
  have sy := I.s i y ij g2
  have sx := I.eq j x t (Nat.le_refl _) g3 ht
  have ev : metN m st.1 st.2 p t = b := by
    unfold metN
    rcases g5 with ⟨e1, e2⟩ | ⟨e1, e2⟩
    · rw [e1, e2, sx, sy]
      rw [show st.2.getD t 0 + b - st.2.getD t 0 = b by omega, hb]
    · rw [e1, e2, sx, sy]
      rw [show b + st.2.getD t 0 - st.2.getD t 0 = b by omega, hb]
  have ms : ∀ z, (metS m ts st t).1.getD z 0 = if z = x ∨ z = y then b else st.1.getD z 0 := fun z => by
    rw [met_s hW l g4, ev]
    rcases g5 with ⟨e1, e2⟩ | ⟨e1, e2⟩
    · rw [e1, e2]
    · rw [e1, e2]
      by_cases c : z = y ∨ z = x
      · rw [if_pos c, if_pos c.symm]
      · rw [if_neg c, if_neg fun q => c q.symm]
  have ma : ∀ z, (metS m ts st t).2.getD z 0 = if z = t then b else st.2.getD z 0 := fun z => by rw [met_a l g4, ev]
  refine ⟨fun k x' hk hx => ?_, fun k t' hk ht' => ?_, fun k x' t' hk hx ht' => ?_, I.off.met hW T l ht⟩
  · rw [ms]
    split
    · rfl
    · rename_i ne
      by_cases kj : k = j + 1
      · subst kj
        exact absurd (.inl (lookup_same hx g3)) ne
      · exact I.s k x' (by omega) hx
  · rw [ma]
    split
    · rfl
    · rename_i ne
      by_cases kj : k = j
      · subst kj
        exact absurd (lookup_same ht' ht) ne
      · exact I.a k t' (by omega) ht'
  · have e1 : x' ≠ x := fun e => by
      rw [e] at hx
      have := T.inj hx g3; omega
    have e2 : x' ≠ y := fun e => by
      rw [e] at hx
      have := T.inj hx g2; omega
    have e3 : t' ≠ t := fun e => by
      rw [e] at ht'
      have := T.injT ht' ht; omega
    rw [ms, ma, if_neg (by rintro (e | e); exact e1 e; exact e2 e), if_neg e3]
    exact I.eq k x' t' (by omega) hx ht'
/-- a sweep leaves the whole part at its book, and all else as it was -/
structure Swept (ts : Prs) (ns : List Nat) (b : Int) (st0 st : NSt) : Prop where
  s : ∀ x ∈ ns, st.1.getD x 0 = b
  a : ∀ t ∈ tIn ts ns, st.2.getD t 0 = b
  os : ∀ x, x ∉ ns → st.1.getD x 0 = st0.1.getD x 0
  oa : ∀ t, t ∉ tIn ts ns → st.2.getD t 0 = st0.2.getD t 0
theorem Tree.sweep {rk : Nat → Nat} {ns : List Nat} (hW : Wv n ts) (T : Tree ts h xs tl) (fo : Fo rk ts) (pl : PartL ts h ns) (l : Ln n ts st0) (rd : Rdc m st0) :
    Swept ts ns (bookN m st0.1 st0.2 ts ns) st0 (runS m ts st0 (SwO tl)) := by
  obtain ⟨pt, px, lt⟩ := T.ties fo pl
  have len := T.len
  have i0 : InP m xs tl ((ns.map fun x => st0.1.getD x 0).sum - ((tIn ts ns).map fun t => st0.2.getD t 0).sum) st0 tl.length st0 := by
    refine ⟨⟨0, ?_⟩, fun i x t hi _ ht => absurd (lt_at ht) (by omega), fun x t j0 _ ht => absurd (lt_at ht) (by omega), ⟨fun _ _ => rfl, fun _ _ => rfl⟩⟩
    rw [← len, List.take_length, List.take_length, perm_sumI (px.map _), perm_sumI (pt.map _)]
    omega
  have inw : ∀ d, d ≤ tl.length → InP m xs tl ((ns.map fun x => st0.1.getD x 0).sum - ((tIn ts ns).map fun t => st0.2.getD t 0).sum) st0 (tl.length - d) (runS m ts st0 (tl.drop (tl.length - d)).reverse) := fun d => by
    induction d with
    | zero =>
      intro _
      rw [Nat.sub_zero, List.drop_length]
      exact i0
    | succ d ih =>
      intro hd
      have I := ih (by omega)
      obtain ⟨t, ht⟩ := ex_at (l := tl) (i := tl.length - (d + 1)) (by omega)
      have e1 : tl.length - d = tl.length - (d + 1) + 1 := by omega
      rw [e1] at I
      have e2 : tl.drop (tl.length - (d + 1)) = t :: tl.drop (tl.length - (d + 1) + 1) := by
        have hl := lt_at ht
        rw [List.drop_eq_getElem_cons hl]
        rw [List.getElem?_eq_getElem hl] at ht
        rw [Option.some.inj ht]
      rw [e2, List.reverse_cons, runS_snoc]
      exact I.step hW T (l.run _) ht
  have I := inw tl.length (Nat.le_refl _)
  rw [Nat.sub_self, List.drop_zero] at I
  have l1 : Ln n ts (runS m ts st0 tl.reverse) := l.run _
  have r1 : Rdc m (runS m ts st0 tl.reverse) := rd.run hW _ l
  -- the house itself holds the book
  have top : (runS m ts st0 tl.reverse).1.getD h 0 = bookN m st0.1 st0.2 ts ns := by
    obtain ⟨k, hk⟩ := I.sum
    rw [take_succ T.h0] at hk
    simp only [List.take_zero, List.nil_append, List.map_cons, List.map_nil, List.sum_cons, List.sum_nil, Int.add_zero, Int.sub_zero] at hk
    have := r1 h
    rw [hk, cby_cong] at this
    rw [hk, ← this]; rfl
  have hb : cby m (bookN m st0.1 st0.2 ts ns) = bookN m st0.1 st0.2 ts ns := cby_cby _ _
  generalize bookN m st0.1 st0.2 ts ns = b at top hb ⊢
  have fin : ∀ st : NSt, OutP m xs tl b st0 tl.length st → Swept ts ns b st0 st := fun st O => by
    refine ⟨fun x hx => ?_, fun t ht => ?_, fun x hx => O.off.s x fun q => hx (px.mem_iff.mp q), fun t ht => O.off.a t fun q => ht (pt.mem_iff.mp q)⟩
    · obtain ⟨j, hj⟩ := List.getElem?_of_mem (px.mem_iff.mpr hx)
      exact O.s j x (by have := lt_at hj; omega) hj
    · obtain ⟨j, hj⟩ := List.getElem?_of_mem (pt.mem_iff.mpr ht)
      exact O.a j t (lt_at hj) hj
  unfold SwO
  rw [runS_app]
  by_cases z : tl.length = 0
  · obtain rfl : tl = [] := List.eq_nil_of_length_eq_zero z
    refine fin _ ⟨fun k x hk hx => ?_, fun k t hk => absurd hk (Nat.not_lt_zero _), fun k x t _ _ ht => (by cases ht), I.off⟩
    obtain rfl : k = 0 := by rw [List.length_nil] at hk; omega
    obtain rfl := lookup_same hx T.h0
    exact top
  · have o1 : OutP m xs tl b st0 1 (runS m ts st0 tl.reverse) := by
      obtain ⟨t0, ht0⟩ := ex_at (l := tl) (i := 0) (by omega)
      have a0 : (runS m ts st0 tl.reverse).2.getD t0 0 = b := by rw [← I.top h t0 rfl T.h0 ht0]; exact top
      refine ⟨fun k x hk hx => ?_, fun k t hk ht => ?_, fun k x t hk hx ht => I.eq k x t (Nat.zero_le _) hx ht, I.off⟩
      · by_cases k0 : k = 0
        · subst k0
          obtain rfl := lookup_same hx T.h0
          exact top
        · obtain rfl : k = 1 := by omega
          rw [I.eq 0 x t0 (Nat.le_refl _) hx ht0]; exact a0
      · obtain rfl : k = 0 := by omega
        obtain rfl := lookup_same ht ht0
        exact a0
    have outw : ∀ d, d + 1 ≤ tl.length → OutP m xs tl b st0 (d + 1) (runS m ts (runS m ts st0 tl.reverse) ((tl.take (d + 1)).drop 1)) := fun d => by
      induction d with
      | zero =>
        intro _
        have : (tl.take (0 + 1)).drop 1 = [] := by
          rw [List.drop_eq_nil_iff, List.length_take]; omega
        rw [this]
        exact o1
      | succ d ih =>
        intro hd
        have O := ih (by omega)
        obtain ⟨t, ht⟩ := ex_at (l := tl) (i := d + 1) (by omega)
        have e2 : (tl.take (d + 1 + 1)).drop 1 = (tl.take (d + 1)).drop 1 ++ [t] := by
          rw [take_succ ht, List.drop_append_of_le_length (by rw [List.length_take]; omega)]
        rw [e2, runS_snoc]
        exact O.step hb hW T (l1.run _) ht
    have O := outw (tl.length - 1) (by omega)
    rw [show tl.length - 1 + 1 = tl.length by omega, List.take_length] at O
    exact fin _ O
theorem SwO_len (tl : List Nat) : (SwO tl).length = 2 * tl.length - 1 := by
  unfold SwO
  rw [List.length_append, List.length_reverse, List.length_drop]; omega
theorem SwO_mem {tl : List Nat} {t : Nat} (h : t ∈ SwO tl) : t ∈ tl := by
  rcases List.mem_append.mp h with q | q
  · exact List.mem_reverse.mp q
  · exact List.mem_of_mem_drop q
end
theorem sum_const (b : Int) (f : Nat → Int) : ∀ L : List Nat, (∀ x ∈ L, f x = b) → (L.map f).sum = (L.length : Int) * b
  | [], _ => by rw [List.map_nil, List.sum_nil, List.length_nil]; omega
  | a :: r, h => by
    rw [List.map_cons, List.sum_cons, sum_const b f r fun x hx => h x (List.mem_cons_of_mem _ hx), h a List.mem_cons_self, List.length_cons]
    rw [Int.natCast_add, Int.add_mul]
    omega
/-- the book behind a sweep -/
theorem Swept.book {m : Int} {ts : Prs} {ns : List Nat} {b : Int} {st0 st : NSt} (w : Swept ts ns b st0 st) (hb : cby m b = b) (l : (tIn ts ns).length + 1 = ns.length) : bookN m st.1 st.2 ts ns = b := by
  unfold bookN
  rw [sum_const b _ ns w.s, sum_const b _ (tIn ts ns) w.a, ← l, Int.natCast_add, Int.add_mul]
  rw [show ((tIn ts ns).length : Int) * b + ((1 : Nat) : Int) * b - ((tIn ts ns).length : Int) * b = b by omega]
  exact hb
/-- all ties among the houses joined with h are at rest -/
def RestAt (ts : Prs) (st : NSt) (h : Nat) : Prop := ∀ (t : Nat) (p : Nat × Nat), ts[t]? = some p → Cn ts h p.1 → st.1.getD p.1 0 = st.2.getD t 0 ∧ st.1.getD p.2 0 = st.2.getD t 0
theorem Swept.rest {ts : Prs} {h : Nat} {ns : List Nat} {b : Int} {st0 st : NSt} (w : Swept ts ns b st0 st) (pl : PartL ts h ns) : RestAt ts st h := fun t p hp c => by
  have m1 := (pl.mem _).mpr c
  have m2 := (pl.mem _).mpr (c.step ⟨p, List.mem_of_getElem? hp, .inl ⟨rfl, rfl⟩⟩)
  have m3 : t ∈ tIn ts ns := tIn_mem.mpr ⟨p, hp, m1⟩
  rw [w.s _ m1, w.s _ m2, w.a _ m3]
  exact ⟨rfl, rfl⟩
theorem Swept.keep {ts : Prs} {h x : Nat} {ns : List Nat} {b : Int} {st0 st : NSt} (w : Swept ts ns b st0 st) (pl : PartL ts h ns) (r : RestAt ts st0 x) : RestAt ts st x := fun t p hp c => by
  by_cases z : Cn ts h p.1
  · exact w.rest pl t p hp z
  · have m1 : p.1 ∉ ns := fun q => z ((pl.mem _).mp q)
    have m2 : p.2 ∉ ns := fun q => z (((pl.mem _).mp q).step ⟨p, List.mem_of_getElem? hp, .inr ⟨rfl, rfl⟩⟩)
    have m3 : t ∉ tIn ts ns := fun q => by
      obtain ⟨p', hp', q'⟩ := tIn_mem.mp q
      rw [lookup_same hp hp'] at m1
      exact m1 q'
    rw [w.os _ m1, w.os _ m2, w.oa _ m3]
    exact r t p hp c
/-- at rest a meeting changes nothing -/
theorem RestAt.met {m : Int} {n : Nat} {ts : Prs} {st : NSt} (hW : Wv n ts) (l : Ln n ts st) (rd : Rdc m st) (r : ∀ h, h < n → RestAt ts st h) {t : Nat} {p : Nat × Nat} (hp : ts[t]? = some p) : metS m ts st t = st := by
  obtain ⟨h1, h2, h3⟩ := hW.at_ hp
  obtain ⟨e1, e2⟩ := r p.1 h1 t p hp .refl
  have tl := lt_at hp
  have ls := l.s
  have la := l.a
  have ev : metN m st.1 st.2 p t = st.2.getD t 0 := by
    unfold metN
    rw [e1, e2, show st.2.getD t 0 + st.2.getD t 0 - st.2.getD t 0 = st.2.getD t 0 by omega]
    have := rd p.1
    rw [e1] at this
    exact this
  unfold metS
  rw [hp]
  dsimp only
  rw [ev, set_self e1 (by omega), set_self e2 (by omega), set_self rfl (by omega)]
end K1
namespace K1
open PySem PySem.Spec PyProof.Rows L2
/-! ### pairs as data -/
def dTi (ts : Prs) : PyData := .tuple (ts.map fun p => .tuple [.int (p.1 : Int), .int (p.2 : Int)])
theorem dp_prs {K : PySem.W.Frag} {H : Hp} : ∀ {as : List Addr} {ts : Prs}, PrsA H as ts → DpAll K H (as.map V.ref) (ts.map fun p => .tuple [.int (p.1 : Int), .int (p.2 : Int)])
  | [], [], _ => .nil
  | a :: as, t :: ts, h => .cons (.tup (SqT.of (h.2 0 a t rfl rfl)) (.cons (.int _) (.cons (.int _) .nil))) (dp_prs ⟨Nat.succ.inj h.1, fun i b u e1 e2 => h.2 (i + 1) b u e1 e2⟩)
  | [], _ :: _, h => nomatch h.1
  | _ :: _, [], h => nomatch h.1
theorem TiesT.dp {K : PySem.W.Frag} {H : Hp} {ta : Addr} {ts : Prs} (h : TiesT H ta ts) : Dp K H (.ref ta) (dTi ts) := let ⟨_, h1, h2⟩ := h; .tup (SqT.of h1) (dp_prs h2)
theorem pla_prs {n : Nat} : ∀ ts : Prs, (∀ p ∈ ts, p.1 < 1000 ∧ p.2 < 1000) → PlA (ts.map fun p => PyData.tuple [.int (p.1 : Int), .int (p.2 : Int)]) 1 (ts.length * 131)
  | [], _ => PlA.nil.mono (by decide) (by decide)
  | t :: r, h => by
    have := h t List.mem_cons_self
    refine (PlA.cons (Pl.tuple (PlA.cons (Pl.int (i := (t.1 : Int)) (by omega)) (PlA.cons (Pl.int (i := (t.2 : Int)) (by omega)) PlA.nil))) (pla_prs (n := n) r fun u hu => h u (List.mem_cons_of_mem _ hu))).mono (by omega) ?_
    show (64 + 1 + (64 + 1 + 0)) + 1 + r.length * 131 ≤ (r.length + 1) * 131
    omega
theorem pl_dTi {n : Nat} {ts : Prs} (hW : Wv n ts) : Pl (dTi ts) 2 100000 := (Pl.tuple (pla_prs (n := n) ts fun p hp => by have := hW.pr p hp; have := hW.n12; omega)).mono (by decide) (by have := hW.t20; omega)
/-! ### web == web -/
structure WcI (K : PySem.W.Frag) (W : Addr) : Prop where
  y : PySem.W.kitOne K (.ref W) (.ref W) = some true
  ca : PySem.W.findIn K (.ref W) "__class__" = some (some (.builtin "object.__class__"))
  sp : PySem.W.specialIn K (.builtin "object.__class__") "__get__" = some (some (.builtin "getset_descriptor.__get__"))
  tk : PySem.W.takesIn K (.builtin "object.__class__") = some true
  mo : PySem.W.mroIn K W (.type "object") = some true
  ne : PySem.W.findIn K (.ref W) "__ne__" = some (some (.builtin "object.__ne__"))
  eq : ∃ f fd, Fun K "__eq__" "Web.__eq__" sWEq f fd ∧ PySem.W.findIn K (.ref W) "__eq__" = some (some (.ref f)) ∧ PySem.W.isFn K (.ref f) = true ∧ Binds K fd ["self", "other"] []
def spWEq (W : Addr) : Sp := fun vs H Q _ => ∃ (w w2 : Addr) (n : Nat) (ts : Prs), vs = [.ref w, .ref w2] ∧ WebAt W H w n ts ∧ WebAt W H w2 n ts ∧ Wv n ts ∧ Q (.bl true) H
/-! ### parts that are told -/
theorem asc_eq : ∀ {a b : List Nat}, a.Pairwise (· < ·) → b.Pairwise (· < ·) → (∀ x, x ∈ a ↔ x ∈ b) → a = b
  | [], [], _, _, _ => rfl
  | [], y :: b, _, _, h => nomatch (h y).mpr List.mem_cons_self
  | x :: a, [], _, _, h => nomatch (h x).mp List.mem_cons_self
  | x :: a, y :: b, ha, hb, h => by
    rw [List.pairwise_cons] at ha hb
    have e : x = y := by
      rcases List.mem_cons.mp ((h x).mp List.mem_cons_self) with e | e
      · exact e
      · rcases List.mem_cons.mp ((h y).mpr List.mem_cons_self) with e2 | e2
        · exact e2.symm
        · have := hb.1 x e
          have := ha.1 y e2
          omega
    subst e
    rw [asc_eq ha.2 hb.2 fun z => ?_]
    constructor
    · intro hz
      rcases List.mem_cons.mp ((h z).mp (List.mem_cons_of_mem _ hz)) with e | e
      · have := ha.1 z hz; omega
      · exact e
    · intro hz
      rcases List.mem_cons.mp ((h z).mpr (List.mem_cons_of_mem _ hz)) with e | e
      · have := hb.1 z hz; omega
      · exact e
theorem PartL.uniq {ts : Prs} {h h' : Nat} {a b : List Nat} (p : PartL ts h a) (q : PartL ts h' b) (c : Cn ts h h') : a = b := asc_eq p.asc q.asc fun x => by
  rw [p.mem, q.mem]
  exact ⟨fun z => c.sym.trans z, fun z => c.trans z⟩
theorem PartL.len {n : Nat} {ts : Prs} {h : Nat} {ns : List Nat} (p : PartL ts h ns) (hW : Wv n ts) (hn : h < n) : 1 ≤ ns.length ∧ ns.length ≤ n := by
  refine ⟨List.length_pos_of_mem ((p.mem h).mpr .refl), ?_⟩
  have := nodup_le n (ns.map fun (x : Nat) => (x : Int)) (by
    rw [List.nodup_iff_pairwise_ne, List.pairwise_map]
    exact p.asc.imp fun {a b} hab => by omega) fun y hy => by
    obtain ⟨x, hx, rfl⟩ := List.mem_map.mp hy
    have := p.lt hW hn hx
    omega
  rw [List.length_map] at this
  exact this
theorem vn_row (ns : List Nat) : vn ns = vrow (ns.map fun (x : Nat) => (x : Int)) := by unfold vn vrow; rw [List.map_map]; rfl
theorem kinds_vn {K : PySem.W.Frag} {H : Hp} (ns : List Nat) : Kinds K H (vn ns) := fun x hx => by
  obtain ⟨y, _, rfl⟩ := List.mem_map.mp hx
  exact ⟨_, .int _⟩
theorem dp_vn {K : PySem.W.Frag} {H : Hp} {a : Addr} {ns : List Nat} (h : H a = some (.tup (vn ns))) : Dp K H (.ref a) (.tuple (dI (ns.map fun (x : Nat) => (x : Int)))) := dp_tup (by rw [← vn_row]; exact h)
def spIsPart (W : Addr) : Sp := fun vs H Q _ => ∃ (w p : Addr) (n : Nat) (ts : Prs) (h : Nat) (ns : List Nat), vs = [.ref w, .ref p] ∧ WebAt W H w n ts ∧ Wv n ts ∧ h < n ∧ H p = some (.tup (vn ns)) ∧ PartL ts h ns ∧ ∀ H', Same H H' → Q (.bl true) H'
def spRings (W : Addr) : Sp := fun vs H Q _ => ∃ (w p : Addr) (n : Nat) (ts : Prs) (h : Nat) (ns : List Nat), vs = [.ref w, .ref p] ∧ WebAt W H w n ts ∧ Wv n ts ∧ h < n ∧ H p = some (.tup (vn ns)) ∧ PartL ts h ns ∧ ∀ H', Same H H' → Q (.int (((tIn ts ns).length : Int) - (ns.length : Int) + 1)) H'
def spOut (W : Addr) : Sp := fun vs H Q _ => ∃ (w : Addr) (n : Nat) (ts : Prs) (h : Nat), vs = [.ref w, .int (h : Int)] ∧ WebAt W H w n ts ∧ Wv n ts ∧ h < n ∧ ∀ (l : Addr) (as : List Addr) (xs tl : List Nat) H', Same H H' → H' l = some (.lst (as.map V.ref)) → as.length = tl.length → (∀ (i : Nat) a t, as[i]? = some a → tl[i]? = some t → ∃ v, H' a = some (.tup [.int (t : Int), v])) → Tree ts h xs tl → Q (.ref l) H'
/-- what is_rest tells -/
def rB (ts : Prs) (ss ar : List Int) (t : Nat) : Bool := match ts[t]? with
  | some p => decide (V.int (ss.getD p.1 0) = V.int (ss.getD p.2 0)) && decide (V.int (ss.getD p.2 0) = V.int (ar.getD t 0))
  | none => true
def restB (ts : Prs) (ss ar : List Int) : Bool := ((List.range ts.length).map (rB ts ss ar)).all id
def spAlike (W : Addr) : Sp := fun vs H Q _ => ∃ (w sa aa : Addr) (n : Nat) (ts : Prs) (ss ar : List Int), vs = [.ref w, .ref sa, .ref aa] ∧ WebAt W H w n ts ∧ Wv n ts ∧ H sa = some (.tup (vrow ss)) ∧ H aa = some (.tup (vrow ar)) ∧ ss.length = n ∧ ar.length = ts.length ∧ ∀ H', Same H H' → Q (.bl (restB ts ss ar)) H'
def spRest (N W : Addr) : Sp := fun vs H Q _ => ∃ (c w : Addr) (m : Int) (ss ar : List Int) (n : Nat) (ts : Prs), vs = [.ref c] ∧ NetAt N W H c m ss ar w n ts ∧ Wv n ts ∧ ∀ H', Same H H' → Q (.bl (restB ts ss ar)) H'
def spSweep (W : Addr) : Sp := fun vs H Q _ => ∃ (w : Addr) (n : Nat) (ts : Prs) (rk : Nat → Nat) (h : Nat), vs = [.ref w, .int (h : Int)] ∧ WebAt W H w n ts ∧ Wv n ts ∧ Fo rk ts ∧ h < n ∧ ∀ (p : Addr) (xs tl : List Nat) H', Same H H' → H' p = some (.tup (vn (SwO tl))) → Tree ts h xs tl → Q (.ref p) H'
def tTruthK (K : PySem.W.Frag) (ta : TE) : TT := fun σ H Q => ta σ H fun x H' => ∃ k, TruV K x H' k ∧ Q k H'
section
variable {X : Cx} {K : PySem.W.Frag}
theorem pt_truthK {a : Expr} {ta : TE} (h : X.K = K) (he : PE X a ta) (hw : ∀ whole, isTrue a X.env whole = (do let v ← whole; standAt a.pos; holding [v] (truthy v)) := by intro whole; rfl) : PT X a (tTruthK K ta) := by subst h; exact pt_truth he hw
end
theorem kvW_get {F : List WR} {ps : List Addr} {i : Nat} {k : Key} {v : V} (h : (kvW F ps)[i]? = some (k, v)) : ∃ x r c, F[i]? = some (x, r) ∧ ps[i]? = some c ∧ k = .inl x ∧ v = .ref c := by
  unfold kvW at h
  obtain ⟨⟨⟨x, r⟩, c⟩, h1, h2⟩ := at_map h
  rw [List.getElem?_zip_eq_some] at h1
  injection h2 with h2 h3
  exact ⟨x, r, c, h1.1, h1.2, h2, h3⟩
section
variable {P : Program} {w : World} {K : PySem.W.Frag} {mg : Str → Option Value} {base : Heap}
theorem scWE : FnScope ["self", "other"] ["self", "other"] (defScope sWEq) := ⟨rfl, rfl, rfl, by decide +kernel, rfl, by decide +kernel, by decide +kernel⟩
theorem ok_weq {f W : Addr} {fd : FuncData} (F : Fun K "__eq__" "Web.__eq__" sWEq f fd) (B : Bt mg) (T : WcT K mg W) (I : WcI K W) : FnOk P w K mg base CX0 1 f fd ["self", "other"] (spWEq W) := by
  refine F.ok scWE (fun vs H Q E h => ?_) (fun cdv A outer s H vs Q E hr h => ?_)
  · obtain ⟨w, w2, n, ts, rfl, _⟩ := h
    rfl
  · obtain ⟨w, w2, n, ts, rfl, ⟨dx, ta, h1, h2⟩, ⟨dx2, ta2, g1, g2⟩, hW, q⟩ := h
    refine ⟨_, pss_one (ps_ret (pe_and (pe_callB call_isi (by rfl) B.isinstance (by decide +kernel) (pa_cons (pv 1) (pa_cons (pe_glob (v := .ref W) (by rfl) T.g rfl) pa_nil)))
      (pe_and (pe_cmpR op_eq (pe_fld (pv 0) rfl) (pe_fld (pv 1) rfl) (nomark _)) (pe_one (pe_cmpR (op_eqD hr.units) (pe_fld (pv 0) rfl) (pe_fld (pv 1) rfl) (nomark _)))))), ?_⟩
    have pl := pl_dTi hW
    refine ⟨_, rfl, _, _, _, _, _, rfl, .own W, .base (.ins g1 T.cl I.ca I.sp I.tk I.mo), I.y, _, rfl, iteT ?_⟩
    refine ⟨_, rfl, w, W, dx, _, _, rfl, h1, T.cl, T.nH, wf_h _ _, _, rfl, w2, W, dx2, _, _, rfl, g1, T.cl, T.nH, wf_h _ _, eqVV rfl ⟨_, rfl, iteT ?_⟩⟩
    exact ⟨_, rfl, w, W, dx, _, _, rfl, h1, T.cl, T.nT, wf_t _ _, _, rfl, w2, W, dx2, _, _, rfl, g1, T.cl, T.nT, wf_t _ _, eqDP h2.dp g2.dp pl (by decide) q⟩
theorem scIP : FnScope ["web", "value"] ["web", "value"] (defScope sIsPart) := ⟨rfl, rfl, rfl, by decide +kernel, rfl, by decide +kernel, by decide +kernel⟩
theorem ok_isPart {f fS fF fP W C : Addr} {fd fdS fdF fdP : FuncData} (D : Df K mg "is_part" sIsPart ["web", "value"] f fd) (DS : Df K mg "is_sequence" sSeq ["value", "least", "most"] fS fdS) (DF : Df K mg "first_not_below" sFnb ["items", "limit"] fF fdF) (DP : Df K mg "part_of" sPart ["web", "house"] fP fdP) (B : Bt mg) (T : WcT K mg W)
    (GS : FnOk P w K mg base CX0 1 fS fdS ["value", "least", "most"] (spSeq K)) (GF : FnOk P w K mg base CX0 3 fF fdF ["items", "limit"] (spFnb K)) (GP : FnOk P w K mg base (L2.CX P w) 4 fP fdP ["web", "house"] (spPart K W C)) : FnOk P w K mg base (L2.CX P w) 5 f fd ["web", "value"] (spIsPart W) := by
  refine D.F.okX scIP (fun vs H Q E h => ?_) (fun cdv A outer s H vs Q E hr h => ?_)
  · obtain ⟨w, p, n, ts, h, ns, rfl, _⟩ := h
    rfl
  · obtain ⟨w, p, n, ts, h, ns, rfl, hw, hW, hn, hp, PL, q⟩ := h
    refine ⟨_, pss_cons (ps_if (PW.pt (pw_or (pt_not (pt_val (pc DS GS (hr.mono (by decide)) pass0 (pa_cons (pv 1) (pa_cons pe_int (pa_cons (pe_fld (pv 0) rfl) pa_nil)))))) (pw_or1 (pt_cmp (pc_notN (pc DF GF (hr.mono (by decide)) pass0 (pa_cons (pv 1) (pa_cons (pe_fld (pv 0) rfl) pa_nil)))))))) (pss_one (ps_ret pe_bl)) pss_nil)
      (pss_one (ps_ret (pe_cmpR (op_eqD hr.units) (pe_callTy call_tuple_of (by rfl) B.tuple PyProof.Rows.boot_tuple (pa_cons (pv 1) pa_nil)) (pc DP GP hr (pass1 (takes_of rfl rfl rfl rfl)) (pa_cons (pv 0) (pa_cons (pe_ix ix_tup (pv 1) pe_int (fun _ _ => rfl)) pa_nil))) (nomark _)))), ?_⟩
    obtain ⟨l1, l2⟩ := PL.len hW hn
    have n12 := hW.n12
    obtain ⟨dx, ta, h1, h2⟩ := id hw
    refine ⟨_, rfl, _, rfl, w, W, dx, _, _, rfl, h1, T.cl, T.nH, wf_h _ _, _, some (vn ns), 1, (n : Int), rfl, .tup hp, fun H1 s1 => ⟨_, rfl, ?_⟩⟩
    have sq : seqB (some (vn ns)) 1 (n : Int) = true := by
      show (decide ((1 : Int) ≤ ((vn ns).length : Int)) && decide (((vn ns).length : Int) ≤ (n : Int))) = true
      rw [vn_len, decide_eq_true (by omega), decide_eq_true (by omega)]; rfl
    rw [sq]
    refine iteF ?_
    have hw1 := hw.same s1
    refine ⟨_, rfl, _, rfl, w, W, dx, _, _, rfl, s1 _ _ h1, T.cl, T.nH, wf_h _ _, p, vn ns, (n : Int), rfl, .inr (s1 _ _ hp), kinds_vn ns, fun H2 s2 => ⟨_, rfl, ?_⟩⟩
    have s12 := s1.trans s2
    rw [fnb_all fun x hx => by
      obtain ⟨y, hy, rfl⟩ := List.mem_map.mp hx
      have := PL.lt hW hn hy
      show (decide (0 ≤ (y : Int)) && decide ((y : Int) < (n : Int))) = true
      rw [decide_eq_true (by omega), decide_eq_true (by omega)]; rfl]
    refine iteF (nxP ?_)
    have hp2 := s12 _ _ hp
    obtain ⟨x0, hx0⟩ := ex_at (l := ns) (i := 0) (by omega)
    have c0 : Cn ts h x0 := (PL.mem _).mp (List.mem_of_getElem? hx0)
    have x0n : x0 < n := PL.lt hW hn (List.mem_of_getElem? hx0)
    refine ⟨_, rfl, p, _, rfl, .inr ⟨SqT.of hp2, ?_⟩⟩
    refine ⟨_, rfl, _, rfl, p, _, 0, .int (x0 : Int), rfl, rfl, SqT.of hp2, atI_nat (j := 0) (vn_at hx0), w, .int (x0 : Int), none, n, ts, rfl, hw.same s12, hW, .int _, fun hb => ?_, fun h' eh hn' ns' p' H3 s3 hp3 PL' => ?_⟩
    · have : (decide (0 ≤ (x0 : Int)) && decide ((x0 : Int) < (n : Int))) = false := hb
      rw [decide_eq_true (by omega), decide_eq_true (by omega)] at this
      cases this
    · injection eh with eh
      obtain rfl : x0 = h' := by omega
      obtain rfl := PL.uniq PL' c0
      refine eqDP (dp_vn (s3 _ _ hp2)) (dp_vn hp3) (Pl.tuple (pla_ints _ fun i hi => ?_)) (by decide) (q _ (s12.trans s3))
      obtain ⟨y, hy, rfl⟩ := List.mem_map.mp hi
      have := PL.lt hW hn hy
      omega
theorem scRg : FnScope ["web", "part"] ["web", "part"] (defScope sRingsOf) := ⟨rfl, rfl, rfl, by decide +kernel, rfl, by decide +kernel, by decide +kernel⟩
theorem ok_rings {f fI fT W C cI : Addr} {fd fdI fdT : FuncData} {bm : List Value} {ql : Str} (D : Df K mg "rings_of" sRingsOf ["web", "part"] f fd) (DI : Df K mg "is_part" sIsPart ["web", "value"] fI fdI) (DT : Df K mg "ties_in" sTiesIn ["web", "part"] fT fdT) (B : Bt mg) (TX : LAt.Txt K mg "Refused" ql bm C cI)
    (GI : FnOk P w K mg base (L2.CX P w) 5 fI fdI ["web", "value"] (spIsPart W)) (GT : FnOk P w K mg base CX0 1 fT fdT ["web", "part"] (spTiesIn K W)) : FnOk P w K mg base (L2.CX P w) 6 f fd ["web", "part"] (spRings W) := by
  refine D.F.okX scRg (fun vs H Q E h => ?_) (fun cdv A outer s H vs Q E hr h => ?_)
  · obtain ⟨w, p, n, ts, h, ns, rfl, _⟩ := h
    rfl
  · obtain ⟨w, p, n, ts, h, ns, rfl, hw, hW, hn, hp, PL, q⟩ := h
    refine ⟨_, pss_cons (ps_if (pt_not (pt_val (pc DI GI hr passF (pa_cons (pv 0) (pa_cons (pv 1) pa_nil))))) (pss_one (ps_raise_LAt rfl TX hr (takes_of rfl rfl rfl rfl) (pa_cons (pv 1) pa_nil))) pss_nil)
      (pss_one (ps_ret (pe_op op_add (pe_op op_sub (pe_callB call_len_seq (by rfl) B.len PySem.boot_len (pa_cons (pc DT GT (hr.mono (by decide)) pass0 (pa_cons (pv 0) (pa_cons (pv 1) pa_nil))) pa_nil)) (pe_callB call_len_seq (by rfl) B.len PySem.boot_len (pa_cons (pv 1) pa_nil))) pe_int))), ?_⟩
    refine ⟨_, rfl, _, rfl, w, p, n, ts, h, ns, rfl, hw, hW, hn, hp, PL, fun H1 s1 => ⟨true, rfl, iteF (nxP ?_)⟩⟩
    refine ⟨_, rfl, _, rfl, w, p, n, ts, ns, rfl, hw.same s1, hW, .inr (s1 _ _ hp), fun l H2 s2 hl0 hl => ?_⟩
    have s12 := s1.trans s2
    refine ⟨l, _, rfl, .inl (SqL.of hl), _, rfl, p, _, rfl, .inr (SqT.of (s12 _ _ hp)), _, _, rfl, rfl, _, _, rfl, rfl, ?_⟩
    rw [vn_len, vn_len]
    exact q _ s12
abbrev nOu : List Str := ["web", "house", "other", "way"]
theorem scOu : FnScope nOu ["web", "house"] (defScope sOutward) := ⟨rfl, rfl, rfl, by decide +kernel, rfl, by decide +kernel, by decide +kernel⟩
theorem ok_out {f fF W : Addr} {fd fdF : FuncData} (D : Df K mg "outward" sOutward ["web", "house"] f fd) (DF : Df K mg "first_ways" sFWays ["web", "house", "barred"] fF fdF) (GF : FnOk P w K mg base CX0 2 fF fdF ["web", "house", "barred"] (spFWays W)) : FnOk P w K mg base CX0 3 f fd ["web", "house"] (spOut W) := by
  refine D.F.ok scOu (fun vs H Q E h => ?_) (fun cdv A outer s H vs Q E hr h => ?_)
  · obtain ⟨w, n, ts, h, rfl, _⟩ := h
    rfl
  · obtain ⟨w, n, ts, h, rfl, hw, hW, hn, q⟩ := h
    refine ⟨_, pss_one (ps_ret (pe_lc (own := [("other", 2), ("way", 3)]) (g := gTup K 2 (gCons (gName 2) (gCons (gName 3) gNil))) rfl scOu.nd (pi_itemsK (pc DF GF hr pass0 (pa_cons (pv 0) (pa_cons (pv 1) (pa_cons pe_non pa_nil))))) (blkOk_by (N := nOu) (sc := defScope sOutward) (by decide +kernel))
      (fun _ _ _ _ _ => pg_tup rfl (pgs_cons (pg_name (i := 2) scOu.nd rfl (.inl rfl)) (pgs_cons (pg_name (i := 3) scOu.nd rfl (.inl rfl)) pgs_nil)))
      (fun _ _ _ _ _ => pts_one (pt_truthK (K := K) rfl (pv 3)))
      (fun _ _ _ _ _ => pe_tup (pa_cons (pe_ix (ixTK (K := K) rfl) (pv 3) (pe_un un_neg pe_int) (fun _ _ => rfl)) (pa_cons (pv 2) pa_nil))))), ?_⟩
    have hh : 0 ≤ (h : Int) ∧ (h : Int) < (n : Int) := by omega
    have n12 := hW.n12
    refine ⟨_, rfl, _, rfl, w, n, ts, h, none, rfl, hw, hW, hn, fun d q0 F ps H1 s1 hd0 b fs fF => ⟨d, _, rfl, b.hd, fun o D0 hD0 => ?_⟩⟩
    have tr := fs.tree hW hn
    have s2 : Same H (upd H1 d (.frz o (.dK (kvW F ps)))) := fun c u e => by
      rw [upd_ne (ne_of_none e hd0)]
      exact s1 _ _ e
    have hf2 : (upd H1 d (.frz o (.dK (kvW F ps)))) d = some (.frz o (.dK (kvW F ps))) := upd_same
    have it2 : ∀ (i : Nat) c x r, ps[i]? = some c → F[i]? = some (x, r) → (upd H1 d (.frz o (.dK (kvW F ps)))) c = some (.tup (vrow r)) := fun i c x r e1 e2 => by
      have := b.it i c x r e1 e2
      rw [upd_ne (ne_of this b.hd (by intro z; cases z))]
      exact this
    generalize upd H1 d (.frz o (.dK (kvW F ps))) = H2 at s2 hf2 it2 hD0 ⊢
    have ltl : (lastT F).length = F.length - 1 := by unfold lastT; rw [List.length_map, List.length_drop]
    have lF : 0 < F.length := lt_at fs.h0
    refine lc_itemsK (fun i H3 => ∃ as : List Addr, Same H2 H3 ∧ H3 D0 = some (.lst (as.map V.ref)) ∧ as.length = i - 1 ∧ ∀ (k : Nat) a t, as[k]? = some a → (lastT F)[k]? = some t → ∃ v, H3 a = some (.tup [.int (t : Int), v]))
      ⟨[], same_new hD0, upd_same, rfl, fun k a t e => by cases e⟩ (fun i H3 _ ⟨_, s3, _⟩ => s3 _ _ hf2) ?_ ?_
    · rintro i k v T H3 hkv hT ⟨as, s3, hD3, las, has⟩
      obtain ⟨x, r, c, hF, hc, rfl, rfl⟩ := kvW_get hkv
      have sT := same_new (o := HO.tup [kV (.inl x), V.ref c]) hT
      have hcr := sT _ _ (s3 _ _ (it2 i c x r hc hF))
      have s3' := s3.trans sT
      have hD3' := sT _ _ hD3
      have has' : ∀ (k : Nat) a t, as[k]? = some a → (lastT F)[k]? = some t → ∃ v, (upd H3 T (.tup [kV (.inl x), .ref c])) a = some (.tup [.int (t : Int), v]) := fun k a t e1 e2 => let ⟨v, e3⟩ := has k a t e1 e2; ⟨v, sT _ _ e3⟩
      have hT' : (upd H3 T (.tup [kV (.inl x), .ref c])) T = some (.tup [.int x, .ref c]) := upd_same
      generalize upd H3 T (.tup [kV (.inl x), .ref c]) = H4 at hcr s3' hD3' has' hT' ⊢
      refine ⟨T, _, rfl, SqT.of hT', rfl, _, _, rfl, _, _, rfl, rfl, rfl, ?_⟩
      by_cases i0 : i = 0
      · subst i0
        have e0 := lookup_same hF fs.h0
        injection e0 with _ e0
        subst e0
        refine ⟨_, rfl, false, .inr (.inl ⟨_, SqT.of hcr, rfl⟩), iteF ?_⟩
        exact ⟨as, s3', hD3', las, has'⟩
      · obtain ⟨p, y, qq, t, pj, hp, rfl, t0, t1, ea, ne⟩ := fs.par hF (by omega)
        have ev : vrow (qq ++ [t]) = vrow qq ++ [V.int t] := by rw [vrow, vrow, List.map_append]; rfl
        refine ⟨_, rfl, true, .inr (.inl ⟨_, SqT.of hcr, by rw [ev]; cases vrow qq <;> rfl⟩), iteT ?_⟩
        have hli : i < F.length := lt_at hF
        refine ⟨_, rfl, 1, rfl, c, _, -1, .int t, rfl, rfl, SqT.of hcr, (by rw [ev]; exact atI_last _ _), _, rfl, (by show 2 ≤ sizeLine; decide), fun R hR => ?_⟩
        have sR := same_new (o := HO.tup [V.int t, V.int x]) hR
        refine ⟨as.map V.ref, sR _ _ hD3', szl (by rw [List.length_map]; omega), as ++ [R], fun a u e => ?_, ?_, ?_, ?_⟩
        · rw [upd_ne (ne_of_none e hD0)]
          exact sR _ _ (s3' _ _ e)
        · rw [upd_same, List.map_append]; rfl
        · rw [List.length_append, las]
          simp only [List.length_cons, List.length_nil]; omega
        · intro k a t' e1 e2
          have nD : ∀ {a : Addr} {zs : List V}, (upd H4 R (.tup [V.int t, V.int x])) a = some (.tup zs) → a ≠ D0 := fun e z => by
            rw [z, sR _ _ hD3'] at e
            cases e
          rcases snoc_at e1 with e1 | ⟨ek, rfl⟩
          · obtain ⟨v, e3⟩ := has' k a t' e1 e2
            exact ⟨v, by rw [upd_ne (nD (sR _ _ e3))]; exact sR _ _ e3⟩
          · have hk : k + 1 = i := by omega
            obtain ⟨⟨x', r'⟩, hj, et⟩ := at_map (show ((F.drop 1).map fun e => (e.2.getLast?.getD 0).toNat)[k]? = some t' from e2)
            rw [List.getElem?_drop, Nat.add_comm, hk, hF] at hj
            have z := Option.some.inj hj
            injection z with _ z
            rw [← z] at et
            have et' : t' = t.toNat := by
              rw [et]
              show ((qq ++ [t]).getLast?.getD 0).toNat = _
              rw [List.getLast?_concat]; rfl
            refine ⟨.int x, ?_⟩
            rw [upd_ne (nD (upd_same : (upd H4 R (.tup [V.int t, V.int x])) R = _)), upd_same]
            rw [show ((t' : Nat) : Int) = t by omega]
    · rintro H3 ⟨as, s3, hD3, las, has⟩
      refine q D0 as _ (lastT F) H3 (s2.trans s3) hD3 ?_ has tr
      rw [las, kvW_len b.ln, ltl]
abbrev nAk : List Str := ["web", "houses", "ties", "tie", "one", "other"]
theorem scAk : FnScope nAk ["web", "houses", "ties"] (defScope sIsAlike) := ⟨rfl, rfl, rfl, by decide +kernel, rfl, by decide +kernel, by decide +kernel⟩
theorem opEqI {X : Cx} : OpR X (compareOp .Eq) (rEq) := op_eq
theorem ok_alike {f W : Addr} {fd : FuncData} (D : Df K mg "is_alike" sIsAlike ["web", "houses", "ties"] f fd) (B : Bt mg) (T : WcT K mg W) : FnOk P w K mg base CX0 1 f fd ["web", "houses", "ties"] (spAlike W) := by
  refine D.F.ok scAk (fun vs H Q E h => ?_) (fun cdv A outer s H vs Q E hr h => ?_)
  · obtain ⟨w, sa, aa, n, ts, ss, ar, rfl, _⟩ := h
    rfl
  · obtain ⟨w, sa, aa, n, ts, ss, ar, rfl, ⟨dx, ta, h1, tas, g1, g2⟩, hW, hs, ha, ls, la, q⟩ := h
    refine ⟨_, pss_one (ps_ret (pe_callB (cr_all rfl) (by rfl) B.all (by decide +kernel) (pa_cons (pe_lc (own := [("tie", 3), ("one", 4), ("other", 5)]) (g := gTup K 2 (gCons (gName 3) (gCons (gTup K 2 (gCons (gName 4) (gCons (gName 5) gNil))) gNil))) (tt := tYes) rfl scAk.nd (pi_enumA (by rfl) B.enumerate (pa_cons (pe_fld (pv 0) rfl) pa_nil)) (blkOk_by (N := nAk) (sc := defScope sIsAlike) (by decide +kernel))
      (fun _ _ _ _ _ => pg_tup rfl (pgs_cons (pg_name (i := 3) scAk.nd rfl (.inl rfl)) (pgs_cons (pg_tup rfl (pgs_cons (pg_name (i := 4) scAk.nd rfl (.inl rfl)) (pgs_cons (pg_name (i := 5) scAk.nd rfl (.inl rfl)) pgs_nil))) pgs_nil)))
      (fun _ _ _ _ _ => pts_nil)
      (fun _ _ _ _ _ => pe_chain op_eq op_eq (pe_ix (ixTK (K := K) rfl) (pv 1) (pv 4) (fun _ _ => rfl)) (pe_ix (ixTK (K := K) rfl) (pv 1) (pv 5) (fun _ _ => rfl)) (pe_ix (ixTK (K := K) rfl) (pv 2) (pv 3) (fun _ _ => rfl)))) pa_nil))), ?_⟩
    have n12 := hW.n12
    have t20 := hW.t20
    refine ⟨_, rfl, w, W, dx, _, _, rfl, h1, T.cl, T.nT, wf_t _ _, ta, rfl, .inr ⟨_, SqT.of g1, fun D0 hD0 => lc_enumT (K := K) (a := ta) (xs := tas.map V.ref)
      (fun i H2 => Same H H2 ∧ H2 D0 = some (.lst (((List.range i).map (rB ts ss ar)).map V.bl))) ⟨same_new hD0, by rw [upd_same]; rfl⟩ (fun i H2 _ ⟨s2, _⟩ => SqT.of (s2 _ _ g1)) ?_ ?_⟩⟩
    · rintro i x T0 H2 hx hT0 ⟨s2, hD2⟩
      obtain ⟨a, t, rfl, ha', ht, hat⟩ := g2.get' hx
      obtain ⟨p1, p2, p3⟩ := hW.at_ ht
      have sT := same_new (o := HO.tup [.int (i : Nat), .ref a]) hT0
      have hat2 : (upd H2 T0 (.tup [.int (i : Nat), .ref a])) a = some (.tup [.int (t.1 : Int), .int (t.2 : Int)]) := sT _ _ (s2 _ _ hat)
      have hD2' := sT _ _ hD2
      have s2' := s2.trans sT
      have hT2 : (upd H2 T0 (.tup [.int (i : Nat), .ref a])) T0 = some (.tup [.int (i : Nat), .ref a]) := upd_same
      generalize upd H2 T0 (.tup [.int (i : Nat), .ref a]) = H3 at hat2 hD2' s2' hT2 ⊢
      have it := lt_at ht
      refine ⟨T0, _, rfl, SqT.of hT2, rfl, _, _, rfl, _, _, rfl, ⟨a, _, rfl, SqT.of hat2, rfl, _, _, rfl, _, _, rfl, rfl, rfl, rfl, ?_⟩⟩
      have hs3 := s2' _ _ hs
      have ha3 := s2' _ _ ha
      refine ⟨_, rfl, _, rfl, sa, _, (t.1 : Int), _, rfl, rfl, SqT.of hs3, at_i (vrow_get (by omega)), _, rfl, _, rfl, sa, _, (t.2 : Int), _, rfl, rfl, SqT.of hs3, at_i (vrow_get (by omega)), rfl, _, rfl, ?_⟩
      have eR : rB ts ss ar i = (decide (V.int (ss.getD t.1 0) = V.int (ss.getD t.2 0)) && decide (V.int (ss.getD t.2 0) = V.int (ar.getD i 0))) := by unfold rB; rw [ht]
      have fin : ∀ b : Bool, b = rB ts ss ar i → ∃ acc, H3 D0 = some (.lst acc) ∧ acc.length < sizeLine ∧ Same H (upd H3 D0 (.lst (acc ++ [V.bl b]))) ∧ (upd H3 D0 (.lst (acc ++ [V.bl b]))) D0 = some (.lst (((List.range (i + 1)).map (rB ts ss ar)).map V.bl)) := fun b eb => by
        refine ⟨_, hD2', szl (by rw [List.length_map, List.length_map, List.length_range]; omega), fun c o eo => ?_, ?_⟩
        · rw [upd_ne (ne_of_none eo hD0)]
          exact s2' _ _ eo
        · rw [upd_same, List.range_succ, List.map_append, List.map_append, eb]; rfl
      by_cases e : V.int (ss.getD t.1 0) = V.int (ss.getD t.2 0)
      · rw [decide_eq_true e]
        refine iteT ⟨_, rfl, _, rfl, aa, _, (i : Int), _, rfl, rfl, SqT.of ha3, at_i (vrow_get (by omega)), rfl, fin _ ?_⟩
        rw [eR, decide_eq_true e, Bool.true_and]
      · rw [decide_eq_false e]
        refine iteF (fin _ ?_)
        rw [eR, decide_eq_false e, Bool.false_and]
    · rintro H2 ⟨s2, hD2⟩
      rw [List.length_map, g2.1] at hD2
      exact ⟨D0, _, rfl, SqL.of hD2, q H2 s2⟩
theorem scIR : FnScope ["net"] ["net"] (defScope sIsRest) := ⟨rfl, rfl, rfl, by decide +kernel, rfl, by decide +kernel, by decide +kernel⟩
theorem ok_rest {f fA W N : Addr} {fd fdA : FuncData} (D : Df K mg "is_rest" sIsRest ["net"] f fd) (DA : Df K mg "is_alike" sIsAlike ["web", "houses", "ties"] fA fdA) (T : NcT K mg N) (GA : FnOk P w K mg base CX0 1 fA fdA ["web", "houses", "ties"] (spAlike W)) : FnOk P w K mg base CX0 2 f fd ["net"] (spRest N W) := by
  refine D.F.ok scIR (fun vs H Q E h => ?_) (fun cdv A outer s H vs Q E hr h => ?_)
  · obtain ⟨c, w, m, ss, ar, n, ts, rfl, _⟩ := h
    rfl
  · obtain ⟨c, w, m, ss, ar, n, ts, rfl, hN, hW, q⟩ := h
    refine ⟨_, pss_one (ps_ret (pc DA GA hr pass0 (pa_cons (pe_fld (pv 0) rfl) (pa_cons (pe_fld (pv 0) rfl) (pa_cons (pe_fld (pv 0) rfl) pa_nil))))), ?_⟩
    obtain ⟨dx, sa, aa, h1, h2, h3⟩ := hN.ob
    exact ⟨_, rfl, c, N, dx, _, _, rfl, h1, T.cl, T.nW, nf_w _ _ _ _, _, rfl, c, N, dx, _, _, rfl, h1, T.cl, T.nS, nf_s _ _ _ _, _, rfl, c, N, dx, _, _, rfl, h1, T.cl, T.nA, nf_a _ _ _ _, w, sa, aa, n, ts, ss, ar, rfl, hN.wb, hW, h2, h3, hN.ls, hN.la, q⟩
abbrev nSw : List Str := ["web", "house", "ties", "tie", "_"]
theorem scSw : FnScope nSw ["web", "house"] (defScope sSweep) := ⟨rfl, rfl, rfl, by decide +kernel, rfl, by decide +kernel, by decide +kernel⟩
theorem ok_sweep {f fR fP fO W C CR cI : Addr} {fd fdR fdP fdO : FuncData} {bm : List Value} {ql : Str} (D : Df K mg "sweep" sSweep ["web", "house"] f fd) (DR : Df K mg "rings_of" sRingsOf ["web", "part"] fR fdR) (DP : Df K mg "part_of" sPart ["web", "house"] fP fdP) (DO : Df K mg "outward" sOutward ["web", "house"] fO fdO) (B : Bt mg) (TX : LAt.Txt K mg "Refused" ql bm CR cI)
    (GR : FnOk P w K mg base (L2.CX P w) 6 fR fdR ["web", "part"] (spRings W)) (GP : FnOk P w K mg base (L2.CX P w) 4 fP fdP ["web", "house"] (spPart K W C)) (GO : FnOk P w K mg base CX0 3 fO fdO ["web", "house"] (spOut W)) : FnOk P w K mg base (L2.CX P w) 7 f fd ["web", "house"] (spSweep W) := by
  refine D.F.okX scSw (fun vs H Q E h => ?_) (fun cdv A outer s H vs Q E hr h => ?_)
  · obtain ⟨w, n, ts, rk, h, rfl, _⟩ := h
    rfl
  · obtain ⟨w, n, ts, rk, h, rfl, hw, hW, fo, hn, q⟩ := h
    refine ⟨_, pss_cons (ps_if (pt_cmpR op_gt (pc DR GR hr passF (pa_cons (pv 0) (pa_cons (pc DP GP (hr.mono (by decide)) (pass1 (takes_of rfl rfl rfl rfl)) (pa_cons (pv 0) (pa_cons (pv 1) pa_nil))) pa_nil))) pe_int (nomark _)) (pss_one (ps_raise_LAt rfl TX hr (takes_of rfl rfl rfl rfl) (pa_cons (pv 0) pa_nil))) pss_nil)
      (pss_cons (ps_setLc (i := 2) (own := [("tie", 3), ("_", 4)]) (g := gTup K 2 (gCons (gName 3) (gCons (gName 4) gNil))) (tt := tYes) rfl scSw.nd rfl rfl (sw_true rfl rfl rfl rfl) (pi_list (pc DO GO (hr.mono (by decide)) pass0 (pa_cons (pv 0) (pa_cons (pv 1) pa_nil)))) (blkOk_by (N := nSw) (sc := defScope sSweep) (by decide +kernel))
        (fun _ _ _ _ _ => pg_tup rfl (pgs_cons (pg_name (i := 3) scSw.nd rfl (.inl rfl)) (pgs_cons (pg_name (i := 4) scSw.nd rfl (.inl rfl)) pgs_nil))) (fun _ _ _ _ _ => pts_nil) (fun _ _ _ _ _ => pv 3))
      (pss_one (ps_ret (pe_callTy call_tuple_of (by rfl) B.tuple PyProof.Rows.boot_tuple (pa_cons (pe_op op_cat (pe_revL (pv 2)) (pe_slice sl_list (pv 2) (po_some pe_int) po_none)) pa_nil))))), ?_⟩
    have n12 := hW.n12
    refine ⟨_, rfl, _, rfl, _, rfl, w, .int (h : Int), none, n, ts, rfl, hw, hW, .int _, fun hb => ?_, fun h' eh hn' ns p H1 s1 hp PL => ?_⟩
    · have : (decide (0 ≤ (h : Int)) && decide ((h : Int) < (n : Int))) = false := hb
      rw [decide_eq_true (by omega), decide_eq_true (by omega)] at this
      cases this
    · injection eh with eh
      obtain rfl : h = h' := by omega
      refine ⟨w, p, n, ts, h, ns, rfl, hw.same s1, hW, hn, hp, PL, fun H2 s2 => ⟨_, _, rfl, rfl, _, rfl, iteN (decide_eq_false ?_) (nxP ?_)⟩⟩
      · have := fo.few PL.mem
        omega
      · have s12 := s1.trans s2
        refine ⟨_, rfl, _, rfl, w, n, ts, h, rfl, hw.same s12, hW, hn, fun l as xs tl H3 s3 hl hlen has T => ⟨l, rfl, ⟨_, SqL.of hl⟩, fun D0 hD0 => lc_list (K := K) (a := l) (xs := as.map V.ref) (fun i H4 => Same H3 H4 ∧ H4 D0 = some (.lst (vn (tl.take i)))) ⟨same_new hD0, by rw [upd_same]; rfl⟩ (fun i H4 _ ⟨s4, _⟩ => SqL.of (s4 _ _ hl)) ?_ ?_⟩⟩
        · rintro i x H4 hx ⟨s4, hD⟩
          obtain ⟨a, ha, rfl⟩ := at_map hx
          obtain ⟨t, ht⟩ := ex_at (l := tl) (i := i) (by rw [← hlen]; exact lt_at ha)
          obtain ⟨v, hv⟩ := has i a t ha ht
          have t20 : tl.length ≤ n := by
            have h1 := T.len
            have h2 := nodup_sub xs (List.range n) T.nd fun x hx => List.mem_range.mpr (((T.mem x).mp hx).lt hW hn)
            rw [List.length_range] at h2
            omega
          refine ⟨a, _, rfl, SqT.of (s4 _ _ hv), rfl, _, _, rfl, _, _, rfl, rfl, rfl, _, rfl, _, hD, szl (by rw [vn_len, List.length_take]; omega), fun c o e => ?_, ?_⟩
          · rw [upd_ne (ne_of_none e hD0)]
            exact s4 _ _ e
          · rw [upd_same, take_succ ht, vn, vn, List.map_append]; rfl
        · rintro H4 ⟨s4, hD⟩
          rw [List.take_of_length_le (by rw [List.length_map, hlen]; exact Nat.le_refl _)] at hD
          refine gn ?_
          dsimp only [List.set]
          have t20 : tl.length ≤ n := by
            have h1 := T.len
            have h2 := nodup_sub xs (List.range n) T.nd fun x hx => List.mem_range.mpr (((T.mem x).mp hx).lt hW hn)
            rw [List.length_range] at h2
            omega
          refine ⟨_, rfl, D0, _, rfl, SqL.of hD, fun r1 hr1 => ?_⟩
          have u1 := same_new (o := HO.lst (vn tl).reverse) hr1
          refine ⟨_, rfl, _, rfl, noP ⟨D0, _, rfl, SqL.of (u1 _ _ hD), fun r2 hr2 => ?_⟩⟩
          have u2 := u1.trans (same_new (o := HO.lst (cutV (vn tl) (some 1) none)) hr2)
          have er : (vn tl).reverse = vn tl.reverse := by unfold vn; rw [List.map_reverse]
          have ec : cutV (vn tl) (some 1) none = vn (tl.drop 1) := by
            by_cases z : 1 ≤ tl.length
            · have e9 := cut_from (xs := vn tl) (k := 1) (by rw [vn_len]; exact z)
              refine Eq.trans e9 ?_
              unfold vn
              rw [List.map_drop]
            · obtain rfl : tl = [] := List.eq_nil_of_length_eq_zero (by omega)
              rfl
          refine ⟨r1, r2, (vn tl).reverse, _, rfl, rfl, same_new hr2 _ _ upd_same, upd_same, sz (by rw [er, ec, vn_len, vn_len, List.length_reverse, List.length_drop]; omega), fun r3 hr3 => ?_⟩
          have u3 := u2.trans (same_new (o := HO.lst ((vn tl).reverse ++ cutV (vn tl) (some 1) none)) hr3)
          refine ⟨r3, _, rfl, .inl ⟨SqL.of upd_same, fun r4 hr4 => ?_⟩⟩
          refine q r4 xs tl _ (((s12.trans s3).trans s4).trans (u3.trans (same_new hr4))) ?_ T
          rw [upd_same, er, ec, SwO, vn, vn, vn, List.map_append]
end
end K1
namespace K1
open PySem PySem.Spec PyProof.Rows L2
structure FunC (K : PySem.W.Frag) (x qual : Str) (st : Stmt) (f : Addr) (fd : FuncData) (cdv : Value) : Prop where
  ex : ∃ (oc : Value) (od : Option Addr) (kV doc pm : Value) (an : Option Addr) (ct : Value) (osl : Array (Option Value)),
    fd = PySem.W.fnOf x qual (defArgs st) (defBody st) (defScope st) .none kV doc pm an cdv ct ∧ K.lookup f = some ⟨oc, od, .func fd, osl⟩ ∧ PySem.W.codeIn K cdv qual = true
  kp : PySem.W.keepIn K (.ref f) = true
/-! ### defs told where nothing is being shown -/
section
variable {P : Program} {w : World} {K : PySem.W.Frag} {mg : Str → Option Value} {base : Heap}
theorem okG {x qual : Str} {st : Stmt} {f : Addr} {fd : FuncData} {N ps : List Str} {k : Nat} {sp : Sp} (F : Fun K x qual st f fd) (S : FnScope N ps (defScope st)) (len : ∀ vs H Q E, sp vs H Q E → vs.length = ps.length)
    (hbody : ∀ (cdv : Value) (A : Around) (outer : List Env) (s : Shared) (H : Hp) (vs : List V) (Q : VK) (E : XK), Room k (A.deeper (envOfC qual (defScope st) s.heap.objs.size f cdv)) → (A.deeper (envOfC qual (defScope st) s.heap.objs.size f cdv)).guards = some [] → sp vs H Q E →
      ∃ t, PSs (cxOf CX0 P w K mg base N qual (defScope st) f cdv A outer s H E).nox (defBody st) t ∧ t { nx := fun _ H' => Q .non H', rt := Q } (start N vs) H) : FnG P w K mg base (k + 1) f fd ps sp := by
  obtain ⟨oc, od, kV, doc, pm, an, cdv, ct, osl, rfl, lk, hcd⟩ := F.ex
  refine ⟨len, fun A outer s H args us vs Q E hr hgd e0 hb r hsp => ?_⟩
  refine LamX.run_ofS lk hcd S hr e0 hb r (len _ _ _ _ hsp) fun hr' => ?_
  obtain ⟨t, h, q⟩ := hbody cdv A outer s H vs Q E hr' hgd hsp
  exact ⟨t, h.nox, q⟩
end
section
variable {X : Cx} {k : Nat} {f : Addr} {fd : FuncData} {ps ks : List Str} {sp : Sp} {x : Str} {st : Stmt} {p pos : Pos} {e : Expr} {es : List Expr} {kws : List Keyword} {t tk : TA}
theorem pe_callG (D : Df X.K X.mg x st ps f fd) (G : FnG X.prog X.w X.K X.mg X.base k f fd ps sp) (hr : Room k X.A) (hgd : X.A.guards = some []) (ha : PA X (e :: es) t) (hg : Gl X x := by rfl)
    (hdb : (x == ("__debug__" : Str)) = false := by decide) (he : starEach (e :: es) X.env = (false, eval e X.env) :: starEach es X.env := by rfl) (hpl : (backTo pos (starEach es X.env)).any (·.1) = false := by rfl) :
    PE X (.Call (.Name x p) (e :: es) [] pos) (fun σ H Q => t σ H fun vs H1 => sp vs H1 Q fun _ _ _ => False) := by
  refine ⟨fun pins s σ H Q I h => ?_⟩
  refine wpAny_Call_Name_kw (ld_glob I hg D.g ?_ hdb)
  refine PySem.W.callWith_K (h₀ := X.base) I.ok.mod.kin D.F.kp (thn (ha.run pos pins s σ H _ I h) fun us s1 ⟨vs, H1, I1, r, q⟩ => ⟨I1.kIn, ?_⟩) he hpl
  have hl : us.length = ps.length := by rw [← r.length]; exact G.len _ _ _ _ q
  refine wpAny_call (codeAny_mono (G.run X.A X.stack s1 H1 ⟨us, []⟩ us vs Q (fun _ _ _ => False) hr hgd I1.env0 (by
    have z := D.b s1 us I1.kIn (by rw [List.append_nil]; exact hl)
    rw [List.append_nil] at z
    exact z) r q) fun r s' hq => ?_)
  cases r with
  | error e => exact (show False from hq).elim
  | ok fl =>
    cases fl with
    | ret u => exact I1.after hq
    | next => exact False.elim hq
    | brk => exact False.elim hq
    | cont => exact False.elim hq
end
theorem mkSame {G : Hp} {c dx : Addr} {o1 o2 : HO} (hc : G c = none) (hd : G dx = none) (ne : dx ≠ c) : Same G (upd (upd G dx o1) c o2) := (same_new hd).trans (same_new (by rw [upd_ne ne.symm]; exact hc))
/-! ### what stays behind a step of the law: all but the source, the things at xs, and the tables of code -/
theorem BoxO.ext {b : Addr} {H1 H2 : Hp} (h : BoxO H1 b) (e : LamX.ExtN H1 H2) : BoxO H2 b := let ⟨x, y, q⟩ := h; ⟨x, y, e _ _ q (fun ps z => by cases z)⟩
theorem BoxO.nn {b p : Addr} {H : Hp} (h : BoxO H b) (hp : H p = none) : p ≠ b := (Bx.refl h).ne hp
theorem tabs_bx {b : Addr} {T : List (Addr × Str)} {H1 H2 : Hp} (t : LamX.Tabs T H1) (hb : BoxO H1 b) (x : Bx b H1 H2) : LamX.Tabs T H2 := fun p hp => by
  obtain ⟨ps, h1, h2, h3⟩ := t p hp
  refine ⟨ps, x.2 _ _ h1 (hb.ne h1 fun xs => by intro z; cases z), h2, fun pos cv hc => ?_⟩
  obtain ⟨c, e1, e2⟩ := h3 pos cv hc
  exact ⟨c, e1, x.2 _ _ e2 (hb.ne e2 fun xs => by intro z; unfold LamX.CodeO at z; cases z)⟩
theorem tabs_but {c C dx : Addr} {fs : List (Str × V)} {T : List (Addr × Str)} {H1 H2 : Hp} (t : LamX.Tabs T H1) (hc : H1 c = some (.ins C dx fs)) (x : But c H1 H2) : LamX.Tabs T H2 := fun p hp => by
  obtain ⟨ps, h1, h2, h3⟩ := t p hp
  refine ⟨ps, x _ _ h1 (ne_of h1 hc (by intro z; cases z)), h2, fun pos cv hcv => ?_⟩
  obtain ⟨d, e1, e2⟩ := h3 pos cv hcv
  exact ⟨d, e1, x _ _ e2 (ne_of e2 hc (by intro z; unfold LamX.CodeO at z; cases z))⟩
structure Lw (b : Addr) (T : List (Addr × Str)) (xs : List Addr) (H H' : Hp) : Prop where
  bx : BoxO H' b
  tb : LamX.Tabs T H'
  ks : Ks (b :: xs) H H'
section
variable {b : Addr} {T : List (Addr × Str)} {xs : List Addr} {H H1 H2 : Hp}
theorem Lw.refl (hb : BoxO H b) (t : LamX.Tabs T H) : Lw b T xs H H := ⟨hb, t, Ks.refl⟩
theorem Lw.trans (a : Lw b T xs H H1) (c : Lw b T xs H1 H2) : Lw b T xs H H2 := ⟨c.bx, c.tb, a.ks.trans c.ks⟩
theorem Lw.same (a : Lw b T xs H H1) (s : Same H1 H2) : Lw b T xs H H2 := ⟨a.bx.same s, a.tb.ext s, a.ks.same s⟩
theorem Lw.new {p : Addr} {o : HO} (a : Lw b T xs H H1) (hp : H1 p = none) : Lw b T xs H (upd H1 p o) := a.same (same_new hp)
theorem ks_bx (x : Bx b H1 H2) : Ks (b :: xs) H1 H2 := fun c o e n _ => x.2 c o e fun z => n (by rw [z]; exact List.mem_cons_self)
theorem Lw.box (a : Lw b T xs H H1) (x : Bx b H1 H2) : Lw b T xs H H2 := ⟨x.1, tabs_bx a.tb a.bx x, a.ks.trans (ks_bx x)⟩
theorem Lw.ext (a : Lw b T xs H H1) (e : LamX.ExtN H1 H2) (t : LamX.Tabs T H2) : Lw b T xs H H2 := ⟨a.bx.ext e, t, a.ks.trans fun c o q _ n => e _ _ q n⟩
theorem Lw.but {c C dx : Addr} {fs : List (Str × V)} (a : Lw b T xs H H1) (hc : H1 c = some (.ins C dx fs)) (m : c ∈ xs) (x : But c H1 H2) : Lw b T xs H H2 := by
  obtain ⟨u, v, hb⟩ := a.bx
  exact ⟨⟨u, v, x _ _ hb (ne_of hb hc (by intro z; cases z))⟩, tabs_but a.tb hc x, a.ks.trans fun d o e n _ => x d o e fun z => n (by rw [z]; exact List.mem_cons_of_mem _ m)⟩
theorem Lw.nn {p : Addr} (a : Lw b T xs H H1) (hp : H1 p = none) : p ≠ b := a.bx.nn hp
theorem But.fresh {c : Addr} (x : But c H H1) (hc : H c = none) : Same H H1 := fun d u e => x d u e (ne_of_none e hc)
end
/-! ### plain data with great numbers -/
structure PB (d : PyData) (n w : Nat) : Prop where
  lay : d.canLay0 = true
  sh : d.showable = true
  nd : d.hasDict = false
  dp : d.depth ≤ n
  wt : d.weight ≤ w
  sr : d.leavesShort 220 = true
structure PBA (ds : List PyData) (n w : Nat) : Prop where
  lay : PyData.canLayAll0 ds = true
  sh : PyData.showableAll ds = true
  nd : PyData.hasDictAll ds = false
  dp : PyData.depthAll ds ≤ n
  wt : PyData.weightAll ds ≤ w
  sr : PyData.leavesShortAll 220 ds = true
theorem log665 {i : Int} (h : i.natAbs < 10 ^ 200) : i.natAbs.log2 < 665 := by
  by_cases z : i.natAbs = 0
  · rw [z]; decide
  · exact (Nat.log2_lt z).mpr (Nat.lt_of_lt_of_le h (by decide))
theorem PB.int {i : Int} (h : i.natAbs < 10 ^ 200) : PB (.int i) 0 665 := by
  have h3 := log665 h
  refine ⟨by simp only [PyData.canLay0], ?_, by simp only [PyData.hasDict], by simp only [PyData.depth]; omega, ?_, ?_⟩
  · simp only [PyData.showable, decide_eq_true_eq]; omega
  · simp only [PyData.weight]
    split <;> omega
  · have e := int_text_length_le10 (a := i) (k := 200) (by decide) h
    simp only [PyData.leavesShort, decide_eq_true_eq, PyData.shown]
    exact decide_eq_true (Nat.le_trans (Nat.le_trans (Nat.le_of_eq (PySem.ofString_length _)) e) (by decide))
theorem PBA.nil : PBA [] 0 0 := ⟨by simp only [PyData.canLayAll0], by simp only [PyData.showableAll], by simp only [PyData.hasDictAll], by simp only [PyData.depthAll]; omega, by simp only [PyData.weightAll]; omega, by simp only [PyData.leavesShortAll]⟩
theorem PBA.cons {d : PyData} {ds : List PyData} {n m u v : Nat} (a : PB d n u) (b : PBA ds m v) : PBA (d :: ds) (max n m) (u + 1 + v) := by
  refine ⟨by simp only [PyData.canLayAll0, a.lay, b.lay, Bool.and_self], by simp only [PyData.showableAll, a.sh, b.sh, Bool.and_self], by simp only [PyData.hasDictAll, a.nd, b.nd, Bool.or_self], ?_, ?_, by simp only [PyData.leavesShortAll, a.sr, b.sr, Bool.and_self]⟩
  · have h1 := a.dp; have h2 := b.dp
    simp only [PyData.depthAll]; omega
  · have h1 := a.wt; have h2 := b.wt
    simp only [PyData.weightAll]; omega
theorem PB.tuple {ds : List PyData} {n w : Nat} (a : PBA ds n w) : PB (.tuple ds) (n + 1) w := by
  refine ⟨by simp only [PyData.canLay0, a.lay], by simp only [PyData.showable, a.sh], by simp only [PyData.hasDict, a.nd], ?_, ?_, by simp only [PyData.leavesShort, a.sr]⟩
  · have h1 := a.dp
    simp only [PyData.depth]; omega
  · have h1 := a.wt
    simp only [PyData.weight]; omega
theorem PB.mono {d : PyData} {n w m v : Nat} (a : PB d n w) (h1 : n ≤ m) (h2 : w ≤ v) : PB d m v := ⟨a.lay, a.sh, a.nd, Nat.le_trans a.dp h1, Nat.le_trans a.wt h2, a.sr⟩
theorem PBA.mono {d : List PyData} {n w m v : Nat} (a : PBA d n w) (h1 : n ≤ m) (h2 : w ≤ v) : PBA d m v := ⟨a.lay, a.sh, a.nd, Nat.le_trans a.dp h1, Nat.le_trans a.wt h2, a.sr⟩
theorem PB.short {d : PyData} {n w : Nat} (a : PB d n w) (h : w ≤ 70000) : d.shown.length ≤ sizeLine := by
  have h1 := PyData.shown_le 220 (by decide) d a.sr
  have h2 := a.wt
  rw [sizeLine_eq]
  omega
theorem pba_ints : ∀ t : List Int, (∀ i ∈ t, i.natAbs < 10 ^ 200) → PBA (dI t) 0 (t.length * 666)
  | [], _ => PBA.nil
  | i :: r, h => (PBA.cons (PB.int (h i List.mem_cons_self)) (pba_ints r fun j hj => h j (List.mem_cons_of_mem _ hj))).mono (by omega) (by show 665 + 1 + r.length * 666 ≤ (r.length + 1) * 666; omega)
theorem reprB {K : PySem.W.Frag} {p : Addr} {d : PyData} {n w : Nat} {H : Hp} {Q : VK} (hd : Dp K H (.ref p) d) (pl : PB d n w) (hn : n ≤ 40) (hw : w ≤ 70000) (q : Q (.str d.shown) H) : rRepr K [.ref p] H Q := ⟨p, d, rfl, hd, pl.sh, pl.nd, Nat.le_trans pl.dp hn, pl.short hw, q⟩
theorem pb_two {a b : List Int} (ha : ∀ i ∈ a, i.natAbs < 10 ^ 200) (hb : ∀ i ∈ b, i.natAbs < 10 ^ 200) (la : a.length ≤ 20) (lb : b.length ≤ 20) : PB (.tuple [.tuple (dI a), .tuple (dI b)]) 2 50000 :=
  (PB.tuple (PBA.cons (PB.tuple (pba_ints a ha)) (PBA.cons (PB.tuple (pba_ints b hb)) PBA.nil))).mono (by decide) (by omega)
theorem dp_two {K : PySem.W.Frag} {H : Hp} {p x y : Addr} {a b : List Int} (h : H p = some (.tup [.ref x, .ref y])) (hx : H x = some (.tup (vrow a))) (hy : H y = some (.tup (vrow b))) : Dp K H (.ref p) (.tuple [.tuple (dI a), .tuple (dI b)]) := .tup (SqT.of h) (.cons (dp_tup hx) (.cons (dp_tup hy) .nil))
theorem ixN_nat {i n : Nat} (h : i < n) : ixN n (i : Int) = some i := by
  unfold ixN
  rw [if_pos (by omega), if_pos (by omega)]
  simp
theorem cby_le {m x : Int} {B : Nat} (h0 : 0 ≤ m) (h1 : m ≤ 1000000) (hB : 1000000 ≤ B) (hx : x.natAbs ≤ B) : (cby m x).natAbs ≤ B := by
  unfold cby
  split
  · exact hx
  · have := Int.emod_nonneg x (show m ≠ 0 by omega)
    have := Int.emod_lt_of_pos x (show 0 < m by omega)
    omega
/-- numbers behind k turns -/
def BB (k : Nat) : Nat := 10 ^ 18 * 4 ^ k
theorem BB_ge (k : Nat) : 10 ^ 18 ≤ BB k := by
  unfold BB
  exact Nat.le_mul_of_pos_right _ (Nat.pow_pos (by decide))
theorem BB_succ (k : Nat) : BB (k + 1) = 4 * BB k := by unfold BB; rw [Nat.pow_succ]; omega
theorem BB_top {k : Nat} (h : k ≤ 270) : BB k ≤ 10 ^ 190 := by
  unfold BB
  exact Nat.le_trans (Nat.mul_le_mul_left _ (Nat.pow_le_pow_right (by decide) h)) (by decide +kernel)
def Bd (k : Nat) (t : List Int) : Prop := ∀ i ∈ t, i.natAbs ≤ BB k
theorem Bd.get {k : Nat} {t : List Int} (h : Bd k t) (i : Nat) : (t.getD i 0).natAbs ≤ BB k := by
  rw [List.getD_eq_getElem?_getD]
  cases e : t[i]? with
  | none => exact Nat.zero_le _
  | some x => exact h x (List.mem_of_getElem? e)
theorem Bd.up {k : Nat} {t : List Int} (h : Bd k t) : Bd (k + 1) t := fun i hi => by
  have := h i hi
  rw [BB_succ]; omega
theorem Bd.set {k : Nat} {t : List Int} (h : Bd k t) {x : Int} (hx : x.natAbs ≤ BB k) (i : Nat) : Bd k (t.set i x) := fun y hy => by
  rcases List.mem_or_eq_of_mem_set hy with e | e
  · exact h y e
  · rw [e]; exact hx
theorem Bd.top {k : Nat} {t : List Int} (h : Bd k t) (hk : k ≤ 270) : ∀ i ∈ t, i.natAbs < 10 ^ 200 := fun i hi => Nat.lt_of_le_of_lt (h i hi) (Nat.lt_of_le_of_lt (BB_top hk) (by decide +kernel))
theorem sum_le {k : Nat} : ∀ t : List Int, Bd k t → t.sum.natAbs ≤ t.length * BB k
  | [], _ => Nat.zero_le _
  | i :: r, h => by
    have h1 := h i List.mem_cons_self
    have h2 := sum_le r fun j hj => h j (List.mem_cons_of_mem _ hj)
    rw [List.sum_cons, List.length_cons, Nat.add_mul]
    omega
theorem tabs_set {sl : Addr} {xs ys : List V} {T : List (Addr × Str)} {H1 : Hp} (t : LamX.Tabs T H1) (h : H1 sl = some (.lst xs)) : LamX.Tabs T (upd H1 sl (.lst ys)) := fun p hp => by
  obtain ⟨ps, h1, h2, h3⟩ := t p hp
  refine ⟨ps, by rw [upd_ne (ne_of h1 h (by intro z; cases z))]; exact h1, h2, fun pos cv hc => ?_⟩
  obtain ⟨c, e1, e2⟩ := h3 pos cv hc
  exact ⟨c, e1, by rw [upd_ne (ne_of e2 h (by intro z; unfold LamX.CodeO at z; cases z))]; exact e2⟩
theorem Lw.set {b sl : Addr} {vs ws : List V} {T : List (Addr × Str)} {xs : List Addr} {H H1 : Hp} (a : Lw b T xs H H1) (h0 : H sl = none) (nb : sl ≠ b) (h : H1 sl = some (.lst vs)) : Lw b T xs H (upd H1 sl (.lst ws)) := by
  obtain ⟨u, v, hb⟩ := a.bx
  exact ⟨⟨u, v, by rw [upd_ne nb.symm]; exact hb⟩, tabs_set a.tb h, fun c o e n1 n2 => by rw [upd_ne (ne_of_none e h0)]; exact a.ks c o e n1 n2⟩
theorem TiesT.kp {H H' : Hp} {ta : Addr} {ts : Prs} (h : TiesT H ta ts) (k : ∀ a xs, H a = some (.tup xs) → H' a = some (.tup xs)) : TiesT H' ta ts := let ⟨as, h1, h2⟩ := h; ⟨as, k _ _ h1, h2.kp k⟩
theorem WebAt.kp {W w : Addr} {H H' : Hp} {n : Nat} {ts : Prs} (h : WebAt W H w n ts) (k : ∀ a xs, H a = some (.tup xs) → H' a = some (.tup xs)) (k2 : ∀ dx fs, H w = some (.ins W dx fs) → H' w = some (.ins W dx fs)) : WebAt W H' w n ts := let ⟨dx, ta, h1, h2⟩ := h; ⟨dx, ta, k2 _ _ h1, h2.kp k⟩
theorem NetAt.kp {N W : Addr} {H H' : Hp} {c : Addr} {m : Int} {ss ar : List Int} {w : Addr} {n : Nat} {ts : Prs} (h : NetAt N W H c m ss ar w n ts) (k : ∀ a xs, H a = some (.tup xs) → H' a = some (.tup xs)) (k2 : ∀ a C dx fs, H a = some (.ins C dx fs) → H' a = some (.ins C dx fs)) : NetAt N W H' c m ss ar w n ts :=
  ⟨let ⟨dx, sa, aa, h1, h2, h3⟩ := h.ob; ⟨dx, sa, aa, k2 _ _ _ _ h1, k _ _ h2, k _ _ h3⟩, h.wb.kp k fun _ _ e => k2 _ _ _ _ e, h.ls, h.la, h.m0⟩
theorem NetAt.box {N W : Addr} {H H' : Hp} {b c : Addr} {m : Int} {ss ar : List Int} {w : Addr} {n : Nat} {ts : Prs} (h : NetAt N W H c m ss ar w n ts) (hb : BoxO H b) (x : Bx b H H') : NetAt N W H' c m ss ar w n ts :=
  h.kp (fun a xs e => x.tup hb e) fun a C dx fs e => x.2 _ _ e (hb.ne e fun xs => by intro z; cases z)
theorem NetAt.set {N W : Addr} {H : Hp} {sl c : Addr} {vs ws : List V} {m : Int} {ss ar : List Int} {w : Addr} {n : Nat} {ts : Prs} (h : NetAt N W H c m ss ar w n ts) (hl : H sl = some (.lst vs)) : NetAt N W (L2.upd H sl (.lst ws)) c m ss ar w n ts :=
  h.kp (fun a xs e => by rw [upd_ne (ne_of e hl (by intro z; cases z))]; exact e) fun a C dx fs e => by rw [upd_ne (ne_of e hl (by intro z; cases z))]; exact e
theorem Bd.mono {k j : Nat} {t : List Int} (h : Bd k t) (hk : k ≤ j) : Bd j t := by
  induction hk with
  | refl => exact h
  | step _ ih => exact ih.up
theorem eqvT (d e : PyData) : ∃ c : Bool, PyData.eqv d e = c := ⟨_, rfl⟩
theorem ifG {t : TT} {A B : TS} {D : Ends} {σ : L2.St} {H : Hp} (G : Bool → Hp → Prop) (hq : ∀ c H1, G c H1 → if c = true then A D σ H1 else B D σ H1) (ht : (∀ c H1, G c H1 → if c = true then A D σ H1 else B D σ H1) → t σ H fun c H1 => if c = true then A D σ H1 else B D σ H1) : tIfS t A B D σ H := ht hq
section
variable {P : Program} {w : World} {K : PySem.W.Frag} {mg : Str → Option Value} {base : Heap}
/-- the net's methods -/
structure NMs (P : Program) (w : World) (K : PySem.W.Frag) (mg : Str → Option Value) (base : Heap) (N W CH CT CR : Addr) : Prop where
  T : NcT K mg N
  do_ : ∃ f fd, Meth K N "do" f ∧ Binds K fd ["self", "house", "amount"] [] ∧ FnOk P w K mg base (L2.CX P w) 4 f fd ["self", "house", "amount"] (spDo K N W CH CR)
  meet : ∃ f fd, Meth K N "meet" f ∧ Binds K fd ["self", "tie"] [] ∧ FnOk P w K mg base (L2.CX P w) 4 f fd ["self", "tie"] (spMeet K N W CT)
  book : ∃ f fd, Meth K N "book" f ∧ Binds K fd ["self", "house"] [] ∧ FnOk P w K mg base (L2.CX P w) 5 f fd ["self", "house"] (spBook K N W CH)
theorem nf_do (m : Int) (sa aa w : Addr) : (nf m sa aa w).lookup ("do" : Str) = none := by rfl
theorem nf_meet (m : Int) (sa aa w : Addr) : (nf m sa aa w).lookup ("meet" : Str) = none := by rfl
theorem nf_book (m : Int) (sa aa w : Addr) : (nf m sa aa w).lookup ("book" : Str) = none := by rfl
end
theorem ifEG {t : TT} {A B : TE} {σ : L2.St} {H : Hp} {Q : VK} (G : V → Hp → Prop) (hq : ∀ v H', G v H' → Q v H') (h : (∀ v H', G v H' → Q v H') → tIf t A B σ H Q) : tIf t A B σ H Q := h hq
theorem sqL_ks {K : PySem.W.Frag} {H H1 : Hp} {a : Addr} {xs : List V} (h : SqL K H a xs) (k : Ks [] H H1) : SqL K H1 a xs := by
  rcases h with (h | ⟨ob, h⟩) | h
  · exact .inl (.inl (k _ _ h (by simp) fun ps z => by cases z))
  · exact .inl (.inr ⟨ob, k _ _ h (by simp) fun ps z => by cases z⟩)
  · exact .inr h
def spWrap : Sp := fun vs H Q _ => ∃ (m x : Int), vs = [.int x, .int m] ∧ 0 ≤ m ∧ Q (.int (cby m x)) H
section
variable {P : Program} {w : World} {K : PySem.W.Frag} {mg : Str → Option Value} {base : Heap}
theorem scWp : FnScope ["_law_number_here", "_law_modulus"] ["_law_number_here", "_law_modulus"] (defScope sLWrapped) := ⟨rfl, rfl, rfl, by decide +kernel, rfl, by decide +kernel, by decide +kernel⟩
theorem ok_wrap {f : Addr} {fd : FuncData} (D : Df K mg "_law_wrapped" sLWrapped ["_law_number_here", "_law_modulus"] f fd) (B : Bt mg) : FnOk P w K mg base CX0 1 f fd ["_law_number_here", "_law_modulus"] spWrap := by
  refine D.F.ok scWp (fun vs H Q E h => ?_) (fun cdv A outer s H vs Q E hr h => ?_)
  · obtain ⟨m, x, rfl, _⟩ := h
    rfl
  · obtain ⟨m, x, rfl, h0, q⟩ := h
    refine ⟨_, pss_one (ps_ret (pe_ifExp (pt_cmpR op_gt (pv 1) pe_int (nomark _)) (pe_op op_mod (pe_callTy call_int1 (by rfl) B.int PyProof.Rows.boot_int (pa_cons (pv 0) pa_nil)) (pv 1)) (pv 0))), ?_⟩
    refine ⟨_, rfl, _, _, rfl, rfl, _, rfl, ifD (fun e => ?_) fun e => ?_⟩
    · have hm : 0 < m := of_decide_eq_true e
      unfold cby at q
      rw [if_neg (by omega)] at q
      exact ⟨_, rfl, .inl ⟨x, rfl, _, rfl, _, _, rfl, rfl, hm, q⟩⟩
    · have hm : ¬ m > 0 := of_decide_eq_false e
      unfold cby at q
      rw [if_pos (by omega)] at q
      exact ⟨_, rfl, q⟩
end
/-- a number that the law hands to a net of modulus m -/
def GoodC (m i : Int) : Prop := cntB m (.int i) = true ∧ i.natAbs ≤ 10 ^ 18
structure GoodM (m : Int) : Prop where
  m0 : 0 ≤ m
  m6 : m ≤ 1000000
  m1 : m ≠ 1
theorem GoodM.mod {m : Int} (h : GoodM m) : modB (.int m) = true := by
  have := h.m0; have := h.m6; have := h.m1
  show (decide (0 ≤ m) && decide (m < 1000001) && !decide (m = 1)) = true
  rw [decide_eq_true (by omega), decide_eq_true (by omega), decide_eq_false (by omega)]; rfl
theorem good_of {m i : Int} (h : GoodM m) (h0 : m = 0 → i.natAbs ≤ 10 ^ 18) (h1 : m ≠ 0 → 0 ≤ i ∧ i < m) : GoodC m i := by
  have h6 := h.m6
  unfold GoodC cntB
  by_cases z : m = 0
  · rw [if_pos z]
    have := h0 z
    refine ⟨?_, this⟩
    show (decide (-1000000000000000000 ≤ i) && decide (i ≤ 1000000000000000000)) = true
    rw [decide_eq_true (by omega), decide_eq_true (by omega)]; rfl
  · rw [if_neg z]
    obtain ⟨g0, g1⟩ := h1 z
    refine ⟨?_, by omega⟩
    show (decide (0 ≤ i) && decide (i < m)) = true
    rw [decide_eq_true g0, decide_eq_true g1]; rfl
theorem at_two {m x y : Int} : atI [V.int x, V.int y] (if decide (V.int m = V.int 0) = true then 1 else 0) = some (.int (if m = 0 then y else x)) := by
  by_cases z : m = 0
  · rw [if_pos (decide_eq_true (by rw [z])), if_pos z]
    exact atI_nat (j := 1) rfl
  · rw [if_neg (by rw [decide_eq_true_eq]; intro e; injection e with e; exact z e), if_neg z]
    exact atI_nat (j := 0) rfl
theorem vrow_inj {a b : List Int} (h : some (vrow a) = some (vrow b)) : a = b := (List.map_inj_right (fun x y h => by injection h)).mp (Option.some.inj h)
theorem Lw.net {N W b c : Addr} {T : List (Addr × Str)} {H H' : Hp} {m : Int} {ss ar : List Int} {w : Addr} {n : Nat} {ts : Prs} (h : NetAt N W H c m ss ar w n ts) : H c ≠ none := fun z => by
  obtain ⟨_, _, _, h1, _⟩ := h.ob
  rw [z] at h1; cases h1
theorem cof_ok {m : Int} {ss : List Int} (h : ∀ i ∈ ss, cntB m (.int i) = true) : cofB m (ss.length : Int) (some (vrow ss)) = true := by
  unfold cofB
  rw [Bool.and_eq_true]
  refine ⟨?_, ?_⟩
  · show (decide ((ss.length : Int) ≤ ((vrow ss).length : Int)) && decide (((vrow ss).length : Int) ≤ (ss.length : Int))) = true
    rw [vrow_len, decide_eq_true (Int.le_refl _)]; rfl
  · rw [Option.getD_some, List.all_eq_true]
    intro x hx
    obtain ⟨i, hi, rfl⟩ := List.mem_map.mp hx
    exact h i hi
end K1
namespace K1
open PySem PySem.Spec PyProof.Rows L2
theorem erase_perm {α : Type} : ∀ (l : List α) (i : Nat) (h : i < l.length), (l[i] :: l.eraseIdx i).Perm l
  | a :: l, 0, _ => List.Perm.refl _
  | a :: l, i + 1, h => (List.Perm.swap a (l[i]'(Nat.lt_of_succ_lt_succ h)) (l.eraseIdx i)).trans (.cons a (erase_perm l i (Nat.lt_of_succ_lt_succ h)))
theorem seqI {i n : Nat} (h : i < n) : seqIndex? (i : Int) n = some i := (ixN_seq (by unfold ixN; rw [if_pos (by omega), if_pos (by omega)]; simp)).1
def spMixed (K : PySem.W.Frag) : Sp := fun vs H Q _ => ∃ (b l : Addr) (xs : List V), vs = [.ref b, .ref l] ∧ BoxO H b ∧ SqL K H l xs ∧ l ≠ b ∧ xs.length ≤ 100 ∧ ∀ (r : Addr) (ys : List V) H', Bx b H H' → H r = none → H' r = some (.lst ys) → ys.Perm xs → Q (.ref r) H'
def spNumber : Sp := fun vs H Q _ => ∃ (b : Addr) (m : Int), vs = [.ref b, .int m] ∧ BoxO H b ∧ 0 ≤ m ∧ m ≤ 1000000 ∧ ∀ (i : Int) H', Bx b H H' → (m = 0 → i.natAbs ≤ 10 ^ 18) → (m ≠ 0 → 0 ≤ i ∧ i < m) → Q (.int i) H'
def spBookL (K : PySem.W.Frag) : Sp := fun vs H Q _ => ∃ (ta sl al pl : Addr) (m : Int) (ss ar : List Int) (n : Nat) (ts : Prs) (h : Nat) (ns : List Nat), vs = [.ref ta, .int m, .ref sl, .ref al, .ref pl] ∧ TiesT H ta ts ∧ H sl = some (.lst (vrow ss)) ∧ H al = some (.lst (vrow ar)) ∧ H pl = some (.lst (vn ns)) ∧ ss.length = n ∧ ar.length = ts.length ∧ Wv n ts ∧ h < n ∧ 0 ≤ m ∧ PartL ts h ns ∧
  ∀ H', Same H H' → Q (.int (bookN m ss ar ts ns)) H'
/-- all stands but x and y -/
def But2 (x y : Addr) (H H' : Hp) : Prop := ∀ c o, H c = some o → c ≠ x → c ≠ y → H' c = some o
def spMetL : Sp := fun vs H Q _ => ∃ (ta sl al : Addr) (m : Int) (ss ar : List Int) (n : Nat) (ts : Prs) (t : Nat), vs = [.ref ta, .int m, .ref sl, .ref al, .int (t : Int)] ∧ TiesT H ta ts ∧ H sl = some (.lst (vrow ss)) ∧ H al = some (.lst (vrow ar)) ∧ sl ≠ al ∧ ss.length = n ∧ ar.length = ts.length ∧ Wv n ts ∧ t < ts.length ∧ 0 ≤ m ∧
  ∀ p H', ts[t]? = some p → But2 sl al H H' → H' sl = some (.lst (vrow (metS m ts (ss, ar) t).1)) → H' al = some (.lst (vrow (metS m ts (ss, ar) t).2)) → Q (.int (metN m ss ar p t)) H'
section
variable {P : Program} {w : World} {K : PySem.W.Frag} {mg : Str → Option Value} {base : Heap}
abbrev nMx : List Str := ["_law_box_here", "_law_some", "_law_found", "_law_left", "_law_turn"]
theorem scMx : FnScope nMx ["_law_box_here", "_law_some"] (defScope sLMixed) := ⟨rfl, rfl, rfl, by decide +kernel, rfl, by decide +kernel, by decide +kernel⟩
theorem ok_mixed {f fT : Addr} {fd fdT : FuncData} (D : Df K mg "_law_mixed" sLMixed ["_law_box_here", "_law_some"] f fd) (DT : Df K mg "_law_take" sLTake ["_law_box_here", "_law_many"] fT fdT) (B : Bt mg) (GT : FnOk P w K mg base CX0 1 fT fdT ["_law_box_here", "_law_many"] spTake) :
    FnOk P w K mg base CX0 2 f fd ["_law_box_here", "_law_some"] (spMixed K) := by
  refine D.F.ok scMx (fun vs H Q E h => ?_) (fun cdv A outer s H vs Q E hr h => ?_)
  · obtain ⟨b, l, xs, rfl, _⟩ := h
    rfl
  · obtain ⟨b, l, xs, rfl, hb, hl, nlb, hx, q⟩ := h
    refine ⟨_, pss_cons (ps_par (i := 2) (j := 3) rfl scMx.nd rfl rfl (by decide) rfl rfl (pa_cons (pe_lst pa_nil) (pa_cons (pe_callTy call_list_of (by rfl) B.list PyProof.Rows.boot_list (pa_cons (pv 1) pa_nil)) pa_nil)) rfl)
      (pss_cons (ps_for PassesOwn.never rfl (pi_range1 (by rfl) B.range (pa_cons (pe_callB call_len_seq (by rfl) B.len PySem.boot_len (pa_cons (pv 3) pa_nil)) pa_nil)) (pg_name (i := 4) scMx.nd rfl (.inl rfl))
        (pss_one (ps_expr (pe_bm PySem.F.plainAttrs_list PySem.F.slot_list_append PySem.F.type_list_append mt_append (pv 2) (pa_cons (pe_bm PySem.F.plainAttrs_list PySem.F.slot_list_pop PySem.F.type_list_pop mt_popAt (pv 3) (pa_cons (pc DT GT hr pass0 (pa_cons (pv 0) (pa_cons (pe_callB call_len_seq (by rfl) B.len PySem.boot_len (pa_cons (pv 3) pa_nil)) pa_nil))) pa_nil)) pa_nil)))))
      (pss_one (ps_ret (pv 2)))), ?_⟩
    refine ⟨(by show 0 ≤ sizeLine; decide), fun fl hfl => ?_⟩
    have s1 := same_new (o := HO.lst []) hfl
    have hl1 : SqL K (upd H fl (.lst [])) l xs := by
      rcases hl with (hl | ⟨ob, hl⟩) | hl
      · exact .inl (.inl (s1 _ _ hl))
      · exact .inl (.inr ⟨ob, s1 _ _ hl⟩)
      · exact .inr hl
    refine ⟨_, rfl, l, _, rfl, .inl hl1, fun ll hll => ⟨_, _, rfl, ?_⟩⟩
    have s2 := s1.trans (same_new (o := HO.lst xs) hll)
    have nfl : ll ≠ fl := fun z => by rw [z, upd_same] at hll; cases hll
    have h1 : (upd (upd H fl (.lst [])) ll (.lst xs)) fl = some (.lst []) := by rw [upd_ne nfl.symm, upd_same]
    have h2 : (upd (upd H fl (.lst [])) ll (.lst xs)) ll = some (.lst xs) := upd_same
    have fll : H ll = none := s1.free hll
    have nfb : fl ≠ b := hb.nn hfl
    have nlb2 : ll ≠ b := hb.nn fll
    generalize upd (upd H fl (.lst [])) ll (.lst xs) = H1 at s2 h1 h2 ⊢
    dsimp only [List.set]
    refine ⟨_, rfl, ll, _, rfl, .inl (SqL.of h2), (xs.length : Int), rfl, by omega, by omega, for_range (fun k σ H' => ∃ (v4 : Option V) (left dn : List V), σ = [some (.ref b), some (.ref l), some (.ref fl), some (.ref ll), v4] ∧ Bx b H H' ∧ H' ll = some (.lst left) ∧ H' fl = some (.lst dn) ∧ left.length + k = xs.length ∧ (left ++ dn).Perm xs)
      ⟨none, xs, [], rfl, (Bx.refl hb).same s2, h2, h1, rfl, by rw [List.append_nil]⟩ ?_ ?_⟩
    · rintro k σ H' hk ⟨v4, left, dn, rfl, bx, k3, k4, hn, pm⟩
      have h0l : 0 < left.length := by omega
      have hpm := (pm.length_eq : (left ++ dn).length = xs.length)
      rw [List.length_append] at hpm
      refine ⟨_, rfl, .inl ⟨rfl, _, SqL.of k4⟩, _, rfl, .inl ⟨rfl, _, SqL.of k3⟩, ?_⟩
      refine ⟨_, rfl, _, rfl, ll, _, rfl, .inl (SqL.of k3), b, _, rfl, bx.1, by omega, by omega, fun r H5 z0 z1 bx5 => ?_⟩
      have hk2 : r.toNat < left.length := by omega
      have ek : (r.toNat : Int) = r := by omega
      refine ⟨ll, left, r, r.toNat, _, rfl, rfl, bx5.2 _ _ k3 nlb2, by omega, by omega, by rw [← ek]; exact seqI hk2, List.getElem?_eq_getElem hk2, ?_⟩
      have k45 : upd H5 ll (.lst (left.eraseIdx r.toNat)) fl = some (.lst dn) := by rw [upd_ne nfl.symm]; exact bx5.2 _ _ k4 nfb
      refine ⟨fl, _, _, rfl, rfl, k45, szl (by omega), _, left.eraseIdx r.toNat, dn ++ [left[r.toNat]], rfl, ?_, ?_, ?_, ?_, ?_⟩
      · exact ((bx.trans bx5).put fll nlb2).put hfl nfb
      · rw [upd_ne nfl, upd_same]
      · rw [upd_same]
      · rw [List.length_eraseIdx_of_lt hk2]; omega
      · rw [← List.append_assoc]
        refine (List.perm_append_singleton _ _).trans ?_
        exact ((erase_perm left r.toNat hk2).append_right dn).trans pm
    · rintro σ H' ⟨v4, left, dn, rfl, bx, k3, k4, hn, pm⟩
      obtain rfl : left = [] := List.eq_nil_of_length_eq_zero (by omega)
      rw [List.nil_append] at pm
      exact ⟨_, rfl, q fl dn H' bx hfl k4 pm⟩
abbrev nNu : List Str := ["_law_box_here", "_law_modulus", "_law_great"]
theorem scNu : FnScope nNu ["_law_box_here", "_law_modulus"] (defScope sLNumber) := ⟨rfl, rfl, rfl, by decide +kernel, rfl, by decide +kernel, by decide +kernel⟩
theorem ok_number {f fT : Addr} {fd fdT : FuncData} (D : Df K mg "_law_number" sLNumber ["_law_box_here", "_law_modulus"] f fd) (DT : Df K mg "_law_take" sLTake ["_law_box_here", "_law_many"] fT fdT) (B : Bt mg) (GT : FnOk P w K mg base CX0 1 fT fdT ["_law_box_here", "_law_many"] spTake) :
    FnOk P w K mg base CX0 2 f fd ["_law_box_here", "_law_modulus"] spNumber := by
  refine D.F.ok scNu (fun vs H Q E h => ?_) (fun cdv A outer s H vs Q E hr h => ?_)
  · obtain ⟨b, m, rfl, _⟩ := h
    rfl
  · obtain ⟨b, m, rfl, hb, m0, m6, q⟩ := h
    refine ⟨_, pss_cons (ps_if (pt_cmpR op_gt (pv 1) pe_int (nomark _)) (pss_one (ps_ret (pc DT GT hr pass0 (pa_cons (pv 0) (pa_cons (pv 1) pa_nil))))) pss_nil)
      (pss_cons (ps_set (i := 2) scNu.nd rfl (.inl rfl) (pe_cmpR op_eq (pc DT GT hr pass0 (pa_cons (pv 0) (pa_cons pe_int pa_nil))) pe_int (nomark _)))
      (pss_one (ps_ret (pe_ix ix_list (pe_lst (pa_cons (pe_op op_sub (pc DT GT hr pass0 (pa_cons (pv 0) (pa_cons pe_int pa_nil))) pe_int) (pa_cons (pe_op op_mul (pe_op op_sub (pe_op op_mul pe_int (pc DT GT hr pass0 (pa_cons (pv 0) (pa_cons pe_int pa_nil)))) pe_int) (pe_op op_sub (pe_op op_pow pe_int pe_int) (pc DT GT hr pass0 (pa_cons (pv 0) (pa_cons pe_int pa_nil))))) pa_nil)))
        (pe_callTy call_int1 (by rfl) B.int PyProof.Rows.boot_int (pa_cons (pv 2) pa_nil)) (fun _ _ => rfl))))), ?_⟩
    refine ⟨_, rfl, _, _, rfl, rfl, _, rfl, ifD (fun e => ?_) fun e => ?_⟩
    · have hm : 0 < m := of_decide_eq_true e
      refine ⟨_, rfl, _, rfl, b, m, rfl, hb, by omega, by omega, fun r H1 r0 r1 bx => q r H1 bx (fun z => by omega) fun _ => ⟨r0, r1⟩⟩
    · have hm : ¬ m > 0 := of_decide_eq_false e
      refine nxP ⟨_, rfl, b, 5, rfl, hb, by decide, by decide, fun r H1 r0 r1 bx1 => ⟨rfl, ?_⟩⟩
      refine gn ?_
      dsimp only [List.set]
      refine ⟨_, rfl, b, 21, rfl, bx1.1, by decide, by decide, fun x H2 x0 x1 bx2 => ⟨_, _, rfl, rfl, ?_⟩⟩
      refine ⟨_, rfl, b, 2, rfl, bx2.1, by decide, by decide, fun y H3 y0 y1 bx3 => ⟨_, _, rfl, rfl, .inl ⟨by decide, by decide⟩, _, _, rfl, rfl, ?_⟩⟩
      refine ⟨_, _, rfl, rfl, ⟨by decide, by decide, by decide⟩, _, rfl, b, 3, rfl, bx3.1, by decide, by decide, fun z H4 z0 z1 bx4 => ⟨_, _, rfl, rfl, _, _, rfl, rfl, .inl ⟨by omega, by omega⟩, (by show 2 ≤ sizeLine; decide), fun p hp => ?_⟩⟩
      have bx := (((bx1.trans bx2).trans bx3).trans bx4).new (o := HO.lst [V.int (x - 10), V.int ((2 * y - 1) * (10 ^ (18 : Int).toNat - z))]) hp
      refine ⟨_, rfl, ?_⟩
      refine .inr ⟨_, rfl, p, _, _, _, rfl, rfl, SqL.of upd_same, at_two, ?_⟩
      have e18 : (10 : Int) ^ (18 : Int).toNat = 1000000000000000000 := by decide +kernel
      rw [e18] at bx ⊢
      refine q _ _ bx (fun _ => ?_) fun z => absurd (by omega) z
      by_cases r0 : r = 0
      · rw [if_pos r0]
        have y01 : y = 0 ∨ y = 1 := by omega
        rcases y01 with rfl | rfl <;> omega
      · rw [if_neg r0]; omega
abbrev nLB : List Str := ["_law_ties", "_law_modulus", "_law_states", "_law_archives", "_law_part_here", "_law_houses", "_law_house", "_law_at"]
theorem scLB : FnScope nLB ["_law_ties", "_law_modulus", "_law_states", "_law_archives", "_law_part_here"] (defScope sLBook) := ⟨rfl, rfl, rfl, by decide +kernel, rfl, by decide +kernel, by decide +kernel⟩
theorem ok_bookL {f fW : Addr} {fd fdW : FuncData} (D : Df K mg "_law_book" sLBook ["_law_ties", "_law_modulus", "_law_states", "_law_archives", "_law_part_here"] f fd) (DW : Df K mg "_law_wrapped" sLWrapped ["_law_number_here", "_law_modulus"] fW fdW) (B : Bt mg)
    (GW : FnOk P w K mg base CX0 1 fW fdW ["_law_number_here", "_law_modulus"] spWrap) : FnOk P w K mg base CX0 2 f fd ["_law_ties", "_law_modulus", "_law_states", "_law_archives", "_law_part_here"] (spBookL K) := by
  refine D.F.ok scLB (fun vs H Q E h => ?_) (fun cdv A outer s H vs Q E hr h => ?_)
  · obtain ⟨ta, sl, al, pl, m, ss, ar, n, ts, h, ns, rfl, _⟩ := h
    rfl
  · obtain ⟨ta, sl, al, pl, m, ss, ar, n, ts, h, ns, rfl, ⟨tas, ht, hA⟩, hsl, hal, hpl, ls, la, hW, hn, m0, PL, q⟩ := h
    refine ⟨_, pss_cons (ps_set (i := 5) scLB.nd rfl (.inl rfl) (pe_callB (cr_sum rfl) (by rfl) B.sum (by decide +kernel) (pa_cons (pe_lc (own := [("_law_house", 6)]) (g := gName 6) (tt := tYes) rfl scLB.nd (pi_list (pv 4)) (blkOk_by (N := nLB) (sc := defScope sLBook) (by decide +kernel)) (fun _ _ _ _ _ => pg_name (i := 6) scLB.nd rfl (Or.inl rfl)) (fun _ _ _ _ _ => pts_nil)
          (fun _ _ _ _ _ => pe_ix (ixLK (K := K) rfl) (pv 2) (pv 6) (fun _ _ => rfl))) pa_nil)))
      (pss_one (ps_ret (pc DW GW hr pass0 (pa_cons (pe_op op_sub (pv 5) (pe_callB (cr_sum rfl) (by rfl) B.sum (by decide +kernel) (pa_cons (pe_lc (own := [("_law_at", 7)]) (g := gName 7) rfl scLB.nd (pi_range1 (by rfl) B.range (pa_cons (pe_callB call_len_seq (by rfl) B.len PySem.boot_len (pa_cons (pv 0) pa_nil)) pa_nil)) (blkOk_by (N := nLB) (sc := defScope sLBook) (by decide +kernel)) (fun _ _ _ _ _ => pg_name (i := 7) scLB.nd rfl (Or.inl rfl))
          (fun _ _ _ _ _ => pts_one (pt_cmpR (opInK (K := K) rfl) (pe_ix (ixTK (K := K) rfl) (pe_ix (ixTK (K := K) rfl) (pv 0) (pv 7) (fun _ _ => rfl)) pe_int (fun _ _ => rfl)) (pv 4) rfl)) (fun _ _ _ _ _ => pe_ix (ixLK (K := K) rfl) (pv 3) (pv 7) (fun _ _ => rfl))) pa_nil))) (pa_cons (pv 1) pa_nil))))), ?_⟩
    have n12 := hW.n12
    have t20 := hW.t20
    have pl12 := (PL.len hW hn).2
    refine ⟨_, rfl, pl, rfl, ⟨_, SqL.of hpl⟩, fun D1 hD1 => lc_list (K := K) (a := pl) (xs := vn ns) (fun i H' => Same H H' ∧ H' D1 = some (.lst (vrow ((ns.map fun x => ss.getD x 0).take i)))) ⟨same_new hD1, by rw [upd_same]; rfl⟩ (fun i H' _ ⟨s4, _⟩ => SqL.of (s4 _ _ hpl)) ?_ ?_⟩
    · rintro i x H4 hx ⟨s4, hD'⟩
      obtain ⟨y, hy, rfl⟩ := at_vn hx
      have yn : y < n := PL.lt hW hn (List.mem_of_getElem? hy)
      refine ⟨rfl, _, rfl, _, rfl, sl, _, (y : Int), .int (ss.getD y 0), rfl, rfl, SqL.of (s4 _ _ hsl), at_i (vrow_get (by omega)), _, hD', szl (by rw [vrow_len, List.length_take, List.length_map]; omega), fun c o eo => ?_, ?_⟩
      · rw [upd_ne (ne_of_none eo hD1)]
        exact s4 _ _ eo
      · rw [upd_same, take_succ (map_at hy), vrow, vrow, List.map_append]; rfl
    · rintro H2 ⟨s2, hD'⟩
      rw [List.take_of_length_le (by rw [vn_len, List.length_map]; exact Nat.le_refl _)] at hD'
      refine ⟨D1, _, rfl, SqL.of hD', ?_⟩
      refine gn ?_
      dsimp only [List.set]
      have elt : ((tas.map V.ref).length : Int) = (ts.length : Int) := by rw [List.length_map, hA.1]
      have ltk := fun k => tInK_len ts ns k
      refine ⟨_, rfl, _, rfl, ta, _, rfl, .inr (SqT.of (s2 _ _ ht)), ((tas.map V.ref).length : Int), rfl, by omega, by omega, fun D0 hD0 => lc_range (fun i H' => Same H2 H' ∧ H' D0 = some (.lst (vrow ((tInK ts ns i).map fun t => ar.getD t 0)))) ⟨same_new hD0, by rw [upd_same]; rfl⟩ ?_ ?_⟩
      · rintro i H3 hi ⟨s3, hD⟩
        have hit : i < ts.length := by omega
        obtain ⟨p, hp⟩ := ex_at hit
        obtain ⟨a, ha, hap⟩ := hA.get hp
        have s23 := s2.trans s3
        have hap' : H3 a = some (.tup [.int (p.1 : Int), .int (p.2 : Int)]) := s23 _ _ hap
        have ws := tInK_succ (ns := ns) hp
        have lw := ltk i
        refine ⟨rfl, ?_⟩
        refine ⟨_, rfl, _, rfl, ta, _, 0 + (i : Int), .ref a, rfl, rfl, SqT.of (s23 _ _ ht), at_of (j := i) (by omega) (map_at ha), a, _, 0, .int (p.1 : Int), rfl, rfl, SqT.of hap', atI_nat (j := 0) rfl, _, rfl, pl, vn ns, rfl, .inl (SqL.of (s23 _ _ hpl)), rfl, flat_vn ns, _, rfl, ?_⟩
        simp only [Bool.false_eq_true, if_false]
        rw [inV_vn]
        refine ifD (fun e => ?_) fun e => ?_
        · replace e : p.1 ∈ ns := by simpa using e
          rw [if_pos e] at ws
          refine ⟨_, rfl, _, rfl, al, _, 0 + (i : Int), .int (ar.getD i 0), rfl, rfl, SqL.of (s23 _ _ hal), at_of (j := i) (by omega) (vrow_get (by omega)), _, hD, szl (by rw [vrow_len, List.length_map]; omega), fun c o eo => ?_, ?_⟩
          · rw [upd_ne (ne_of_none eo hD0)]
            exact s3 _ _ eo
          · rw [upd_same, ws, List.map_append, vrow, vrow, List.map_append]; rfl
        · replace e : p.1 ∉ ns := by simpa using e
          rw [if_neg e, List.append_nil] at ws
          exact ⟨s3, by rw [ws]; exact hD⟩
      · rintro H3 ⟨s3, hD⟩
        have et : ((tas.map V.ref).length : Int).toNat = ts.length := by omega
        rw [et] at hD
        exact ⟨D0, _, rfl, SqL.of hD, _, _, rfl, rfl, _, rfl, m, _, rfl, m0, q H3 (s2.trans s3)⟩
abbrev nMt : List Str := ["_law_ties", "_law_modulus", "_law_states", "_law_archives", "_law_tie", "_law_one", "_law_other", "_law_state"]
theorem scMt : FnScope nMt ["_law_ties", "_law_modulus", "_law_states", "_law_archives", "_law_tie"] (defScope sLMet) := ⟨rfl, rfl, rfl, by decide +kernel, rfl, by decide +kernel, by decide +kernel⟩
theorem ok_metL {f fW : Addr} {fd fdW : FuncData} (D : Df K mg "_law_met" sLMet ["_law_ties", "_law_modulus", "_law_states", "_law_archives", "_law_tie"] f fd) (DW : Df K mg "_law_wrapped" sLWrapped ["_law_number_here", "_law_modulus"] fW fdW)
    (GW : FnOk P w K mg base CX0 1 fW fdW ["_law_number_here", "_law_modulus"] spWrap) : FnOk P w K mg base CX0 2 f fd ["_law_ties", "_law_modulus", "_law_states", "_law_archives", "_law_tie"] spMetL := by
  refine D.F.ok scMt (fun vs H Q E h => ?_) (fun cdv A outer s H vs Q E hr h => ?_)
  · obtain ⟨ta, sl, al, m, ss, ar, n, ts, t, rfl, _⟩ := h
    rfl
  · obtain ⟨ta, sl, al, m, ss, ar, n, ts, t, rfl, ⟨tas, ht, hA⟩, hsl, hal, nla, ls, la, hW, htl, m0, q⟩ := h
    refine ⟨_, pss_cons (ps_asg (pe_ix ix_tup (pv 0) (pv 4) (fun _ _ => rfl)) (pg_tup rfl (pgs_cons (pg_name (i := 5) scMt.nd rfl (.inl rfl)) (pgs_cons (pg_name (i := 6) scMt.nd rfl (.inl rfl)) pgs_nil))))
      (pss_cons (ps_set (i := 7) scMt.nd rfl (.inl rfl) (pc DW GW hr pass0 (pa_cons (pe_op op_sub (pe_op op_add (pe_ix ix_list (pv 2) (pv 5) (fun _ _ => rfl)) (pe_ix ix_list (pv 2) (pv 6) (fun _ _ => rfl))) (pe_ix ix_list (pv 3) (pv 4) (fun _ _ => rfl))) (pa_cons (pv 1) pa_nil))))
      (pss_cons (ps_asg (pv 7) (pg_sub (pv 2) (pv 5) set_list))
      (pss_cons (ps_asg (pv 7) (pg_sub (pv 2) (pv 6) set_list))
      (pss_cons (ps_asg (pv 7) (pg_sub (pv 3) (pv 4) set_list))
      (pss_one (ps_ret (pv 7))))))), ?_⟩
    obtain ⟨p, hp⟩ := ex_at htl
    obtain ⟨p1, p2, p3⟩ := hW.at_ hp
    obtain ⟨pa, ha, hpa⟩ := hA.get hp
    have hpa' : H pa = some (.tup [.int (p.1 : Int), .int (p.2 : Int)]) := hpa
    refine ⟨_, rfl, _, rfl, ta, _, (t : Int), .ref pa, rfl, rfl, SqT.of ht, at_i (map_at ha), pa, _, rfl, SqT.of hpa', rfl, _, _, rfl, _, _, rfl, rfl, ?_⟩
    refine ⟨_, rfl, _, rfl, sl, _, (p.1 : Int), .int (ss.getD p.1 0), rfl, rfl, SqL.of hsl, at_i (vrow_get (by omega)), _, rfl, _, rfl, sl, _, (p.2 : Int), .int (ss.getD p.2 0), rfl, rfl, SqL.of hsl, at_i (vrow_get (by omega)), _, _, rfl, rfl, _, rfl, _, rfl, al, _, (t : Int), .int (ar.getD t 0), rfl, rfl, SqL.of hal, at_i (vrow_get (by omega)), _, _, rfl, rfl, _, rfl, m, _, rfl, m0, ?_⟩
    have q' := q p
    have em : metS m ts (ss, ar) t = ((ss.set p.1 (metN m ss ar p t)).set p.2 (metN m ss ar p t), ar.set t (metN m ss ar p t)) := by unfold metS; rw [hp]
    rw [em] at q'
    generalize hx : metN m ss ar p t = x at q'
    have hx' : cby m (ss.getD p.1 0 + ss.getD p.2 0 - ar.getD t 0) = x := hx
    rw [hx']
    refine gn ?_
    dsimp only [List.set]
    refine ⟨_, rfl, _, rfl, _, rfl, sl, _, (p.1 : Int), p.1, rfl, rfl, hsl, ixN_nat (by rw [vrow_len]; omega), ?_⟩
    rw [← vrow_set]
    refine ⟨_, rfl, _, rfl, _, rfl, sl, _, (p.2 : Int), p.2, rfl, rfl, upd_same, ixN_nat (by rw [vrow_len, List.length_set]; omega), ?_⟩
    rw [← vrow_set]
    refine ⟨_, rfl, _, rfl, _, rfl, al, _, (t : Int), t, rfl, rfl, (by rw [upd_ne nla.symm, upd_ne nla.symm]; exact hal), ixN_nat (by rw [vrow_len]; omega), ?_⟩
    rw [← vrow_set]
    refine ⟨_, rfl, q' _ hp (fun c o e n1 n2 => by rw [upd_ne n2, upd_ne n1, upd_ne n1]; exact e) (by rw [upd_ne nla, upd_same]) upd_same⟩
end
end K1
namespace K1
open PySem PySem.Spec PyProof.Rows L2
theorem perm_map_inv {α β : Type} {f : α → β} : ∀ {ys : List β} {l : List α}, ys.Perm (l.map f) → ∃ l' : List α, ys = l'.map f ∧ l'.Perm l
  | [], l, h => by
    have := h.length_eq
    rw [List.length_map] at this
    obtain rfl : l = [] := List.eq_nil_of_length_eq_zero this.symm
    exact ⟨[], rfl, .nil⟩
  | y :: ys, l, h => by
    obtain ⟨x, hx, rfl⟩ := List.mem_map.mp (h.mem_iff.mp List.mem_cons_self)
    obtain ⟨l1, l2, rfl⟩ := List.append_of_mem hx
    have h2 : (l1 ++ x :: l2).Perm (x :: (l1 ++ l2)) := List.perm_middle
    have h3 := (h.trans (h2.map f))
    rw [List.map_cons] at h3
    obtain ⟨l', e, p⟩ := perm_map_inv h3.cons_inv
    exact ⟨x :: l', by rw [e]; rfl, (p.cons x).trans h2.symm⟩
theorem rgV_vn (n : Nat) : rgV 0 (n : Int) = vn (List.range n) := by
  unfold rgV vn
  rw [show (((n : Int) - 0).toNat) = n by omega]
  refine List.map_congr_left fun i _ => ?_
  rw [Int.zero_add]
/-- where a house stands among the names -/
def rkN (nm : List Nat) (x : Nat) : Nat := (nm.findIdx? fun y => decide (y = x)).getD 0
theorem rkN_at {nm : List Nat} (nd : nm.Nodup) {i x : Nat} (h : nm[i]? = some x) : rkN nm x = i := by
  unfold rkN
  rw [find_at (p := fun y => decide (y = x)) h (decide_eq_true rfl) fun j y hj hy => decide_eq_false fun z => by
    rw [List.nodup_iff_pairwise_ne, List.pairwise_iff_getElem] at nd
    have l1 := lt_at h
    have l2 := lt_at hy
    rw [List.getElem?_eq_getElem l1] at h
    rw [List.getElem?_eq_getElem l2] at hy
    have := nd j i l2 l1 hj
    rw [Option.some.inj h, Option.some.inj hy] at this
    exact this z]
  rfl
/-- how the forest grows: k names are behind the first -/
structure Gr (n : Nat) (nm : List Nat) (k : Nat) (ts : Prs) : Prop where
  pr : ∀ p ∈ ts, p.1 < n ∧ p.2 < n ∧ p.1 ≠ p.2
  ln : ts.length ≤ k
  fo : Fo (rkN nm) ts
  lt : ∀ p ∈ ts, rkN nm (lat (rkN nm) p) ≤ k
theorem Gr.skip {n : Nat} {nm : List Nat} {k : Nat} {ts : Prs} (g : Gr n nm k ts) : Gr n nm (k + 1) ts := ⟨g.pr, Nat.le_succ_of_le g.ln, g.fo, fun p hp => Nat.le_succ_of_le (g.lt p hp)⟩
theorem Gr.add {n : Nat} {nm : List Nat} {k : Nat} {ts : Prs} (g : Gr n nm k ts) (nd : nm.Nodup) (mem : ∀ x ∈ nm, x < n) {i x y : Nat} (hx : nm[k + 1]? = some x) (hy : nm[i]? = some y) (hi : i ≤ k) {p : Nat × Nat} (hp : (p.1 = x ∧ p.2 = y) ∨ (p.1 = y ∧ p.2 = x)) : Gr n nm (k + 1) (ts ++ [p]) := by
  have rx := rkN_at nd hx
  have ry := rkN_at nd hy
  have mx := mem x (List.mem_of_getElem? hx)
  have my := mem y (List.mem_of_getElem? hy)
  have xy : x ≠ y := fun z => by rw [z, ry] at rx; omega
  have lx : lat (rkN nm) p = x := by
    unfold lat
    rcases hp with ⟨e1, e2⟩ | ⟨e1, e2⟩
    · rw [e1, e2, rx, ry, if_pos (by omega)]
    · rw [e1, e2, rx, ry, if_neg (by omega)]
  refine ⟨fun q hq => ?_, by rw [List.length_append]; have := g.ln; simp only [List.length_cons, List.length_nil]; omega, ⟨fun q hq => ?_, ?_⟩, fun q hq => ?_⟩
  · rcases List.mem_append.mp hq with e | e
    · exact g.pr q e
    · rw [List.mem_singleton.mp e]; omega
  · rcases List.mem_append.mp hq with e | e
    · exact g.fo.ne q e
    · rw [List.mem_singleton.mp e]
      rcases hp with ⟨e1, e2⟩ | ⟨e1, e2⟩ <;> rw [e1, e2, rx, ry] <;> omega
  · rw [List.map_append, List.nodup_append]
    refine ⟨g.fo.nd, by simp, fun a ha b hb ab => ?_⟩
    simp only [List.map_cons, List.map_nil, List.mem_singleton] at hb
    obtain ⟨q, hq, rfl⟩ := List.mem_map.mp ha
    have := g.lt q hq
    rw [ab, hb, lx, rx] at this
    omega
  · rcases List.mem_append.mp hq with e | e
    · exact Nat.le_succ_of_le (g.lt q e)
    · rw [List.mem_singleton.mp e, lx, rx]; exact Nat.le_refl _
def spForest : Sp := fun vs H Q _ => ∃ (b : Addr) (k : Nat), vs = [.ref b, .int (k : Int)] ∧ BoxO H b ∧ 1 ≤ k ∧ k ≤ 12 ∧ ∀ (p ta : Addr) (n : Nat) (ts : Prs) (rk : Nat → Nat) H', Bx b H H' → H' p = some (.tup [.int (n : Int), .ref ta]) → TiesT H' ta ts → Wv n ts → Fo rk ts → ts.length ≤ 12 → Q (.ref p) H'
/-- how the law's part stands: k turns, and j ties of the next one, are done -/
structure Pq (ts : Prs) (h k j : Nat) (fs : List Nat) : Prop where
  nd : fs.Nodup
  cn : ∀ x ∈ fs, Cn ts h x
  me : h ∈ fs
  cl : ∀ (i x t : Nat) (p : Nat × Nat), fs[i]? = some x → ts[t]? = some p → (i < k ∨ (i = k ∧ t < j)) → (p.1 = x → p.2 ∈ fs) ∧ (p.2 = x → p.1 ∈ fs)
theorem Pq.add {ts : Prs} {h k j y : Nat} {fs : List Nat} (f : Pq ts h k j fs) (hk : k < fs.length) (hy : y ∉ fs) (c : Cn ts h y) : Pq ts h k j (fs ++ [y]) := by
  refine ⟨?_, fun x hx => ?_, List.mem_append_left _ f.me, fun i x t p hi ht z => ?_⟩
  · rw [List.nodup_append]
    exact ⟨f.nd, by simp, fun a ha b hb ab => by rw [List.mem_singleton] at hb; rw [ab, hb] at ha; exact hy ha⟩
  · rcases List.mem_append.mp hx with e | e
    · exact f.cn x e
    · rw [List.mem_singleton.mp e]; exact c
  · rw [List.getElem?_append_left (by omega)] at hi
    obtain ⟨a, b⟩ := f.cl i x t p hi ht z
    exact ⟨fun e => List.mem_append_left _ (a e), fun e => List.mem_append_left _ (b e)⟩
theorem Pq.next {ts : Prs} {h k j x : Nat} {fs : List Nat} {p : Nat × Nat} (f : Pq ts h k j fs) (hx : fs[k]? = some x) (hp : ts[j]? = some p) (a : p.1 = x → p.2 ∈ fs) (b : p.2 = x → p.1 ∈ fs) : Pq ts h k (j + 1) fs := by
  refine ⟨f.nd, f.cn, f.me, fun i y t q hi ht z => ?_⟩
  by_cases c : i = k ∧ t = j
  · obtain ⟨rfl, rfl⟩ := c
    obtain rfl := lookup_same hi hx
    obtain rfl := lookup_same ht hp
    exact ⟨a, b⟩
  · exact f.cl i y t q hi ht (by omega)
theorem Pq.turn {ts : Prs} {h k : Nat} {fs : List Nat} (f : Pq ts h k ts.length fs) : Pq ts h (k + 1) 0 fs := ⟨f.nd, f.cn, f.me, fun i x t p hi ht z => f.cl i x t p hi ht (by have := lt_at ht; omega)⟩
theorem Pq.past {ts : Prs} {h k : Nat} {fs : List Nat} (f : Pq ts h k 0 fs) (hk : fs.length ≤ k) : Pq ts h (k + 1) 0 fs := ⟨f.nd, f.cn, f.me, fun i x t p hi ht z => f.cl i x t p hi ht (by have := lt_at hi; omega)⟩
theorem Pq.init (ts : Prs) (h : Nat) : Pq ts h 0 0 [h] := ⟨by simp, fun x hx => by rw [List.mem_singleton.mp hx]; exact .refl, List.mem_singleton.mpr rfl, fun i x t p _ _ z => by omega⟩
theorem Pq.len {n : Nat} {ts : Prs} {h k j : Nat} {fs : List Nat} (hW : Wv n ts) (hn : h < n) (f : Pq ts h k j fs) : fs.length ≤ n := by
  have := nodup_sub fs (List.range n) f.nd fun x hx => List.mem_range.mpr ((f.cn x hx).lt hW hn)
  rw [List.length_range] at this
  exact this
theorem Pq.all {ts : Prs} {h k : Nat} {fs : List Nat} (f : Pq ts h k 0 fs) (hk : fs.length ≤ k) {x : Nat} (c : Cn ts h x) : x ∈ fs := by
  induction c with
  | refl => exact f.me
  | step _ j ih =>
    obtain ⟨i, hi⟩ := List.getElem?_of_mem ih
    obtain ⟨p, hp, z⟩ := j
    obtain ⟨t, ht⟩ := List.getElem?_of_mem hp
    obtain ⟨a, b⟩ := f.cl i _ t p hi ht (.inl (by have := lt_at hi; omega))
    rcases z with ⟨e1, e2⟩ | ⟨e1, e2⟩
    · rw [e2]; exact a e1.symm
    · rw [e2]; exact b e1.symm
def spPartL : Sp := fun vs H Q _ => ∃ (ta : Addr) (n : Nat) (ts : Prs) (h : Nat), vs = [.ref ta, .int (h : Int)] ∧ TiesT H ta ts ∧ Wv n ts ∧ h < n ∧ ∀ (l : Addr) (ns : List Nat) H', Same H H' → H l = none → H' l = some (.lst (vn ns)) → PartL ts h ns → Q (.ref l) H'
section
variable {P : Program} {w : World} {K : PySem.W.Frag} {mg : Str → Option Value} {base : Heap}
abbrev nFo : List Str := ["_law_box_here", "_law_most", "_law_many", "_law_style", "_law_ties", "_law_names", "_law_at", "_law_near", "_law_pair"]
theorem scFo : FnScope nFo ["_law_box_here", "_law_most"] (defScope sLForest) := ⟨rfl, rfl, rfl, by decide +kernel, rfl, by decide +kernel, by decide +kernel⟩
theorem ok_forest {f fT fM : Addr} {fd fdT fdM : FuncData} (D : Df K mg "_law_forest" sLForest ["_law_box_here", "_law_most"] f fd) (DT : Df K mg "_law_take" sLTake ["_law_box_here", "_law_many"] fT fdT) (DM : Df K mg "_law_mixed" sLMixed ["_law_box_here", "_law_some"] fM fdM) (B : Bt mg)
    (GT : FnOk P w K mg base CX0 1 fT fdT ["_law_box_here", "_law_many"] spTake) (GM : FnOk P w K mg base CX0 2 fM fdM ["_law_box_here", "_law_some"] (spMixed K)) : FnOk P w K mg base CX0 3 f fd ["_law_box_here", "_law_most"] spForest := by
  refine D.F.ok scFo (fun vs H Q E h => ?_) (fun cdv A outer s H vs Q E hr h => ?_)
  · obtain ⟨b, k, rfl, _⟩ := h
    rfl
  · obtain ⟨b, most, rfl, hb, m1, m12, q⟩ := h
    have r1 := hr.mono (show 1 ≤ 2 by decide)
    refine ⟨_, pss_cons (ps_par3 (i := 2) (j := 3) (l := 4) rfl scFo.nd rfl rfl rfl (by decide) (by decide) (by decide) rfl rfl rfl (pa_cons (pe_op op_add pe_int (pc DT GT r1 pass0 (pa_cons (pv 0) (pa_cons (pv 1) pa_nil)))) (pa_cons (pc DT GT r1 pass0 (pa_cons (pv 0) (pa_cons pe_int pa_nil))) (pa_cons (pe_lst pa_nil) pa_nil))) rfl)
      (pss_cons (ps_set (i := 5) scFo.nd rfl (.inl rfl) (pc DM GM hr pass0 (pa_cons (pv 0) (pa_cons (pe_listRg rfl (by rfl) B.list (prg_1 (by rfl) B.range (pv 2))) pa_nil))))
      (pss_cons (ps_for PassesOwn.never rfl (pi_range2 (by rfl) B.range (pa_cons pe_int (pa_cons (pv 2) pa_nil))) (pg_name (i := 6) scFo.nd rfl (.inl rfl))
        (pss_cons (ps_set (i := 7) scFo.nd rfl (.inl rfl) (pe_ix ix_list (pe_lst (pa_cons (pc DT GT r1 pass0 (pa_cons (pv 0) (pa_cons (pv 6) pa_nil))) (pa_cons (pe_op op_sub (pv 6) pe_int) (pa_cons pe_int (pa_cons (pc DT GT r1 pass0 (pa_cons (pv 0) (pa_cons (pv 6) pa_nil))) pa_nil))))) (pv 3) (fun _ _ => rfl)))
        (pss_one (ps_if (pt_cmpR op_gt (pc DT GT r1 pass0 (pa_cons (pv 0) (pa_cons pe_int pa_nil))) pe_int (nomark _))
          (pss_cons (ps_set (i := 8) scFo.nd rfl (.inl rfl) (pe_tup (pa_cons (pe_ix ix_list (pv 5) (pv 6) (fun _ _ => rfl)) (pa_cons (pe_ix ix_list (pv 5) (pv 7) (fun _ _ => rfl)) pa_nil))))
          (pss_one (ps_expr (pe_bm PySem.F.plainAttrs_list PySem.F.slot_list_append PySem.F.type_list_append mt_append (pv 4) (pa_cons (pe_ifExp (pt_cmpR op_eq (pc DT GT r1 pass0 (pa_cons (pv 0) (pa_cons pe_int pa_nil))) pe_int (nomark _)) (pv 8) (pe_tup (pa_cons (pe_ix ix_tup (pv 8) pe_int (fun _ _ => rfl)) (pa_cons (pe_ix ix_tup (pv 8) pe_int (fun _ _ => rfl)) pa_nil)))) pa_nil))))) pss_nil))))
      (pss_one (ps_ret (pe_tup (pa_cons (pv 2) (pa_cons (pe_callTy call_tuple_of (by rfl) B.tuple PyProof.Rows.boot_tuple (pa_cons (pc DM GM hr pass0 (pa_cons (pv 0) (pa_cons (pv 4) pa_nil))) pa_nil)) pa_nil))))))), ?_⟩
    refine ⟨_, rfl, _, rfl, b, (most : Int), rfl, hb, by omega, by omega, fun r H1 r0 r1' bx1 => ⟨_, _, rfl, rfl, ?_⟩⟩
    obtain ⟨n, en, n1, n12⟩ : ∃ n : Nat, 1 + r = (n : Int) ∧ 1 ≤ n ∧ n ≤ 12 := ⟨(1 + r).toNat, by omega, by omega, by omega⟩
    refine ⟨_, rfl, b, 4, rfl, bx1.1, by decide, by decide, fun st H2 st0 st4 bx2 => ⟨(by show 0 ≤ sizeLine; decide), fun tl htl => ?_⟩⟩
    have bx3 := (bx1.trans bx2).new (o := HO.lst []) htl
    have ntl : tl ≠ b := (bx1.trans bx2).ne htl
    have ftl : H tl = none := (bx1.trans bx2).free ntl htl
    have htl3 : (upd H2 tl (.lst [])) tl = some (.lst []) := upd_same
    generalize upd H2 tl (.lst []) = H3 at bx3 htl3 ⊢
    refine ⟨_, _, _, rfl, ?_⟩
    dsimp only [List.set]
    rw [en]
    refine ⟨_, rfl, _, rfl, _, rfl, RgOk.of_le (by omega) (by omega) (by omega) (by omega), fun rl hrl => ?_⟩
    have nrl : rl ≠ b := bx3.ne hrl
    have bx4 := bx3.new (o := HO.lst (rgV 0 (n : Int))) hrl
    have htl4 := same_new (o := HO.lst (rgV 0 (n : Int))) hrl _ _ htl3
    refine ⟨b, rl, rgV 0 (n : Int), rfl, bx4.1, SqL.of upd_same, nrl, by rw [rgV_vn, vn_len, List.length_range]; omega, fun nl ys H4 bx5 hnl0 hnl pm => ?_⟩
    have htl5 := bx5.2 _ _ htl4 ntl
    have bx6 := bx4.trans bx5
    rw [rgV_vn] at pm
    obtain ⟨nm, rfl, pn⟩ := perm_map_inv (f := fun (x : Nat) => V.int (x : Int)) pm
    have nd : nm.Nodup := pn.nodup_iff.mpr List.nodup_range
    have ml : nm.length = n := by rw [pn.length_eq, List.length_range]
    have mem : ∀ x ∈ nm, x < n := fun x hx => List.mem_range.mp (pn.mem_iff.mp hx)
    have hnl' : H4 nl = some (.lst (vn nm)) := hnl
    have nnl : nl ≠ b := (bx4.1).nn hnl0
    have ntn : tl ≠ nl := fun z => by rw [z, hnl0] at htl4; cases htl4
    refine gn ?_
    dsimp only [List.set]
    have etn : (((n : Int) - 1).toNat) = n - 1 := by omega
    refine ⟨_, rfl, 1, (n : Int), rfl, ⟨by omega, by omega, by omega, by omega⟩, for_range (fun k σ H' => ∃ (as : List Addr) (ts : Prs) (v6 v7 v8 : Option V), σ = [some (.ref b), some (.int (most : Int)), some (.int (n : Int)), some (.int st), some (.ref tl), some (.ref nl), v6, v7, v8] ∧ Bx b H H' ∧ H' nl = some (.lst (vn nm)) ∧ H' tl = some (.lst (as.map V.ref)) ∧ PrsA H' as ts ∧ Gr n nm k ts)
      ⟨[], [], none, none, none, rfl, bx6, hnl', htl5, ⟨rfl, fun i a t e => (by cases e)⟩, ⟨fun p hp => (by cases hp), Nat.zero_le _, ⟨fun p hp => (by cases hp), (by simp)⟩, fun p hp => (by cases hp)⟩⟩ ?_ ?_⟩
    · rintro k σ H5 hk ⟨as, ts, v6, v7, v8, rfl, bx, hn5, ht5, hA, G⟩
      have kn : k + 1 < n := by omega
      have lnt := G.ln
      have las := hA.1
      -- the four nears
      refine ⟨_, rfl, _, rfl, b, (1 + (k : Int)), rfl, bx.1, by omega, by omega, fun x1 H6 x10 x11 bx7 => ⟨_, rfl, _, _, rfl, rfl, ?_⟩⟩
      refine ⟨_, rfl, _, rfl, b, (1 + (k : Int)), rfl, bx7.1, by omega, by omega, fun x2 H7 x20 x21 bx8 => ⟨(by show 4 ≤ sizeLine; decide), fun nr hnr => ?_⟩⟩
      have nnr : nr ≠ b := bx8.ne hnr
      have bx9 := (bx7.trans bx8).new (o := HO.lst [V.int x1, V.int (1 + (k : Int) - 1), V.int 0, V.int x2]) hnr
      obtain ⟨i, hi, eat⟩ : ∃ i : Nat, i ≤ k ∧ atI [V.int x1, V.int (1 + (k : Int) - 1), V.int 0, V.int x2] st = some (V.int (i : Int)) := by
        have s4 : st = 0 ∨ st = 1 ∨ st = 2 ∨ st = 3 := by omega
        rcases s4 with rfl | rfl | rfl | rfl
        · exact ⟨x1.toNat, by omega, (atI_nat (j := 0) rfl).trans (by rw [show ((x1.toNat : Nat) : Int) = x1 by omega])⟩
        · exact ⟨k, Nat.le_refl _, (atI_nat (j := 1) rfl).trans (by rw [show 1 + (k : Int) - 1 = (k : Int) by omega])⟩
        · exact ⟨0, Nat.zero_le _, atI_nat (j := 2) rfl⟩
        · exact ⟨x2.toNat, by omega, (atI_nat (j := 3) rfl).trans (by rw [show ((x2.toNat : Nat) : Int) = x2 by omega])⟩
      refine ⟨_, rfl, nr, _, st, _, rfl, rfl, SqL.of upd_same, eat, ?_⟩
      have hn9 := bx9.2 _ _ hn5 nnl
      have ht9 := bx9.2 _ _ ht5 ntl
      have hA9 : PrsA (upd H7 nr (.lst [V.int x1, V.int (1 + (k : Int) - 1), V.int 0, V.int x2])) as ts := hA.kp fun a xs e => bx9.tup bx.1 e
      have bx10 := bx.trans bx9
      generalize upd H7 nr (.lst [V.int x1, V.int (1 + (k : Int) - 1), V.int 0, V.int x2]) = H8 at bx9 bx10 hn9 ht9 hA9 ⊢
      refine gn ?_
      dsimp only [List.set]
      obtain ⟨x, hx⟩ := ex_at (l := nm) (i := k + 1) (by omega)
      obtain ⟨y, hy⟩ := ex_at (l := nm) (i := i) (by omega)
      refine ⟨_, rfl, b, 9, rfl, bx10.1, by decide, by decide, fun r9 H9 r90 r91 bx11 => ⟨_, _, rfl, rfl, _, rfl, ?_⟩⟩
      have bx12 := bx10.trans bx11
      have hn12 := bx11.2 _ _ hn9 nnl
      have ht12 := bx11.2 _ _ ht9 ntl
      have hA12 : PrsA H9 as ts := hA9.kp fun a xs e => bx11.tup bx10.1 e
      refine ifD (fun ec => ?_) fun ec => ?_
      · refine ⟨_, rfl, _, rfl, nl, _, (1 + (k : Int)), .int (x : Int), rfl, rfl, SqL.of hn12, at_of (j := k + 1) (by omega) (vn_at hx), _, rfl, _, rfl, nl, _, (i : Int), .int (y : Int), rfl, rfl, SqL.of hn12, at_i (vn_at hy), (by show 2 ≤ sizeLine; decide), fun pa hpa => ?_⟩
        have spa := same_new (o := HO.tup [V.int (x : Int), V.int (y : Int)]) hpa
        have hp13 : (upd H9 pa (.tup [V.int (x : Int), V.int (y : Int)])) pa = some (.tup [V.int (x : Int), V.int (y : Int)]) := upd_same
        have bx13 := bx12.same spa
        have hn13 := spa _ _ hn12
        have ht13 := spa _ _ ht12
        have hA13 := hA12.same spa
        generalize upd H9 pa (.tup [V.int (x : Int), V.int (y : Int)]) = H10 at hp13 bx13 hn13 ht13 hA13 ⊢
        refine gn ?_
        dsimp only [List.set]
        refine ⟨_, rfl, .inl ⟨rfl, _, SqL.of ht13⟩, ?_⟩
        refine ⟨_, rfl, b, 2, rfl, bx13.1, by decide, by decide, fun r2 H11 r20 r21 bx14 => ⟨rfl, _, rfl, ?_⟩⟩
        have bx15 := bx13.trans bx14
        have hn15 := bx14.2 _ _ hn13 nnl
        have ht15 := bx14.2 _ _ ht13 ntl
        have hp15 := bx14.tup bx13.1 hp13
        have hA15 : PrsA H11 as ts := hA13.kp fun a xs e => bx14.tup bx13.1 e
        -- the tie is laid
        have lay : ∀ (a : Addr) (p : Nat × Nat) (H' : Hp), H' a = some (.tup (pV p)) → ((p.1 = x ∧ p.2 = y) ∨ (p.1 = y ∧ p.2 = x)) → Bx b H H' → H' nl = some (.lst (vn nm)) → H' tl = some (.lst (as.map V.ref)) → PrsA H' as ts →
            ∃ (as' : List Addr) (ts' : Prs) (v6 v7 v8 : Option V), [some (V.ref b), some (.int (most : Int)), some (.int (n : Int)), some (.int st), some (.ref tl), some (.ref nl), some (.int (1 + (k : Int))), some (.int (i : Int)), some (.ref pa)] = [some (.ref b), some (.int (most : Int)), some (.int (n : Int)), some (.int st), some (.ref tl), some (.ref nl), v6, v7, v8] ∧
              Bx b H (upd H' tl (.lst (as.map V.ref ++ [.ref a]))) ∧ (upd H' tl (.lst (as.map V.ref ++ [.ref a]))) nl = some (.lst (vn nm)) ∧ (upd H' tl (.lst (as.map V.ref ++ [.ref a]))) tl = some (.lst (as'.map V.ref)) ∧ PrsA (upd H' tl (.lst (as.map V.ref ++ [.ref a]))) as' ts' ∧ Gr n nm (k + 1) ts' := fun a p H' ha hp bx' hn' ht' hA' => by
          have kp : ∀ {c : Addr} {xs : List V}, H' c = some (.tup xs) → (upd H' tl (.lst (as.map V.ref ++ [.ref a]))) c = some (.tup xs) := fun e => by rw [upd_ne (ne_of e ht' (by intro z; cases z))]; exact e
          refine ⟨as ++ [a], ts ++ [p], _, _, _, rfl, bx'.put ftl ntl, by rw [upd_ne ntn.symm]; exact hn', by rw [upd_same, List.map_append]; rfl, ⟨by rw [List.length_append, List.length_append, hA'.1]; rfl, fun j c u e1 e2 => ?_⟩, G.add nd mem hx hy hi hp⟩
          rcases snoc_at e1 with e1 | ⟨j1, rfl⟩
          · rcases snoc_at e2 with e2 | ⟨j2, _⟩
            · exact kp (hA'.2 j c u e1 e2)
            · have := lt_at e1
              have := hA'.1
              omega
          · rcases snoc_at e2 with e2 | ⟨_, rfl⟩
            · have := lt_at e2
              have := hA'.1
              omega
            · exact kp ha
        have lsz : (as.map V.ref).length < sizeLine := szl (by rw [List.length_map]; omega)
        refine ifD (fun ec2 => ?_) fun ec2 => ?_
        · refine ⟨_, rfl, tl, _, _, rfl, rfl, ht15, lsz, ?_⟩
          exact lay pa (x, y) H11 hp15 (.inl ⟨rfl, rfl⟩) bx15 hn15 ht15 hA15
        · refine ⟨_, rfl, pa, _, 1, .int (y : Int), rfl, rfl, SqT.of hp15, atI_nat (j := 1) rfl, _, rfl, pa, _, 0, .int (x : Int), rfl, rfl, SqT.of hp15, atI_nat (j := 0) rfl, (by show 2 ≤ sizeLine; decide), fun pb hpb => ?_⟩
          have spb := same_new (o := HO.tup [V.int (y : Int), V.int (x : Int)]) hpb
          refine ⟨tl, _, _, rfl, rfl, spb _ _ ht15, lsz, ?_⟩
          exact lay pb (y, x) _ upd_same (.inr ⟨rfl, rfl⟩) (bx15.same spb) (spb _ _ hn15) (spb _ _ ht15) (hA15.same spb)
      · exact ⟨as, ts, _, _, _, rfl, bx12, hn12, ht12, hA12, G.skip⟩
    · rintro σ H5 ⟨as, ts, v6, v7, v8, rfl, bx, hn5, ht5, hA, G⟩
      rw [etn] at G
      have lnt := G.ln
      have las := hA.1
      refine ⟨_, rfl, _, rfl, _, rfl, b, tl, as.map V.ref, rfl, bx.1, SqL.of ht5, ntl, by rw [List.length_map]; omega, fun ml' ys H6 bx7 hml0 hml pm7 => ?_⟩
      have ez : as.map V.ref = (as.zip ts).map fun e => V.ref e.1 := by
        have : as = (as.zip ts).map (·.1) := (List.map_fst_zip (Nat.le_of_eq las)).symm
        rw [this, List.map_map, ← this]; rfl
      rw [ez] at pm7
      obtain ⟨l', rfl, pl⟩ := perm_map_inv pm7
      have ets : ts = (as.zip ts).map (·.2) := (List.map_snd_zip (Nat.le_of_eq las.symm)).symm
      have pts : (l'.map (·.2)).Perm ts := by
        have := pl.map (·.2)
        rw [← ets] at this
        exact this
      refine ⟨ml', _, rfl, .inl ⟨SqL.of hml, fun ta hta => ⟨(by show 2 ≤ sizeLine; decide), fun pr hpr => ?_⟩⟩⟩
      have bx8 := bx.trans bx7
      have sm := (same_new (o := HO.tup (l'.map fun e => V.ref e.1)) hta)
      have sm2 := sm.trans (same_new (o := HO.tup [V.int (n : Int), V.ref ta]) hpr)
      refine q pr ta n (l'.map (·.2)) (rkN nm) _ (bx8.same sm2) upd_same ⟨l'.map (·.1), ?_, ?_, fun i a t e1 e2 => ?_⟩ ⟨n1, n12, by rw [pts.length_eq]; omega, fun p hp => G.pr p (pts.mem_iff.mp hp)⟩ (G.fo.perm pts.symm) (by rw [pts.length_eq]; omega)
      · rw [same_new (o := HO.tup [V.int (n : Int), V.ref ta]) hpr _ _ upd_same, List.map_map]; rfl
      · rw [List.length_map, List.length_map]
      · obtain ⟨e, he, rfl⟩ := at_map e1
        obtain ⟨e', he', rfl⟩ := at_map e2
        obtain rfl := lookup_same he he'
        have hz := pl.mem_iff.mp (List.mem_of_getElem? he)
        obtain ⟨j, hj⟩ := List.getElem?_of_mem hz
        rw [show e = (e.1, e.2) from rfl, List.getElem?_zip_eq_some] at hj
        exact sm2 _ _ (bx7.tup bx.1 (hA.2 j _ _ hj.1 hj.2))
abbrev nPl : List Str := ["_law_ties", "_law_house", "_law_found", "_law_turn", "_law_one", "_law_other"]
theorem scPl : FnScope nPl ["_law_ties", "_law_house"] (defScope sLPart) := ⟨rfl, rfl, rfl, by decide +kernel, rfl, by decide +kernel, by decide +kernel⟩
theorem ok_partL {f : Addr} {fd : FuncData} (D : Df K mg "_law_part" sLPart ["_law_ties", "_law_house"] f fd) (B : Bt mg) : FnOk P w K mg base CX0 1 f fd ["_law_ties", "_law_house"] spPartL := by
  refine D.F.ok scPl (fun vs H Q E h => ?_) (fun cdv A outer s H vs Q E hr h => ?_)
  · obtain ⟨ta, n, ts, h, rfl, _⟩ := h
    rfl
  · obtain ⟨ta, n, ts, h, rfl, ⟨tas, ht, hA⟩, hW, hn, q⟩ := h
    refine ⟨_, pss_cons (ps_set (i := 2) scPl.nd rfl (.inl rfl) (pe_lst (pa_cons (pv 1) pa_nil)))
      (pss_cons (ps_for PassesOwn.never rfl (pi_range1 (by rfl) B.range (pa_cons pe_int pa_nil)) (pg_name (i := 3) scPl.nd rfl (.inl rfl))
        (pss_one (ps_if (pt_cmpR op_lt (pv 3) (pe_callB call_len_seq (by rfl) B.len PySem.boot_len (pa_cons (pv 2) pa_nil)) (nomark _))
          (pss_one (ps_for PassesOwn.never rfl (pi_tup (pv 0)) (pg_tup rfl (pgs_cons (pg_name (i := 4) scPl.nd rfl (.inl rfl)) (pgs_cons (pg_name (i := 5) scPl.nd rfl (.inl rfl)) pgs_nil)))
            (pss_cons (ps_if (PW.pt (pw_and (pt_cmpR op_eq (pv 4) (pe_ix ix_list (pv 2) (pv 3) (fun _ _ => rfl)) (nomark _)) (pw_and1 (pt_cmpR op_notIn_seq (pv 5) (pv 2) rfl))))
              (pss_one (ps_expr (pe_bm PySem.F.plainAttrs_list PySem.F.slot_list_append PySem.F.type_list_append mt_append (pv 2) (pa_cons (pv 5) pa_nil)))) pss_nil)
            (pss_one (ps_if (PW.pt (pw_and (pt_cmpR op_eq (pv 5) (pe_ix ix_list (pv 2) (pv 3) (fun _ _ => rfl)) (nomark _)) (pw_and1 (pt_cmpR op_notIn_seq (pv 4) (pv 2) rfl))))
              (pss_one (ps_expr (pe_bm PySem.F.plainAttrs_list PySem.F.slot_list_append PySem.F.type_list_append mt_append (pv 2) (pa_cons (pv 4) pa_nil)))) pss_nil))))) pss_nil)))
      (pss_one (ps_ret (pe_callB cr_sortedI (by rfl) B.sorted (by decide +kernel) (pa_cons (pv 2) pa_nil))))), ?_⟩
    have n12 := hW.n12
    have t20 := hW.t20
    refine ⟨_, rfl, (by show 1 ≤ sizeLine; decide), fun fl hfl => ?_⟩
    have s1 := same_new (o := HO.lst [V.int (h : Int)]) hfl
    have hf1 : (upd H fl (.lst [V.int (h : Int)])) fl = some (.lst (vn [h])) := upd_same
    generalize upd H fl (.lst [V.int (h : Int)]) = H1 at s1 hf1 ⊢
    refine gn ?_
    dsimp only [List.set]
    refine ⟨12, rfl, by decide, by decide, for_range (fun k σ H' => ∃ (fs : List Nat) (v3 v4 v5 : Option V), σ = [some (.ref ta), some (.int (h : Int)), some (.ref fl), v3, v4, v5] ∧ Same H H' ∧ H' fl = some (.lst (vn fs)) ∧ Pq ts h k 0 fs)
      ⟨[h], none, none, none, rfl, s1, hf1, Pq.init ts h⟩ ?_ ?_⟩
    · rintro k σ H2 hk ⟨fs, v3, v4, v5, rfl, s2, hf, F⟩
      refine ⟨_, rfl, _, rfl, fl, _, rfl, .inl (SqL.of hf), _, _, rfl, rfl, _, rfl, ifD (fun ec => ?_) fun ec => ?_⟩
      · have hkl : k < fs.length := by
          have z : 0 + (k : Int) < ((vn fs).length : Int) := of_decide_eq_true ec
          rw [vn_len] at z
          omega
        refine ⟨_, rfl, ta, rfl, ⟨_, SqT.of (s2 _ _ ht)⟩, for_tup (K := K) (a := ta) (xs := tas.map V.ref) (fun j σ H' => ∃ (fs : List Nat) (v4 v5 : Option V), σ = [some (.ref ta), some (.int (h : Int)), some (.ref fl), some (.int (0 + (k : Int))), v4, v5] ∧ Same H H' ∧ H' fl = some (.lst (vn fs)) ∧ Pq ts h k j fs ∧ k < fs.length)
          ⟨fs, _, _, rfl, s2, hf, F, hkl⟩ (fun j σ H' _ ⟨_, _, _, _, s2, _⟩ => SqT.of (s2 _ _ ht)) ?_ ?_⟩
        · rintro j x σ H3 hx ⟨fs, v4, v5, rfl, s3, hf, F, hkl⟩
          obtain ⟨a, p, rfl, ha, hp, hap⟩ := hA.get' hx
          have hap' : H3 a = some (.tup [.int (p.1 : Int), .int (p.2 : Int)]) := s3 _ _ hap
          have pm := List.mem_of_getElem? hp
          refine ⟨a, _, rfl, SqT.of hap', rfl, _, _, rfl, _, _, rfl, rfl, ?_⟩
          -- the second test
          refine seqG (fun σ H' => ∃ fs' x, σ = [some (.ref ta), some (.int (h : Int)), some (.ref fl), some (.int (0 + (k : Int))), some (.int (p.1 : Int)), some (.int (p.2 : Int))] ∧ Same H H' ∧ H' fl = some (.lst (vn fs')) ∧ Pq ts h k j fs' ∧ k < fs'.length ∧ fs'[k]? = some x ∧ (p.1 = x → p.2 ∈ fs')) ?_ (fun go => ?_)
          · rintro σ H4 ⟨fs', x, rfl, s4, hf4, F4, hk4, hx4, c4⟩
            have l20 := F4.len hW hn
            refine ⟨_, rfl, _, rfl, _, rfl, fl, _, 0 + (k : Int), .int (x : Int), rfl, rfl, SqL.of hf4, at_of (j := k) (by omega) (vn_at hx4), rfl, _, rfl, ifD (fun e1 => ?_) fun e1 => ?_⟩
            · have e1' : p.2 = x := by
                have z := of_decide_eq_true e1
                injection z with z
                omega
              refine ⟨_, rfl, _, rfl, fl, vn fs', rfl, .inl (SqL.of hf4), rfl, flat_vn fs', _, rfl, ?_⟩
              simp only [if_true]
              rw [inV_vn]
              refine ifD (fun e2 => ?_) fun e2 => ?_
              · have e2' : p.1 ∉ fs' := by simpa using e2
                refine ⟨_, rfl, .inl ⟨rfl, _, SqL.of hf4⟩, _, rfl, fl, _, _, rfl, rfl, hf4, szl (by rw [vn_len]; omega), ?_⟩
                have cx := F4.cn x (List.mem_of_getElem? hx4)
                have F5 := F4.add hk4 e2' (cx.step ⟨p, pm, .inr ⟨e1'.symm, rfl⟩⟩)
                refine ⟨fs' ++ [p.1], _, _, rfl, fun c o e => ?_, by rw [upd_same, vn, vn, List.map_append]; rfl, F5.next (x := x) (by rw [List.getElem?_append_left hk4]; exact hx4) hp (fun z => List.mem_append_left _ (c4 z)) (fun _ => List.mem_append_right _ (List.mem_singleton.mpr rfl)), by rw [List.length_append]; omega⟩
                rw [upd_ne (ne_of_none e hfl)]
                exact s4 _ _ e
              · have e2' : p.1 ∈ fs' := by simpa using e2
                exact ⟨fs', _, _, rfl, s4, hf4, F4.next hx4 hp c4 fun _ => e2', hk4⟩
            · have e1' : p.2 ≠ x := fun z => by
                have := of_decide_eq_false e1
                exact this (by rw [z])
              exact ⟨fs', _, _, rfl, s4, hf4, F4.next hx4 hp c4 fun z => absurd z e1', hk4⟩
          · obtain ⟨x, hx4⟩ := ex_at (l := fs) (i := k) hkl
            have l20 := F.len hW hn
            refine ⟨_, rfl, _, rfl, _, rfl, fl, _, 0 + (k : Int), .int (x : Int), rfl, rfl, SqL.of hf, at_of (j := k) (by omega) (vn_at hx4), rfl, _, rfl, ifD (fun e1 => ?_) fun e1 => ?_⟩
            · have e1' : p.1 = x := by
                have z := of_decide_eq_true e1
                injection z with z
                omega
              refine ⟨_, rfl, _, rfl, fl, vn fs, rfl, .inl (SqL.of hf), rfl, flat_vn fs, _, rfl, ?_⟩
              simp only [if_true]
              rw [inV_vn]
              refine ifD (fun e2 => ?_) fun e2 => ?_
              · have e2' : p.2 ∉ fs := by simpa using e2
                refine ⟨_, rfl, .inl ⟨rfl, _, SqL.of hf⟩, _, rfl, fl, _, _, rfl, rfl, hf, szl (by rw [vn_len]; omega), ?_⟩
                have cx := F.cn x (List.mem_of_getElem? hx4)
                have F5 := F.add hkl e2' (cx.step ⟨p, pm, .inl ⟨e1'.symm, rfl⟩⟩)
                refine go _ _ ⟨fs ++ [p.2], x, rfl, fun c o e => ?_, by rw [upd_same, vn, vn, List.map_append]; rfl, F5, by rw [List.length_append]; omega, by rw [List.getElem?_append_left hkl]; exact hx4, fun _ => List.mem_append_right _ (List.mem_singleton.mpr rfl)⟩
                rw [upd_ne (ne_of_none e hfl)]
                exact s3 _ _ e
              · have e2' : p.2 ∈ fs := by simpa using e2
                exact go _ _ ⟨fs, x, rfl, s3, hf, F, hkl, hx4, fun _ => e2'⟩
            · have e1' : p.1 ≠ x := fun z => by
                have := of_decide_eq_false e1
                exact this (by rw [z])
              exact go _ _ ⟨fs, x, rfl, s3, hf, F, hkl, hx4, fun z => absurd z e1'⟩
        · rintro σ H3 ⟨fs, v4, v5, rfl, s3, hf, F, hkl⟩
          rw [List.length_map, hA.1] at F
          exact ⟨fs, _, _, _, rfl, s3, hf, F.turn⟩
      · have hkl : fs.length ≤ k := by
          have z : ¬ (0 + (k : Int) < ((vn fs).length : Int)) := of_decide_eq_false ec
          rw [vn_len] at z
          omega
        exact ⟨fs, _, _, _, rfl, s2, hf, F.past hkl⟩
    · rintro σ H2 ⟨fs, v3, v4, v5, rfl, s2, hf, F⟩
      have l12 := F.len hW hn
      have F' : Pq ts h 12 0 fs := F
      refine ⟨_, rfl, fl, fs.map fun (x : Nat) => (x : Int), rfl, SqL.of (by rw [hf, vn_row]; rfl), fun ns' p pm asc hp0 => ?_⟩
      have mem : ∀ y, y ∈ ns' ↔ 0 ≤ y ∧ Cn ts h y.toNat := fun y => by
        rw [pm.mem_iff, List.mem_map]
        constructor
        · rintro ⟨x, hx, rfl⟩
          exact ⟨by omega, by rw [Int.toNat_natCast]; exact F'.cn x hx⟩
        · rintro ⟨y0, c⟩
          exact ⟨y.toNat, F'.all (by omega) c, by omega⟩
      have nd : ns'.Nodup := pm.nodup_iff.mpr (by
        rw [List.nodup_iff_pairwise_ne, List.pairwise_map]
        exact F'.nd.imp fun {a b} hab => by omega)
      have eys : ns'.map V.int = vn (ns'.map Int.toNat) := by
        unfold vn
        rw [List.map_map]
        refine List.map_congr_left fun y hy => ?_
        have := ((mem y).mp hy).1
        show V.int y = V.int ((y.toNat : Nat) : Int)
        congr 1; omega
      refine q p (ns'.map Int.toNat) _ (s2.trans (same_new hp0)) (s2.free hp0) (by rw [upd_same, eys]) ⟨?_, fun x => ?_⟩
      · rw [List.pairwise_map]
        refine (asc.and nd).imp_of_mem fun {a b} ha hb hab => ?_
        have := ((mem a).mp ha).1
        have := ((mem b).mp hb).1
        have := hab.1
        have := hab.2
        omega
      · rw [List.mem_map]
        constructor
        · rintro ⟨y, hy, rfl⟩
          exact ((mem y).mp hy).2
        · intro c
          exact ⟨(x : Int), (mem _).mpr ⟨by omega, by rw [Int.toNat_natCast]; exact c⟩, Int.toNat_natCast x⟩
end
end K1
namespace K1
open PySem PySem.Spec PyProof.Rows L2
theorem pb_three {x : Int} {a b : List Int} (hx : x.natAbs < 10 ^ 200) (ha : ∀ i ∈ a, i.natAbs < 10 ^ 200) (hb : ∀ i ∈ b, i.natAbs < 10 ^ 200) (la : a.length ≤ 20) (lb : b.length ≤ 20) : PB (.tuple [.int x, .tuple (dI a), .tuple (dI b)]) 2 50000 :=
  (PB.tuple (PBA.cons (PB.int hx) (PBA.cons (PB.tuple (pba_ints a ha)) (PBA.cons (PB.tuple (pba_ints b hb)) PBA.nil)))).mono (by decide) (by omega)
theorem dp_three {K : PySem.W.Frag} {H : Hp} {p x y : Addr} {i : Int} {a b : List Int} (h : H p = some (.tup [.int i, .ref x, .ref y])) (hx : H x = some (.tup (vrow a))) (hy : H y = some (.tup (vrow b))) : Dp K H (.ref p) (.tuple [.int i, .tuple (dI a), .tuple (dI b)]) := .tup (SqT.of h) (.cons (.int i) (.cons (dp_tup hx) (.cons (dp_tup hy) .nil)))
theorem asgE1 {t : TT} {A B : TE} {g : TG} {D : Ends} {σ : L2.St} {H : Hp} (G : V → Hp → Prop) (hq : ∀ v H', G v H' → g v σ H' D.nx) (h : (∀ v H', G v H' → g v σ H' D.nx) → tIf t A B σ H fun v H' => g v σ H' D.nx) : tAsg (tIf t A B) g D σ H := h hq
theorem asgEG {t : TT} {A B : TE} {g : TG} {u : TS} {D : Ends} {σ : L2.St} {H : Hp} (G : V → Hp → Prop) (hq : ∀ v H', G v H' → g v σ H' (u D)) (h : (∀ v H', G v H' → g v σ H' (u D)) → tIf t A B σ H fun v H' => g v σ H' (u D)) : tSeq (tAsg (tIf t A B) g) u D σ H := h hq
/-- the net and the law's numbers, side by side -/
structure Rs (N W b c sl al ta : Addr) (m : Int) (w : Addr) (n : Nat) (ts : Prs) (H H' : Hp) (ss ar : List Int) (k : Nat) : Prop where
  bx : BoxO H' b
  ks : Ks [b, c, sl, al] H H'
  net : NetAt N W H' c m ss ar w n ts
  hsl : H' sl = some (.lst (vrow ss))
  hal : H' al = some (.lst (vrow ar))
  ht : TiesT H' ta ts
  bs : Bd k ss
  ba : Bd k ar
  rd : Rdc m (ss, ar)
section
variable {N W b c sl al ta : Addr} {m : Int} {w : Addr} {n : Nat} {ts : Prs} {H H1 H2 : Hp} {ss ar : List Int} {k : Nat}
theorem Rs.box (r : Rs N W b c sl al ta m w n ts H H1 ss ar k) (nl : sl ≠ b) (na : al ≠ b) (x : Bx b H1 H2) : Rs N W b c sl al ta m w n ts H H2 ss ar k :=
  ⟨x.1, r.ks.trans (ks_bx x), r.net.box r.bx x, x.2 _ _ r.hsl nl, x.2 _ _ r.hal na, r.ht.kp fun a xs e => x.tup r.bx e, r.bs, r.ba, r.rd⟩
theorem Rs.same (r : Rs N W b c sl al ta m w n ts H H1 ss ar k) (s : Same H1 H2) : Rs N W b c sl al ta m w n ts H H2 ss ar k :=
  ⟨r.bx.same s, r.ks.same s, r.net.same s, s _ _ r.hsl, s _ _ r.hal, r.ht.same s, r.bs, r.ba, r.rd⟩
theorem Rs.up (r : Rs N W b c sl al ta m w n ts H H1 ss ar k) : Rs N W b c sl al ta m w n ts H H1 ss ar (k + 1) := ⟨r.bx, r.ks, r.net, r.hsl, r.hal, r.ht, r.bs.up, r.ba.up, r.rd⟩
theorem Rs.mono {j : Nat} (r : Rs N W b c sl al ta m w n ts H H1 ss ar k) (h : k ≤ j) : Rs N W b c sl al ta m w n ts H H1 ss ar j := ⟨r.bx, r.ks, r.net, r.hsl, r.hal, r.ht, r.bs.mono h, r.ba.mono h, r.rd⟩
theorem Rs.ln (r : Rs N W b c sl al ta m w n ts H H1 ss ar k) : Ln n ts (ss, ar) := ⟨r.net.ls, r.net.la⟩
/-- the law's lists change, and the source, then the net does -/
theorem Rs.step {ss' ar' : List Int} {H3 : Hp} {k' : Nat} (r : Rs N W b c sl al ta m w n ts H H1 ss ar k) (nl : sl ≠ b) (na : al ≠ b) (x : ∀ d o, H1 d = some o → d ≠ b → d ≠ sl → d ≠ al → H2 d = some o) (hb2 : BoxO H2 b) (e1 : H2 sl = some (.lst (vrow ss'))) (e2 : H2 al = some (.lst (vrow ar'))) (y : But c H2 H3) (net : NetAt N W H3 c m ss' ar' w n ts) (bs : Bd k' ss') (ba : Bd k' ar') (rd : Rdc m (ss', ar')) : Rs N W b c sl al ta m w n ts H H3 ss' ar' k' := by
  obtain ⟨u, v, hb2⟩ := hb2
  obtain ⟨u0, v0, hb⟩ := r.bx
  obtain ⟨dx, sa, aa, g1, _, _⟩ := r.net.ob
  have ncs : c ≠ sl := ne_of g1 r.hsl (by intro z; cases z)
  have nca : c ≠ al := ne_of g1 r.hal (by intro z; cases z)
  have ncb : c ≠ b := ne_of g1 hb (by intro z; cases z)
  have g2 := x _ _ g1 ncb ncs nca
  have kt : ∀ {a : Addr} {xs : List V}, H1 a = some (.tup xs) → H3 a = some (.tup xs) := fun e =>
    y _ _ (x _ _ e (ne_of e hb (by intro z; cases z)) (ne_of e r.hsl (by intro z; cases z)) (ne_of e r.hal (by intro z; cases z))) (ne_of e g1 (by intro z; cases z))
  refine ⟨⟨u, v, y _ _ hb2 ncb.symm⟩, r.ks.trans fun d o e nd _ => ?_, net, y _ _ e1 ncs.symm, y _ _ e2 nca.symm, r.ht.kp fun a xs e => kt e, bs, ba, rd⟩
  simp only [List.mem_cons, List.mem_nil_iff, or_false, not_or] at nd
  exact y _ _ (x _ _ e nd.1 nd.2.2.1 nd.2.2.2) nd.2.1
/-- the net and the law's lists, one meeting ahead -/
theorem NetAt.but2 {nla : sl ≠ al} {H2 : Hp} (h : NetAt N W H1 c m ss ar w n ts) {xs ys : List V} (e1 : H1 sl = some (.lst xs)) (e2 : H1 al = some (.lst ys)) (x : But2 sl al H1 H2) : NetAt N W H2 c m ss ar w n ts :=
  h.kp (fun a xs e => x _ _ e (ne_of e e1 (by intro z; cases z)) (ne_of e e2 (by intro z; cases z))) fun a C dx fs e => x _ _ e (ne_of e e1 (by intro z; cases z)) (ne_of e e2 (by intro z; cases z))
end
/-- the book is no greater than the law can show -/
theorem book_small {m : Int} {n k h : Nat} {ts : Prs} {ss ar : List Int} {ns : List Nat} (hW : Wv n ts) (hn : h < n) (m0 : 0 ≤ m) (m6 : m ≤ 1000000) (bs : Bd k ss) (ba : Bd k ar) (hk : k ≤ 270) (PL : PartL ts h ns) : (bookN m ss ar ts ns).natAbs.log2 < 1920 := by
  have nsl := (PL.len hW hn).2
  have n12 := hW.n12
  have til : (tIn ts ns).length ≤ 20 := Nat.le_trans (tInK_len ts ns ts.length) hW.t20
  have b1 := sum_le (k := k) (ns.map fun x => ss.getD x 0) fun i hi => by
    obtain ⟨x, _, rfl⟩ := List.mem_map.mp hi
    exact bs.get x
  have b2 := sum_le (k := k) ((tIn ts ns).map fun t => ar.getD t 0) fun i hi => by
    obtain ⟨x, _, rfl⟩ := List.mem_map.mp hi
    exact ba.get x
  rw [List.length_map] at b1 b2
  have c1 : ns.length * BB k ≤ 12 * BB k := Nat.mul_le_mul_right _ (by omega)
  have c2 : (tIn ts ns).length * BB k ≤ 20 * BB k := Nat.mul_le_mul_right _ til
  have c3 := BB_ge k
  have c4 := BB_top hk
  have := cby_le (m := m) (x := (ns.map fun x => ss.getD x 0).sum - ((tIn ts ns).map fun t => ar.getD t 0).sum) (B := 32 * BB k) m0 m6 (by omega) (by omega)
  have z : (bookN m ss ar ts ns).natAbs < 10 ^ 200 := by
    unfold bookN
    refine Nat.lt_of_le_of_lt this ?_
    refine Nat.lt_of_le_of_lt (Nat.mul_le_mul_left 32 c4) (by decide +kernel)
  exact Nat.lt_trans (log665 z) (by decide)
theorem num_small {k : Nat} {i : Int} (h : i.natAbs ≤ BB k) (hk : k ≤ 270) : i.natAbs < 10 ^ 200 := Nat.lt_of_le_of_lt h (Nat.lt_of_le_of_lt (BB_top hk) (by decide +kernel))
theorem met_bound {m : Int} {k t : Nat} {ss ar : List Int} {p : Nat × Nat} (m0 : 0 ≤ m) (m6 : m ≤ 1000000) (bs : Bd k ss) (ba : Bd k ar) : (metN m ss ar p t).natAbs ≤ BB (k + 1) := by
  have b1 := bs.get p.1
  have b2 := bs.get p.2
  have b3 := ba.get t
  have g := BB_ge k
  have e := BB_succ k
  unfold metN
  exact cby_le m0 m6 (by omega) (by omega)
theorem metS_at {m : Int} {ts : Prs} {ss ar : List Int} {t : Nat} {p : Nat × Nat} (hp : ts[t]? = some p) : metS m ts (ss, ar) t = ((ss.set p.1 (metN m ss ar p t)).set p.2 (metN m ss ar p t), ar.set t (metN m ss ar p t)) := by unfold metS; rw [hp]
theorem not_below {n : Nat} {h : Nat} (hn : h < n) {A : Prop} (hb : belowB (.int (h : Int)) (n : Int) = false) : A := by
  have : (decide (0 ≤ (h : Int)) && decide ((h : Int) < (n : Int))) = false := hb
  rw [decide_eq_true (by omega), decide_eq_true (by omega)] at this
  cases this
def spSteps (N W : Addr) : Sp := fun vs H Q _ => ∃ (b c ta sl al : Addr) (m : Int) (ss ar : List Int) (w : Addr) (n : Nat) (ts : Prs), vs = [.ref b, .ref c, .ref ta, .int m, .ref sl, .ref al] ∧ Rs N W b c sl al ta m w n ts H H ss ar 0 ∧ w ≠ c ∧ Wv n ts ∧ sl ≠ b ∧ al ≠ b ∧ sl ≠ al ∧ m ≤ 1000000 ∧
  ∀ ss' ar' H', Rs N W b c sl al ta m w n ts H H' ss' ar' 15 → Q (.bl true) H'
section
variable {P : Program} {w : World} {K : PySem.W.Frag} {mg : Str → Option Value} {base : Heap}
/-- the net's methods, by place and by names -/
structure NMk (P : Program) (w : World) (K : PySem.W.Frag) (mg : Str → Option Value) (base : Heap) (N W CH CT CR : Addr) : Prop where
  T : NcT K mg N
  do_ : ∃ f fd, Meth K N "do" f ∧ Binds K fd ["self", "house", "amount"] [] ∧ KBn K fd ["self", "house", "amount"] 1 ["amount", "house"] gM gMV ∧ FnOk P w K mg base (L2.CX P w) 4 f fd ["self", "house", "amount"] (spDo K N W CH CR)
  meet : ∃ f fd, Meth K N "meet" f ∧ Binds K fd ["self", "tie"] [] ∧ KBn K fd ["self", "tie"] 1 ["tie"] gM gMV ∧ FnOk P w K mg base (L2.CX P w) 4 f fd ["self", "tie"] (spMeet K N W CT)
  book : ∃ f fd, Meth K N "book" f ∧ Binds K fd ["self", "house"] [] ∧ KBn K fd ["self", "house"] 1 ["house"] gM gMV ∧ FnOk P w K mg base (L2.CX P w) 5 f fd ["self", "house"] (spBook K N W CH)
/-- the law's words -/
structure LDs (P : Program) (w : World) (K : PySem.W.Frag) (mg : Str → Option Value) (base : Heap) : Prop where
  B : Bt mg
  take : ∃ f fd, Df K mg "_law_take" sLTake ["_law_box_here", "_law_many"] f fd ∧ FnOk P w K mg base CX0 1 f fd ["_law_box_here", "_law_many"] spTake
  num : ∃ f fd, Df K mg "_law_number" sLNumber ["_law_box_here", "_law_modulus"] f fd ∧ FnOk P w K mg base CX0 2 f fd ["_law_box_here", "_law_modulus"] spNumber
  wrap : ∃ f fd, Df K mg "_law_wrapped" sLWrapped ["_law_number_here", "_law_modulus"] f fd ∧ FnOk P w K mg base CX0 1 f fd ["_law_number_here", "_law_modulus"] spWrap
  part : ∃ f fd, Df K mg "_law_part" sLPart ["_law_ties", "_law_house"] f fd ∧ FnOk P w K mg base CX0 1 f fd ["_law_ties", "_law_house"] spPartL
  book : ∃ f fd, Df K mg "_law_book" sLBook ["_law_ties", "_law_modulus", "_law_states", "_law_archives", "_law_part_here"] f fd ∧ FnOk P w K mg base CX0 2 f fd ["_law_ties", "_law_modulus", "_law_states", "_law_archives", "_law_part_here"] (spBookL K)
  met : ∃ f fd, Df K mg "_law_met" sLMet ["_law_ties", "_law_modulus", "_law_states", "_law_archives", "_law_tie"] f fd ∧ FnOk P w K mg base CX0 2 f fd ["_law_ties", "_law_modulus", "_law_states", "_law_archives", "_law_tie"] spMetL
abbrev nSt : List Str := ["_law_box_here", "_law_net", "_law_ties", "_law_modulus", "_law_states", "_law_archives", "_law_turn", "_law_house", "_law_amount", "_law_told", "_law_due", "_law_tie"]
theorem scSt : FnScope nSt ["_law_box_here", "_law_net", "_law_ties", "_law_modulus", "_law_states", "_law_archives"] (defScope sLStepsRight) := ⟨rfl, rfl, rfl, by decide +kernel, rfl, by decide +kernel, by decide +kernel⟩
theorem ok_steps {f N W CH CT CR : Addr} {fd : FuncData} (D : Df K mg "_law_steps_right" sLStepsRight ["_law_box_here", "_law_net", "_law_ties", "_law_modulus", "_law_states", "_law_archives"] f fd) (ld : LDs P w K mg base) (nm : NMk P w K mg base N W CH CT CR) :
    FnG P w K mg base 6 f fd ["_law_box_here", "_law_net", "_law_ties", "_law_modulus", "_law_states", "_law_archives"] (spSteps N W) := by
  have B := ld.B
  have NT := nm.T
  obtain ⟨fD, fdD, mD, bD, kD, GD⟩ := nm.do_
  obtain ⟨fM, fdM, mM, bM, kM, GM⟩ := nm.meet
  obtain ⟨fO, fdO, mO, bO, kO, GO⟩ := nm.book
  obtain ⟨_, _, DT, GT⟩ := ld.take
  obtain ⟨_, _, DN, GN⟩ := ld.num
  obtain ⟨_, _, DW, GW⟩ := ld.wrap
  obtain ⟨_, _, DP, GP⟩ := ld.part
  obtain ⟨_, _, DB, GB⟩ := ld.book
  obtain ⟨_, _, DE, GE⟩ := ld.met
  refine K1.okG D.F scSt (fun vs H Q E h => ?_) (fun cdv A outer s H vs Q E hr hgd h => ?_)
  · obtain ⟨b, c, ta, sl, al, m, ss, ar, w, n, ts, rfl, _⟩ := h
    rfl
  · obtain ⟨b, c, ta, sl, al, m, ss, ar, w, n, ts, rfl, R0, nw, hW, nl, na, nla, hm, q⟩ := h
    have hu : (A.deeper (envOfC "_law_steps_right" (defScope sLStepsRight) s.heap.objs.size f cdv)).units + 64 < cLine := hr.units
    have r1 := hr.mono (show 1 ≤ 5 by decide)
    have r2 := hr.mono (show 2 ≤ 5 by decide)
    have r4 := hr.mono (show 4 ≤ 5 by decide)
    refine ⟨_, pss_cons (ps_for PassesOwn.never rfl (pi_range1 (by rfl) B.range (pa_cons (pc DT GT r1 pass0 (pa_cons (pv 0) (pa_cons pe_int pa_nil))) pa_nil)) (pg_name (i := 6) scSt.nd rfl (.inl rfl))
        (pss_cons (ps_set (i := 7) scSt.nd rfl (.inl rfl) (pc DT GT r1 pass0 (pa_cons (pv 0) (pa_cons (pe_callB call_len_seq (by rfl) B.len PySem.boot_len (pa_cons (pv 4) pa_nil)) pa_nil))))
        (pss_cons (ps_if (PW.pt (pw_or (pt_cmpR (eqD (K := K) rfl hu) (pv 2) (pe_tup pa_nil) (nomark _)) (pw_or1 (pt_cmpR op_eq (pc DT GT r1 pass0 (pa_cons (pv 0) (pa_cons pe_int pa_nil))) pe_int (nomark _)))))
          (pss_cons (ps_set (i := 8) scSt.nd rfl (.inl rfl) (pc DN GN r2 pass0 (pa_cons (pv 0) (pa_cons pe_int pa_nil))))
          (pss_cons (ps_asg (pc DW GW r1 pass0 (pa_cons (pe_op op_add (pe_ix ix_list (pv 4) (pv 7) (fun _ _ => rfl)) (pv 8)) (pa_cons (pv 3) pa_nil))) (pg_sub (pv 4) (pv 7) set_list))
          (pss_cons (ps_set (i := 9) scSt.nd rfl (.inl rfl) (pe_ifExp (pt_cmpR op_eq (pc DT GT r1 pass0 (pa_cons (pv 0) (pa_cons pe_int pa_nil))) pe_int (nomark _)) (pe_meth (pv 1) NT.cl mD GD r4 bD .nil passF (pa_cons (pv 7) (pa_cons (pv 8) pa_nil))) (pe_methW (pv 1) NT.cl mD GD r4 kD passF (pk_cons (pv 8) (pk_cons (pv 7) pk_nil)))))
          (pss_one (ps_set (i := 10) scSt.nd rfl (.inl rfl) (pe_ix ix_list (pv 4) (pv 7) (fun _ _ => rfl)))))))
          (pss_cons (ps_set (i := 11) scSt.nd rfl (.inl rfl) (pc DT GT r1 pass0 (pa_cons (pv 0) (pa_cons (pe_callB call_len_seq (by rfl) B.len PySem.boot_len (pa_cons (pv 2) pa_nil)) pa_nil))))
          (pss_cons (ps_set (i := 10) scSt.nd rfl (.inl rfl) (pc DE GE r2 pass0 (pa_cons (pv 2) (pa_cons (pv 3) (pa_cons (pv 4) (pa_cons (pv 5) (pa_cons (pv 11) pa_nil)))))))
          (pss_one (ps_set (i := 9) scSt.nd rfl (.inl rfl) (pe_ifExp (pt_cmpR op_eq (pc DT GT r1 pass0 (pa_cons (pv 0) (pa_cons pe_int pa_nil))) pe_int (nomark _)) (pe_meth (pv 1) NT.cl mM GM r4 bM .nil passF (pa_cons (pv 11) pa_nil)) (pe_methW (pv 1) NT.cl mM GM r4 kM passF (pk_cons (pv 11) pk_nil))))))))
        (pss_cons (ps_if (pt_cmpR op_ne (pe_callB (call_repr hgd hu) (by rfl) B.repr (by decide +kernel) (pa_cons (pe_tup (pa_cons (pv 9) (pa_cons (pe_fld (pv 1) rfl) (pa_cons (pe_fld (pv 1) rfl) pa_nil)))) pa_nil)) (pe_callB (call_repr hgd hu) (by rfl) B.repr (by decide +kernel) (pa_cons (pe_tup (pa_cons (pv 10) (pa_cons (pe_callTy call_tuple_of (by rfl) B.tuple PyProof.Rows.boot_tuple (pa_cons (pv 4) pa_nil)) (pa_cons (pe_callTy call_tuple_of (by rfl) B.tuple PyProof.Rows.boot_tuple (pa_cons (pv 5) pa_nil)) pa_nil)))) pa_nil)) (nomark _)) (pss_one (ps_ret pe_bl)) pss_nil)
        (pss_one (ps_if (pt_cmpR op_ne (pe_callB call_reprS (by rfl) B.repr (by decide +kernel) (pa_cons (pe_meth (pv 1) NT.cl mO GO hr bO .nil passF (pa_cons (pv 7) pa_nil)) pa_nil)) (pe_callB call_reprS (by rfl) B.repr (by decide +kernel) (pa_cons (pc DB GB r2 pass0 (pa_cons (pv 2) (pa_cons (pv 3) (pa_cons (pv 4) (pa_cons (pv 5) (pa_cons (pc DP GP r1 pass0 (pa_cons (pv 2) (pa_cons (pv 7) pa_nil))) pa_nil)))))) pa_nil)) (nomark _)) (pss_one (ps_ret pe_bl)) pss_nil))))))
      (pss_one (ps_ret pe_bl)), ?_⟩
    have n12 := hW.n12
    have n1 := hW.n1
    have t20 := hW.t20
    have m0 := R0.net.m0
    refine ⟨_, rfl, b, 16, rfl, R0.bx, by decide, by decide, fun r H2 r0 r15 bx2 => ?_⟩
    have R1 := R0.box nl na bx2
    refine ⟨r, rfl, by omega, by omega, for_range (fun k σ H' => ∃ (ss ar : List Int) (v6 v7 v8 v9 v10 v11 : Option V), σ = [some (.ref b), some (.ref c), some (.ref ta), some (.int m), some (.ref sl), some (.ref al), v6, v7, v8, v9, v10, v11] ∧ Rs N W b c sl al ta m w n ts H H' ss ar k)
      ⟨ss, ar, none, none, none, none, none, none, rfl, R1⟩ ?_ ?_⟩
    rotate_left
    · rintro σ H3 ⟨ss, ar, v6, v7, v8, v9, v10, v11, rfl, R⟩
      exact q ss ar H3 (R.mono (by omega))
    rintro k σ H3 hk ⟨ss, ar, v6, v7, v8, v9, v10, v11, rfl, R⟩
    have hk15 : k + 1 ≤ 15 := by omega
    have ls := R.net.ls
    have la := R.net.la
    have lv : ((vrow ss).length : Int) = (n : Int) := by rw [vrow_len, ls]
    refine ⟨_, rfl, _, rfl, sl, _, rfl, .inl (SqL.of R.hsl), b, _, rfl, R.bx, by omega, by omega, fun hh H4 hh0 hh1 bx4 => ?_⟩
    replace R := R.box nl na bx4
    obtain ⟨h, rfl⟩ : ∃ h : Nat, hh = (h : Int) := ⟨hh.toNat, by omega⟩
    have hn : h < n := by omega
    refine gn ?_
    dsimp only [List.set]
    -- what follows either step
    refine seqG (fun σ H' => ∃ (ss ar : List Int) (x : Int) (v8 v11 : Option V), σ = [some (.ref b), some (.ref c), some (.ref ta), some (.int m), some (.ref sl), some (.ref al), some (.int (0 + (k : Int))), some (.int (h : Int)), v8, some (.int x), some (.int x), v11] ∧ x.natAbs ≤ BB (k + 1) ∧ Rs N W b c sl al ta m w n ts H H' ss ar (k + 1)) ?_ (fun go => ?_)
    · rintro σ H5 ⟨ss, ar, x, v8, v11, rfl, bx, R⟩
      have ls := R.net.ls
      have la := R.net.la
      obtain ⟨dx, sa, aa, g1, g2, g3⟩ := R.net.ob
      have pb := pb_three (num_small bx (by omega)) (R.bs.top (show k + 1 ≤ 270 by omega)) (R.ba.top (show k + 1 ≤ 270 by omega)) (by omega) (by omega)
      refine ⟨_, rfl, _, rfl, c, N, dx, _, _, rfl, g1, NT.cl, NT.nS, nf_s _ _ _ _, _, rfl, c, N, dx, _, _, rfl, g1, NT.cl, NT.nA, nf_a _ _ _ _, (by show 3 ≤ sizeLine; decide), fun p1 hp1 => ?_⟩
      have t1 := same_new (o := HO.tup [V.int x, V.ref sa, .ref aa]) hp1
      refine nilP (reprB (dp_three upd_same (t1 _ _ g2) (t1 _ _ g3)) pb (by decide) (by decide) ?_)
      refine ⟨_, rfl, _, rfl, sl, _, rfl, .inl ⟨SqL.of (t1 _ _ R.hsl), fun p2 hp2 => ?_⟩⟩
      have t2 := t1.trans (same_new (o := HO.tup (vrow ss)) hp2)
      refine ⟨_, rfl, al, _, rfl, .inl ⟨SqL.of (t2 _ _ R.hal), fun p3 hp3 => ?_⟩⟩
      have t3 := t2.trans (same_new (o := HO.tup (vrow ar)) hp3)
      refine ⟨(by show 3 ≤ sizeLine; decide), fun p4 hp4 => ?_⟩
      have t4 := t3.trans (same_new (o := HO.tup [V.int x, V.ref p2, .ref p3]) hp4)
      refine nilP (reprB (dp_three upd_same (same_new hp4 _ _ (same_new hp3 _ _ upd_same)) (same_new hp4 _ _ upd_same)) pb (by decide) (by decide) (neV rfl ⟨_, rfl, iteF (nxP ?_)⟩))
      have R4 := R.same t4
      generalize upd (upd (upd (upd H5 p1 (.tup [V.int x, V.ref sa, .ref aa])) p2 (.tup (vrow ss))) p3 (.tup (vrow ar))) p4 (.tup [V.int x, V.ref p2, .ref p3]) = H6 at R4 ⊢
      obtain ⟨dx5, sa5, aa5, k1, k2, k3⟩ := R4.net.ob
      refine ⟨_, rfl, c, dx5, _, rfl, k1, nf_book _ _ _ _, _, rfl, c, w, .int (h : Int), none, m, ss, ar, n, ts, rfl, R4.net, hW, .int _, fun hb => not_below hn hb, fun h' eh hn' ns H7 s7 PL => ?_⟩
      injection eh with eh
      obtain rfl : h = h' := by omega
      have R7 := R4.same s7
      have bl := book_small hW hn m0 hm R.bs R.ba (show k + 1 ≤ 270 by omega) PL
      refine nilP ⟨_, rfl, .inr (.inr (.inl ⟨_, rfl, bl, ?_⟩))⟩
      refine ⟨_, rfl, _, rfl, _, rfl, _, rfl, _, rfl, _, rfl, ta, n, ts, h, rfl, R7.ht, hW, hn, fun pl ns' H8 s8 hpl0 hpl PL' => ?_⟩
      obtain rfl := PL.uniq PL' .refl
      have R8 := R7.same s8
      refine ⟨ta, sl, al, pl, m, ss, ar, n, ts, h, ns, rfl, R8.ht, R8.hsl, R8.hal, hpl, ls, la, hW, hn, m0, PL, fun H9 s9 => ?_⟩
      refine nilP ⟨_, rfl, .inr (.inr (.inl ⟨_, rfl, bl, neV rfl ⟨_, rfl, iteF (nxP ?_)⟩⟩))⟩
      exact ⟨ss, ar, _, _, _, _, _, _, rfl, R8.same s9⟩
    -- which step
    refine ifG (fun cb H' => Rs N W b c sl al ta m w n ts H H' ss ar k ∧ (cb = false → ts ≠ [])) ?_ (fun go2 => ?_)
    · rintro cb H4 ⟨R, hne⟩
      have bk := BB_ge k
      have bk1 := BB_succ k
      refine ifD (fun ec => ?_) fun ec => ?_
      · -- a deed
        refine ⟨_, rfl, b, 0, rfl, R.bx, by decide, by decide, fun am H5 bx5 ha0 _ => ?_⟩
        have hab : am.natAbs ≤ 10 ^ 18 := ha0 rfl
        replace R := R.box nl na bx5
        refine gn ?_
        dsimp only [List.set]
        have bh := R.bs.get h
        refine ⟨_, rfl, _, rfl, sl, _, (h : Int), .int (ss.getD h 0), rfl, rfl, SqL.of R.hsl, at_i (vrow_get (by omega)), _, rfl, _, _, rfl, rfl, _, rfl, m, _, rfl, m0, ?_⟩
        generalize hx : cby m (ss.getD h 0 + am) = x
        have bx : x.natAbs ≤ BB (k + 1) := by
          rw [← hx]
          exact cby_le m0 hm (by omega) (by omega)
        refine ⟨_, rfl, _, rfl, sl, _, (h : Int), h, rfl, rfl, R.hsl, ixN_nat (by rw [vrow_len]; omega), ?_⟩
        rw [← vrow_set]
        have N7 := R.net.set (ws := vrow (ss.set h x)) R.hsl
        have b2 : But2 sl al H5 (upd H5 sl (.lst (vrow (ss.set h x)))) := fun d o e n1 n2 => by rw [upd_ne n1]; exact e
        have hsl7 : (upd H5 sl (.lst (vrow (ss.set h x)))) sl = some (.lst (vrow (ss.set h x))) := upd_same
        have hal7 : (upd H5 sl (.lst (vrow (ss.set h x)))) al = some (.lst (vrow ar)) := by rw [upd_ne nla.symm]; exact R.hal
        have hb7 : BoxO (upd H5 sl (.lst (vrow (ss.set h x)))) b := let ⟨u, v, e⟩ := R.bx; ⟨u, v, by rw [upd_ne nl.symm]; exact e⟩
        generalize upd H5 sl (.lst (vrow (ss.set h x))) = H7 at N7 b2 hsl7 hal7 hb7 ⊢
        -- the net does it, told in one way or the other
        have dn : ∀ (H8 : Hp) (bx8 : Bx b H7 H8) (Q : VK), (∀ H9, Rs N W b c sl al ta m w n ts H H9 (ss.set h x) ar (k + 1) → Q (.int x) H9) → spDo K N W CH CR [.ref c, .int (h : Int), .int am] H8 Q (fun _ _ _ => False) := fun H8 bx8 Q qq => by
          have N8 := N7.box hb7 bx8
          refine ⟨c, w, .int (h : Int), .int am, none, none, m, ss, ar, n, ts, rfl, N8, nw, hW, .int _, .int _, fun hb => not_below hn hb, fun h' eh hn' => ⟨fun hb => ?_, fun i ei hi H9 b9 N9 => ?_⟩⟩
          · have : (decide (-1000000000000000000 ≤ am) && decide (am ≤ 1000000000000000000)) = false := hb
            rw [decide_eq_true (by omega), decide_eq_true (by omega)] at this
            cases this
          · injection eh with eh
            injection ei with ei
            obtain rfl : h = h' := by omega
            subst ei
            rw [hx] at N9
            rw [hx]
            refine qq H9 (R.step nl na (fun d o e n1 n2 n3 => bx8.2 _ _ (b2 _ _ e n2 n3) n1) bx8.1 (bx8.2 _ _ hsl7 nl) (bx8.2 _ _ hal7 na) b9 N9 (R.bs.up.set bx h) R.ba.up fun z => ?_)
            show cby m ((ss.set h x).getD z 0) = (ss.set h x).getD z 0
            rw [getD_set (by omega)]
            split
            · rw [← hx]; exact cby_cby _ _
            · exact R.rd z
        dsimp only
        refine asgEG (fun v H' => v = .int x ∧ Rs N W b c sl al ta m w n ts H H' (ss.set h x) ar (k + 1)) ?_ (fun go3 => ?_)
        · rintro v H9 ⟨rfl, R9⟩
          refine gn ?_
          dsimp only [List.set]
          refine ⟨_, rfl, _, rfl, sl, _, (h : Int), .int x, rfl, rfl, SqL.of R9.hsl, at_i (by rw [vrow, List.map_set, List.getElem?_set_self (by rw [List.length_map]; omega)]), ?_⟩
          refine gn ?_
          dsimp only [List.set]
          exact go _ _ ⟨ss.set h x, ar, x, _, _, rfl, bx, R9⟩
        · obtain ⟨dx, sa, aa, g1, _, _⟩ := N7.ob
          refine ⟨_, rfl, b, 2, rfl, hb7, by decide, by decide, fun r2 H8 r20 r21 bx8 => ⟨rfl, _, rfl, ?_⟩⟩
          obtain ⟨dx, sa, aa, g1, _, _⟩ := (N7.box hb7 bx8).ob
          refine ifD (fun _ => ?_) fun _ => ?_
          · exact ⟨_, rfl, c, dx, _, rfl, g1, nf_do _ _ _ _, _, rfl, _, rfl, nilP (dn H8 bx8 _ fun H9 R9 => go3 _ _ ⟨rfl, R9⟩)⟩
          · exact ⟨_, rfl, c, dx, _, rfl, g1, nf_do _ _ _ _, _, rfl, _, rfl, nilP ⟨rfl, dn H8 bx8 _ fun H9 R9 => go3 _ _ ⟨rfl, R9⟩⟩⟩
      · -- a meeting
        have hne' := hne ec
        have tpos : 1 ≤ ts.length := by
          cases ts with
          | nil => exact absurd rfl hne'
          | cons a r => simp
        obtain ⟨tas, ht, hA⟩ := R.ht
        have elt : ((tas.map V.ref).length : Int) = (ts.length : Int) := by rw [List.length_map, hA.1]
        refine ⟨_, rfl, _, rfl, ta, _, rfl, .inr (SqT.of ht), b, _, rfl, R.bx, by omega, by omega, fun tt H5 tt0 tt1 bx5 => ?_⟩
        replace R := R.box nl na bx5
        refine gn ?_
        dsimp only [List.set]
        obtain ⟨t, rfl⟩ : ∃ t : Nat, tt = (t : Int) := ⟨tt.toNat, by omega⟩
        have tn : t < ts.length := by omega
        refine ⟨_, rfl, _, rfl, _, rfl, _, rfl, _, rfl, ta, sl, al, m, ss, ar, n, ts, t, rfl, R.ht, R.hsl, R.hal, nla, R.net.ls, R.net.la, hW, tn, m0, fun p H7 hp b2 hsl7 hal7 => ?_⟩
        have N7 := NetAt.but2 (nla := nla) R.net R.hsl R.hal b2
        have hb7 : BoxO H7 b := let ⟨u, v, e⟩ := R.bx; ⟨u, v, b2 _ _ e nl.symm na.symm⟩
        have bx := met_bound (t := t) (p := p) m0 hm R.bs R.ba
        have em := metS_at (m := m) (ss := ss) (ar := ar) hp
        have rd := R.rd.met hW R.ln t
        have lsR := R.net.ls
        rw [em] at hsl7 hal7 rd
        generalize hx : metN m ss ar p t = x at bx hsl7 hal7 rd ⊢
        refine gn ?_
        dsimp only [List.set]
        have dn : ∀ (H8 : Hp) (bx8 : Bx b H7 H8) (Q : VK), (∀ H9, Rs N W b c sl al ta m w n ts H H9 ((ss.set p.1 x).set p.2 x) (ar.set t x) (k + 1) → Q (.int x) H9) → spMeet K N W CT [.ref c, .int (t : Int)] H8 Q (fun _ _ _ => False) := fun H8 bx8 Q qq => by
          have N8 := N7.box hb7 bx8
          refine ⟨c, w, .int (t : Int), none, m, ss, ar, n, ts, rfl, N8, nw, hW, .int _, fun hb => not_below tn hb, fun t' p' et hp' H9 b9 N9 => ?_⟩
          injection et with et
          obtain rfl : t = t' := by omega
          obtain rfl := lookup_same hp hp'
          rw [hx] at N9
          rw [hx]
          exact qq H9 (R.step nl na (fun d o e n1 n2 n3 => bx8.2 _ _ (b2 _ _ e n2 n3) n1) bx8.1 (bx8.2 _ _ hsl7 nl) (bx8.2 _ _ hal7 na) b9 N9 ((R.bs.up.set bx p.1).set bx p.2) (R.ba.up.set bx t) rd)
        refine asgE1 (fun v H' => v = .int x ∧ Rs N W b c sl al ta m w n ts H H' ((ss.set p.1 x).set p.2 x) (ar.set t x) (k + 1)) ?_ (fun go3 => ?_)
        · rintro v H9 ⟨rfl, R9⟩
          refine gn ?_
          dsimp only [List.set]
          exact go _ _ ⟨_, _, x, _, _, rfl, bx, R9⟩
        · refine ⟨_, rfl, b, 2, rfl, hb7, by decide, by decide, fun r2 H8 r20 r21 bx8 => ⟨rfl, _, rfl, ?_⟩⟩
          obtain ⟨dx, sa, aa, g1, _, _⟩ := (N7.box hb7 bx8).ob
          refine ifD (fun _ => ?_) fun _ => ?_
          · exact ⟨_, rfl, c, dx, _, rfl, g1, nf_meet _ _ _ _, _, rfl, nilP (dn H8 bx8 _ fun H9 R9 => go3 _ _ ⟨rfl, R9⟩)⟩
          · exact ⟨_, rfl, c, dx, _, rfl, g1, nf_meet _ _ _ _, _, rfl, nilP ⟨rfl, dn H8 bx8 _ fun H9 R9 => go3 _ _ ⟨rfl, R9⟩⟩⟩
    · have plT := pl_dTi hW
      refine ⟨_, rfl, (by show 0 ≤ sizeLine; decide), fun p0 hp0 => ?_⟩
      have R4 := R.same (same_new (o := HO.tup []) hp0)
      refine ⟨dTi ts, .tuple [], R4.ht.dp, .tup (SqT.of upd_same) .nil, plT.shaped (by decide), by decide +kernel, _, rfl, ?_⟩
      generalize upd H4 p0 (.tup []) = H5 at R4 ⊢
      cases ecb : PyData.eqv (dTi ts) (.tuple []) with
      | true => exact iteT (go2 true _ ⟨R4, fun z => (by cases z)⟩)
      | false =>
        have hne : ts ≠ [] := fun z => by
          rw [z] at ecb
          have : PyData.eqv (dTi []) (.tuple []) = true := SeqAt.eqv_refl _ (by decide +kernel)
          rw [this] at ecb
          cases ecb
        refine iteF ⟨_, rfl, b, 2, rfl, R4.bx, by decide, by decide, fun r H6 r0 r1' bx5 => ⟨rfl, _, rfl, ?_⟩⟩
        exact go2 _ _ ⟨R4.box nl na bx5, fun _ => hne⟩
end
end K1
namespace K1
open PySem PySem.Spec PyProof.Rows L2
theorem pb_3b {x : Int} {a b : List Int} (hx : x.natAbs < 10 ^ 200) (ha : ∀ i ∈ a, i.natAbs < 10 ^ 200) (hb : ∀ i ∈ b, i.natAbs < 10 ^ 200) (la : a.length ≤ 20) (lb : b.length ≤ 20) : PB (.tuple [.tuple (dI a), .tuple (dI b), .int x]) 2 50000 :=
  (PB.tuple (PBA.cons (PB.tuple (pba_ints a ha)) (PBA.cons (PB.tuple (pba_ints b hb)) (PBA.cons (PB.int hx) PBA.nil)))).mono (by decide) (by omega)
theorem dp_3b {K : PySem.W.Frag} {H : Hp} {p x y : Addr} {i : Int} {a b : List Int} (h : H p = some (.tup [.ref x, .ref y, .int i])) (hx : H x = some (.tup (vrow a))) (hy : H y = some (.tup (vrow b))) : Dp K H (.ref p) (.tuple [.tuple (dI a), .tuple (dI b), .int i]) := .tup (SqT.of h) (.cons (dp_tup hx) (.cons (dp_tup hy) (.cons (.int i) .nil)))
theorem neNil {K : PySem.W.Frag} {H : Hp} {a b : Addr} {Q : VK} (h1 : H a = some (.lst [])) (h2 : H b = some (.lst [])) (q : Q (.bl false) H) : rNeD K (.ref a) (.ref b) H Q :=
  neDP (.lst (SqL.of h1) .nil) (.lst (SqL.of h2) .nil) (Pl.list PlA.nil) (by decide) q
section
variable {N W b c sl al ta : Addr} {m : Int} {w : Addr} {n : Nat} {ts : Prs} {H H1 H2 : Hp} {ss ar ss' ar' : List Int} {k k' : Nat}
theorem Rs.base (r : Rs N W b c sl al ta m w n ts H H1 ss ar k) : Rs N W b c sl al ta m w n ts H1 H1 ss ar k := ⟨r.bx, Ks.refl, r.net, r.hsl, r.hal, r.ht, r.bs, r.ba, r.rd⟩
theorem Rs.join (r : Rs N W b c sl al ta m w n ts H H1 ss ar k) (q : Rs N W b c sl al ta m w n ts H1 H2 ss' ar' k') : Rs N W b c sl al ta m w n ts H H2 ss' ar' k' := ⟨q.bx, r.ks.trans q.ks, q.net, q.hsl, q.hal, q.ht, q.bs, q.ba, q.rd⟩
theorem Rs.nin (r : Rs N W b c sl al ta m w n ts H H1 ss ar k) {l : Addr} (h : H1 l = none) : l ∉ [b, c, sl, al] := by
  obtain ⟨u, v, hb⟩ := r.bx
  obtain ⟨dx, sa, aa, g1, _, _⟩ := r.net.ob
  have h1 := r.hsl
  have h2 := r.hal
  simp only [List.mem_cons, List.mem_nil_iff, or_false, not_or]
  exact ⟨fun z => (by rw [z, hb] at h; cases h), fun z => (by rw [z, g1] at h; cases h), fun z => (by rw [z, h1] at h; cases h), fun z => (by rw [z, h2] at h; cases h)⟩
theorem Rs.nint (r : Rs N W b c sl al ta m w n ts H H1 ss ar k) {l : Addr} {xs : List V} (h : H1 l = some (.tup xs)) : l ∉ [b, c, sl, al] := by
  obtain ⟨u, v, hb⟩ := r.bx
  obtain ⟨dx, sa, aa, g1, _, _⟩ := r.net.ob
  have h1 := r.hsl
  have h2 := r.hal
  simp only [List.mem_cons, List.mem_nil_iff, or_false, not_or]
  exact ⟨fun z => (by rw [z, hb] at h; cases h), fun z => (by rw [z, g1] at h; cases h), fun z => (by rw [z, h1] at h; cases h), fun z => (by rw [z, h2] at h; cases h)⟩
/-- the net changes, then the law's lists do -/
theorem Rs.step2 {H3 : Hp} (r : Rs N W b c sl al ta m w n ts H H1 ss ar k) (nl : sl ≠ b) (na : al ≠ b) (nla : sl ≠ al) (y : But c H1 H2) (net : NetAt N W H2 c m ss' ar' w n ts) (x : But2 sl al H2 H3) (e1 : H3 sl = some (.lst (vrow ss'))) (e2 : H3 al = some (.lst (vrow ar'))) (bs : Bd k' ss') (ba : Bd k' ar') (rd : Rdc m (ss', ar')) : Rs N W b c sl al ta m w n ts H H3 ss' ar' k' := by
  obtain ⟨u, v, hb⟩ := r.bx
  obtain ⟨dx, sa, aa, g1, _, _⟩ := r.net.ob
  have ncs : c ≠ sl := ne_of g1 r.hsl (by intro z; cases z)
  have nca : c ≠ al := ne_of g1 r.hal (by intro z; cases z)
  have ncb : c ≠ b := ne_of g1 hb (by intro z; cases z)
  have hs2 := y _ _ r.hsl ncs.symm
  have ha2 := y _ _ r.hal nca.symm
  have kt : ∀ {a : Addr} {xs : List V}, H1 a = some (.tup xs) → H3 a = some (.tup xs) := fun e =>
    x _ _ (y _ _ e (ne_of e g1 (by intro z; cases z))) (ne_of e r.hsl (by intro z; cases z)) (ne_of e r.hal (by intro z; cases z))
  refine ⟨⟨u, v, x _ _ (y _ _ hb ncb.symm) nl.symm na.symm⟩, r.ks.trans fun d o e nd _ => ?_, NetAt.but2 (nla := nla) net hs2 ha2 x, e1, e2, r.ht.kp fun a xs e => kt e, bs, ba, rd⟩
  simp only [List.mem_cons, List.mem_nil_iff, or_false, not_or] at nd
  exact x _ _ (y _ _ e nd.2.1) nd.2.2.1 nd.2.2.2
end
theorem Bd.metS {m : Int} {k t : Nat} {ts : Prs} {ss ar : List Int} (m0 : 0 ≤ m) (m6 : m ≤ 1000000) (bs : Bd k ss) (ba : Bd k ar) : Bd (k + 1) (metS m ts (ss, ar) t).1 ∧ Bd (k + 1) (metS m ts (ss, ar) t).2 := by
  cases hp : ts[t]? with
  | none =>
    have : K1.metS m ts (ss, ar) t = (ss, ar) := by unfold K1.metS; rw [hp]
    rw [this]; exact ⟨bs.up, ba.up⟩
  | some p =>
    rw [metS_at hp]
    have bx := met_bound (t := t) (p := p) m0 m6 bs ba
    exact ⟨(bs.up.set bx p.1).set bx p.2, ba.up.set bx t⟩
def spSwept (N W : Addr) : Sp := fun vs H Q _ => ∃ (b c ta sl al nu : Addr) (m : Int) (ss ar : List Int) (w : Addr) (n : Nat) (ts : Prs) (rk : Nat → Nat) (k h : Nat), vs = [.ref c, .ref w, .ref ta, .int m, .ref nu, .int (h : Int)] ∧ Rs N W b c sl al ta m w n ts H H ss ar k ∧ w ≠ c ∧ Wv n ts ∧ Fo rk ts ∧ sl ≠ b ∧ al ≠ b ∧ sl ≠ al ∧ m ≤ 1000000 ∧ h < n ∧ k + 21 ≤ 268 ∧ H nu = some (.lst [.ref sl, .ref al]) ∧
  ∀ ss' ar' ns bb H', Rs N W b c sl al ta m w n ts H H' ss' ar' (k + 21) → PartL ts h ns → Swept ts ns bb (ss, ar) (ss', ar') → Q (.bl true) H'
section
variable {P : Program} {w : World} {K : PySem.W.Frag} {mg : Str → Option Value} {base : Heap}
abbrev nSp : List Str := ["_law_net", "_law_web", "_law_ties", "_law_modulus", "_law_numbers", "_law_house", "_law_part_here", "_law_states", "_law_archives", "_law_tie", "_law_own", "_law_book_here", "_law_order", "_law_one"]
theorem scSp : FnScope nSp ["_law_net", "_law_web", "_law_ties", "_law_modulus", "_law_numbers", "_law_house"] (defScope sLSwept) := ⟨rfl, rfl, rfl, by decide +kernel, rfl, by decide +kernel, by decide +kernel⟩
theorem ok_swept {f fS N W CH CT CR : Addr} {fd fdS : FuncData} (D : Df K mg "_law_swept" sLSwept ["_law_net", "_law_web", "_law_ties", "_law_modulus", "_law_numbers", "_law_house"] f fd) (ld : LDs P w K mg base) (nm : NMk P w K mg base N W CH CT CR) (DS : Df K mg "sweep" sSweep ["web", "house"] fS fdS)
    (GS : FnOk P w K mg base (L2.CX P w) 7 fS fdS ["web", "house"] (spSweep W)) : FnG P w K mg base 8 f fd ["_law_net", "_law_web", "_law_ties", "_law_modulus", "_law_numbers", "_law_house"] (spSwept N W) := by
  have B := ld.B
  have NT := nm.T
  obtain ⟨fM, fdM, mM, bM, kM, GM⟩ := nm.meet
  obtain ⟨fO, fdO, mO, bO, kO, GO⟩ := nm.book
  obtain ⟨_, _, DP, GP⟩ := ld.part
  obtain ⟨_, _, DB, GB⟩ := ld.book
  obtain ⟨_, _, DE, GE⟩ := ld.met
  refine K1.okG D.F scSp (fun vs H Q E h => ?_) (fun cdv A outer s H vs Q E hr hgd h => ?_)
  · obtain ⟨b, c, ta, sl, al, nu, m, ss, ar, w, n, ts, rk, k, h, rfl, _⟩ := h
    rfl
  · obtain ⟨b, c, ta, sl, al, nu, m, ss, ar, w, n, ts, rk, k, h, rfl, R0, nw, hW, fo, nl, na, nla, hm, hn, hk, hnu, q⟩ := h
    have hu : (A.deeper (envOfC "_law_swept" (defScope sLSwept) s.heap.objs.size f cdv)).units + 64 < cLine := hr.units
    have r1 := hr.mono (show 1 ≤ 7 by decide)
    have r2 := hr.mono (show 2 ≤ 7 by decide)
    have r4 := hr.mono (show 4 ≤ 7 by decide)
    have r5 := hr.mono (show 5 ≤ 7 by decide)
    refine ⟨_, pss_cons (ps_asg (pe_tup (pa_cons (pc DP GP r1 pass0 (pa_cons (pv 2) (pa_cons (pv 5) pa_nil))) (pa_cons (pe_ix ix_list (pv 4) pe_int (fun _ _ => rfl)) (pa_cons (pe_ix ix_list (pv 4) pe_int (fun _ _ => rfl)) pa_nil)))) (pg_tup rfl (pgs_cons (pg_name (i := 6) scSp.nd rfl (.inr rfl)) (pgs_cons (pg_name (i := 7) scSp.nd rfl (.inr rfl)) (pgs_cons (pg_name (i := 8) scSp.nd rfl (.inr rfl)) pgs_nil)))))
      (pss_cons (ps_set (i := 10) scSp.nd rfl (.inr rfl) (pe_lc (own := [("_law_tie", 9)]) (g := gName 9) rfl scSp.nd (pi_range1 (by rfl) B.range (pa_cons (pe_callB call_len_seq (by rfl) B.len PySem.boot_len (pa_cons (pv 2) pa_nil)) pa_nil)) (blkOk_by (N := nSp) (sc := defScope sLSwept) (by decide +kernel)) (fun _ _ _ _ _ => pg_name (i := 9) scSp.nd rfl (Or.inl rfl))
          (fun _ _ _ _ _ => pts_one (pt_cmpR (opInK (K := K) rfl) (pe_ix (ixTK (K := K) rfl) (pe_ix (ixTK (K := K) rfl) (pv 2) (pv 9) (fun _ _ => rfl)) pe_int (fun _ _ => rfl)) (pv 6) rfl)) (fun _ _ _ _ _ => pv 9)))
      (pss_cons (ps_asg (pe_tup (pa_cons (pc DB GB r2 pass0 (pa_cons (pv 2) (pa_cons (pv 3) (pa_cons (pv 7) (pa_cons (pv 8) (pa_cons (pv 6) pa_nil)))))) (pa_cons (pc DS GS hr passF (pa_cons (pv 1) (pa_cons (pv 5) pa_nil))) pa_nil))) (pg_tup rfl (pgs_cons (pg_name (i := 11) scSp.nd rfl (.inr rfl)) (pgs_cons (pg_name (i := 12) scSp.nd rfl (.inl rfl)) pgs_nil))))
      (pss_cons (ps_if (PW.pt (pw_or (pt_not (pt_val (pe_callB call_isi (by rfl) B.isinstance (by decide +kernel) (pa_cons (pv 12) (pa_cons (pe_bltn (v := .ty "tuple") (by rfl) B.tuple PyProof.Rows.boot_tuple rfl) pa_nil))))) (pw_or (pt_cmpR op_ne (pe_callB call_len_seq (by rfl) B.len PySem.boot_len (pa_cons (pv 12) pa_nil)) (pe_callB (call_max2 rfl) (by rfl) B.max (by decide +kernel) (pa_cons pe_int (pa_cons (pe_op op_sub (pe_op op_mul pe_int (pe_callB call_len_seq (by rfl) B.len PySem.boot_len (pa_cons (pv 6) pa_nil))) pe_int) pa_nil))) (nomark _))
          (pw_or1 (pt_cmpR (neD (K := K) rfl hu) (pe_lc (own := [("_law_tie", 9)]) (g := gName 9) rfl scSp.nd (pi_tup (pv 12)) (blkOk_by (N := nSp) (sc := defScope sLSwept) (by decide +kernel)) (fun _ _ _ _ _ => pg_name (i := 9) scSp.nd rfl (Or.inl rfl))
            (fun _ _ _ _ _ => pts_one (pt_cmpR (opNotInK (K := K) rfl) (pv 9) (pv 10) rfl)) (fun _ _ _ _ _ => pv 9)) (pe_lst pa_nil) (nomark _)))))) (pss_one (ps_ret pe_bl)) pss_nil)
      (pss_cons (ps_if (pt_cmpR op_ne (pe_callB call_reprS (by rfl) B.repr (by decide +kernel) (pa_cons (pe_methW (pv 0) NT.cl mO GO r5 kO passF (pk_cons (pv 5) pk_nil)) pa_nil)) (pe_callB call_reprS (by rfl) B.repr (by decide +kernel) (pa_cons (pv 11) pa_nil)) (nomark _)) (pss_one (ps_ret pe_bl)) pss_nil)
      (pss_cons (ps_for PassesOwn.never rfl (pi_tup (pv 12)) (pg_name (i := 9) scSp.nd rfl (.inl rfl))
        (pss_one (ps_if (pt_cmpR op_ne (pe_callB call_reprS (by rfl) B.repr (by decide +kernel) (pa_cons (pe_meth (pv 0) NT.cl mM GM r4 bM .nil passF (pa_cons (pv 9) pa_nil)) pa_nil)) (pe_callB call_reprS (by rfl) B.repr (by decide +kernel) (pa_cons (pc DE GE r2 pass0 (pa_cons (pv 2) (pa_cons (pv 3) (pa_cons (pv 7) (pa_cons (pv 8) (pa_cons (pv 9) pa_nil)))))) pa_nil)) (nomark _)) (pss_one (ps_ret pe_bl)) pss_nil)))
      (pss_cons (ps_if (PW.pt (pw_or (pt_cmpR (neD (K := K) rfl hu) (pe_lc (own := [("_law_one", 13)]) (g := gName 13) rfl scSp.nd (pi_list (pv 6)) (blkOk_by (N := nSp) (sc := defScope sLSwept) (by decide +kernel)) (fun _ _ _ _ _ => pg_name (i := 13) scSp.nd rfl (Or.inl rfl))
            (fun _ _ _ _ _ => pts_one (pt_cmpR op_ne (pe_ix (ixLK (K := K) rfl) (pv 7) (pv 13) (fun _ _ => rfl)) (pv 11) (nomark _))) (fun _ _ _ _ _ => pv 13)) (pe_lst pa_nil) (nomark _))
          (pw_or1 (pt_cmpR (neD (K := K) rfl hu) (pe_lc (own := [("_law_tie", 9)]) (g := gName 9) rfl scSp.nd (pi_list (pv 10)) (blkOk_by (N := nSp) (sc := defScope sLSwept) (by decide +kernel)) (fun _ _ _ _ _ => pg_name (i := 9) scSp.nd rfl (Or.inl rfl))
            (fun _ _ _ _ _ => pts_one (pt_cmpR op_ne (pe_ix (ixLK (K := K) rfl) (pv 8) (pv 9) (fun _ _ => rfl)) (pv 11) (nomark _))) (fun _ _ _ _ _ => pv 9)) (pe_lst pa_nil) (nomark _))))) (pss_one (ps_ret pe_bl)) pss_nil)
      (pss_one (ps_ret (pe_cmpR op_eq (pe_callB (call_repr hgd hu) (by rfl) B.repr (by decide +kernel) (pa_cons (pe_tup (pa_cons (pe_fld (pv 0) rfl) (pa_cons (pe_fld (pv 0) rfl) (pa_cons (pe_meth (pv 0) NT.cl mO GO r5 bO .nil passF (pa_cons (pv 5) pa_nil)) pa_nil)))) pa_nil)) (pe_callB (call_repr hgd hu) (by rfl) B.repr (by decide +kernel) (pa_cons (pe_tup (pa_cons (pe_callTy call_tuple_of (by rfl) B.tuple PyProof.Rows.boot_tuple (pa_cons (pv 7) pa_nil)) (pa_cons (pe_callTy call_tuple_of (by rfl) B.tuple PyProof.Rows.boot_tuple (pa_cons (pv 8) pa_nil)) (pa_cons (pv 11) pa_nil)))) pa_nil)) (nomark _)))))))))), ?_⟩
    have n12 := hW.n12
    have n1 := hW.n1
    have t20 := hW.t20
    have m0 := R0.net.m0
    have ls := R0.net.ls
    have la := R0.net.la
    -- the part, the law's numbers
    refine ⟨_, rfl, _, rfl, ta, n, ts, h, rfl, R0.ht, hW, hn, fun pl ns H1 s1 hpl0 hpl PL => ?_⟩
    have lns := PL.len hW hn
    have hnu1 := s1 _ _ hnu
    refine ⟨_, rfl, nu, _, 0, .ref sl, rfl, rfl, SqL.of hnu1, atI_nat (j := 0) rfl, _, rfl, nu, _, 1, .ref al, rfl, rfl, SqL.of hnu1, atI_nat (j := 1) rfl, (by show 3 ≤ sizeLine; decide), fun p1 hp1 => ?_⟩
    have sp1 := s1.trans (same_new (o := HO.tup [V.ref pl, .ref sl, .ref al]) hp1)
    have hpl2 := same_new (o := HO.tup [V.ref pl, .ref sl, .ref al]) hp1 _ _ hpl
    refine ⟨p1, _, rfl, SqT.of upd_same, rfl, _, _, rfl, _, _, rfl, _, _, rfl, rfl, ?_⟩
    generalize upd H1 p1 (.tup [V.ref pl, .ref sl, .ref al]) = H2 at sp1 hpl2 ⊢
    dsimp only [List.set]
    have R2 := R0.same sp1
    have npl := R0.nin hpl0
    -- own
    obtain ⟨tas, ht2, hA2⟩ := R2.ht
    have elt : ((tas.map V.ref).length : Int) = (ts.length : Int) := by rw [List.length_map, hA2.1]
    refine ⟨_, rfl, ta, _, rfl, .inr (SqT.of ht2), ((tas.map V.ref).length : Int), rfl, by omega, by omega, fun D0 hD0 => lc_range (fun i H' => Same H2 H' ∧ H' D0 = some (.lst (vn (tInK ts ns i)))) ⟨same_new hD0, by rw [upd_same]; rfl⟩ ?_ ?_⟩
    · rintro i H3 hi ⟨s3, hD⟩
      have hit : i < ts.length := by omega
      obtain ⟨p, hp⟩ := ex_at hit
      obtain ⟨a, ha, hap⟩ := hA2.get hp
      have hap' : H3 a = some (.tup [.int (p.1 : Int), .int (p.2 : Int)]) := s3 _ _ hap
      have ws := tInK_succ (ns := ns) hp
      have lw := tInK_len ts ns i
      refine ⟨rfl, ?_⟩
      refine ⟨_, rfl, _, rfl, ta, _, 0 + (i : Int), .ref a, rfl, rfl, SqT.of (s3 _ _ ht2), at_of (j := i) (by omega) (map_at ha), a, _, 0, .int (p.1 : Int), rfl, rfl, SqT.of hap', atI_nat (j := 0) rfl, _, rfl, pl, vn ns, rfl, .inl (SqL.of (s3 _ _ hpl2)), rfl, flat_vn ns, _, rfl, ?_⟩
      simp only [Bool.false_eq_true, if_false]
      rw [inV_vn]
      refine ifD (fun e => ?_) fun e => ?_
      · replace e : p.1 ∈ ns := by simpa using e
        rw [if_pos e] at ws
        refine ⟨_, rfl, _, hD, szl (by rw [vn_len]; omega), fun c o eo => ?_, ?_⟩
        · rw [upd_ne (ne_of_none eo hD0)]
          exact s3 _ _ eo
        · rw [upd_same, ws, vn, vn, List.map_append, Int.zero_add]; rfl
      · replace e : p.1 ∉ ns := by simpa using e
        rw [if_neg e, List.append_nil] at ws
        exact ⟨s3, by rw [ws]; exact hD⟩
    rintro H3 ⟨s3, hD3⟩
    have et : ((tas.map V.ref).length : Int).toNat = ts.length := by omega
    rw [et] at hD3
    replace hD3 : H3 D0 = some (.lst (vn (tIn ts ns))) := hD3
    have fD0 : H D0 = none := sp1.free hD0
    have nD0 := R0.nin fD0
    refine gn ?_
    dsimp only [List.set]
    have R3 := R2.same s3
    have hpl3 := s3 _ _ hpl2
    -- the book, the sweep
    refine ⟨_, rfl, _, rfl, _, rfl, _, rfl, _, rfl, ta, sl, al, pl, m, ss, ar, n, ts, h, ns, rfl, R3.ht, R3.hsl, R3.hal, hpl3, ls, la, hW, hn, m0, PL, fun H4 s4 => ?_⟩
    have R4 := R3.same s4
    refine ⟨_, rfl, _, rfl, w, n, ts, rk, h, rfl, R4.net.wb, hW, fo, hn, fun po xs tl H5 s5 hpo T => ⟨(by show 2 ≤ sizeLine; decide), fun p2 hp2 => ?_⟩⟩
    obtain ⟨pt, px, plen⟩ := T.ties fo PL
    have sw := T.sweep hW fo PL (m := m) (st0 := (ss, ar)) R0.ln R0.rd
    have hbk : cby m (bookN m ss ar ts ns) = bookN m ss ar ts ns := cby_cby _ _
    have bl := book_small hW hn m0 hm R0.bs R0.ba (show k ≤ 270 by omega) PL
    replace sw : Swept ts ns (bookN m ss ar ts ns) (ss, ar) (runS m ts (ss, ar) (SwO tl)) := sw
    generalize hbe : bookN m ss ar ts ns = bk at sw hbk bl hp2 ⊢
    have s6 := same_new (o := HO.tup [V.int bk, .ref po]) hp2
    refine ⟨p2, _, rfl, SqT.of upd_same, rfl, _, _, rfl, _, _, rfl, rfl, ?_⟩
    have R6 := (R4.same s5).same s6
    have hpl6 := s6 _ _ (s5 _ _ (s4 _ _ hpl3))
    have hD6 := s6 _ _ (s5 _ _ (s4 _ _ hD3))
    have hpo6 := s6 _ _ hpo
    generalize upd H5 p2 (.tup [V.int bk, .ref po]) = H6 at R6 hpl6 hD6 hpo6 ⊢
    dsimp only [List.set]
    have ltl := T.len
    have lpx := px.length_eq
    -- the order is one
    refine ⟨_, rfl, _, _, _, _, _, rfl, .ty _, .base (.tup hpo6), kit_T K .t, true, rfl, iteF ?_⟩
    refine ⟨_, rfl, po, _, rfl, .inr (SqT.of hpo6), _, rfl, pl, _, rfl, .inl (SqL.of hpl6), _, _, rfl, rfl, .inl ⟨by decide, by decide⟩, _, _, rfl, rfl, _, _, rfl, ?_⟩
    have eo : V.int ((vn (SwO tl)).length : Int) = V.int (if 2 * ((vn ns).length : Int) - 3 > 0 then 2 * ((vn ns).length : Int) - 3 else 0) := by
      rw [vn_len, vn_len, SwO_len]
      congr 1
      split <;> omega
    rw [eo]
    refine neV rfl ⟨_, rfl, iteF ?_⟩
    refine ⟨_, rfl, po, rfl, ⟨_, SqT.of hpo6⟩, fun D1 hD1 => lc_tup (K := K) (a := po) (xs := vn (SwO tl)) (fun i H' => Same H6 H' ∧ H' D1 = some (.lst [])) ⟨same_new hD1, upd_same⟩ (fun i H' _ ⟨s7, _⟩ => SqT.of (s7 _ _ hpo6)) ?_ ?_⟩
    · rintro i x H7 hx ⟨s7, hD7⟩
      obtain ⟨y, hy, rfl⟩ := at_vn hx
      refine ⟨rfl, _, rfl, _, rfl, D0, vn (tIn ts ns), rfl, .inl (SqL.of (s7 _ _ hD6)), rfl, flat_vn _, _, rfl, ?_⟩
      simp only [if_true]
      rw [inV_vn, decide_eq_true (pt.mem_iff.mp (SwO_mem (List.mem_of_getElem? hy)))]
      exact ⟨s7, hD7⟩
    rintro H7 ⟨s7, hD7⟩
    refine ⟨(by show 0 ≤ sizeLine; decide), fun e1 he1 => neNil (same_new he1 _ _ hD7) upd_same ⟨_, rfl, iteF (nxP ?_)⟩⟩
    have s8 := s7.trans (same_new (o := HO.lst []) he1)
    have R8 := R6.same s8
    have hpl8 := s8 _ _ hpl6
    have hD8 := s8 _ _ hD6
    have hpo8 := s8 _ _ hpo6
    generalize upd H7 e1 (.lst []) = H8 at s8 R8 hpl8 hD8 hpo8 ⊢
    -- the net's book
    obtain ⟨dx8, sa8, aa8, g81, _, _⟩ := R8.net.ob
    refine ⟨_, rfl, c, dx8, _, rfl, g81, nf_book _ _ _ _, _, rfl, nilP ⟨rfl, c, w, .int (h : Int), none, m, ss, ar, n, ts, rfl, R8.net, hW, .int _, fun hb => not_below hn hb, fun h' eh hn' ns' H9 s9 PL' => ?_⟩⟩
    injection eh with eh
    obtain rfl : h = h' := by omega
    obtain rfl := PL.uniq PL' .refl
    rw [hbe]
    refine nilP ⟨_, rfl, .inr (.inr (.inl ⟨_, rfl, bl, ?_⟩))⟩
    refine ⟨_, rfl, ?_⟩
    refine nilP ⟨_, rfl, .inr (.inr (.inl ⟨bk, rfl, bl, neV rfl ⟨_, rfl, iteF (nxP ?_)⟩⟩))⟩
    have R9 := (R8.same s9).base
    have RH : Rs N W b c sl al ta m w n ts H H9 ss ar k := R8.same s9
    have hpl9 := s9 _ _ hpl8
    have hD9 := s9 _ _ hD8
    have hpo9 := s9 _ _ hpo8
    have npo := R9.nint hpo9
    -- the meetings
    refine ⟨_, rfl, po, rfl, ⟨_, SqT.of hpo9⟩, for_tup (K := K) (a := po) (xs := vn (SwO tl)) (fun i σ H' => ∃ (v9 : Option V) (ss' ar' : List Int), σ = [some (.ref c), some (.ref w), some (.ref ta), some (.int m), some (.ref nu), some (.int (h : Int)), some (.ref pl), some (.ref sl), some (.ref al), v9, some (.ref D0), some (.int bk), some (.ref po), none] ∧ Rs N W b c sl al ta m w n ts H9 H' ss' ar' (k + i) ∧ runS m ts (ss, ar) ((SwO tl).take i) = (ss', ar'))
      ⟨none, ss, ar, rfl, R9, rfl⟩ (fun i σ H' _ ⟨_, _, _, _, R, _⟩ => SqT.of (R.ks.tup hpo9 npo)) ?_ ?_⟩
    · rintro i x σ H10 hx ⟨v9, ss', ar', rfl, R, er⟩
      obtain ⟨t, ht, rfl⟩ := at_vn hx
      have il := lt_at ht
      rw [SwO_len] at il
      have tin := pt.mem_iff.mp (SwO_mem (List.mem_of_getElem? ht))
      obtain ⟨p, hp, _⟩ := tIn_mem.mp tin
      have tl' := lt_at hp
      obtain ⟨dx, sa, aa, g1, _, _⟩ := R.net.ob
      refine ⟨_, rfl, c, dx, _, rfl, g1, nf_meet _ _ _ _, _, rfl, c, w, .int (t : Int), none, m, ss', ar', n, ts, rfl, R.net, nw, hW, .int _, fun hb => not_below tl' hb, fun t' p' et hp' H11 b11 N11 => ?_⟩
      injection et with et
      obtain rfl : t = t' := by omega
      obtain rfl := lookup_same hp hp'
      have bx := met_bound (t := t) (p := p) m0 hm R.bs R.ba
      have lx := Nat.lt_trans (log665 (num_small bx (by omega))) (by decide : 665 < 1920)
      refine nilP ⟨_, rfl, .inr (.inr (.inl ⟨_, rfl, lx, ?_⟩))⟩
      have ncs : sl ≠ c := ne_of R.hsl g1 (by intro z; cases z)
      have nca : al ≠ c := ne_of R.hal g1 (by intro z; cases z)
      refine ⟨_, rfl, _, rfl, _, rfl, _, rfl, _, rfl, ta, sl, al, m, ss', ar', n, ts, t, rfl, R.ht.kp fun a xs e => b11 _ _ e (ne_of e g1 (by intro z; cases z)), b11 _ _ R.hsl ncs, b11 _ _ R.hal nca, nla, R.net.ls, R.net.la, hW, tl', m0, fun p' H12 hp' b12 e1 e2 => ?_⟩
      obtain rfl := lookup_same hp hp'
      refine nilP ⟨_, rfl, .inr (.inr (.inl ⟨_, rfl, lx, neV rfl ⟨_, rfl, iteF (nxP ?_)⟩⟩))⟩
      have em := metS_at (m := m) (ss := ss') (ar := ar') hp
      have bb := Bd.metS (m := m) (t := t) (ts := ts) m0 hm R.bs R.ba
      have rd := R.rd.met hW R.ln t
      refine ⟨_, (metS m ts (ss', ar') t).1, (metS m ts (ss', ar') t).2, rfl, R.step2 nl na nla b11 (by rw [em]; exact N11) b12 e1 e2 bb.1 bb.2 rd, ?_⟩
      rw [take_succ ht, runS_snoc, er]
    rintro σ H10 ⟨v9, ss', ar', rfl, R, er⟩
    rw [vn_len] at R er
    rw [List.take_length] at er
    rw [er] at sw
    have sol := SwO_len tl
    replace R := R.mono (show k + (SwO tl).length ≤ k + 21 by omega)
    have RF := RH.join R
    have hpl10 := R.ks.lst hpl9 npl
    have hD10 := R.ks.lst hD9 nD0
    have ls' := R.net.ls
    have la' := R.net.la
    -- all at the book
    refine ⟨_, rfl, pl, rfl, ⟨_, SqL.of hpl10⟩, fun D2 hD2 => lc_list (K := K) (a := pl) (xs := vn ns) (fun i H' => Same H10 H' ∧ H' D2 = some (.lst [])) ⟨same_new hD2, upd_same⟩ (fun i H' _ ⟨s7, _⟩ => SqL.of (s7 _ _ hpl10)) ?_ ?_⟩
    · rintro i x H11 hx ⟨s11, hD⟩
      obtain ⟨y, hy, rfl⟩ := at_vn hx
      have ym := List.mem_of_getElem? hy
      have yn := PL.lt hW hn ym
      refine ⟨rfl, _, rfl, _, rfl, sl, _, (y : Int), .int (ss'.getD y 0), rfl, rfl, SqL.of (s11 _ _ R.hsl), at_i (vrow_get (by omega)), _, rfl, ?_⟩
      have e : ss'.getD y 0 = bk := sw.s y ym
      rw [e]
      exact neV rfl ⟨_, rfl, iteF ⟨s11, hD⟩⟩
    rintro H11 ⟨s11, hD11⟩
    refine ⟨(by show 0 ≤ sizeLine; decide), fun e2 he2 => neNil (same_new he2 _ _ hD11) upd_same ⟨_, rfl, iteF ?_⟩⟩
    have s12 := s11.trans (same_new (o := HO.lst []) he2)
    generalize upd H11 e2 (.lst []) = H12 at s12 ⊢
    have R12 := R.same s12
    have hD12 := s12 _ _ hD10
    refine ⟨_, rfl, D0, rfl, ⟨_, SqL.of hD12⟩, fun D3 hD3 => lc_list (K := K) (a := D0) (xs := vn (tIn ts ns)) (fun i H' => Same H12 H' ∧ H' D3 = some (.lst [])) ⟨same_new hD3, upd_same⟩ (fun i H' _ ⟨s7, _⟩ => SqL.of (s7 _ _ hD12)) ?_ ?_⟩
    · rintro i x H13 hx ⟨s13, hD⟩
      obtain ⟨y, hy, rfl⟩ := at_vn hx
      have ym := List.mem_of_getElem? hy
      obtain ⟨p, hp, _⟩ := tIn_mem.mp ym
      have yn := lt_at hp
      refine ⟨rfl, _, rfl, _, rfl, al, _, (y : Int), .int (ar'.getD y 0), rfl, rfl, SqL.of (s13 _ _ R12.hal), at_i (vrow_get (by omega)), _, rfl, ?_⟩
      have e : ar'.getD y 0 = bk := sw.a y ym
      rw [e]
      exact neV rfl ⟨_, rfl, iteF ⟨s13, hD⟩⟩
    rintro H13 ⟨s13, hD13⟩
    refine ⟨(by show 0 ≤ sizeLine; decide), fun e3 he3 => neNil (same_new he3 _ _ hD13) upd_same ⟨_, rfl, iteF (nxP ?_)⟩⟩
    have s14 := s13.trans (same_new (o := HO.lst []) he3)
    generalize upd H13 e3 (.lst []) = H14 at s14 ⊢
    have R14 := R12.same s14
    -- what it shows
    obtain ⟨dx, sa, aa, g1, g2, g3⟩ := R14.net.ob
    have bs200 := R14.bs.top (show k + 21 ≤ 270 by omega)
    have ba200 := R14.ba.top (show k + 21 ≤ 270 by omega)
    have bk200 : bk.natAbs < 10 ^ 200 := by
      obtain ⟨x0, hx0⟩ := ex_at (l := ns) (i := 0) (by omega)
      have := R14.bs.get x0
      rw [sw.s x0 (List.mem_of_getElem? hx0)] at this
      exact num_small this (by omega)
    have pb := pb_3b bk200 bs200 ba200 (by omega) (by omega)
    refine ⟨_, rfl, c, N, dx, _, _, rfl, g1, NT.cl, NT.nS, nf_s _ _ _ _, _, rfl, c, N, dx, _, _, rfl, g1, NT.cl, NT.nA, nf_a _ _ _ _, ?_⟩
    refine ⟨_, rfl, c, dx, _, rfl, g1, nf_book _ _ _ _, _, rfl, c, w, .int (h : Int), none, m, ss', ar', n, ts, rfl, R14.net, hW, .int _, fun hb => not_below hn hb, fun h' eh hn' ns' H15 s15 PL' => ?_⟩
    injection eh with eh
    obtain rfl : h = h' := by omega
    obtain rfl := PL.uniq PL' .refl
    have eb : bookN m ss' ar' ts ns = bk := sw.book hbk plen
    rw [eb]
    have R15 := R14.same s15
    refine nilP ⟨(by show 3 ≤ sizeLine; decide), fun p4 hp4 => ?_⟩
    have t1 := same_new (o := HO.tup [V.ref sa, .ref aa, .int bk]) hp4
    refine nilP (reprB (dp_3b upd_same (t1 _ _ (s15 _ _ g2)) (t1 _ _ (s15 _ _ g3))) pb (by decide) (by decide) ?_)
    refine ⟨_, rfl, sl, _, rfl, .inl ⟨SqL.of (t1 _ _ R15.hsl), fun p5 hp5 => ?_⟩⟩
    have t2 := t1.trans (same_new (o := HO.tup (vrow ss')) hp5)
    refine ⟨_, rfl, al, _, rfl, .inl ⟨SqL.of (t2 _ _ R15.hal), fun p6 hp6 => ?_⟩⟩
    have t3 := t2.trans (same_new (o := HO.tup (vrow ar')) hp6)
    refine ⟨_, rfl, (by show 3 ≤ sizeLine; decide), fun p7 hp7 => ?_⟩
    have t4 := t3.trans (same_new (o := HO.tup [V.ref p5, .ref p6, .int bk]) hp7)
    refine nilP (reprB (dp_3b upd_same (same_new hp7 _ _ (same_new hp6 _ _ upd_same)) (same_new hp7 _ _ upd_same)) pb (by decide) (by decide) (eqVV rfl ?_))
    exact q ss' ar' ns bk _ (((RF.same s12).same s14).same (s15.trans t4)) PL sw
end
end K1
namespace K1
open PySem PySem.Spec PyProof.Rows L2
def movK (ts : Prs) (ss ar : List Int) (k : Nat) : List Nat := (List.range k).filter fun t => !rB ts ss ar t
theorem movK_succ (ts : Prs) (ss ar : List Int) (k : Nat) : movK ts ss ar (k + 1) = movK ts ss ar k ++ if rB ts ss ar k = true then [] else [k] := by
  unfold movK
  rw [List.range_succ, List.filter_append]
  congr 1
  rw [List.filter_cons]
  cases rB ts ss ar k <;> rfl
theorem movK_len (ts : Prs) (ss ar : List Int) (k : Nat) : (movK ts ss ar k).length ≤ k := by
  unfold movK
  have := List.length_filter_le (fun t => !rB ts ss ar t) (List.range k)
  rw [List.length_range] at this
  exact this
theorem mov_rest (ts : Prs) (ss ar : List Int) : (movK ts ss ar ts.length).isEmpty = restB ts ss ar := by
  unfold movK restB
  rw [List.all_map]
  generalize List.range ts.length = L
  induction L with
  | nil => rfl
  | cons a r ih =>
    rw [List.filter_cons, List.all_cons]
    cases e : rB ts ss ar a with
    | true => simp only [Bool.not_true, Bool.false_eq_true, if_false, Function.comp, id, e, Bool.true_and]; exact ih
    | false => simp only [Bool.not_false, if_true, List.isEmpty_cons, Function.comp, id, e, Bool.false_and]
theorem eqv_nil (xs : List Int) : PyData.eqv (.list (dI xs)) (.list []) = xs.isEmpty := by
  cases xs <;> rfl
theorem rB_at {ts : Prs} {ss ar : List Int} {t : Nat} {p : Nat × Nat} (hp : ts[t]? = some p) : PyData.eqv (.tuple [.int (ss.getD p.1 0), .int (ss.getD p.2 0)]) (.tuple [.int (ar.getD t 0), .int (ar.getD t 0)]) = rB ts ss ar t := by
  unfold rB
  rw [hp]
  simp only [PyData.eqv, PyData.eqvAll, Bool.and_true]
  generalize ss.getD p.1 0 = a
  generalize ss.getD p.2 0 = b
  generalize ar.getD t 0 = c
  by_cases h1 : b = c
  · subst h1
    by_cases h2 : a = b
    · subst h2; simp
    · have : V.int a ≠ V.int b := fun z => by injection z with z; exact h2 z
      simp [h2, this]
  · have : V.int b ≠ V.int c := fun z => by injection z with z; exact h1 z
    simp [h1, this]
theorem rest_true {n : Nat} {ts : Prs} {ss ar : List Int} (hW : Wv n ts) (r : ∀ x, x < n → RestAt ts (ss, ar) x) : restB ts ss ar = true := by
  unfold restB
  rw [List.all_map, List.all_eq_true]
  intro t ht
  show rB ts ss ar t = true
  unfold rB
  cases hp : ts[t]? with
  | none => rfl
  | some p =>
    obtain ⟨h1, h2, h3⟩ := hW.at_ hp
    obtain ⟨e1, e2⟩ := r p.1 h1 t p hp .refl
    replace e1 : ss.getD p.1 0 = ar.getD t 0 := e1
    replace e2 : ss.getD p.2 0 = ar.getD t 0 := e2
    dsimp only
    rw [e1, e2, decide_eq_true rfl]; rfl
theorem goodM27 {v : V} (h : v ∈ [V.int 0, .int 0, .int 2, .int 3, .int 7, .int 12, .int (10 ^ (6 : Int).toNat)]) : ∃ m, v = .int m ∧ GoodM m := by
  simp only [List.mem_cons, List.mem_nil_iff, or_false] at h
  rcases h with rfl | rfl | rfl | rfl | rfl | rfl | rfl
  · exact ⟨_, rfl, by decide, by decide, by decide⟩
  · exact ⟨_, rfl, by decide, by decide, by decide⟩
  · exact ⟨_, rfl, by decide, by decide, by decide⟩
  · exact ⟨_, rfl, by decide, by decide, by decide⟩
  · exact ⟨_, rfl, by decide, by decide, by decide⟩
  · exact ⟨_, rfl, by decide, by decide, by decide⟩
  · exact ⟨_, rfl, by decide, by decide, by decide⟩
/-- a number that the law draws for a net of modulus m -/
structure Gd (m i : Int) : Prop where
  z : m = 0 → i.natAbs ≤ 10 ^ 18
  p : m ≠ 0 → 0 ≤ i ∧ i < m
theorem rdc_of {m : Int} {ss ar : List Int} (h : ∀ i ∈ ss, Gd m i) : Rdc m (ss, ar) := fun x => by
  show cby m (ss.getD x 0) = ss.getD x 0
  unfold cby
  by_cases z : m = 0
  · rw [if_pos z]
  · rw [if_neg z]
    rw [List.getD_eq_getElem?_getD]
    cases e : ss[x]? with
    | none => exact Int.zero_emod m
    | some i =>
      obtain ⟨h1, h2⟩ := (h i (List.mem_of_getElem? e)).p z
      exact Int.emod_eq_of_lt h1 h2
theorem bd0_of {m : Int} {ss : List Int} (gm : GoodM m) (h : ∀ i ∈ ss, Gd m i) : Bd 0 ss := fun i hi => (good_of gm (h i hi).z (h i hi).p).2
theorem shT2 (x y : Int) : SeqAt.shaped (.tuple [.int x, .int y]) = true := rfl
theorem shL (xs : List Int) : SeqAt.shaped (.list (dI xs)) = true := by
  have h1 : PyData.canLayAll0 (dI xs) = true := by
    induction xs with
    | nil => rfl
    | cons a r ih => simp only [dI, List.map_cons, PyData.canLayAll0, PyData.canLay0, Bool.true_and]; exact ih
  have h2 : PyData.depthAll (dI xs) ≤ 0 := by
    clear h1
    induction xs with
    | nil => exact Nat.le_refl _
    | cons a r ih => simp only [dI, List.map_cons, PyData.depthAll, PyData.depth]; have : PyData.depthAll (r.map PyData.int) ≤ 0 := ih; omega
  unfold SeqAt.shaped
  have h3 : PyData.canLay0 (.list (dI xs)) = true := by simp only [PyData.canLay0]; exact h1
  rw [h3, decide_eq_true (by simp only [PyData.depth]; omega)]; rfl
structure Dn (P : Program) (w : World) (K : PySem.W.Frag) (mg : Str → Option Value) (base : Heap) (W N CH CT CR : Addr) : Prop where
  ld : LDs P w K mg base
  nm : NMk P w K mg base N W CH CT CR
  TW : WcT K mg W
  I : WcI K W
  box : ∃ f fd, Df K mg "_law_box" sLBox ["_law_script", "_law_k"] f fd ∧ FnOk P w K mg base CX0 1 f fd ["_law_script", "_law_k"] (spBox K)
  pick : ∃ f fd, Df K mg "_law_pick" sLPick ["_law_box_here", "_law_some"] f fd ∧ FnOk P w K mg base CX0 2 f fd ["_law_box_here", "_law_some"] spPick
  mixed : ∃ f fd, Df K mg "_law_mixed" sLMixed ["_law_box_here", "_law_some"] f fd ∧ FnOk P w K mg base CX0 2 f fd ["_law_box_here", "_law_some"] (spMixed K)
  forest : ∃ f fd, Df K mg "_law_forest" sLForest ["_law_box_here", "_law_most"] f fd ∧ FnOk P w K mg base CX0 3 f fd ["_law_box_here", "_law_most"] spForest
  winit : ∃ f fd, Mk K W f ∧ Binds K fd ["self", "houses", "ties"] [] ∧ FnOk P w K mg base (L2.CX P w) 6 f fd ["self", "houses", "ties"] (spWInit W)
  cinit : ∃ f fd, Mk K N f ∧ Binds K fd ["self", "web", "modulus", "states", "archives"] [] ∧ FnOk P w K mg base (L2.CX P w) 5 f fd ["self", "web", "modulus", "states", "archives"] (spCInit K N W CR)
  rest : ∃ f fd, Df K mg "is_rest" sIsRest ["net"] f fd ∧ KBn K fd ["net"] 0 ["net"] gM gMV ∧ FnOk P w K mg base CX0 2 f fd ["net"] (spRest N W)
  steps : ∃ f fd, Df K mg "_law_steps_right" sLStepsRight ["_law_box_here", "_law_net", "_law_ties", "_law_modulus", "_law_states", "_law_archives"] f fd ∧ FnG P w K mg base 6 f fd ["_law_box_here", "_law_net", "_law_ties", "_law_modulus", "_law_states", "_law_archives"] (spSteps N W)
  swept : ∃ f fd, Df K mg "_law_swept" sLSwept ["_law_net", "_law_web", "_law_ties", "_law_modulus", "_law_numbers", "_law_house"] f fd ∧ FnG P w K mg base 8 f fd ["_law_net", "_law_web", "_law_ties", "_law_modulus", "_law_numbers", "_law_house"] (spSwept N W)
abbrev nLa : List Str := ["_law_script", "_law_k", "_law_box_here", "_law_many", "_law_ties", "_law_web", "_law_modulus", "_law_house", "_law_states", "_law_tie", "_law_archives", "_law_net", "_law_moving"]
theorem scLa : FnScope nLa ["_law_script"] (defScope sLaw) := ⟨rfl, rfl, rfl, by decide +kernel, rfl, by decide +kernel, by decide +kernel⟩
def spLaw (K : PySem.W.Frag) : Sp := fun vs H Q _ => ∃ (a : Addr) (ns : List Int), vs = [.ref a] ∧ SqL K H a (ns.map V.int) ∧ ns.length ≤ 63 ∧ ∀ H', Q (.bl true) H'
section
variable {P : Program} {w : World} {K : PySem.W.Frag} {mg : Str → Option Value} {base : Heap}
theorem ok_law {f W N CH CT CR : Addr} {fd : FuncData} (F : Fun K "law" "law" sLaw f fd) (dn : Dn P w K mg base W N CH CT CR) : FnG P w K mg base 9 f fd ["_law_script"] (spLaw K) := by
  have ld := dn.ld
  have nm := dn.nm
  have B := ld.B
  have TW := dn.TW
  have NT := nm.T
  have I := dn.I
  obtain ⟨fQ, fdQ, FQ, eqA, eqF, eqB⟩ := I.eq
  have GQ := ok_weq (P := P) (w := w) (base := base) FQ B TW I
  obtain ⟨fM, fdM, mM, bM, kM, GM⟩ := nm.meet
  obtain ⟨_, _, DN, GN⟩ := ld.num
  obtain ⟨_, _, DB, GB⟩ := dn.box
  obtain ⟨_, _, DK, GK⟩ := dn.pick
  obtain ⟨_, _, DX, GX⟩ := dn.mixed
  obtain ⟨_, _, DF, GF⟩ := dn.forest
  obtain ⟨_, _, MW, BW, GW⟩ := dn.winit
  obtain ⟨_, _, MC, BC, GC⟩ := dn.cinit
  obtain ⟨_, _, DR, kR, GR⟩ := dn.rest
  obtain ⟨_, _, DS, GS⟩ := dn.steps
  obtain ⟨_, _, DV, GV⟩ := dn.swept
  refine okG F scLa (fun vs H Q E h => ?_) (fun cdv A outer s H vs Q E hr hgd h => ?_)
  · obtain ⟨a, ns, rfl, _⟩ := h
    rfl
  · obtain ⟨a, ns, rfl, hS, hn, q⟩ := h
    have hu : (A.deeper (envOfC "law" (defScope sLaw) s.heap.objs.size f cdv)).units + 64 < cLine := hr.units
    have r1 := hr.mono (show 1 ≤ 8 by decide)
    have r2 := hr.mono (show 2 ≤ 8 by decide)
    have r3 := hr.mono (show 3 ≤ 8 by decide)
    have r4 := hr.mono (show 4 ≤ 8 by decide)
    have r6 := hr.mono (show 6 ≤ 8 by decide)
    have r7 := hr.mono (show 7 ≤ 8 by decide)
    refine ⟨_, pss_cons (ps_for PassesOwn.never rfl (pi_range1 (by rfl) B.range (pa_cons pe_int pa_nil)) (pg_name (i := 1) scLa.nd rfl (.inl rfl))
        (pss_cons (ps_set (i := 2) scLa.nd rfl (.inr rfl) (pc DB GB r1 pass0 (pa_cons (pv 0) (pa_cons (pv 1) pa_nil))))
        (pss_cons (ps_asg (pc DF GF r3 pass0 (pa_cons (pv 2) (pa_cons (pc DK GK r2 pass0 (pa_cons (pv 2) (pa_cons (pe_lst (pa_cons pe_int (pa_cons pe_int (pa_cons pe_int pa_nil)))) pa_nil))) pa_nil))) (pg_tup rfl (pgs_cons (pg_name (i := 3) scLa.nd rfl (.inl rfl)) (pgs_cons (pg_name (i := 4) scLa.nd rfl (.inr rfl)) pgs_nil))))
        (pss_cons (ps_asg (pe_tup (pa_cons (pe_make MW GW r7 rfl TW.g BW .nil passF (pa_cons (pv 3) (pa_cons (pv 4) pa_nil))) (pa_cons (pc DK GK r2 pass0 (pa_cons (pv 2) (pa_cons (pe_lst (pa_cons pe_int (pa_cons pe_int (pa_cons pe_int (pa_cons pe_int (pa_cons pe_int (pa_cons pe_int (pa_cons (pe_op op_pow pe_int pe_int) pa_nil)))))))) pa_nil))) pa_nil))) (pg_tup rfl (pgs_cons (pg_name (i := 5) scLa.nd rfl (.inl rfl)) (pgs_cons (pg_name (i := 6) scLa.nd rfl (.inr rfl)) pgs_nil))))
        (pss_cons (ps_set (i := 8) scLa.nd rfl (.inr rfl) (pe_lc (own := [("_law_house", 7)]) (g := gName 7) (tt := tYes) rfl scLa.nd (pi_range1 (by rfl) B.range (pa_cons (pv 3) pa_nil)) (blkOk_by (N := nLa) (sc := defScope sLaw) (by decide +kernel)) (fun _ _ _ _ _ => pg_name (i := 7) scLa.nd rfl (Or.inl rfl)) (fun _ _ _ _ _ => pts_nil) (fun _ _ _ _ _ => pc DN GN r2 pass0 (pa_cons (pv 2) (pa_cons (pv 6) pa_nil)))))
        (pss_cons (ps_set (i := 10) scLa.nd rfl (.inr rfl) (pe_lc (own := [("_law_tie", 9)]) (g := gName 9) (tt := tYes) rfl scLa.nd (pi_tup (pv 4)) (blkOk_by (N := nLa) (sc := defScope sLaw) (by decide +kernel)) (fun _ _ _ _ _ => pg_name (i := 9) scLa.nd rfl (Or.inl rfl)) (fun _ _ _ _ _ => pts_nil) (fun _ _ _ _ _ => pc DN GN r2 pass0 (pa_cons (pv 2) (pa_cons (pv 6) pa_nil)))))
        (pss_cons (ps_set (i := 11) scLa.nd rfl (.inl rfl) (pe_make MC GC r6 rfl NT.g BC .nil passF (pa_cons (pv 5) (pa_cons (pv 6) (pa_cons (pe_callTy call_list_of (by rfl) B.list PyProof.Rows.boot_list (pa_cons (pv 8) pa_nil)) (pa_cons (pv 10) pa_nil))))))
        (pss_cons (ps_if (PW.pt (pw_or (pt_cmpR op_ne (pe_callB (call_repr hgd hu) (by rfl) B.repr (by decide +kernel) (pa_cons (pe_tup (pa_cons (pe_fld (pv 11) rfl) (pa_cons (pe_fld (pv 11) rfl) (pa_cons (pe_fld (pv 11) rfl) pa_nil)))) pa_nil)) (pe_callB (call_repr hgd hu) (by rfl) B.repr (by decide +kernel) (pa_cons (pe_tup (pa_cons (pv 6) (pa_cons (pe_callTy call_tuple_of (by rfl) B.tuple PyProof.Rows.boot_tuple (pa_cons (pv 8) pa_nil)) (pa_cons (pe_callTy call_tuple_of (by rfl) B.tuple PyProof.Rows.boot_tuple (pa_cons (pv 10) pa_nil)) pa_nil)))) pa_nil)) (nomark _))
            (pw_or1 (pt_cmpR (op_neOwn GQ r2 I.ne I.mo eqA eqF eqB) (pe_fld (pv 11) rfl) (pv 5) (nomark _))))) (pss_one (ps_ret pe_bl)) pss_nil)
        (pss_cons (ps_if (pt_not (pt_val (pe_callG DS GS r6 hgd (pa_cons (pv 2) (pa_cons (pv 11) (pa_cons (pv 4) (pa_cons (pv 6) (pa_cons (pv 8) (pa_cons (pv 10) pa_nil))))))))) (pss_one (ps_ret pe_bl)) pss_nil)
        (pss_cons (ps_setLc (i := 12) (own := [("_law_tie", 9)]) (g := gName 9) rfl scLa.nd rfl rfl (sw_true rfl rfl rfl rfl) (pi_range1 (by rfl) B.range (pa_cons (pe_callB call_len_seq (by rfl) B.len PySem.boot_len (pa_cons (pv 4) pa_nil)) pa_nil)) (blkOk_by (N := nLa) (sc := defScope sLaw) (by decide +kernel)) (fun _ _ _ _ _ => pg_name (i := 9) scLa.nd rfl (Or.inl rfl))
            (fun _ _ _ _ _ => pts_one (pt_cmpR (neD (K := K) rfl hu) (pe_tup (pa_cons (pe_ix (ixLK (K := K) rfl) (pv 8) (pe_ix (ixTK (K := K) rfl) (pe_ix (ixTK (K := K) rfl) (pv 4) (pv 9) (fun _ _ => rfl)) pe_int (fun _ _ => rfl)) (fun _ _ => rfl)) (pa_cons (pe_ix (ixLK (K := K) rfl) (pv 8) (pe_ix (ixTK (K := K) rfl) (pe_ix (ixTK (K := K) rfl) (pv 4) (pv 9) (fun _ _ => rfl)) pe_int (fun _ _ => rfl)) (fun _ _ => rfl)) pa_nil)))
              (pe_tup (pa_cons (pe_ix (ixLK (K := K) rfl) (pv 10) (pv 9) (fun _ _ => rfl)) (pa_cons (pe_ix (ixLK (K := K) rfl) (pv 10) (pv 9) (fun _ _ => rfl)) pa_nil))) (nomark _))) (fun _ _ _ _ _ => pv 9))
        (pss_cons (ps_if (pt_cmpR op_ne (pe_callB call_reprS (by rfl) B.repr (by decide +kernel) (pa_cons (pc DR GR r2 pass0 (pa_cons (pv 11) pa_nil)) pa_nil)) (pe_callB call_reprS (by rfl) B.repr (by decide +kernel) (pa_cons (pe_cmpR (eqD (K := K) rfl hu) (pv 12) (pe_lst pa_nil) (nomark _)) pa_nil)) (nomark _)) (pss_one (ps_ret pe_bl)) pss_nil)
        (pss_cons (ps_for PassesOwn.never rfl (pi_list (pc DX GX r2 pass0 (pa_cons (pv 2) (pa_cons (pe_listRg rfl (by rfl) B.list (prg_1 (by rfl) B.range (pv 3))) pa_nil)))) (pg_name (i := 7) scLa.nd rfl (.inl rfl))
          (pss_one (ps_if (pt_not (pt_val (pe_callG DV GV hr hgd (pa_cons (pv 11) (pa_cons (pv 5) (pa_cons (pv 4) (pa_cons (pv 6) (pa_cons (pe_lst (pa_cons (pv 8) (pa_cons (pv 10) pa_nil))) (pa_cons (pv 7) pa_nil))))))))) (pss_one (ps_ret pe_bl)) pss_nil)))
        (pss_cons (ps_if (pt_cmpR op_notBl (pe_callW DR GR r2 kR pass0 (pk_cons (pv 11) pk_nil)) pe_bl (nomark _)) (pss_one (ps_ret pe_bl)) pss_nil)
        (pss_cons (ps_for PassesOwn.never rfl (pi_range1 (by rfl) B.range (pa_cons (pe_callB call_len_seq (by rfl) B.len PySem.boot_len (pa_cons (pv 4) pa_nil)) pa_nil)) (pg_name (i := 9) scLa.nd rfl (.inl rfl))
          (pss_one (ps_expr (pe_meth (pv 11) NT.cl mM GM r4 bM .nil passF (pa_cons (pv 9) pa_nil)))))
        (pss_one (ps_if (pt_cmpR op_ne (pe_callB (call_repr hgd hu) (by rfl) B.repr (by decide +kernel) (pa_cons (pe_tup (pa_cons (pe_fld (pv 11) rfl) (pa_cons (pe_fld (pv 11) rfl) pa_nil))) pa_nil)) (pe_callB (call_repr hgd hu) (by rfl) B.repr (by decide +kernel) (pa_cons (pe_tup (pa_cons (pe_callTy call_tuple_of (by rfl) B.tuple PyProof.Rows.boot_tuple (pa_cons (pv 8) pa_nil)) (pa_cons (pe_callTy call_tuple_of (by rfl) B.tuple PyProof.Rows.boot_tuple (pa_cons (pv 10) pa_nil)) pa_nil))) pa_nil)) (nomark _)) (pss_one (ps_ret pe_bl)) pss_nil))))))))))))))))
      (pss_one (ps_ret pe_bl)), ?_⟩
    refine ⟨3, rfl, by decide, by decide, for_range (fun i σ H' => ∃ (v1 v2 v3 v4 v5 v6 v7 v8 v9 v10 v11 v12 : Option V), σ = [some (.ref a), v1, v2, v3, v4, v5, v6, v7, v8, v9, v10, v11, v12] ∧ SqL K H' a (ns.map V.int))
      ⟨none, none, none, none, none, none, none, none, none, none, none, none, rfl, hS⟩ ?_ ?_⟩
    rotate_left
    · rintro σ H1 ⟨v1, v2, v3, v4, v5, v6, v7, v8, v9, v10, v11, v12, rfl, _⟩
      exact q _
    rintro i σ Ha hi ⟨v1, v2, v3, v4, v5, v6, v7, v8, v9, v10, v11, v12, rfl, hSa⟩
    refine ⟨_, rfl, _, rfl, a, ns, 0 + (i : Int), rfl, hSa, hn, by omega, by omega, fun b H1 s1 hb0 hb1 => ?_⟩
    refine gn ?_
    dsimp only [List.set]
    have bx1 : Bx b H1 H1 := Bx.refl hb1
    -- the forest
    refine ⟨_, rfl, _, rfl, (by show 3 ≤ sizeLine; decide), fun l8 hl8 => ?_⟩
    have bx2 := bx1.new (o := HO.lst [V.int 8, .int 7, .int 12]) hl8
    refine nilP ⟨b, l8, [V.int 8, .int 7, .int 12], rfl, bx2.1, upd_same, bx1.ne hl8, by show 1 ≤ 3; decide, by show 3 ≤ 1000; decide, fun i8 v8' H2 hv8 bx3 => ?_⟩
    obtain ⟨most, rfl, ms1, ms12⟩ : ∃ k : Nat, v8' = .int (k : Int) ∧ 1 ≤ k ∧ k ≤ 12 := by
      have hm := List.mem_of_getElem? hv8
      simp only [List.mem_cons, List.mem_nil_iff, or_false] at hm
      rcases hm with rfl | rfl | rfl
      · exact ⟨8, rfl, by decide, by decide⟩
      · exact ⟨7, rfl, by decide, by decide⟩
      · exact ⟨12, rfl, by decide, by decide⟩
    have bx4 := bx2.trans bx3
    refine nilP ⟨b, most, rfl, bx4.1, ms1, ms12, fun pf ta n ts rk H3 bx5 hpf htt hW fo lts => ?_⟩
    have bx6 := bx4.trans bx5
    refine ⟨pf, _, rfl, SqT.of hpf, rfl, _, _, rfl, _, _, rfl, rfl, ?_⟩
    dsimp only [List.set]
    have n12 := hW.n12
    have n1 := hW.n1
    have t20 := hW.t20
    -- the web
    obtain ⟨tas, ht3, hA3⟩ := id htt
    refine ⟨_, rfl, _, rfl, fun w dxw hw0 hdx0 new => ?_⟩
    have smw := mkSame (o1 := HO.own w) (o2 := HO.ins W dxw []) hw0 hdx0 new
    refine ⟨w, dxw, n, ta, tas, ts, rfl, upd_same, .inr (smw _ _ ht3), hA3.same smw, hW, fun H4 k4 hWeb => ⟨rfl, ?_⟩⟩
    have s34 : Same H3 H4 := fun c o e => k4 c o (smw c o e) (ne_of_none e hw0)
    have bx7 := bx6.same s34
    have tt4 := htt.same s34
    clear k4 smw hw0 hdx0
    -- the modulus
    refine ⟨_, rfl, _, _, rfl, rfl, ⟨by decide, by decide, by decide⟩, (by show 7 ≤ sizeLine; decide), fun lm hlm => ?_⟩
    have bx8 := bx7.new (o := HO.lst [V.int 0, .int 0, .int 2, .int 3, .int 7, .int 12, .int (10 ^ (6 : Int).toNat)]) hlm
    refine nilP ⟨b, lm, [V.int 0, .int 0, .int 2, .int 3, .int 7, .int 12, .int (10 ^ (6 : Int).toNat)], rfl, bx8.1, upd_same, bx7.ne hlm, by show 1 ≤ 7; decide, by show 7 ≤ 1000; decide, fun im vm H5 hvm bx9 => ?_⟩
    obtain ⟨m, rfl, gm⟩ := goodM27 (List.mem_of_getElem? hvm)
    have m0 := gm.m0
    have m6 := gm.m6
    have bx10 := bx8.trans bx9
    have tt5 := (tt4.same (same_new (o := HO.lst [V.int 0, .int 0, .int 2, .int 3, .int 7, .int 12, .int (10 ^ (6 : Int).toNat)]) hlm)).kp fun a xs e => bx9.tup bx8.1 e
    have web5 : WebAt W H5 w n ts := (hWeb.same (same_new hlm)).kp (fun a xs e => bx9.tup bx8.1 e) fun dx fs e => bx9.2 _ _ e (bx8.1.ne e fun xs => by intro z; cases z)
    refine nilP ⟨(by show 2 ≤ sizeLine; decide), fun p1 hp1 => ?_⟩
    have sp1 := same_new (o := HO.tup [V.ref w, V.int m]) hp1
    refine ⟨p1, _, rfl, SqT.of upd_same, rfl, _, _, rfl, _, _, rfl, rfl, ?_⟩
    have bx11 := bx10.same sp1
    have tt6 := tt5.same sp1
    have web6 := web5.same sp1
    generalize upd H5 p1 (.tup [V.ref w, V.int m]) = H6 at bx11 tt6 web6 ⊢
    dsimp only [List.set]
    -- the states
    refine ⟨_, rfl, (n : Int), rfl, by omega, by omega, fun D0 hD0 => lc_range (fun j H' => ∃ ss : List Int, ss.length = j ∧ Bx b H6 H' ∧ H' D0 = some (.lst (vrow ss)) ∧ ∀ i ∈ ss, Gd m i) ⟨[], rfl, (Bx.refl bx11.1).new hD0, upd_same, fun i hi => (by cases hi)⟩ ?_ ?_⟩
    · rintro j H' hj ⟨ss, lj, bx, hD, gs⟩
      have nD0 := bx11.ne hD0
      refine ⟨rfl, _, rfl, _, rfl, b, m, rfl, bx.1, m0, m6, fun x J1 bxn h0 h1 => ⟨_, bxn.2 _ _ hD nD0, szl (by rw [vrow_len]; omega), ss ++ [x], (by rw [List.length_append, lj]; rfl), (bx.trans bxn).put hD0 nD0, (by rw [upd_same, vrow, vrow, List.map_append]; rfl), fun y hy => ?_⟩⟩
      rcases List.mem_append.mp hy with z | z
      · exact gs y z
      · rw [List.mem_singleton.mp z]; exact ⟨h0, h1⟩
    rintro H7 ⟨ss, ls, bx12, hsl7, gs⟩
    have nD0 := bx11.ne hD0
    have lss : ss.length = n := by omega
    have bx13 := bx11.trans bx12
    have tt7 := tt6.kp fun a xs e => bx12.tup bx11.1 e
    have web7 : WebAt W H7 w n ts := web6.kp (fun a xs e => bx12.tup bx11.1 e) fun dx fs e => bx12.2 _ _ e (bx11.1.ne e fun xs => by intro z; cases z)
    refine gn ?_
    dsimp only [List.set]
    -- the archives
    obtain ⟨tas7, ht7, hA7⟩ := id tt7
    refine ⟨_, rfl, ta, rfl, ⟨_, SqT.of ht7⟩, fun D1 hD1 => lc_tup (K := K) (a := ta) (xs := tas7.map V.ref) (fun j H' => ∃ ar : List Int, ar.length = j ∧ Bx b H7 H' ∧ H' D1 = some (.lst (vrow ar)) ∧ ∀ i ∈ ar, Gd m i) ⟨[], rfl, (Bx.refl bx13.1).new hD1, upd_same, fun i hi => (by cases hi)⟩ (fun j H' _ ⟨_, _, bx, _⟩ => SqT.of (bx.tup bx13.1 ht7)) ?_ ?_⟩
    · rintro j x H' hx ⟨ar, lj, bx, hD, gs⟩
      have nD1 := bx13.ne hD1
      have jl := lt_at hx
      rw [List.length_map, hA7.1] at jl
      refine ⟨rfl, _, rfl, _, rfl, b, m, rfl, bx.1, m0, m6, fun x J1 bxn h0 h1 => ⟨_, bxn.2 _ _ hD nD1, szl (by rw [vrow_len]; omega), ar ++ [x], (by rw [List.length_append, lj]; rfl), (bx.trans bxn).put hD1 nD1, (by rw [upd_same, vrow, vrow, List.map_append]; rfl), fun y hy => ?_⟩⟩
      rcases List.mem_append.mp hy with z | z
      · exact gs y z
      · rw [List.mem_singleton.mp z]; exact ⟨h0, h1⟩
    rintro H8 ⟨ar, la, bx14, hal8, ga⟩
    have nD1 := bx13.ne hD1
    rw [List.length_map, hA7.1] at la
    have nD01 : D0 ≠ D1 := fun z => by rw [z, hD1] at hsl7; cases hsl7
    have bx15 := bx13.trans bx14
    have hsl8 := bx14.2 _ _ hsl7 nD0
    have tt8 := tt7.kp fun a xs e => bx14.tup bx13.1 e
    have web8 : WebAt W H8 w n ts := web7.kp (fun a xs e => bx14.tup bx13.1 e) fun dx fs e => bx14.2 _ _ e (bx13.1.ne e fun xs => by intro z; cases z)
    refine gn ?_
    dsimp only [List.set]
    -- the net
    refine ⟨_, rfl, _, rfl, _, rfl, D0, _, rfl, .inl (SqL.of hsl8), fun hd hhd => ⟨_, rfl, fun c dxc hc0 hdc0 nec => ?_⟩⟩
    have t1 := same_new (o := HO.lst (vrow ss)) hhd
    have smc := mkSame (o1 := HO.own c) (o2 := HO.ins N dxc []) hc0 hdc0 nec
    have t3 := t1.trans smc
    have hd3 := smc _ _ (upd_same : (upd H8 hd (.lst (vrow ss))) hd = _)
    have al3 := t3 _ _ hal8
    have hw3 := web8.same t3
    obtain ⟨dxw2, taw2, hww, _⟩ := id (web8.same t1)
    have nwc : w ≠ c := ne_of_none hww hc0
    have kints : ∀ {H : Hp} {t : List Int} ys, some (vrow t) = some ys → Kinds K H ys := fun ys e y hy => by
      obtain rfl := Option.some.inj e
      obtain ⟨i, _, rfl⟩ := List.mem_map.mp hy
      exact ⟨_, .int i⟩
    have cs : cofB m n (some (vrow ss)) = true := by rw [← lss]; exact cof_ok fun i hi => (good_of gm (gs i hi).z (gs i hi).p).1
    have ca : cofB m ts.length (some (vrow ar)) = true := by rw [← la]; exact cof_ok fun i hi => (good_of gm (ga i hi).z (ga i hi).p).1
    refine ⟨c, dxc, w, .int m, .ref hd, .ref D1, none, some (vrow ss), some (vrow ar), n, ts, rfl, upd_same, hw3, nwc, hW, .int m, ⟨.lst hd3, kints⟩, ⟨.lst al3, kints⟩, fun hf => ?_, fun m' em _ => ⟨fun hf => ?_, fun _ => ⟨fun hf => ?_, fun _ ss' ar' e1 e2 H9 b9 N9 => ⟨rfl, ?_⟩⟩⟩⟩
    · rw [gm.mod] at hf
      cases hf
    · injection em with em
      rw [← em, cs] at hf
      cases hf
    · injection em with em
      rw [← em, ca] at hf
      cases hf
    injection em with em
    subst em
    obtain rfl := vrow_inj e1
    obtain rfl := vrow_inj e2
    have s89 : Same H8 H9 := fun d o e => b9 _ _ (t3 _ _ e) (ne_of_none (t1 _ _ e) hc0)
    have fc : H8 c = none := t1.free hc0
    have R : Rs N W b c D0 D1 ta m w n ts H9 H9 ss ar 0 := ⟨bx15.1.same s89, Ks.refl, N9, s89 _ _ hsl8, s89 _ _ hal8, tt8.same s89, bd0_of gm gs, bd0_of gm ga, rdc_of gs⟩
    clear b9 t3 smc hd3 al3 hw3 hww N9
    refine gn ?_
    dsimp only [List.set]
    -- what it shows
    obtain ⟨dx, sa, aa, g1, g2, g3⟩ := R.net.ob
    have pb := pb_three (x := m) (Nat.lt_of_le_of_lt (show m.natAbs ≤ 10 ^ 6 by omega) (by decide +kernel)) (R.bs.top (show 0 ≤ 270 by omega)) (R.ba.top (show 0 ≤ 270 by omega)) (by omega) (by omega)
    refine ⟨_, rfl, c, N, dx, _, _, rfl, g1, NT.cl, NT.nM, nf_m _ _ _ _, _, rfl, c, N, dx, _, _, rfl, g1, NT.cl, NT.nS, nf_s _ _ _ _, _, rfl, c, N, dx, _, _, rfl, g1, NT.cl, NT.nA, nf_a _ _ _ _, (by show 3 ≤ sizeLine; decide), fun p2 hp2 => ?_⟩
    have u1 := same_new (o := HO.tup [V.int m, V.ref sa, .ref aa]) hp2
    refine nilP (reprB (dp_three upd_same (u1 _ _ g2) (u1 _ _ g3)) pb (by decide) (by decide) ?_)
    refine ⟨_, rfl, _, rfl, D0, _, rfl, .inl ⟨SqL.of (u1 _ _ R.hsl), fun p3 hp3 => ?_⟩⟩
    have u2 := u1.trans (same_new (o := HO.tup (vrow ss)) hp3)
    refine ⟨_, rfl, D1, _, rfl, .inl ⟨SqL.of (u2 _ _ R.hal), fun p4 hp4 => ?_⟩⟩
    have u3 := u2.trans (same_new (o := HO.tup (vrow ar)) hp4)
    refine ⟨(by show 3 ≤ sizeLine; decide), fun p5 hp5 => ?_⟩
    have u4 := u3.trans (same_new (o := HO.tup [V.int m, V.ref p3, .ref p4]) hp5)
    refine nilP (reprB (dp_three upd_same (same_new hp5 _ _ (same_new hp4 _ _ upd_same)) (same_new hp5 _ _ upd_same)) pb (by decide) (by decide) (neV rfl ⟨_, rfl, iteF ?_⟩))
    replace R := R.same u4
    generalize upd (upd (upd (upd H9 p2 (.tup [V.int m, V.ref sa, .ref aa])) p3 (.tup (vrow ss))) p4 (.tup (vrow ar))) p5 (.tup [V.int m, V.ref p3, .ref p4]) = H10 at R ⊢
    clear u1 u2 u3 u4 g1 g2 g3
    obtain ⟨dx, sa, aa, g1, _, _⟩ := R.net.ob
    obtain ⟨dxw, taw, gw, _⟩ := id R.net.wb
    refine ⟨_, rfl, c, N, dx, _, _, rfl, g1, NT.cl, NT.nW, nf_w _ _ _ _, _, rfl, w, w, dxw, dxw, _, _, rfl, gw, rfl, gw, w, w, n, ts, rfl, R.net.wb, R.net.wb, hW, true, rfl, false, rfl, iteF (nxP ?_)⟩
    -- the steps
    refine ⟨_, rfl, _, rfl, _, rfl, _, rfl, _, rfl, _, rfl, b, c, ta, D0, D1, m, ss, ar, w, n, ts, rfl, R.base, nwc, hW, nD0, nD1, nD01, m6, fun ss ar H11 R2 => ⟨true, rfl, iteF (nxP ?_)⟩⟩
    replace R := R.join R2
    clear R2
    have ls' := R.net.ls
    have la' := R.net.la
    -- what moves
    obtain ⟨tasB, htB, hAB⟩ := id R.ht
    have elt : ((tasB.map V.ref).length : Int) = (ts.length : Int) := by rw [List.length_map, hAB.1]
    refine ⟨_, rfl, ta, _, rfl, .inr (SqT.of htB), ((tasB.map V.ref).length : Int), rfl, by omega, by omega, fun D2 hD2 => lc_range (fun j H' => Same H11 H' ∧ H' D2 = some (.lst (vn (movK ts ss ar j)))) ⟨same_new hD2, by rw [upd_same]; rfl⟩ ?_ ?_⟩
    · rintro j H' hj ⟨sj, hD⟩
      have hjt : j < ts.length := by omega
      obtain ⟨p, hp⟩ := ex_at hjt
      obtain ⟨p1, p2, p3⟩ := hW.at_ hp
      obtain ⟨a', ha, hap⟩ := hAB.get hp
      have hap' : H' a' = some (.tup [.int (p.1 : Int), .int (p.2 : Int)]) := sj _ _ hap
      have hs := sj _ _ R.hsl
      have ha' := sj _ _ R.hal
      have ht' := sj _ _ htB
      have ml := movK_len ts ss ar j
      refine ⟨rfl, ?_⟩
      refine ⟨_, rfl, _, rfl, _, rfl, ta, _, 0 + (j : Int), .ref a', rfl, rfl, SqT.of ht', at_of (j := j) (by omega) (map_at ha), a', _, 0, .int (p.1 : Int), rfl, rfl, SqT.of hap', atI_nat (j := 0) rfl, D0, _, (p.1 : Int), .int (ss.getD p.1 0), rfl, rfl, SqL.of hs, at_i (vrow_get (by omega)), ?_⟩
      refine ⟨_, rfl, _, rfl, _, rfl, ta, _, 0 + (j : Int), .ref a', rfl, rfl, SqT.of ht', at_of (j := j) (by omega) (map_at ha), a', _, 1, .int (p.2 : Int), rfl, rfl, SqT.of hap', atI_nat (j := 1) rfl, D0, _, (p.2 : Int), .int (ss.getD p.2 0), rfl, rfl, SqL.of hs, at_i (vrow_get (by omega)), (by show 2 ≤ sizeLine; decide), fun q1 hq1 => ?_⟩
      have v1 := same_new (o := HO.tup [V.int (ss.getD p.1 0), .int (ss.getD p.2 0)]) hq1
      refine ⟨_, rfl, _, rfl, D1, _, 0 + (j : Int), .int (ar.getD j 0), rfl, rfl, SqL.of (v1 _ _ ha'), at_of (j := j) (by omega) (vrow_get (by omega)), _, rfl, _, rfl, D1, _, 0 + (j : Int), .int (ar.getD j 0), rfl, rfl, SqL.of (v1 _ _ ha'), at_of (j := j) (by omega) (vrow_get (by omega)), (by show 2 ≤ sizeLine; decide), fun q2 hq2 => ?_⟩
      have v2 := v1.trans (same_new (o := HO.tup [V.int (ar.getD j 0), .int (ar.getD j 0)]) hq2)
      refine ⟨.tuple [.int (ss.getD p.1 0), .int (ss.getD p.2 0)], .tuple [.int (ar.getD j 0), .int (ar.getD j 0)], .tup (SqT.of (same_new hq2 _ _ upd_same)) (.cons (.int _) (.cons (.int _) .nil)), .tup (SqT.of upd_same) (.cons (.int _) (.cons (.int _) .nil)), shT2 _ _, shT2 _ _, _, rfl, ?_⟩
      rw [rB_at hp]
      have ms := movK_succ ts ss ar j
      have hD' := v2 _ _ hD
      have sj' := sj.trans v2
      generalize upd (upd H' q1 (.tup [V.int (ss.getD p.1 0), .int (ss.getD p.2 0)])) q2 (.tup [V.int (ar.getD j 0), .int (ar.getD j 0)]) = J at hD' sj' ⊢
      cases eR : rB ts ss ar j with
      | true =>
        rw [eR, if_pos rfl, List.append_nil] at ms
        exact iteN rfl ⟨sj', by rw [ms]; exact hD'⟩
      | false =>
        rw [eR, if_neg (by decide)] at ms
        refine iteY rfl ⟨_, rfl, _, hD', szl (by rw [vn_len]; omega), fun d o eo => ?_, ?_⟩
        · rw [upd_ne (ne_of_none eo hD2)]
          exact sj' _ _ eo
        · rw [upd_same, ms, vn, vn, List.map_append, Int.zero_add]; rfl
    rintro H12 ⟨s12, hD12⟩
    have et : ((tasB.map V.ref).length : Int).toNat = ts.length := by omega
    rw [et] at hD12
    replace R := R.same s12
    refine gn ?_
    dsimp only [List.set]
    -- whether it rests
    refine ⟨_, rfl, c, w, m, ss, ar, n, ts, rfl, R.net, hW, fun H13 s13 => ?_⟩
    replace R := R.same s13
    have hD13 := s13 _ _ hD12
    refine nilP ⟨_, rfl, .inr (.inl ⟨_, rfl, ?_⟩)⟩
    refine ⟨_, rfl, (by show 0 ≤ sizeLine; decide), fun e1 he1 => ?_⟩
    have w1 := same_new (o := HO.lst []) he1
    refine ⟨.list (dI ((movK ts ss ar ts.length).map fun (x : Nat) => (x : Int))), .list [], .lst (SqL.of (by rw [← vn_row]; exact w1 _ _ hD13)) (dp_ints _), .lst (SqL.of upd_same) .nil, shL _, by decide +kernel, ?_⟩
    rw [eqv_nil, List.isEmpty_map, mov_rest]
    refine nilP ⟨_, rfl, .inr (.inl ⟨_, rfl, neV rfl ⟨_, rfl, iteF (nxP ?_)⟩⟩)⟩
    replace R := R.same w1
    generalize upd H13 e1 (.lst []) = H14 at R ⊢
    clear hD13 w1 he1
    -- the sweeps
    refine ⟨_, rfl, _, rfl, _, rfl, RgOk.of_le (by omega) (by omega) (by omega) (by omega), fun rl hrl => ?_⟩
    have nrl := (Bx.refl R.bx).ne hrl
    replace R := R.same (same_new (o := HO.lst (rgV 0 (n : Int))) hrl)
    refine ⟨b, rl, rgV 0 (n : Int), rfl, R.bx, SqL.of upd_same, nrl, by rw [rgV_vn, vn_len, List.length_range]; omega, fun xl ys H15 bx15' hxl0 hxl pm => ?_⟩
    have nxl := R.nin hxl0
    replace R := R.box nD0 nD1 bx15'
    rw [rgV_vn] at pm
    obtain ⟨hs, rfl, pn⟩ := perm_map_inv (f := fun (x : Nat) => V.int (x : Int)) pm
    have lhs : hs.length = n := by rw [pn.length_eq, List.length_range]
    have memn : ∀ x, x ∈ hs ↔ x < n := fun x => by rw [pn.mem_iff, List.mem_range]
    have hxl' : H15 xl = some (.lst (vn hs)) := hxl
    refine ⟨xl, rfl, ⟨_, SqL.of hxl'⟩, for_list (K := K) (a := xl) (xs := vn hs) (fun j σ H' => ∃ (v7 : Option V) (ss ar : List Int), σ = [some (.ref a), some (.int (0 + (i : Int))), some (.ref b), some (.int (n : Int)), some (.ref ta), some (.ref w), some (.int m), v7, some (.ref D0), v9, some (.ref D1), some (.ref c), some (.ref D2)] ∧ Rs N W b c D0 D1 ta m w n ts H15 H' ss ar (15 + 21 * j) ∧ ∀ (j' x : Nat), j' < j → hs[j']? = some x → RestAt ts (ss, ar) x)
      ⟨_, ss, ar, rfl, R.base, fun j' x hj => absurd hj (Nat.not_lt_zero _)⟩ (fun j σ H' _ ⟨_, _, _, _, Rj, _⟩ => SqL.of (Rj.ks.lst hxl' nxl)) ?_ ?_⟩
    · rintro j x σ H' hx ⟨v7, ss, ar, rfl, Rj, rest⟩
      obtain ⟨y, hy, rfl⟩ := at_vn hx
      have jl := lt_at hy
      have yn := (memn y).mp (List.mem_of_getElem? hy)
      refine ⟨_, rfl, _, rfl, _, rfl, _, rfl, _, rfl, _, rfl, (by show 2 ≤ sizeLine; decide), fun nu hnu => ?_⟩
      have Rn := Rj.same (same_new (o := HO.lst [V.ref D0, .ref D1]) hnu)
      refine ⟨_, rfl, b, c, ta, D0, D1, nu, m, ss, ar, w, n, ts, rk, 15 + 21 * j, y, rfl, Rn.base, nwc, hW, fo, nD0, nD1, nD01, m6, yn, by omega, upd_same, fun ss' ar' ns' bb H'' R' PL sw => ⟨true, rfl, iteF ?_⟩⟩
      refine ⟨_, ss', ar', rfl, (Rn.join R').mono (by omega), fun j' z hj' hz => ?_⟩
      by_cases e : j' = j
      · subst e
        obtain rfl := lookup_same hz hy
        exact sw.rest PL
      · exact sw.keep PL (rest j' z (by omega) hz)
    rintro σ H16 ⟨v7, ss, ar, rfl, R16, rest⟩
    rw [vn_len] at R16 rest
    have all : ∀ x, x < n → RestAt ts (ss, ar) x := fun x hx => by
      obtain ⟨j, hj⟩ := List.getElem?_of_mem ((memn x).mpr hx)
      exact rest j x (lt_at hj) hj
    replace R := (R.join R16).mono (show 15 + 21 * hs.length ≤ 267 by omega)
    have ls' := R.net.ls
    have la' := R.net.la
    refine ⟨_, rfl, nilP ⟨rfl, c, w, m, ss, ar, n, ts, rfl, R.net, hW, fun H17 s17 => ?_⟩⟩
    replace R := R.same s17
    rw [rest_true hW all]
    refine ⟨true, true, rfl, rfl, false, rfl, iteF (nxP ?_)⟩
    -- all meetings once more
    obtain ⟨tasC, htC, hAC⟩ := id R.ht
    have eltC : ((tasC.map V.ref).length : Int) = (ts.length : Int) := by rw [List.length_map, hAC.1]
    refine ⟨_, rfl, ta, _, rfl, .inr (SqT.of htC), ((tasC.map V.ref).length : Int), rfl, by omega, by omega, for_range (fun j σ H' => ∃ (v9 : Option V), σ = [some (.ref a), some (.int (0 + (i : Int))), some (.ref b), some (.int (n : Int)), some (.ref ta), some (.ref w), some (.int m), v7, some (.ref D0), v9, some (.ref D1), some (.ref c), some (.ref D2)] ∧ Rs N W b c D0 D1 ta m w n ts H9 H' ss ar 267)
      ⟨_, rfl, R⟩ ?_ ?_⟩
    · rintro j σ H' hj ⟨v9, rfl, Rj⟩
      have hjt : j < ts.length := by omega
      obtain ⟨dx, sa, aa, g1, _, _⟩ := Rj.net.ob
      refine ⟨_, rfl, c, dx, _, rfl, g1, nf_meet _ _ _ _, _, rfl, c, w, .int (0 + (j : Int)), none, m, ss, ar, n, ts, rfl, Rj.net, nwc, hW, .int _, fun hb => not_below hjt (by rw [← Int.zero_add (j : Int)]; exact hb), fun t' p' et hp' H18 b18 N18 => ?_⟩
      have em := RestAt.met (m := m) hW Rj.ln Rj.rd all hp'
      rw [metS_at hp'] at em
      injection em with e1 e2
      rw [e1, e2] at N18
      exact ⟨_, rfl, Rj.step nD0 nD1 (fun d o e _ _ _ => e) Rj.bx Rj.hsl Rj.hal b18 N18 Rj.bs Rj.ba Rj.rd⟩
    rintro σ H18 ⟨v9, rfl, R18⟩
    obtain ⟨dx, sa, aa, g1, g2, g3⟩ := R18.net.ob
    have pb2 := pb_two (R18.bs.top (show 267 ≤ 270 by omega)) (R18.ba.top (show 267 ≤ 270 by omega)) (by omega) (by omega)
    refine ⟨_, rfl, c, N, dx, _, _, rfl, g1, NT.cl, NT.nS, nf_s _ _ _ _, _, rfl, c, N, dx, _, _, rfl, g1, NT.cl, NT.nA, nf_a _ _ _ _, (by show 2 ≤ sizeLine; decide), fun p6 hp6 => ?_⟩
    have x1 := same_new (o := HO.tup [V.ref sa, .ref aa]) hp6
    refine nilP (reprB (dp_two upd_same (x1 _ _ g2) (x1 _ _ g3)) pb2 (by decide) (by decide) ?_)
    refine ⟨_, rfl, D0, _, rfl, .inl ⟨SqL.of (x1 _ _ R18.hsl), fun p7 hp7 => ?_⟩⟩
    have x2 := x1.trans (same_new (o := HO.tup (vrow ss)) hp7)
    refine ⟨_, rfl, D1, _, rfl, .inl ⟨SqL.of (x2 _ _ R18.hal), fun p8 hp8 => ?_⟩⟩
    have x3 := x2.trans (same_new (o := HO.tup (vrow ar)) hp8)
    refine ⟨(by show 2 ≤ sizeLine; decide), fun p9 hp9 => ?_⟩
    have x4 := x3.trans (same_new (o := HO.tup [V.ref p7, .ref p8]) hp9)
    refine nilP (reprB (dp_two upd_same (same_new hp9 _ _ (same_new hp8 _ _ upd_same)) (same_new hp9 _ _ upd_same)) pb2 (by decide) (by decide) (neV rfl ⟨_, rfl, iteF (nxP ?_)⟩))
    have RF := R18.same x4
    have kAll : Ks [] Ha (upd (upd (upd (upd H18 p6 (.tup [V.ref sa, .ref aa])) p7 (.tup (vrow ss))) p8 (.tup (vrow ar))) p9 (.tup [V.ref p7, .ref p8])) := fun d o e _ nt => by
      have nb : d ≠ b := ne_of_none e hb0
      have e1 := s1 _ _ e
      have e6 := bx11.2 _ _ e1 nb
      have n0 : d ≠ D0 := ne_of_none e6 hD0
      have e7 := bx12.2 _ _ e6 nb
      have n1 : d ≠ D1 := ne_of_none e7 hD1
      have e8 := bx14.2 _ _ e7 nb
      have nc : d ≠ c := ne_of_none e8 fc
      exact RF.ks d o (s89 _ _ e8) (by simp only [List.mem_cons, List.mem_nil_iff, or_false, not_or]; exact ⟨nb, nc, n0, n1⟩) nt
    exact ⟨_, _, _, _, _, _, _, _, _, _, _, _, rfl, sqL_ks hSa kAll⟩
end
end K1
namespace K1
open PySem PySem.Spec PyProof.Rows L2
/-- the caller's call of a law that is told where nothing is being shown; some tables of code objects stand by -/
theorem call_laws {P : Program} {w : World} {K : PySem.W.Frag} {mg mb : Str → Option Value} {k : Nat} {fa a : Addr} (Ps : List (Addr × Addr)) {fd : FuncData} {x : Str} {sp : Sp} {s : Shared} {vs : List Value} {ns : List Int}
    (KX : K.In s.heap) (hmg : s.heap.Ns mainGlobals mg) (hmb : s.heap.Ns builtinsNs mb) (hbb : ∀ x : Str, x ≠ "__name__" → mb x = bootBuiltins x) (hlim : s.heap.NoLimit) (hg : s.gens = #[])
    (hPs : ∀ p ∈ Ps, s.heap.get? p.2 = some { cls := .none, data := .fields #[] } ∧ K.lookup p.2 = none ∧ PySem.W.CodeHd s.heap p.1 p.2)
    (hbm : ∃ (bm : Addr) (ob : Obj), mg "__builtins__" = some (.ref bm) ∧ bm ≠ builtinsNs ∧ s.heap.get? bm = some ob ∧ ob.cls = .type "module" ∧ ob.dict = some builtinsNs ∧ ob.data = .plain)
    (ha : s.heap.get? a = some { cls := .type "list", data := .seq vs.toArray }) (hi : IntsAre vs ns) (hl : ns.length ≤ sizeLine) (hr : Room k callerA)
    (F : ∀ base : Heap, K.In base → base.Ns mainGlobals mg → (∀ p ∈ Ps, LamX.TabB base mg p.1 p.2) → FnG P w K mg base k fa fd [x] sp) (hbind : ∀ (s : Shared) (u : Value), BindsTo s fd ⟨[u], []⟩ [(x, u)])
    (hsp : ∀ H : Hp, (∀ p ∈ Ps, H p.2 = some (.tbl #[])) → SqL K H a (ns.map V.int) → sp [.ref a] H (fun v _ => v = .bl true) fun _ _ _ => False) :
    codeAny (model P w) callerA (.call (.ref fa) ⟨[.ref a], []⟩) (fun r s' => r = .ok (.ret (.bool true)) ∧ OldK s.heap s'.heap ∧ s'.os = s.os ∧ AllBare s'.gens) s := by
  have hTS : ∀ b, b ∈ Ps.map (·.2) → s.heap.get? b = some { cls := .none, data := .fields #[] } ∧ K.lookup b = none ∧ ∃ c, PySem.W.CodeHd s.heap c b := fun b hb => by
    obtain ⟨p, hp, rfl⟩ := List.mem_map.mp hb
    obtain ⟨h1, h2, h3⟩ := hPs p hp
    exact ⟨h1, h2, _, h3⟩
  generalize hTSd : Ps.map (·.2) = TS at hTS
  have inTS : ∀ p ∈ Ps, p.2 ∈ TS := fun p hp => by rw [← hTSd]; exact List.mem_map.mpr ⟨p, hp, rfl⟩
  have nPa : ∀ b ∈ TS, b ≠ a := fun b hb z => by
    have hT := (hTS b hb).1
    rw [z, ha] at hT
    cases Option.some.inj hT
  -- told of any way to follow the script
  have told : ∀ H : Hp, (∀ b ∈ TS, H b = some (.tbl #[])) → (∀ b, b ∉ TS → H b = none ∨ (b = a ∧ K.lookup a = none ∧ ∃ o xs, H a = some (.frz o (.lst xs)))) → SqL K H a (ns.map V.int) → HOk P w H s.heap →
      codeAny (model P w) callerA (.call (.ref fa) ⟨[.ref a], []⟩) (fun r s' => r = .ok (.ret (.bool true)) ∧ OldK s.heap s'.heap ∧ s'.os = s.os ∧ AllBare s'.gens) s := by
    intro H hP hO hS hok
    have out : ∀ {b : Addr} {o : Obj}, s.heap.get? b = some o → b ∉ TS → b ≠ a → (hidT s.heap H).get? b = some o := fun {b o} e n1 n2 => hidT_get e ((hO b n1).resolve_right fun z => n2 z.1)
    have neD : ∀ {b : Addr} {o : Obj}, s.heap.get? b = some o → (∀ v n, o.data ≠ .seq v n) → (o.data ≠ .fields #[]) → b ∉ TS ∧ b ≠ a := fun {b o} e h1 h2 => ⟨fun z => by
      have hT := (hTS b z).1
      rw [hT] at e
      cases Option.some.inj e
      exact h2 rfl, fun z => by
      rw [z, ha] at e
      cases Option.some.inj e
      exact h1 _ _ rfl⟩
    have ns_ : ∀ {b : Addr} {m : Str → Option Value}, s.heap.Ns b m → (hidT s.heap H).Ns b m := fun {b m} ⟨o, es, ep, e, d, r⟩ => by
      have n := neD e (fun v n z => by rw [d] at z; cases z) (fun z => by rw [d] at z; cases z)
      exact ⟨o, es, ep, out e n.1 n.2, d, r⟩
    have kin : K.In (hidT s.heap H) := fun b o e => by
      refine hidT_get (KX b o e) ?_
      by_cases z : b ∈ TS
      · rw [(hTS b z).2.1] at e; cases e
      · refine (hO b z).resolve_right fun ⟨z1, z2, _⟩ => ?_
        rw [z1, z2] at e
        cases e
    have hM : L2.Mod K mg (hidT s.heap H) := ⟨kin, ns_ hmg, ⟨mb, ns_ hmb, hbb⟩, let ⟨mc, h1, h2⟩ := hlim; ⟨mc, ns_ h1, h2⟩⟩
    have TB : ∀ p ∈ Ps, LamX.TabB (hidT s.heap H) mg p.1 p.2 := fun p hp => by
      obtain ⟨hT, nT, hC⟩ := hPs p hp
      refine ⟨?_, ?_, fun z => ?_⟩
      · obtain ⟨o, us, file, tf, flags, tg, inF, text, tt, e, e2, e3, r⟩ := hC
        have n := neD e (fun v n z => by rw [e3] at z; cases z) (fun z => by
          rw [e3] at z
          cases z
          have := r.1
          simp at this)
        exact ⟨o, us, file, tf, flags, tg, inF, text, tt, out e n.1 n.2, e2, e3, r⟩
      · obtain ⟨bm, ob, b1, b2, b3, b4, b5, b6⟩ := hbm
        have n := neD b3 (fun v n z => by rw [b6] at z; cases z) (fun z => by rw [b6] at z; cases z)
        refine ⟨bm, ob, b1, b2, fun z => ?_, fun z => n.1 (by rw [z]; exact inTS p hp), out b3 n.1 n.2, b4, b5, b6⟩
        obtain ⟨o, es, ep, e, d, _⟩ := hmg
        rw [z, e] at b3
        cases Option.some.inj b3
        rw [d] at b6
        cases b6
      · obtain ⟨o, es, ep, e, d, _⟩ := hmg
        rw [z, hT] at e
        cases Option.some.inj e
        cases d
    have e0 : Env0 P w K mg (hidT s.heap H) callerA [] s H := ⟨rfl, hM, fun b o e => of_hidT e, Nat.le_of_eq (hidT_size _ _), trivial, fun b hb => absurd (show b ∈ ([] : List Addr) from hb) (by simp), hok, .of_eq hg⟩
    refine codeAny_mono ((F _ kin (ns_ hmg) TB).run callerA [] s H ⟨[.ref a], []⟩ [.ref a] [.ref a] _ _ hr rfl e0 (hbind s (.ref a)) (.cons rfl .nil) (hsp H (fun p hp => hP _ (inTS p hp)) hS)) fun r s' h => ?_
    cases r with
    | error e => exact (show False from h).elim
    | ok fl =>
      cases fl with
      | next => exact False.elim h
      | brk => exact False.elim h
      | cont => exact False.elim h
      | ret u =>
        obtain ⟨v, H', os, bare, un, hok', r', q⟩ := h
        obtain rfl : v = V.bl true := q
        obtain rfl : u = Value.bool true := r'
        have hm' : ∀ b ∈ TS, ∃ more, s'.heap.get? b = some { cls := .none, data := .fields more } := fun b hb => by
          obtain ⟨more, hm⟩ := un.tbls b #[] (hP b hb)
          have z := hok' b _ hm
          rw [Array.empty_append] at z
          exact ⟨more, z⟩
        have rest : ∀ b o, b ∉ TS → s.heap.get? b = some o → s'.heap.get? b = some o := fun b o n e => by
          rcases hO b n with z | ⟨z, _, ob, xs, hf⟩
          · exact un.keep b o e z (fun w => absurd (show b ∈ ([] : List Addr) from w) (by simp)) (by simp)
          · rw [z] at e ⊢
            have e1 := (hok a _ hf).1
            rw [e] at e1
            rw [Option.some.inj e1]
            exact (hok' a _ (un.frzs a ob _ hf)).1
        refine ⟨rfl, ⟨fun b o e => ?_, fun b o e => ?_⟩, os, bare⟩
        · by_cases z : b ∈ TS
          · obtain ⟨hT, _, c, hC⟩ := hTS b z
            obtain ⟨more, hm⟩ := hm' b z
            rw [hT] at e
            cases Option.some.inj e
            exact .inr (.inl ⟨(hC.tab hT).isCodeTable, rfl, #[], more, rfl, by rw [Array.empty_append]; exact hm⟩)
          · exact .inl (rest b o z e)
        · by_cases z : b ∈ TS
          · obtain ⟨more, hm⟩ := hm' b z
            exact ⟨_, hm⟩
          · exact ⟨o, rest b o z e⟩
  have rv := vals_ints hi
  have naTS : a ∉ TS := fun z => nPa a z rfl
  cases hk : K.lookup a with
  | some o =>
    have e := KX a o hk
    rw [ha] at e
    cases Option.some.inj e
    refine told (fun b => if b ∈ TS then some (.tbl #[]) else none) (fun b hb => if_pos hb) (fun b n => .inl (if_neg n)) (.inr ⟨_, vs.toArray, _, hk, rfl, rfl, rfl, by rw [List.size_toArray, hi.length]; exact hl, by simpa using rv⟩) fun b u z => ?_
    by_cases n : b ∈ TS
    · have z' : some (HO.tbl #[]) = some u := (if_pos n).symm.trans z
      cases z'
      exact (hTS b n).1
    · have z' : (none : Option HO) = some u := (if_neg n).symm.trans z
      cases z'
  | none =>
    refine told (fun b => if b ∈ TS then some (.tbl #[]) else if b = a then some (.frz { cls := .type "list", data := .seq vs.toArray } (.lst (ns.map V.int))) else none) (fun b hb => if_pos hb) (fun b n => ?_) (.inl (.inr ⟨_, (if_neg naTS).trans (if_pos rfl)⟩)) fun b u z => ?_
    · by_cases n2 : b = a
      · exact .inr ⟨n2, hk, _, _, (if_neg naTS).trans (if_pos rfl)⟩
      · exact .inl ((if_neg n).trans (if_neg n2))
    · by_cases n : b ∈ TS
      · have z' : some (HO.tbl #[]) = some u := (if_pos n).symm.trans z
        cases z'
        exact (hTS b n).1
      · by_cases n2 : b = a
        · have z' := ((if_neg n).trans (if_pos n2)).symm.trans z
          cases z'
          rw [n2]
          exact ⟨ha, by rw [List.length_map]; exact hl, vs, _, rv, ha⟩
        · have z' := ((if_neg n).trans (if_neg n2)).symm.trans z
          cases z'
end K1
namespace K1
open PySem PySem.Spec PyProof.Rows L2
/-- what the top has left -/
structure Tp (K : PySem.W.Frag) (mg : Str → Option Value) (W N CW CH CT CR fa : Addr) (fd : FuncData) : Prop where
  B : Bt mg
  cw : Cw mg
  kn : Cn2 mg
  whole : ∃ f fd, Df K mg "is_whole" sWhole ["value"] f fd
  below : ∃ f fd, Df K mg "is_below" sBelow ["value", "limit"] f fd
  seq : ∃ f fd, Df K mg "is_sequence" sSeq ["value", "least", "most"] f fd
  fnb : ∃ f fd, Df K mg "first_not_below" sFnb ["items", "limit"] f fd
  repl : ∃ f fd, Df K mg "replaced" sRepl ["items", "at", "item"] f fd
  pair : ∃ f fd, Df K mg "is_pair" sPair ["value", "houses"] f fd
  cties : ∃ f fd, Df K mg "checked_ties" sCTies ["houses", "ties"] f fd
  needH : ∃ f fd, Df K mg "need_house" sNeedH ["web", "house"] f fd
  needT : ∃ f fd, Df K mg "need_tie" sNeedT ["web", "tie"] f fd
  ways : ∃ f fd, Df K mg "ways_on" sWays ["web", "house"] f fd
  fways : ∃ f fd, Df K mg "first_ways" sFWays ["web", "house", "barred"] f fd
  part : ∃ f fd, Df K mg "part_of" sPart ["web", "house"] f fd
  isPart : ∃ f fd, Df K mg "is_part" sIsPart ["web", "value"] f fd
  tiesIn : ∃ f fd, Df K mg "ties_in" sTiesIn ["web", "part"] f fd
  rings : ∃ f fd, Df K mg "rings_of" sRingsOf ["web", "part"] f fd
  outw : ∃ f fd, Df K mg "outward" sOutward ["web", "house"] f fd
  needM : ∃ f fd, Df K mg "need_modulus" sNeedM ["value"] f fd
  amt : ∃ f fd, Df K mg "is_amount" sAmt ["value"] f fd
  isCnt : ∃ f fd, Df K mg "is_counter" sIsCnt ["modulus", "value"] f fd
  cof : ∃ f fd, Df K mg "counters_of" sCOf ["modulus", "many", "value"] f fd
  cby : ∃ f fd, Df K mg "counted_by" sCBy ["modulus", "number"] f fd
  rest : ∃ f fd, Df K mg "is_rest" sIsRest ["net"] f fd
  alike : ∃ f fd, Df K mg "is_alike" sIsAlike ["web", "houses", "ties"] f fd
  sweep : ∃ f fd, Df K mg "sweep" sSweep ["web", "house"] f fd
  box : ∃ f fd, Df K mg "_law_box" sLBox ["_law_script", "_law_k"] f fd
  take : ∃ f fd, Df K mg "_law_take" sLTake ["_law_box_here", "_law_many"] f fd
  pick : ∃ f fd, Df K mg "_law_pick" sLPick ["_law_box_here", "_law_some"] f fd
  mixed : ∃ f fd, Df K mg "_law_mixed" sLMixed ["_law_box_here", "_law_some"] f fd
  forest : ∃ f fd, Df K mg "_law_forest" sLForest ["_law_box_here", "_law_most"] f fd
  partL : ∃ f fd, Df K mg "_law_part" sLPart ["_law_ties", "_law_house"] f fd
  num : ∃ f fd, Df K mg "_law_number" sLNumber ["_law_box_here", "_law_modulus"] f fd
  wrap : ∃ f fd, Df K mg "_law_wrapped" sLWrapped ["_law_number_here", "_law_modulus"] f fd
  bookL : ∃ f fd, Df K mg "_law_book" sLBook ["_law_ties", "_law_modulus", "_law_states", "_law_archives", "_law_part_here"] f fd
  metL : ∃ f fd, Df K mg "_law_met" sLMet ["_law_ties", "_law_modulus", "_law_states", "_law_archives", "_law_tie"] f fd
  steps : ∃ f fd, Df K mg "_law_steps_right" sLStepsRight ["_law_box_here", "_law_net", "_law_ties", "_law_modulus", "_law_states", "_law_archives"] f fd
  swept : ∃ f fd, Df K mg "_law_swept" sLSwept ["_law_net", "_law_web", "_law_ties", "_law_modulus", "_law_numbers", "_law_house"] f fd
  law : Fun K "law" "law" sLaw fa fd
  lawb : ∀ (s : Shared) (u : Value), BindsTo s fd ⟨[u], []⟩ [("_law_script", u)]
  initW : ∃ f fd, Fun K "__init__" "Web.__init__" sWInit f fd ∧ Mk K W f ∧ Binds K fd ["self", "houses", "ties"] []
  TW : WcT K mg W
  IW : WcI K W
  initN : ∃ f fd, Fun K "__init__" "CounterNet.__init__" sCInit f fd ∧ Mk K N f ∧ Binds K fd ["self", "web", "modulus", "states", "archives"] []
  m_N_do : ∃ f fd, Fun K "do" "CounterNet.do" sCDo f fd ∧ Meth K N "do" f ∧ Binds K fd ["self", "house", "amount"] []
  m_N_meet : ∃ f fd, Fun K "meet" "CounterNet.meet" sCMeet f fd ∧ Meth K N "meet" f ∧ Binds K fd ["self", "tie"] []
  m_N_book : ∃ f fd, Fun K "book" "CounterNet.book" sCBook f fd ∧ Meth K N "book" f ∧ Binds K fd ["self", "house"] []
  TN : NcT K mg N
  t1 : ∃ q b i, LAt.Txt K mg "BadWeb" q b CW i
  t2 : ∃ q b i, LHouse.Txt K mg "NoHouse" q b CH i
  t3 : ∃ q b i, LTie.Txt K mg "NoTie" q b CT i
  t4 : ∃ q b i, LAt.Txt K mg "Refused" q b CR i
section
variable {P : Program} {w : World} {K : PySem.W.Frag} {mg : Str → Option Value} {base : Heap}
theorem asm {W N CW CH CT CR fa : Addr} {fd : FuncData} (t : Tp K mg W N CW CH CT CR fa fd)  : FnG P w K mg base 9 fa fd ["_law_script"] (spLaw K) := by
  have B := t.B
  have cw := t.cw
  have kn := t.kn
  obtain ⟨_, _, dWhole⟩ := t.whole
  obtain ⟨_, _, dBelow⟩ := t.below
  obtain ⟨_, _, dSeq⟩ := t.seq
  obtain ⟨_, _, dFnb⟩ := t.fnb
  obtain ⟨_, _, dRepl⟩ := t.repl
  obtain ⟨_, _, dPair⟩ := t.pair
  obtain ⟨_, _, dCties⟩ := t.cties
  obtain ⟨_, _, dNeedH⟩ := t.needH
  obtain ⟨_, _, dNeedT⟩ := t.needT
  obtain ⟨_, _, dWays⟩ := t.ways
  obtain ⟨_, _, dFways⟩ := t.fways
  obtain ⟨_, _, dPart⟩ := t.part
  obtain ⟨_, _, dIsPart⟩ := t.isPart
  obtain ⟨_, _, dTiesIn⟩ := t.tiesIn
  obtain ⟨_, _, dRings⟩ := t.rings
  obtain ⟨_, _, dOutw⟩ := t.outw
  obtain ⟨_, _, dNeedM⟩ := t.needM
  obtain ⟨_, _, dAmt⟩ := t.amt
  obtain ⟨_, _, dIsCnt⟩ := t.isCnt
  obtain ⟨_, _, dCof⟩ := t.cof
  obtain ⟨_, _, dCby⟩ := t.cby
  obtain ⟨_, _, dRest⟩ := t.rest
  obtain ⟨_, _, dAlike⟩ := t.alike
  obtain ⟨_, _, dSweep⟩ := t.sweep
  obtain ⟨_, _, dBox⟩ := t.box
  obtain ⟨_, _, dTake⟩ := t.take
  obtain ⟨_, _, dPick⟩ := t.pick
  obtain ⟨_, _, dMixed⟩ := t.mixed
  obtain ⟨_, _, dForest⟩ := t.forest
  obtain ⟨_, _, dPartL⟩ := t.partL
  obtain ⟨_, _, dNum⟩ := t.num
  obtain ⟨_, _, dWrap⟩ := t.wrap
  obtain ⟨_, _, dBookL⟩ := t.bookL
  obtain ⟨_, _, dMetL⟩ := t.metL
  obtain ⟨_, _, dSteps⟩ := t.steps
  obtain ⟨_, _, dSwept⟩ := t.swept
  have TW := t.TW
  have IW := t.IW
  obtain ⟨_, _, fiW, mkW, biW⟩ := t.initW
  have TN := t.TN
  obtain ⟨_, _, fiN, mkN, biN⟩ := t.initN
  obtain ⟨_, _, f_N_do, mt_N_do, b_N_do⟩ := t.m_N_do
  obtain ⟨_, _, f_N_meet, mt_N_meet, b_N_meet⟩ := t.m_N_meet
  obtain ⟨_, _, f_N_book, mt_N_book, b_N_book⟩ := t.m_N_book
  obtain ⟨_, _, _, x1⟩ := id t.t1
  obtain ⟨_, _, _, x2⟩ := id t.t2
  obtain ⟨_, _, _, x3⟩ := id t.t3
  obtain ⟨_, _, _, x4⟩ := id t.t4
  have gWhole := ok_whole (P := P) (w := w) (base := base) dWhole B
  have gBelow := ok_below (P := P) (w := w) (base := base) dBelow dWhole B
  have gSeq := ok_seq (P := P) (w := w) (base := base) dSeq B
  have gFnb := ok_fnb (P := P) (w := w) (base := base) dFnb dBelow B gBelow
  have gRepl := ok_repl (P := P) (w := w) (base := base) dRepl
  have gPair := ok_pair (P := P) (w := w) (base := base) dPair dSeq dFnb gSeq gFnb
  have gCties := ok_cties (P := P) (w := w) (base := base) dCties dWhole dSeq dPair B cw x1 gWhole gSeq gPair
  have gWi := ok_winit (P := P) (w := w) (base := base) fiW dCties TW gCties
  have gNeedH := ok_needH (P := P) (w := w) (base := base) dNeedH dBelow TW x2 gBelow
  have gNeedT := ok_needT (P := P) (w := w) (base := base) dNeedT dBelow B TW x3 gBelow
  have gWays := ok_ways (P := P) (w := w) (base := base) dWays B TW
  have gFways := ok_fways (P := P) (w := w) (base := base) dFways dWays B gWays
  have gPart := ok_part (P := P) (w := w) (base := base) dPart dNeedH dFways B gNeedH gFways
  have gTiesIn := ok_tiesIn (P := P) (w := w) (base := base) dTiesIn B TW
  have gIsPart := ok_isPart (P := P) (w := w) (base := base) dIsPart dSeq dFnb dPart B TW gSeq gFnb gPart
  have gRings := ok_rings (P := P) (w := w) (base := base) dRings dIsPart dTiesIn B x4 gIsPart gTiesIn
  have gOutw := ok_out (P := P) (w := w) (base := base) dOutw dFways gFways
  have gNeedM := ok_needM (P := P) (w := w) (base := base) dNeedM dBelow kn x4 gBelow
  have gAmt := ok_amt (P := P) (w := w) (base := base) dAmt dWhole kn gWhole
  have gIsCnt := ok_isCnt (P := P) (w := w) (base := base) dIsCnt dAmt dBelow gAmt gBelow
  have gCof := ok_cof (P := P) (w := w) (base := base) dCof dSeq dIsCnt B x4 gSeq gIsCnt
  have gCby := ok_cby (P := P) (w := w) (base := base) dCby
  have gCi := ok_cinit (P := P) (w := w) (base := base) fiN dNeedM dCof B TN TW gNeedM gCof
  have gDo := ok_cdo (P := P) (w := w) (base := base) f_N_do dNeedH dAmt dCby dRepl TN x4 gNeedH gAmt gCby gRepl
  have gMeet := ok_cmeet (P := P) (w := w) (base := base) f_N_meet dNeedT dCby dRepl TN TW gNeedT gCby gRepl
  have gBook := ok_cbook (P := P) (w := w) (base := base) f_N_book dPart dCby dTiesIn B TN gPart gCby gTiesIn
  have gAlike := ok_alike (P := P) (w := w) (base := base) dAlike B TW
  have gRest := ok_rest (P := P) (w := w) (base := base) dRest dAlike TN gAlike
  have gSweep := ok_sweep (P := P) (w := w) (base := base) dSweep dRings dPart dOutw B x4 gRings gPart gOutw
  have gTake := ok_take (P := P) (w := w) (base := base) dTake B
  have gPick := ok_pick (P := P) (w := w) (base := base) dPick dTake B gTake
  have gBox := ok_box (P := P) (w := w) (base := base) dBox B
  have gMixed := ok_mixed (P := P) (w := w) (base := base) dMixed dTake B gTake
  have gForest := ok_forest (P := P) (w := w) (base := base) dForest dTake dMixed B gTake gMixed
  have gPartL := ok_partL (P := P) (w := w) (base := base) dPartL B
  have gNum := ok_number (P := P) (w := w) (base := base) dNum dTake B gTake
  have gWrap := ok_wrap (P := P) (w := w) (base := base) dWrap B
  have gBookL := ok_bookL (P := P) (w := w) (base := base) dBookL dWrap B gWrap
  have gMetL := ok_metL (P := P) (w := w) (base := base) dMetL dWrap gWrap
  have nm : NMk P w K mg base N W CH CT CR := ⟨TN, ⟨_, _, mt_N_do, b_N_do, kb_two f_N_do, gDo⟩, ⟨_, _, mt_N_meet, b_N_meet, kb_meet f_N_meet, gMeet⟩, ⟨_, _, mt_N_book, b_N_book, kb_book f_N_book, gBook⟩⟩
  have ld : LDs P w K mg base := ⟨B, ⟨_, _, dTake, gTake⟩, ⟨_, _, dNum, gNum⟩, ⟨_, _, dWrap, gWrap⟩, ⟨_, _, dPartL, gPartL⟩, ⟨_, _, dBookL, gBookL⟩, ⟨_, _, dMetL, gMetL⟩⟩
  have gSteps := ok_steps (P := P) (w := w) (base := base) dSteps ld nm
  have gSwept := ok_swept (P := P) (w := w) (base := base) dSwept ld nm dSweep gSweep
  exact ok_law t.law (⟨ld, nm, TW, IW, ⟨_, _, dBox, gBox⟩, ⟨_, _, dPick, gPick⟩, ⟨_, _, dMixed, gMixed⟩, ⟨_, _, dForest, gForest⟩, ⟨_, _, mkW, biW, gWi⟩, ⟨_, _, mkN, biN, gCi⟩, ⟨_, _, dRest, kb_rest dRest.F, gRest⟩, ⟨_, _, dSteps, gSteps⟩, ⟨_, _, dSwept, gSwept⟩⟩ : Dn P w K mg base W N CH CT CR)
end
/-- the end: from what the top has left -/
theorem walkK {l : PySem.W.OpenLaw} {q : Program} {loose : List Str} {XP : (Str → Option Value) → Heap → Prop} {YP : World → Heap → Prop} {d : DefRec} {K : Params → PySem.W.Frag} (hn : l.most = some 63) (hdf : d.params.defaults = []) (hY : ∀ (w : World) (h : Heap), YP w h → (K w.params).In h)
    
    (F : ∀ (w : World) (mg : Str → Option Value) (fa : Addr) (h : Heap), (K w.params).In h → h.Ns mainGlobals mg → mg d.name = some (.ref fa) → ∃ (W N CW CH CT CR : Addr) (fd : FuncData), Tp (K w.params) mg W N CW CH CT CR fa fd) :
    PySem.W.WalkO q loose XP YP l.row.toRowW d [] (fun f vs => PySem.call f vs) := by
  refine Att.attach_callB hn hdf fun w s₀ s₁ mg mb fa o pm cd doc a vs ns G Y ho hd hcd hmg hobj hints hlen hbits hg => ?_
  have KX := hY w _ Y
  obtain ⟨W, N, CW, CH, CT, CR, fd, t⟩ := F w mg fa _ KX G.T.g hmg
  exact call_laws (k := 9) [] (x := "_law_script") (sp := spLaw (K w.params)) KX G.T.g G.T.b G.T.builtins G.T.nolimit hg (fun p hp => absurd hp (by simp)) G.T.bmain hobj hints (Nat.le_trans hlen (by decide)) ⟨rfl, by decide, by decide⟩ (fun base _ _ _ => asm t) t.lawb
    fun H hP hS => ⟨a, ns, rfl, hS, hlen, fun _ => rfl⟩
end K1
namespace K1
open PySem PySem.Spec PyProof.Rows L2
section
variable {K : PySem.W.Frag} {h : Heap} {mg : Str → Option Value} {x qual : Str} {st : Stmt} {ps : List Str} {f C : Addr} {oc kV doc pm cdv ct : Value} {od an : Option Addr} {osl : Array (Option Value)}
theorem df_of (X : K.In h) (G : h.Ns mainGlobals mg) (a : PySem.W.nsIn K mainGlobals x = some (some (.ref f))) (l : K.lookup f = some ⟨oc, od, .func (PySem.W.fnOf x x (defArgs st) (defBody st) (defScope st) .none kV doc pm an cdv ct), osl⟩)
    (c : PySem.W.codeIn K cdv x = true) (k : PySem.W.keepIn K (.ref f) = true)
    (b : ∀ (kV doc pm : Value) (an : Option Addr) (cdv ct : Value) (us : List Value), us.length = ps.length → bindArgs (PySem.W.fnOf x x (defArgs st) (defBody st) (defScope st) .none kV doc pm an cdv ct) ⟨us, []⟩ = pure (ps.zip us)) : ∃ f fd, Df K mg x st ps f fd :=
  ⟨f, _, ⟨fun_mk l c k, PySem.W.mg_of X G a, (fun_mk l c k).binds b⟩⟩
theorem dfc_of {cc : Addr} (X : K.In h) (G : h.Ns mainGlobals mg) (a : PySem.W.nsIn K mainGlobals x = some (some (.ref f))) (l : K.lookup f = some ⟨oc, od, .func (PySem.W.fnOf x x (defArgs st) (defBody st) (defScope st) .none kV doc pm an (.ref cc) ct), osl⟩)
    (c : PySem.W.codeIn K (.ref cc) x = true) (k : PySem.W.keepIn K (.ref f) = true)
    (b : ∀ (kV doc pm : Value) (an : Option Addr) (cdv ct : Value) (us : List Value), us.length = ps.length → bindArgs (PySem.W.fnOf x x (defArgs st) (defBody st) (defScope st) .none kV doc pm an cdv ct) ⟨us, []⟩ = pure (ps.zip us)) : ∃ f fd, Df K mg x st ps f fd ∧ FunC K x x st f fd (.ref cc) :=
  ⟨f, _, ⟨fun_mk l c k, PySem.W.mg_of X G a, (fun_mk l c k).binds b⟩, ⟨oc, od, kV, doc, pm, an, ct, osl, rfl, l, c⟩, k⟩
theorem law_of {fa cc : Addr} (X : K.In h) (G : h.Ns mainGlobals mg) (e : mg "law" = some (.ref fa)) (a : PySem.W.nsIn K mainGlobals "law" = some (some (.ref f))) (l : K.lookup f = some ⟨oc, od, .func (PySem.W.fnOf "law" "law" (defArgs sLaw) (defBody sLaw) (defScope sLaw) .none kV doc pm an (.ref cc) ct), osl⟩)
    (c : PySem.W.codeIn K (.ref cc) "law" = true) (k : PySem.W.keepIn K (.ref f) = true) : ∃ fd, FunC K "law" "law" sLaw fa fd (.ref cc) ∧ ∀ (s : Shared) (u : Value), BindsTo s fd ⟨[u], []⟩ [("_law_script", u)] := by
  have z := e.symm.trans (PySem.W.mg_of X G a)
  cases Option.some.inj z
  exact ⟨_, ⟨⟨oc, od, kV, doc, pm, an, ct, osl, rfl, l, c⟩, k⟩, fun s u => .of_eq rfl⟩
theorem lawF_of {fa : Addr} (X : K.In h) (G : h.Ns mainGlobals mg) (e : mg "law" = some (.ref fa)) (a : PySem.W.nsIn K mainGlobals "law" = some (some (.ref f))) (l : K.lookup f = some ⟨oc, od, .func (PySem.W.fnOf "law" "law" (defArgs sLaw) (defBody sLaw) (defScope sLaw) .none kV doc pm an cdv ct), osl⟩)
    (c : PySem.W.codeIn K cdv "law" = true) (k : PySem.W.keepIn K (.ref f) = true) : ∃ fd, Fun K "law" "law" sLaw fa fd ∧ ∀ (s : Shared) (u : Value), BindsTo s fd ⟨[u], []⟩ [("_law_script", u)] := by
  have z := e.symm.trans (PySem.W.mg_of X G a)
  cases Option.some.inj z
  exact ⟨_, fun_mk l c k, fun s u => .of_eq rfl⟩
theorem init_W {M : Addr} (a : PySem.W.findIn K (.ref M) "__init__" = some (some (.ref f))) (i : PySem.W.isFn K (.ref f) = true) (m : PySem.W.makesIn K M = true) (kM : PySem.W.keepIn K (.ref M) = true)
    (l : K.lookup f = some ⟨oc, od, .func (PySem.W.fnOf "__init__" "Web.__init__" (defArgs sWInit) (defBody sWInit) (defScope sWInit) .none kV doc pm an cdv ct), osl⟩) (c : PySem.W.codeIn K cdv "Web.__init__" = true) (k : PySem.W.keepIn K (.ref f) = true) :
    ∃ f fd, Fun K "__init__" "Web.__init__" sWInit f fd ∧ Mk K M f ∧ Binds K fd ["self", "houses", "ties"] [] :=
  ⟨f, _, fun_mk l c k, ⟨m, a, i, kM⟩, (fun_mk l c k).binds fun _ _ _ _ _ _ us hl => match us, hl with | [_, _, _], _ => rfl⟩
theorem weq_of {M : Addr} (a : PySem.W.findIn K (.ref M) "__eq__" = some (some (.ref f))) (i : PySem.W.isFn K (.ref f) = true)
    (l : K.lookup f = some ⟨oc, od, .func (PySem.W.fnOf "__eq__" "Web.__eq__" (defArgs sWEq) (defBody sWEq) (defScope sWEq) .none kV doc pm an cdv ct), osl⟩) (c : PySem.W.codeIn K cdv "Web.__eq__" = true) (k : PySem.W.keepIn K (.ref f) = true) :
    ∃ f fd, Fun K "__eq__" "Web.__eq__" sWEq f fd ∧ PySem.W.findIn K (.ref M) "__eq__" = some (some (.ref f)) ∧ PySem.W.isFn K (.ref f) = true ∧ Binds K fd ["self", "other"] [] :=
  ⟨f, _, fun_mk l c k, a, i, (fun_mk l c k).binds fun _ _ _ _ _ _ us hl => match us, hl with | [_, _], _ => rfl⟩
theorem init_N {M : Addr} (a : PySem.W.findIn K (.ref M) "__init__" = some (some (.ref f))) (i : PySem.W.isFn K (.ref f) = true) (m : PySem.W.makesIn K M = true) (kM : PySem.W.keepIn K (.ref M) = true)
    (l : K.lookup f = some ⟨oc, od, .func (PySem.W.fnOf "__init__" "CounterNet.__init__" (defArgs sCInit) (defBody sCInit) (defScope sCInit) .none kV doc pm an cdv ct), osl⟩) (c : PySem.W.codeIn K cdv "CounterNet.__init__" = true) (k : PySem.W.keepIn K (.ref f) = true) :
    ∃ f fd, Fun K "__init__" "CounterNet.__init__" sCInit f fd ∧ Mk K M f ∧ Binds K fd ["self", "web", "modulus", "states", "archives"] [] :=
  ⟨f, _, fun_mk l c k, ⟨m, a, i, kM⟩, (fun_mk l c k).binds fun _ _ _ _ _ _ us hl => match us, hl with | [_, _, _, _, _], _ => rfl⟩
theorem meth_N_do {M : Addr} (a : PySem.W.findIn K (.ref M) "do" = some (some (.ref f))) (i : PySem.W.isFn K (.ref f) = true)
    (l : K.lookup f = some ⟨oc, od, .func (PySem.W.fnOf "do" "CounterNet.do" (defArgs sCDo) (defBody sCDo) (defScope sCDo) .none kV doc pm an cdv ct), osl⟩) (c : PySem.W.codeIn K cdv "CounterNet.do" = true) (k : PySem.W.keepIn K (.ref f) = true) :
    ∃ f fd, Fun K "do" "CounterNet.do" sCDo f fd ∧ Meth K M "do" f ∧ Binds K fd ["self", "house", "amount"] [] :=
  ⟨f, _, fun_mk l c k, ⟨a, i, k⟩, (fun_mk l c k).binds fun _ _ _ _ _ _ us hl => match us, hl with | [_, _, _], _ => rfl⟩
theorem meth_N_meet {M : Addr} (a : PySem.W.findIn K (.ref M) "meet" = some (some (.ref f))) (i : PySem.W.isFn K (.ref f) = true)
    (l : K.lookup f = some ⟨oc, od, .func (PySem.W.fnOf "meet" "CounterNet.meet" (defArgs sCMeet) (defBody sCMeet) (defScope sCMeet) .none kV doc pm an cdv ct), osl⟩) (c : PySem.W.codeIn K cdv "CounterNet.meet" = true) (k : PySem.W.keepIn K (.ref f) = true) :
    ∃ f fd, Fun K "meet" "CounterNet.meet" sCMeet f fd ∧ Meth K M "meet" f ∧ Binds K fd ["self", "tie"] [] :=
  ⟨f, _, fun_mk l c k, ⟨a, i, k⟩, (fun_mk l c k).binds fun _ _ _ _ _ _ us hl => match us, hl with | [_, _], _ => rfl⟩
theorem meth_N_book {M : Addr} (a : PySem.W.findIn K (.ref M) "book" = some (some (.ref f))) (i : PySem.W.isFn K (.ref f) = true)
    (l : K.lookup f = some ⟨oc, od, .func (PySem.W.fnOf "book" "CounterNet.book" (defArgs sCBook) (defBody sCBook) (defScope sCBook) .none kV doc pm an cdv ct), osl⟩) (c : PySem.W.codeIn K cdv "CounterNet.book" = true) (k : PySem.W.keepIn K (.ref f) = true) :
    ∃ f fd, Fun K "book" "CounterNet.book" sCBook f fd ∧ Meth K M "book" f ∧ Binds K fd ["self", "house"] [] :=
  ⟨f, _, fun_mk l c k, ⟨a, i, k⟩, (fun_mk l c k).binds fun _ _ _ _ _ _ us hl => match us, hl with | [_, _], _ => rfl⟩
end
section
variable {K : PySem.W.Frag} {h : Heap} {mg : Str → Option Value} {cn ql nm q : Str} {C N0 N fI : Addr} {bs sub : List Value} {sn : List Str} {ab : Bool} {col : Option Bool} {dd : Option Addr} {k0 k1 k2 k3 k5 : Option Value} {oc doc pm cdv ct : Value} {od an : Option Addr} {osl : Array (Option Value)} {p1 p2 q1 q2 q3 q4 : Pos}
theorem LAt_of_ (X : K.In h) (G : h.Ns mainGlobals mg) (a : PySem.W.nsIn K mainGlobals cn = some (some (.ref C))) (xl : K.lookup C = some (excClassObj nm q C N bs (.ref N0 :: veT) true sn sub ab col dd k0 k1 k2 k3 k5 "ValueError.__new__"))
    (sa : PySem.W.findIn K (.ref C) "__setattr__" = some (some (.builtin "object.__setattr__"))) (ga : PySem.W.findIn K (.ref C) "__getattribute__" = some (some (.builtin "BaseException.__getattribute__"))) (gg : PySem.W.findIn K (.ref C) "__getattr__" = some none) (no : PySem.W.findIn K (.ref C) "at" = some none)
    (ic : PySem.W.findIn K (.ref C) "__init__" = some (some (.ref fI))) (tc : PySem.W.typeIn K (.ref fI) = some (.type "function")) (kc : PySem.W.keepIn K (.ref C) = true) (ec : PySem.W.subIn K (.ref C) (.type "BaseException") = some true) (ty : PySem.W.typeIn K (.ref C) = some (.type "type")) (hc : PySem.W.hasDictIn K C = true)
    (l : K.lookup fI = some ⟨oc, od, .func (PySem.W.fnOf "__init__" ql (LAt.iA p1 p2) (LAt.iB q1 q2 q3 q4) LAt.iS .none .none doc pm an cdv ct), osl⟩) (c : PySem.W.codeIn K cdv ql = true) : ∃ q b i, LAt.Txt K mg cn q b C i :=
  ⟨ql, _, fI, ⟨PySem.W.mg_of X G a, ⟨nm, q, N, bs, sn, sub, ab, col, dd, k0, k1, k2, k3, k5, xl⟩, mro_ve N0, sa, ga, gg, no, ic, tc, kc, ec, ty, hc, ⟨oc, od, doc, pm, an, cdv, ct, osl, p1, p2, q1, q2, q3, q4, l, c⟩⟩⟩
theorem LHouse_of_ (X : K.In h) (G : h.Ns mainGlobals mg) (a : PySem.W.nsIn K mainGlobals cn = some (some (.ref C))) (xl : K.lookup C = some (excClassObj nm q C N bs keT true sn sub ab col dd k0 k1 k2 k3 k5 "LookupError.__new__"))
    (sa : PySem.W.findIn K (.ref C) "__setattr__" = some (some (.builtin "object.__setattr__"))) (ga : PySem.W.findIn K (.ref C) "__getattribute__" = some (some (.builtin "BaseException.__getattribute__"))) (gg : PySem.W.findIn K (.ref C) "__getattr__" = some none) (no : PySem.W.findIn K (.ref C) "house" = some none)
    (ic : PySem.W.findIn K (.ref C) "__init__" = some (some (.ref fI))) (tc : PySem.W.typeIn K (.ref fI) = some (.type "function")) (kc : PySem.W.keepIn K (.ref C) = true) (ec : PySem.W.subIn K (.ref C) (.type "BaseException") = some true) (ty : PySem.W.typeIn K (.ref C) = some (.type "type")) (hc : PySem.W.hasDictIn K C = true)
    (l : K.lookup fI = some ⟨oc, od, .func (PySem.W.fnOf "__init__" ql (LHouse.iA p1 p2) (LHouse.iB q1 q2 q3 q4) LHouse.iS .none .none doc pm an cdv ct), osl⟩) (c : PySem.W.codeIn K cdv ql = true) : ∃ q b i, LHouse.Txt K mg cn q b C i :=
  ⟨ql, _, fI, ⟨PySem.W.mg_of X G a, ⟨nm, q, N, bs, sn, sub, ab, col, dd, k0, k1, k2, k3, k5, xl⟩, mro_ke, sa, ga, gg, no, ic, tc, kc, ec, ty, hc, ⟨oc, od, doc, pm, an, cdv, ct, osl, p1, p2, q1, q2, q3, q4, l, c⟩⟩⟩
theorem LTie_of_ (X : K.In h) (G : h.Ns mainGlobals mg) (a : PySem.W.nsIn K mainGlobals cn = some (some (.ref C))) (xl : K.lookup C = some (excClassObj nm q C N bs keT true sn sub ab col dd k0 k1 k2 k3 k5 "LookupError.__new__"))
    (sa : PySem.W.findIn K (.ref C) "__setattr__" = some (some (.builtin "object.__setattr__"))) (ga : PySem.W.findIn K (.ref C) "__getattribute__" = some (some (.builtin "BaseException.__getattribute__"))) (gg : PySem.W.findIn K (.ref C) "__getattr__" = some none) (no : PySem.W.findIn K (.ref C) "tie" = some none)
    (ic : PySem.W.findIn K (.ref C) "__init__" = some (some (.ref fI))) (tc : PySem.W.typeIn K (.ref fI) = some (.type "function")) (kc : PySem.W.keepIn K (.ref C) = true) (ec : PySem.W.subIn K (.ref C) (.type "BaseException") = some true) (ty : PySem.W.typeIn K (.ref C) = some (.type "type")) (hc : PySem.W.hasDictIn K C = true)
    (l : K.lookup fI = some ⟨oc, od, .func (PySem.W.fnOf "__init__" ql (LTie.iA p1 p2) (LTie.iB q1 q2 q3 q4) LTie.iS .none .none doc pm an cdv ct), osl⟩) (c : PySem.W.codeIn K cdv ql = true) : ∃ q b i, LTie.Txt K mg cn q b C i :=
  ⟨ql, _, fI, ⟨PySem.W.mg_of X G a, ⟨nm, q, N, bs, sn, sub, ab, col, dd, k0, k1, k2, k3, k5, xl⟩, mro_ke, sa, ga, gg, no, ic, tc, kc, ec, ty, hc, ⟨oc, od, doc, pm, an, cdv, ct, osl, p1, p2, q1, q2, q3, q4, l, c⟩⟩⟩
end
theorem cw_of {K : PySem.W.Frag} {h : Heap} {mg : Str → Option Value} {t0 t1 : Tok} (X : K.In h) (G : h.Ns mainGlobals mg) (a0 : PySem.W.nsIn K mainGlobals "MOST_HOUSES" = some (some (.int 12 t0))) (a1 : PySem.W.nsIn K mainGlobals "MOST_TIES" = some (some (.int 20 t1))) : Cw mg :=
  ⟨⟨_, PySem.W.mg_of X G a0⟩, ⟨_, PySem.W.mg_of X G a1⟩⟩
theorem kn_of {K : PySem.W.Frag} {h : Heap} {mg : Str → Option Value} {t0 t1 : Tok} (X : K.In h) (G : h.Ns mainGlobals mg) (a0 : PySem.W.nsIn K mainGlobals "MOST_MODULUS" = some (some (.int 1000000 t0))) (a1 : PySem.W.nsIn K mainGlobals "MOST_NUMBER" = some (some (.int 1000000000000000000 t1))) : Cn2 mg :=
  ⟨⟨_, PySem.W.mg_of X G a0⟩, ⟨_, PySem.W.mg_of X G a1⟩⟩
theorem bt_of {K : PySem.W.Frag} {h : Heap} {mg : Str → Option Value} (X : K.In h) (G : h.Ns mainGlobals mg) (z : ∀ x ∈ ([("isinstance" : Str), "int", "bool", "list", "tuple", "len", "enumerate", "range", "sorted", "set", "repr", "abs", "min", "max", "sum", "all", "any", "zip", "str", "dict", "KeyError"]), PySem.W.nsIn K mainGlobals x = some none) : Bt mg := by
  have n := fun x hx => PySem.W.mg_none_of X G (z x hx)
  exact ⟨n _ (by decide), n _ (by decide), n _ (by decide), n _ (by decide), n _ (by decide), n _ (by decide), n _ (by decide), n _ (by decide), n _ (by decide), n _ (by decide), n _ (by decide), n _ (by decide), n _ (by decide), n _ (by decide), n _ (by decide), n _ (by decide), n _ (by decide), n _ (by decide), n _ (by decide), n _ (by decide), n _ (by decide)⟩
theorem tab_mk {K : PySem.W.Frag} {x : Str} {f c Pt : Addr} {oc o1 : Value} {od o2 : Option Addr} {fd : FuncData} {osl o4 : Array (Option Value)} {vs : Array Value} (a : PySem.W.nsIn K mainGlobals x = some (some (.ref f))) (l : K.lookup f = some ⟨oc, od, .func fd, osl⟩) (hc : fd.code = .ref c)
    (lc : K.lookup c = some ⟨o1, o2, .fields vs, o4⟩) (hv : (vs[11]? : Option Value) = some (.ref Pt)) : PySem.W.tabIn K x = some (c, Pt) := by
  unfold PySem.W.tabIn
  rw [a]
  dsimp only
  rw [l]
  dsimp only
  rw [hc]
  dsimp only
  rw [lc]
  dsimp only
  rw [hv]
/-- the facts of the head, by the words that k_is answers -/
theorem tp_of {K : PySem.W.Frag} {h : Heap} {mg : Str → Option Value} {fa fN W N CW CH CT CR : Addr} {oc kV doc pm ct cdv : Value} {od an : Option Addr} {osl : Array (Option Value)}   (X : K.In h) (G : h.Ns mainGlobals mg)
    (B : Bt mg) (cw : Cw mg) (kn : Cn2 mg)
    (whole : ∃ f fd, Df K mg "is_whole" sWhole ["value"] f fd)
    (below : ∃ f fd, Df K mg "is_below" sBelow ["value", "limit"] f fd)
    (seq : ∃ f fd, Df K mg "is_sequence" sSeq ["value", "least", "most"] f fd)
    (fnb : ∃ f fd, Df K mg "first_not_below" sFnb ["items", "limit"] f fd)
    (repl : ∃ f fd, Df K mg "replaced" sRepl ["items", "at", "item"] f fd)
    (pair : ∃ f fd, Df K mg "is_pair" sPair ["value", "houses"] f fd)
    (cties : ∃ f fd, Df K mg "checked_ties" sCTies ["houses", "ties"] f fd)
    (needH : ∃ f fd, Df K mg "need_house" sNeedH ["web", "house"] f fd)
    (needT : ∃ f fd, Df K mg "need_tie" sNeedT ["web", "tie"] f fd)
    (ways : ∃ f fd, Df K mg "ways_on" sWays ["web", "house"] f fd)
    (fways : ∃ f fd, Df K mg "first_ways" sFWays ["web", "house", "barred"] f fd)
    (part : ∃ f fd, Df K mg "part_of" sPart ["web", "house"] f fd)
    (isPart : ∃ f fd, Df K mg "is_part" sIsPart ["web", "value"] f fd)
    (tiesIn : ∃ f fd, Df K mg "ties_in" sTiesIn ["web", "part"] f fd)
    (rings : ∃ f fd, Df K mg "rings_of" sRingsOf ["web", "part"] f fd)
    (outw : ∃ f fd, Df K mg "outward" sOutward ["web", "house"] f fd)
    (needM : ∃ f fd, Df K mg "need_modulus" sNeedM ["value"] f fd)
    (amt : ∃ f fd, Df K mg "is_amount" sAmt ["value"] f fd)
    (isCnt : ∃ f fd, Df K mg "is_counter" sIsCnt ["modulus", "value"] f fd)
    (cof : ∃ f fd, Df K mg "counters_of" sCOf ["modulus", "many", "value"] f fd)
    (cby : ∃ f fd, Df K mg "counted_by" sCBy ["modulus", "number"] f fd)
    (rest : ∃ f fd, Df K mg "is_rest" sIsRest ["net"] f fd)
    (alike : ∃ f fd, Df K mg "is_alike" sIsAlike ["web", "houses", "ties"] f fd)
    (sweep : ∃ f fd, Df K mg "sweep" sSweep ["web", "house"] f fd)
    (box : ∃ f fd, Df K mg "_law_box" sLBox ["_law_script", "_law_k"] f fd)
    (take : ∃ f fd, Df K mg "_law_take" sLTake ["_law_box_here", "_law_many"] f fd)
    (pick : ∃ f fd, Df K mg "_law_pick" sLPick ["_law_box_here", "_law_some"] f fd)
    (mixed : ∃ f fd, Df K mg "_law_mixed" sLMixed ["_law_box_here", "_law_some"] f fd)
    (forest : ∃ f fd, Df K mg "_law_forest" sLForest ["_law_box_here", "_law_most"] f fd)
    (partL : ∃ f fd, Df K mg "_law_part" sLPart ["_law_ties", "_law_house"] f fd)
    (num : ∃ f fd, Df K mg "_law_number" sLNumber ["_law_box_here", "_law_modulus"] f fd)
    (wrap : ∃ f fd, Df K mg "_law_wrapped" sLWrapped ["_law_number_here", "_law_modulus"] f fd)
    (bookL : ∃ f fd, Df K mg "_law_book" sLBook ["_law_ties", "_law_modulus", "_law_states", "_law_archives", "_law_part_here"] f fd)
    (metL : ∃ f fd, Df K mg "_law_met" sLMet ["_law_ties", "_law_modulus", "_law_states", "_law_archives", "_law_tie"] f fd)
    (steps : ∃ f fd, Df K mg "_law_steps_right" sLStepsRight ["_law_box_here", "_law_net", "_law_ties", "_law_modulus", "_law_states", "_law_archives"] f fd)
    (swept : ∃ f fd, Df K mg "_law_swept" sLSwept ["_law_net", "_law_web", "_law_ties", "_law_modulus", "_law_numbers", "_law_house"] f fd)
    (eL : mg "law" = some (.ref fa)) (aN : PySem.W.nsIn K mainGlobals "law" = some (some (.ref fN))) (lN : K.lookup fN = some ⟨oc, od, .func (PySem.W.fnOf "law" "law" (defArgs sLaw) (defBody sLaw) (defScope sLaw) .none kV doc pm an cdv ct), osl⟩)
    (cN : PySem.W.codeIn K cdv "law" = true) (kN : PySem.W.keepIn K (.ref fN) = true)
    (ac_W : PySem.W.nsIn K mainGlobals "Web" = some (some (.ref W))) (pgW : PySem.W.plainGet K W Str.empty = true) (hdW : PySem.W.hasDictIn K W = true) (poW : PySem.W.plainOver K W = true) (saW : PySem.W.findIn K (.ref W) "__setattr__" = some (some (.builtin "object.__setattr__"))) (nW0 : PySem.W.findIn K (.ref W) "ties" = some Option.none) (nW1 : PySem.W.findIn K (.ref W) "houses" = some Option.none) (IW : WcI K W)
    (initW : ∃ f fd, Fun K "__init__" "Web.__init__" sWInit f fd ∧ Mk K W f ∧ Binds K fd ["self", "houses", "ties"] [])
    (ac_N : PySem.W.nsIn K mainGlobals "CounterNet" = some (some (.ref N))) (pgN : PySem.W.plainGet K N Str.empty = true) (hdN : PySem.W.hasDictIn K N = true) (poN : PySem.W.plainOver K N = true) (saN : PySem.W.findIn K (.ref N) "__setattr__" = some (some (.builtin "object.__setattr__"))) (nN0 : PySem.W.findIn K (.ref N) "modulus" = some Option.none) (nN1 : PySem.W.findIn K (.ref N) "states" = some Option.none) (nN2 : PySem.W.findIn K (.ref N) "archives" = some Option.none) (nN3 : PySem.W.findIn K (.ref N) "web" = some Option.none)
    (initN : ∃ f fd, Fun K "__init__" "CounterNet.__init__" sCInit f fd ∧ Mk K N f ∧ Binds K fd ["self", "web", "modulus", "states", "archives"] [])
    (m_N_do : ∃ f fd, Fun K "do" "CounterNet.do" sCDo f fd ∧ Meth K N "do" f ∧ Binds K fd ["self", "house", "amount"] [])
    (m_N_meet : ∃ f fd, Fun K "meet" "CounterNet.meet" sCMeet f fd ∧ Meth K N "meet" f ∧ Binds K fd ["self", "tie"] [])
    (m_N_book : ∃ f fd, Fun K "book" "CounterNet.book" sCBook f fd ∧ Meth K N "book" f ∧ Binds K fd ["self", "house"] [])
    (t1 : ∃ q b i, LAt.Txt K mg "BadWeb" q b CW i)
    (t2 : ∃ q b i, LHouse.Txt K mg "NoHouse" q b CH i)
    (t3 : ∃ q b i, LTie.Txt K mg "NoTie" q b CT i)
    (t4 : ∃ q b i, LAt.Txt K mg "Refused" q b CR i)
    : ∃ (W N CW CH CT CR : Addr) (fd : FuncData), Tp K mg W N CW CH CT CR fa fd := by
  obtain ⟨fd, l1, l2⟩ := lawF_of X G eL aN lN cN kN
  exact ⟨W, N, CW, CH, CT, CR, fd, ⟨B, cw, kn, whole, below, seq, fnb, repl, pair, cties, needH, needT, ways, fways, part, isPart, tiesIn, rings, outw, needM, amt, isCnt, cof, cby, rest, alike, sweep, box, take, pick, mixed, forest, partL, num, wrap, bookL, metL, steps, swept, l1, l2, initW, ⟨⟨pgW, hdW, poW, saW⟩, nW0, nW1, PySem.W.mg_of X G ac_W⟩, IW, initN, m_N_do, m_N_meet, m_N_book, ⟨⟨pgN, hdN, poN, saN⟩, nN0, nN1, nN2, nN3, PySem.W.mg_of X G ac_N⟩, t1, t2, t3, t4⟩⟩
end K1
open PySem PySem.W PyProof.Rows
set_option maxRecDepth 100000 in
set_option maxHeartbeats 0 in
theorem PySem.Challenge.cw_houseslessties_k27_whole_twisted_counter_holds : PySem.Challenge.rw_houseslessties_k27_whole_twisted_counter.Holds := by
  w_on; o_law; k_head; (case hw => w_witness2)
  k_fill
  refine K1.walkK (l := PySem.Challenge.rw_houseslessties_k27_whole_twisted_counter) rfl rfl (fun w h Y => PySem.W.kIn_of Y)  ?F
  case F =>
    intro w mg fa h KX G hmg
    refine' K1.tp_of KX G ?B ?cw ?kn ?zwhole ?zbelow ?zseq ?zfnb ?zrepl ?zpair ?zcties ?zneedH ?zneedT ?zways ?zfways ?zpart ?zisPart ?ztiesIn ?zrings ?zoutw ?zneedM ?zamt ?zisCnt ?zcof ?zcby ?zrest ?zalike ?zsweep ?zbox ?ztake ?zpick ?zmixed ?zforest ?zpartL ?znum ?zwrap ?zbookL ?zmetL ?zsteps ?zswept hmg ?aN ?lN ?cN ?kN ?ac_W ?pgW ?hdW ?poW ?saW ?nW0 ?nW1 ?IW ?initW ?ac_N ?pgN ?hdN ?poN ?saN ?nN0 ?nN1 ?nN2 ?nN3 ?initN ?m_N_do ?m_N_meet ?m_N_book ?t1 ?t2 ?t3 ?t4
    case B =>
      refine K1.bt_of KX G fun x hx => ?_
      simp only [List.mem_cons, List.mem_nil_iff, or_false] at hx
      rcases hx with rfl | rfl | rfl | rfl | rfl | rfl | rfl | rfl | rfl | rfl | rfl | rfl | rfl | rfl | rfl | rfl | rfl | rfl | rfl | rfl | rfl <;> k_is
    case cw => refine' K1.cw_of KX G ?acw0 ?acw1; (case acw0 => k_is); (case acw1 => k_is)
    case kn => refine' K1.kn_of KX G ?akn0 ?akn1; (case akn0 => k_is); (case akn1 => k_is)
    case zwhole =>
      (refine' K1.df_of (by assumption) (by assumption) ?a_0 ?l_0 ?c_0 ?k_0 ?b_0; (case a_0 => k_is); (case l_0 => k_is); (case c_0 => k_is); (case k_0 => k_is))
      case b_0 => exact fun _ _ _ _ _ _ us hl => match us, hl with | [_], _ => rfl
    case zbelow =>
      (refine' K1.df_of (by assumption) (by assumption) ?a_1 ?l_1 ?c_1 ?k_1 ?b_1; (case a_1 => k_is); (case l_1 => k_is); (case c_1 => k_is); (case k_1 => k_is))
      case b_1 => exact fun _ _ _ _ _ _ us hl => match us, hl with | [_, _], _ => rfl
    case zseq =>
      (refine' K1.df_of (by assumption) (by assumption) ?a_2 ?l_2 ?c_2 ?k_2 ?b_2; (case a_2 => k_is); (case l_2 => k_is); (case c_2 => k_is); (case k_2 => k_is))
      case b_2 => exact fun _ _ _ _ _ _ us hl => match us, hl with | [_, _, _], _ => rfl
    case zfnb =>
      (refine' K1.df_of (by assumption) (by assumption) ?a_3 ?l_3 ?c_3 ?k_3 ?b_3; (case a_3 => k_is); (case l_3 => k_is); (case c_3 => k_is); (case k_3 => k_is))
      case b_3 => exact fun _ _ _ _ _ _ us hl => match us, hl with | [_, _], _ => rfl
    case zrepl =>
      (refine' K1.df_of (by assumption) (by assumption) ?a_4 ?l_4 ?c_4 ?k_4 ?b_4; (case a_4 => k_is); (case l_4 => k_is); (case c_4 => k_is); (case k_4 => k_is))
      case b_4 => exact fun _ _ _ _ _ _ us hl => match us, hl with | [_, _, _], _ => rfl
    case zpair =>
      (refine' K1.df_of (by assumption) (by assumption) ?a_5 ?l_5 ?c_5 ?k_5 ?b_5; (case a_5 => k_is); (case l_5 => k_is); (case c_5 => k_is); (case k_5 => k_is))
      case b_5 => exact fun _ _ _ _ _ _ us hl => match us, hl with | [_, _], _ => rfl
    case zcties =>
      (refine' K1.df_of (by assumption) (by assumption) ?a_6 ?l_6 ?c_6 ?k_6 ?b_6; (case a_6 => k_is); (case l_6 => k_is); (case c_6 => k_is); (case k_6 => k_is))
      case b_6 => exact fun _ _ _ _ _ _ us hl => match us, hl with | [_, _], _ => rfl
    case zneedH =>
      (refine' K1.df_of (by assumption) (by assumption) ?a_7 ?l_7 ?c_7 ?k_7 ?b_7; (case a_7 => k_is); (case l_7 => k_is); (case c_7 => k_is); (case k_7 => k_is))
      case b_7 => exact fun _ _ _ _ _ _ us hl => match us, hl with | [_, _], _ => rfl
    case zneedT =>
      (refine' K1.df_of (by assumption) (by assumption) ?a_8 ?l_8 ?c_8 ?k_8 ?b_8; (case a_8 => k_is); (case l_8 => k_is); (case c_8 => k_is); (case k_8 => k_is))
      case b_8 => exact fun _ _ _ _ _ _ us hl => match us, hl with | [_, _], _ => rfl
    case zways =>
      (refine' K1.df_of (by assumption) (by assumption) ?a_9 ?l_9 ?c_9 ?k_9 ?b_9; (case a_9 => k_is); (case l_9 => k_is); (case c_9 => k_is); (case k_9 => k_is))
      case b_9 => exact fun _ _ _ _ _ _ us hl => match us, hl with | [_, _], _ => rfl
    case zfways =>
      (refine' K1.df_of (by assumption) (by assumption) ?a_10 ?l_10 ?c_10 ?k_10 ?b_10; (case a_10 => k_is); (case l_10 => k_is); (case c_10 => k_is); (case k_10 => k_is))
      case b_10 => exact fun _ _ _ _ _ _ us hl => match us, hl with | [_, _, _], _ => rfl
    case zpart =>
      (refine' K1.df_of (by assumption) (by assumption) ?a_11 ?l_11 ?c_11 ?k_11 ?b_11; (case a_11 => k_is); (case l_11 => k_is); (case c_11 => k_is); (case k_11 => k_is))
      case b_11 => exact fun _ _ _ _ _ _ us hl => match us, hl with | [_, _], _ => rfl
    case zisPart =>
      (refine' K1.df_of (by assumption) (by assumption) ?a_12 ?l_12 ?c_12 ?k_12 ?b_12; (case a_12 => k_is); (case l_12 => k_is); (case c_12 => k_is); (case k_12 => k_is))
      case b_12 => exact fun _ _ _ _ _ _ us hl => match us, hl with | [_, _], _ => rfl
    case ztiesIn =>
      (refine' K1.df_of (by assumption) (by assumption) ?a_13 ?l_13 ?c_13 ?k_13 ?b_13; (case a_13 => k_is); (case l_13 => k_is); (case c_13 => k_is); (case k_13 => k_is))
      case b_13 => exact fun _ _ _ _ _ _ us hl => match us, hl with | [_, _], _ => rfl
    case zrings =>
      (refine' K1.df_of (by assumption) (by assumption) ?a_14 ?l_14 ?c_14 ?k_14 ?b_14; (case a_14 => k_is); (case l_14 => k_is); (case c_14 => k_is); (case k_14 => k_is))
      case b_14 => exact fun _ _ _ _ _ _ us hl => match us, hl with | [_, _], _ => rfl
    case zoutw =>
      (refine' K1.df_of (by assumption) (by assumption) ?a_15 ?l_15 ?c_15 ?k_15 ?b_15; (case a_15 => k_is); (case l_15 => k_is); (case c_15 => k_is); (case k_15 => k_is))
      case b_15 => exact fun _ _ _ _ _ _ us hl => match us, hl with | [_, _], _ => rfl
    case zneedM =>
      (refine' K1.df_of (by assumption) (by assumption) ?a_16 ?l_16 ?c_16 ?k_16 ?b_16; (case a_16 => k_is); (case l_16 => k_is); (case c_16 => k_is); (case k_16 => k_is))
      case b_16 => exact fun _ _ _ _ _ _ us hl => match us, hl with | [_], _ => rfl
    case zamt =>
      (refine' K1.df_of (by assumption) (by assumption) ?a_17 ?l_17 ?c_17 ?k_17 ?b_17; (case a_17 => k_is); (case l_17 => k_is); (case c_17 => k_is); (case k_17 => k_is))
      case b_17 => exact fun _ _ _ _ _ _ us hl => match us, hl with | [_], _ => rfl
    case zisCnt =>
      (refine' K1.df_of (by assumption) (by assumption) ?a_18 ?l_18 ?c_18 ?k_18 ?b_18; (case a_18 => k_is); (case l_18 => k_is); (case c_18 => k_is); (case k_18 => k_is))
      case b_18 => exact fun _ _ _ _ _ _ us hl => match us, hl with | [_, _], _ => rfl
    case zcof =>
      (refine' K1.df_of (by assumption) (by assumption) ?a_19 ?l_19 ?c_19 ?k_19 ?b_19; (case a_19 => k_is); (case l_19 => k_is); (case c_19 => k_is); (case k_19 => k_is))
      case b_19 => exact fun _ _ _ _ _ _ us hl => match us, hl with | [_, _, _], _ => rfl
    case zcby =>
      (refine' K1.df_of (by assumption) (by assumption) ?a_20 ?l_20 ?c_20 ?k_20 ?b_20; (case a_20 => k_is); (case l_20 => k_is); (case c_20 => k_is); (case k_20 => k_is))
      case b_20 => exact fun _ _ _ _ _ _ us hl => match us, hl with | [_, _], _ => rfl
    case zrest =>
      (refine' K1.df_of (by assumption) (by assumption) ?a_21 ?l_21 ?c_21 ?k_21 ?b_21; (case a_21 => k_is); (case l_21 => k_is); (case c_21 => k_is); (case k_21 => k_is))
      case b_21 => exact fun _ _ _ _ _ _ us hl => match us, hl with | [_], _ => rfl
    case zalike =>
      (refine' K1.df_of (by assumption) (by assumption) ?a_22 ?l_22 ?c_22 ?k_22 ?b_22; (case a_22 => k_is); (case l_22 => k_is); (case c_22 => k_is); (case k_22 => k_is))
      case b_22 => exact fun _ _ _ _ _ _ us hl => match us, hl with | [_, _, _], _ => rfl
    case zsweep =>
      (refine' K1.df_of (by assumption) (by assumption) ?a_23 ?l_23 ?c_23 ?k_23 ?b_23; (case a_23 => k_is); (case l_23 => k_is); (case c_23 => k_is); (case k_23 => k_is))
      case b_23 => exact fun _ _ _ _ _ _ us hl => match us, hl with | [_, _], _ => rfl
    case zbox =>
      (refine' K1.df_of (by assumption) (by assumption) ?a_24 ?l_24 ?c_24 ?k_24 ?b_24; (case a_24 => k_is); (case l_24 => k_is); (case c_24 => k_is); (case k_24 => k_is))
      case b_24 => exact fun _ _ _ _ _ _ us hl => match us, hl with | [_, _], _ => rfl
    case ztake =>
      (refine' K1.df_of (by assumption) (by assumption) ?a_25 ?l_25 ?c_25 ?k_25 ?b_25; (case a_25 => k_is); (case l_25 => k_is); (case c_25 => k_is); (case k_25 => k_is))
      case b_25 => exact fun _ _ _ _ _ _ us hl => match us, hl with | [_, _], _ => rfl
    case zpick =>
      (refine' K1.df_of (by assumption) (by assumption) ?a_26 ?l_26 ?c_26 ?k_26 ?b_26; (case a_26 => k_is); (case l_26 => k_is); (case c_26 => k_is); (case k_26 => k_is))
      case b_26 => exact fun _ _ _ _ _ _ us hl => match us, hl with | [_, _], _ => rfl
    case zmixed =>
      (refine' K1.df_of (by assumption) (by assumption) ?a_27 ?l_27 ?c_27 ?k_27 ?b_27; (case a_27 => k_is); (case l_27 => k_is); (case c_27 => k_is); (case k_27 => k_is))
      case b_27 => exact fun _ _ _ _ _ _ us hl => match us, hl with | [_, _], _ => rfl
    case zforest =>
      (refine' K1.df_of (by assumption) (by assumption) ?a_28 ?l_28 ?c_28 ?k_28 ?b_28; (case a_28 => k_is); (case l_28 => k_is); (case c_28 => k_is); (case k_28 => k_is))
      case b_28 => exact fun _ _ _ _ _ _ us hl => match us, hl with | [_, _], _ => rfl
    case zpartL =>
      (refine' K1.df_of (by assumption) (by assumption) ?a_29 ?l_29 ?c_29 ?k_29 ?b_29; (case a_29 => k_is); (case l_29 => k_is); (case c_29 => k_is); (case k_29 => k_is))
      case b_29 => exact fun _ _ _ _ _ _ us hl => match us, hl with | [_, _], _ => rfl
    case znum =>
      (refine' K1.df_of (by assumption) (by assumption) ?a_30 ?l_30 ?c_30 ?k_30 ?b_30; (case a_30 => k_is); (case l_30 => k_is); (case c_30 => k_is); (case k_30 => k_is))
      case b_30 => exact fun _ _ _ _ _ _ us hl => match us, hl with | [_, _], _ => rfl
    case zwrap =>
      (refine' K1.df_of (by assumption) (by assumption) ?a_31 ?l_31 ?c_31 ?k_31 ?b_31; (case a_31 => k_is); (case l_31 => k_is); (case c_31 => k_is); (case k_31 => k_is))
      case b_31 => exact fun _ _ _ _ _ _ us hl => match us, hl with | [_, _], _ => rfl
    case zbookL =>
      (refine' K1.df_of (by assumption) (by assumption) ?a_32 ?l_32 ?c_32 ?k_32 ?b_32; (case a_32 => k_is); (case l_32 => k_is); (case c_32 => k_is); (case k_32 => k_is))
      case b_32 => exact fun _ _ _ _ _ _ us hl => match us, hl with | [_, _, _, _, _], _ => rfl
    case zmetL =>
      (refine' K1.df_of (by assumption) (by assumption) ?a_33 ?l_33 ?c_33 ?k_33 ?b_33; (case a_33 => k_is); (case l_33 => k_is); (case c_33 => k_is); (case k_33 => k_is))
      case b_33 => exact fun _ _ _ _ _ _ us hl => match us, hl with | [_, _, _, _, _], _ => rfl
    case zsteps =>
      (refine' K1.df_of (by assumption) (by assumption) ?a_34 ?l_34 ?c_34 ?k_34 ?b_34; (case a_34 => k_is); (case l_34 => k_is); (case c_34 => k_is); (case k_34 => k_is))
      case b_34 => exact fun _ _ _ _ _ _ us hl => match us, hl with | [_, _, _, _, _, _], _ => rfl
    case zswept =>
      (refine' K1.df_of (by assumption) (by assumption) ?a_35 ?l_35 ?c_35 ?k_35 ?b_35; (case a_35 => k_is); (case l_35 => k_is); (case c_35 => k_is); (case k_35 => k_is))
      case b_35 => exact fun _ _ _ _ _ _ us hl => match us, hl with | [_, _, _, _, _, _], _ => rfl
    (case aN => k_is); (case lN => k_is); (case cN => k_is); (case kN => k_is)
    (case ac_W => k_is); (case pgW => k_is); (case hdW => k_is); (case poW => k_is); (case saW => k_is); (case nW0 => k_is); (case nW1 => k_is)
    case IW => refine' ⟨?yW, ?caW, ?spW, ?tkW, ?moW, ?neW, ?eqW⟩; (case yW => kernel_rfl); (case caW => k_is); (case spW => k_is); (case tkW => k_is); (case moW => k_is); (case neW => k_is); (case eqW => refine' K1.weq_of ?a_eq ?i_eq ?l_eq ?c_eq ?k_eq; (case a_eq => k_is); (case i_eq => k_is); (case l_eq => k_is); (case c_eq => k_is); (case k_eq => k_is))
    case initW => refine' K1.init_W ?a_IW ?i_IW ?m_IW ?kM_IW ?l_IW ?c_IW ?k_IW; (case a_IW => k_is); (case i_IW => k_is); (case m_IW => k_is); (case kM_IW => k_is); (case l_IW => k_is); (case c_IW => k_is); (case k_IW => k_is)
    (case ac_N => k_is); (case pgN => k_is); (case hdN => k_is); (case poN => k_is); (case saN => k_is); (case nN0 => k_is); (case nN1 => k_is); (case nN2 => k_is); (case nN3 => k_is)
    case initN => refine' K1.init_N ?a_IN ?i_IN ?m_IN ?kM_IN ?l_IN ?c_IN ?k_IN; (case a_IN => k_is); (case i_IN => k_is); (case m_IN => k_is); (case kM_IN => k_is); (case l_IN => k_is); (case c_IN => k_is); (case k_IN => k_is)
    case m_N_do => refine' K1.meth_N_do ?a_Ndo ?i_Ndo ?l_Ndo ?c_Ndo ?k_Ndo; (case a_Ndo => k_is); (case i_Ndo => k_is); (case l_Ndo => k_is); (case c_Ndo => k_is); (case k_Ndo => k_is)
    case m_N_meet => refine' K1.meth_N_meet ?a_Nmeet ?i_Nmeet ?l_Nmeet ?c_Nmeet ?k_Nmeet; (case a_Nmeet => k_is); (case i_Nmeet => k_is); (case l_Nmeet => k_is); (case c_Nmeet => k_is); (case k_Nmeet => k_is)
    case m_N_book => refine' K1.meth_N_book ?a_Nbook ?i_Nbook ?l_Nbook ?c_Nbook ?k_Nbook; (case a_Nbook => k_is); (case i_Nbook => k_is); (case l_Nbook => k_is); (case c_Nbook => k_is); (case k_Nbook => k_is)
    case t1 => (refine' K1.LAt_of_ (by assumption) (by assumption) ?a_t1 ?xl_t1 ?sa_t1 ?ga_t1 ?gg_t1 ?no_t1 ?ic_t1 ?tc_t1 ?kc_t1 ?ec_t1 ?ty_t1 ?hc_t1 ?l_t1 ?c_t1; (case a_t1 => k_is); (case xl_t1 => k_is); (case sa_t1 => k_is); (case ga_t1 => k_is); (case gg_t1 => k_is); (case no_t1 => k_is); (case ic_t1 => k_is); (case tc_t1 => k_is); (case kc_t1 => k_is); (case ec_t1 => k_is); (case ty_t1 => k_is); (case hc_t1 => k_is); (case l_t1 => k_is); (case c_t1 => k_is))
    case t2 => (refine' K1.LHouse_of_ (by assumption) (by assumption) ?a_t2 ?xl_t2 ?sa_t2 ?ga_t2 ?gg_t2 ?no_t2 ?ic_t2 ?tc_t2 ?kc_t2 ?ec_t2 ?ty_t2 ?hc_t2 ?l_t2 ?c_t2; (case a_t2 => k_is); (case xl_t2 => k_is); (case sa_t2 => k_is); (case ga_t2 => k_is); (case gg_t2 => k_is); (case no_t2 => k_is); (case ic_t2 => k_is); (case tc_t2 => k_is); (case kc_t2 => k_is); (case ec_t2 => k_is); (case ty_t2 => k_is); (case hc_t2 => k_is); (case l_t2 => k_is); (case c_t2 => k_is))
    case t3 => (refine' K1.LTie_of_ (by assumption) (by assumption) ?a_t3 ?xl_t3 ?sa_t3 ?ga_t3 ?gg_t3 ?no_t3 ?ic_t3 ?tc_t3 ?kc_t3 ?ec_t3 ?ty_t3 ?hc_t3 ?l_t3 ?c_t3; (case a_t3 => k_is); (case xl_t3 => k_is); (case sa_t3 => k_is); (case ga_t3 => k_is); (case gg_t3 => k_is); (case no_t3 => k_is); (case ic_t3 => k_is); (case tc_t3 => k_is); (case kc_t3 => k_is); (case ec_t3 => k_is); (case ty_t3 => k_is); (case hc_t3 => k_is); (case l_t3 => k_is); (case c_t3 => k_is))
    case t4 => (refine' K1.LAt_of_ (by assumption) (by assumption) ?a_t4 ?xl_t4 ?sa_t4 ?ga_t4 ?gg_t4 ?no_t4 ?ic_t4 ?tc_t4 ?kc_t4 ?ec_t4 ?ty_t4 ?hc_t4 ?l_t4 ?c_t4; (case a_t4 => k_is); (case xl_t4 => k_is); (case sa_t4 => k_is); (case ga_t4 => k_is); (case gg_t4 => k_is); (case no_t4 => k_is); (case ic_t4 => k_is); (case tc_t4 => k_is); (case kc_t4 => k_is); (case ec_t4 => k_is); (case ty_t4 => k_is); (case hc_t4 => k_is); (case l_t4 => k_is); (case c_t4 => k_is))
