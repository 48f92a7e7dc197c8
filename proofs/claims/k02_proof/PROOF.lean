import PyProof.Rows.All
import Wide.All
import OpenK.AllK
import Wide.FinOn
import HandS.ForMost
import HandS.ForExc
import HandS.ExcInit
import PyProof.ExcBaseAll.LookupError
import KE.KExcIs
import HandS.IsInst
import KE.GoesEnum
import PyProof.ReprRoads
import PySem.Challenge.RW_houseslessties_k02_whole_commuting_deeds
import HandS.TryMany
import HandS.Lambda
import HandS.Nested
import HandS.EndTab
import HandS.DictTup
import HandS.OwnEq
import HandS.Strs
import HandS.Conv
import HandS.TupAny
import HandS.TupMul
import HandS.SortInts
import HandS.Style
import HandS.MakeKw
import HandS.Defaults
import HandS.TupLe
import HandS.SetKeys
import HandS.SetFor
import HandS.RaiseMore
import KE.KDictDisplayH
import HandS.Base
import HandS.Call
import HandS.Exc
import HandS.ExcField
import HandS.WordsDict
import HandS.MakeKwOnly
import PyProof.InstNe
import HandS.CallLocal
import HandS.EndBits
set_option Elab.async false
set_option linter.all false
set_option maxRecDepth 100000
set_option maxHeartbeats 4000000
/-! exceptions of own classes whose base may be ValueError or KeyError: what is asked of the chain of classes stands as premises -/
namespace K1
open PySem PySem.HandSPX Builtin Builtin.ObjectAttr
/-- what the chain of classes behind the own one must be -/
structure Mro (B : String) (bm : List Value) : Prop where
  b : bm.contains (.type B) = true
  a : bm.contains (.type "AttributeError") = false
  n : bm.contains (.type "NameError") = false
  o : bm.contains (.type "object") = true
  p : ∀ self : Value, refuseLoop self "__setattr__" bm = pure ()
section
variable {prog : Program} {w : World} {A : Around} {E : Value → Shared → Prop} {R : Result → Shared → Prop} {h : Heap} {g : Array GenState} {d : Drawn} {t : Nat} {os : OsState}
variable {nm q : Str} {C N : Addr} {bs bm bmB : List Value} {hdct : Bool} {sn : List Str} {sub : List Value} {ab : Bool} {col : Option Bool} {dd : Option Addr} {k0 k1 k2 k3 k5 : Option Value} {B newId initId : String}
theorem check_newG {M : Model} (F : ExcBaseFacts B newId initId bmB) (T : Mro B bm) {rest : List Value} {Q : Unit → Shared → Prop}
    (hC : h.get? C = some (excClassObj nm q C N bs bm hdct sn sub ab col dd k0 k1 k2 k3 k5 newId)) (hq : Q () ⟨h, g, d, t, os⟩) : wpAny M A (checkBuiltinCall newId ⟨.ref C :: rest, []⟩) Q E ⟨h, g, d, t, os⟩ := by
  have hcont : (Value.ref C :: bm).contains (.type B) = true := by rw [List.contains_cons, T.b, Bool.or_true]
  have hstar := F.noStar
  simp only [checkBuiltinCall, F.newKind, F.newSplit, F.newRow]
  repeat (first | refine wpAny_loadPart_at hC ?_ | (refine wpAny_isSubtype_exc hC ?_; rw [hcont]) | refine wpAny_staticBase_exc hC ?_ | refine wpAny_madeBy_exc hC ?_ | simp only [bne_self_eq_false, Bool.false_eq_true, if_false] | wp_step)
  exact hq
theorem newG (F : ExcBaseFacts B newId initId bmB) (T : Mro B bm) {rest : List Value}
    (hC : h.get? C = some (excClassObj nm q C N bs bm hdct sn sub ab col dd k0 k1 k2 k3 k5 newId))
    (hq : R (.ok (.ret (.ref (h.objs.size + 1)))) ⟨(h.push { cls := .type "tuple", data := .seq rest.toArray }).push
      { cls := .ref C, data := .fields #[.ref h.objs.size, .none, .none, .none, .bool false, .none] }, g, d, t, os⟩) (hrest : rest.length ≤ sizeLine) :
    codeAny (model prog w) A (.builtin newId ⟨.ref C :: rest, []⟩) R ⟨h, g, d, t, os⟩ := by
  have hends := F.ends
  have hcB : (Value.ref C :: bm).contains (.type B) = true := by rw [List.contains_cons, T.b, Bool.or_true]
  have hcA : (Value.ref C :: bm).contains (.type "AttributeError") = false := by rw [List.contains_cons, T.a]; rfl
  have hcN : (Value.ref C :: bm).contains (.type "NameError") = false := by rw [List.contains_cons, T.n]; rfl
  refine codeAny_builtinAt F.entry ?_
  unfold Builtin.«BaseException.__new__»
  refine wpAt_bind ?_
  show wpAt _ _ _ (stack >>= _) _ _ _
  refine wpAt_bind (wpAt_stack fun p below => wpAt_of_wpAny ?_)
  wp_walk
  refine wpAt_of_wpAny ?_
  rw [F.owner]
  repeat (first | with_reducible refine wpAny_madeHere_exc F.canon hC ?_ | with_reducible refine wpAny_loadPart_at hC ?_ | (with_reducible refine wpAny_isSubtype_exc hC ?_; first | rw [hcB] | rw [hcA] | rw [hcN]) | wp_step)
  show R _ _
  rw [Heap.size_push]
  exact hq
theorem type_callG (F : ExcBaseFacts B newId initId bmB) (T : Mro B bm) {rest : List Value} {fI : Addr} {Q : Fin → Shared → Prop}
    (hC : h.get? C = some (excClassObj nm q C N bs bm hdct sn sub ab col dd k0 k1 k2 k3 k5 newId))
    (hi : W.Looks (model prog w) h (typeLookup (.ref C) "__init__") (some (.ref fI))) (hb : ∀ self, W.Looks (model prog w) h (bindSpecial (.ref fI) self) (.ref fI, [self])) (hrest : rest.length ≤ sizeLine)
    (hq : codeAny (model prog w) A (.call (.ref fI) ⟨.ref (h.objs.size + 1) :: rest, []⟩)
      (fun r s' => match r with | .ok (.ret v) => v = .none ∧ Q (.done (.ret (.ref (h.objs.size + 1)))) s' | .ok _ => False | .error e => E e s')
      ⟨(h.push (W.kdv_tup rest)).push (excO C h.objs.size), g, d, t, os⟩) :
    wpAny (model prog w) A (Builtin.«type.__call__» ⟨.ref C :: rest, []⟩) Q E ⟨h, g, d, t, os⟩ := by
  repeat (first | with_reducible refine wpAny_loadPart_at hC ?_ | with_reducible refine wpAny_madeBy_exc hC ?_ | wp_step)
  refine codeAny_call_builtin_code (Code.quiet_builtin _ F.quiet) (check_newG F T hC ?_)
  refine newG F T hC ?_ hrest
  show wpAny _ _ _ _ _ _
  have k : ∀ b o, h.get? b = some o → ((h.push (W.kdv_tup rest)).push (excO C h.objs.size)).get? b = some o := fun b o e => Heap.get?_push_of_some _ (Heap.get?_push_of_some _ e)
  have hC₁ := k _ _ hC
  have hget : ((h.push (W.kdv_tup rest)).push (excO C h.objs.size)).get? (h.objs.size + 1) = some (excO C h.objs.size) := by heap_get
  have hcC : (Value.ref C :: bm).contains (.ref C) = true := by simp
  have i1 := hi.keeps k
  have b1 := (hb (.ref (h.objs.size + 1))).keeps k
  unfold isInstance
  repeat (first | with_reducible refine wpAny_loadPart_at hget ?_ | (with_reducible refine wpAny_isSubtype_exc hC₁ ?_; rw [hcC]) | wp_step)
  show wpAny _ _ (typeLookup (.ref C) _) _ _ _
  refine i1.at ?_
  refine wpAny_holding (wpAny_bind (b1.at ?_))
  refine wpAny_bind (wpAny_call (codeAny_mono hq fun r s' z => ?_))
  rcases r with e | (v | _ | _ | _) <;> first | exact z | exact z.elim | skip
  obtain ⟨rfl, z⟩ := z
  first
    | exact wpAny_pure (wpAny_pure z)
    | (wp_walk; exact z)
theorem call_ownG (F : ExcBaseFacts B newId initId bmB) (T : Mro B bm) {rest : List Value} {fI : Addr}
    (hC : h.get? C = some (excClassObj nm q C N bs bm hdct sn sub ab col dd k0 k1 k2 k3 k5 newId))
    (hi : W.Looks (model prog w) h (typeLookup (.ref C) "__init__") (some (.ref fI))) (hb : ∀ self, W.Looks (model prog w) h (bindSpecial (.ref fI) self) (.ref fI, [self])) (hrest : rest.length ≤ sizeLine)
    (hq : codeAny (model prog w) (A.under (.builtin "type.__call__" ⟨.ref C :: rest, []⟩)) (.call (.ref fI) ⟨.ref (h.objs.size + 1) :: rest, []⟩) (W.InitBack (h.objs.size + 1) R)
      ⟨(h.push (W.kdv_tup rest)).push (excO C h.objs.size), g, d, t, os⟩) :
    codeAny (model prog w) A (.call (.ref C) ⟨rest, []⟩) R ⟨h, g, d, t, os⟩ := by
  have f1 := tc_lookup
  have f2 := tc_bind (.ref C)
  have hTy : (⟨h, g, d, t, os⟩ : Shared).TypeIs (.ref C) "type" := ⟨_, hC, rfl⟩
  refine codeAny_of_tree ?_
  show wpAny _ _ (callAny (.ref C) _) _ _ _
  repeat (any_goals (first | assumption | with_reducible refine wpAny_loadPart_at hC ?_ | wp_step))
  refine ⟨rfl, ?_⟩
  refine codeAny_call_builtin_at (Code.quiet_builtin _ (by decide +kernel)) entry_typeCall (wpAny_check_type_call_sub hC (type_callG F T hC hi hb hrest ?_))
  refine codeAny_mono hq fun r s' z => ?_
  rcases r with e | (v | _ | _ | _) <;> exact z
end
section
variable {prog : Program} {w : World} {A : Around} {E : Value → Shared → Prop} {R : Result → Shared → Prop} {hp : Heap} {g : Array GenState} {d : Drawn} {t : Nat} {os : OsState}
theorem exc_osaG {K : W.Frag} {name : Str} {tk : Tok} {v : Value} {x C : Addr} {fv : Array Value} {cd : ClassData} {B : String} {bm : List Value}
    (X : K.In hp) (hx : hp.get? x = some { cls := .ref C, data := .fields fv }) (hcd : W.clsIn K C = some cd) (hm : cd.mro = .ref C :: bm) (T : Mro B bm) (hh : cd.hasDict = true) (ha : W.findIn K (.ref C) name = some none)
    (hq : ∀ h' tk' dx, (∀ b o, b ≠ x → hp.get? b = some o → h'.get? b = some o) → hp.objs.size ≤ dx → dx ≠ x → h'.get? x = some { cls := .ref C, dict := some dx, data := .fields fv } →
      h'.Ns1 dx (fun y => if y = name then some v else none) → R (.ok (.ret .none)) ⟨h', g, d, tk', os⟩) :
    codeAny (model prog w) A (.call (.builtin "object.__setattr__") ⟨[.ref x, .str name tk, v], []⟩) R ⟨hp, g, d, t, os⟩ := by
  have I : W.InstAt hp x { cls := .ref C, data := .fields fv } C none := ⟨hx, rfl, rfl, trivial⟩
  have SF := F.store_object
  have ne : cd.mro.isEmpty = false := by rw [hm]; rfl
  have hob : cd.mro.contains (.type "object") = true := by rw [hm, List.contains_cons, T.o, Bool.or_true]
  have hxs : x ≠ hp.objs.size := Nat.ne_of_lt (Heap.lt_size hx)
  have sub : W.Looks (model prog w) hp (isInstance (.ref x) (.type "object")) true := I.type.andThen (W.looks_mroIn X (by unfold W.mroIn; rw [hcd, Option.bind_some, if_neg (by rw [ne]; decide), hob]))
  refine codeAny_call_builtin SF.slot.plain SF.entry (@W.check_slot (model prog w) _ _ ⟨hp, g, d, t, os⟩ "object.__setattr__" "object" "__setattr__" (.ref x) [.str name tk, v] [] _ SF.kind SF.split sub (SF.args (.ref x) (.str name tk) v) ?_)
  have hmr : W.Looks (model prog w) hp (mroOf (.ref C)) cd.mro := (W.looks_clsIn X hcd).andThen .now
  have L3 : W.Looks (model prog w) hp (storeTaker? none) none := .now
  have hcls : W.Looks (model prog w) hp (classData C) cd := W.looks_clsIn X hcd
  rw [W.osa_eq, refuse_eq]
  refine wpAny_bind (wpAny_bind (I.type.at (wpAny_bind (hmr.at ?_))))
  rw [hm, refuseLoop_ref, T.p]
  refine wpAny_pure (wpAny_bind (I.type.at (wpAny_bind ((W.looks_findIn X ha).at (wpAny_bind (L3.at ?_))))))
  show wpAny _ _ (storeInOwnDict (.ref x) (.ref C) (.str name tk) name v false) _ _ _
  obtain ⟨nm, bs, mro, ns, qn, hd, sn, sb, ab, col, del⟩ := cd
  dsimp only at hh
  subst hh
  unfold storeInOwnDict ownDictForStores
  repeat (first | with_reducible refine store_in_new ?_ ?_ | with_reducible refine wpAny_loadPart_at hx ?_ | with_reducible refine hcls.at ?_ | wp_step)
  · exact ⟨_, #[], _, (Heap.get?_update_ne _ _ _ _ hxs.symm).trans (Heap.get?_push_at rfl rfl), rfl, fun e he => absurd he (by simp), fun _ => rfl⟩
  · intro h' tk' hn' hs
    have hx₁ : (hp.push { cls := .type "dict", data := .dict #[] }).get? x = some { cls := .ref C, data := .fields fv } := Heap.get?_push_of_some _ hx
    refine hq h' tk' hp.objs.size (fun b o hb ho => ?_) (Nat.le_refl _) hxs.symm ?_ hn'
    · exact (hs.2 b (Nat.ne_of_lt (Heap.lt_size ho))).trans ((Heap.get?_update_ne _ _ _ _ hb).trans (Heap.get?_push_of_some _ ho))
    · exact (hs.2 x hxs).trans (Heap.get?_update_self _ hx₁ rfl)
end
abbrev veT : List Value := [.type "ValueError", .type "Exception", .type "BaseException", .type "object"]
abbrev keT : List Value := [.type "KeyError", .type "LookupError", .type "Exception", .type "BaseException", .type "object"]
theorem mro_ve (c : Addr) : Mro "ValueError" (.ref c :: veT) := ⟨rfl, rfl, rfl, rfl, fun self => by rw [refuseLoop_ref]; exact F.store_ValueError.passes self⟩
theorem ke_pass (self : Value) : refuseLoop self "__setattr__" keT = pure () := by kernel_rfl
theorem mro_ke : Mro "LookupError" keT := ⟨by decide +kernel, by decide +kernel, by decide +kernel, by decide +kernel, ke_pass⟩
end K1
/-! own exception classes whose __init__ stores one field -/

namespace K1
open PySem PySem.W PySem.Calls PyProof.Rows PySem.HandSPX
theorem one_le (v : Value) : [v].length ≤ sizeLine := by
  rw [sizeLine_eq]
  exact (by decide : 1 ≤ 16777216)
theorem ldE {M : Model} {s : Shared} {name : Str} {scope : Scope} {L a : Addr} {cd : Value} {m : Str → Option Value} {x : Str} {pos : Pos} {v : Value} {Q : Value → Shared → Prop} {A : Around} {E : Value → Shared → Prop} (hn : s.heap.Ns L m) (hv : m x = some v) (h : Q v s)
    (hk : scope.kind = .function := by rfl) (hl : (envOfC name scope L a cd).kindOf x = some .local := by rfl) (hd : (x == ("__debug__" : Str)) = false := by decide) :
    wpAny M A (eval (.Name x pos) (envOfC name scope L a cd)) Q E s := wpAny_Name (wpAny_loadName_local hk hl hn hv h) hd
end K1
namespace K1
open PySem PySem.Spec PyProof.Rows L2
theorem relO_one {v : V} {v' : Value} {g : Str} (r : RelV v v') (f : Str) : RelO (List.lookup f [(g, v)]) (if f = g then some v' else none) := by
  by_cases hw : f = g
  · subst hw
    rw [if_pos rfl]
    have q : List.lookup f [(f, v)] = some v := by simp [List.lookup]
    rw [q]
    exact r
  · rw [if_neg hw]
    have qw : (f == g) = false := by simpa using hw
    have q2 : List.lookup f [(g, v)] = none := by simp [List.lookup, qw]
    rw [q2]
    trivial
/-- C(e), C's __init__ storing e as the field g -/
def tMkF (g : Str) (C : Addr) (ta : TA) : L2.St → Hp → XK → Prop := fun σ H Q => ta σ H fun vs H1 => ∃ v, vs = [v] ∧ ∀ d, H1 d = none → Q (.ref C) (some d) (upd H1 d (.xd [(g, v)]))
def tRaiseF (g : Str) (C : Addr) (W : WX) (ta : TA) : TS := fun _ σ H => tMkF g C ta σ H fun cls d H' => W cls d σ H'
def tByF (g : Str) (C : Addr) (a : Addr) (cls : Value) (d : Option Addr) (te : TE) : TE := fun σ H Q => te σ H fun x H1 => x = .ref a ∧ cls = .ref C ∧ ∃ (dd : Addr) (v : V), d = some dd ∧ H1 dd = some (.xd [(g, v)]) ∧ Q v H1
end K1

namespace K1
namespace LAt
open PySem PySem.W PySem.Calls PyProof.Rows PySem.HandSPX
/-- the text of __init__ -/
def iA (p1 p2 : Pos) : Arguments := { posonlyargs := [], args := [{ arg := "self", annotation := none, pos := p1 }, { arg := "at", annotation := none, pos := p2 }], vararg := none, kwonlyargs := [], kw_defaults := [], kwarg := none, defaults := [] }
def iB (q1 q2 q3 q4 : Pos) : List Stmt := [.Assign [.Attribute (.Name "self" q1) "at" q2] (.Name "at" q3) q4]
def iS : Scope := { kind := .function, names := [(PySem.Str.ofString "self", .local), (PySem.Str.ofString "at", .local)], isGenerator := false, isCoroutine := false, more := [] }
/-- what the written part says of the class at C (named cn), of its chain bm, and of its __init__, at fI -/
structure Txt (K : Frag) (mg : Str → Option Value) (cn ql : Str) (bm : List Value) (C fI : Addr) : Prop where
  gC : mg cn = some (.ref C)
  cls : ∃ nm q N bs sn sub ab col dd k0 k1 k2 k3 k5, K.lookup C = some (excClassObj nm q C N bs bm true sn sub ab col dd k0 k1 k2 k3 k5 "ValueError.__new__")
  mr : Mro "ValueError" bm
  sa : findIn K (.ref C) "__setattr__" = some (some (.builtin "object.__setattr__"))
  ga : findIn K (.ref C) "__getattribute__" = some (some (.builtin "BaseException.__getattribute__"))
  gg : findIn K (.ref C) "__getattr__" = some none
  noN : findIn K (.ref C) "at" = some none
  iC : findIn K (.ref C) "__init__" = some (some (.ref fI))
  tC : typeIn K (.ref fI) = some (.type "function")
  kC : keepIn K (.ref C) = true
  exC : subIn K (.ref C) (.type "BaseException") = some true
  tyC : typeIn K (.ref C) = some (.type "type")
  hdC : hasDictIn K C = true
  fn : ∃ (oc : Value) (od : Option Addr) (doc pm : Value) (an : Option Addr) (cdv ct : Value) (osl : Array (Option Value)) (p1 p2 q1 q2 q3 q4 : Pos),
    K.lookup fI = some ⟨oc, od, .func (fnOf "__init__" ql (iA p1 p2) (iB q1 q2 q3 q4) iS .none .none doc pm an cdv ct), osl⟩ ∧ codeIn K cdv ql = true
/-- what __init__ leaves of a fresh exception at x -/
structure InitEnd (h h' : Heap) (x C dx t1 : Addr) (v : Value) : Prop where
  keep : ∀ b o, b ≠ x → h.get? b = some o → h'.get? b = some o
  obj : h'.get? x = some { cls := .ref C, dict := some dx, data := .fields #[.ref t1, .none, .none, .none, .bool false, .none] }
  dbig : h.objs.size ≤ dx
  dne : dx ≠ x
  ns : h'.Ns1 dx (fun y => if y = "at" then some v else none)
structure OwnMade (h h' : Heap) (e C d : Addr) (v : Value) : Prop where
  keep : ∀ b o, h.get? b = some o → h'.get? b = some o
  new : h.objs.size ≤ e
  obj : ∃ oe vs, h'.get? e = some oe ∧ oe.cls = .ref C ∧ oe.dict = some d ∧ oe.data = .fields vs ∧ vs[1]? = some .none
  dbig : h.objs.size ≤ d
  dne : d ≠ e
  ns : h'.Ns1 d (fun y => if y = "at" then some v else none)
section
variable {prog : Program} {w : World} {A : Around} {E : Value → Shared → Prop} {R : Result → Shared → Prop} {s : Shared} {K : Frag} {mg : Str → Option Value} {cn ql : Str} {bm : List Value} {C fI : Addr}
theorem init (T : Txt K mg cn ql bm C fI) {x t0 : Addr} {v : Value} (X : K.In s.heap) (hlim : s.heap.NoLimit) (hx : s.heap.get? x = some (excO C t0)) (hnx : K.lookup x = none) (hroom : A.depth < recursionLimit)
    (hq : ∀ h' tk dx, InitEnd s.heap h' x C dx t0 v → R (.ok (.ret .none)) { s with heap := h', toks := tk }) :
    codeAny (model prog w) A (.call (.ref fI) ⟨[.ref x, v], []⟩) R s := by
  obtain ⟨oc, od, doc, pm, an, cdv, ct, osl, p1, p2, q1, q2, q3, q4, ho, hcd⟩ := T.fn
  obtain ⟨nm, q, N, bs, sn, sub, ab, col, dd, k0, k1, k2, k3, k5, hC⟩ := T.cls
  have hcl : clsIn K C = some { name := nm, bases := bs, mro := .ref C :: bm, ns := N, qualname := q, hasDict := true, slotNames := sn, subclasses := sub, abstract := ab, collection := col, hasDel := false } := by unfold clsIn; rw [hC] <;> rfl
  refine Att.call_fn (binds := [("self", .ref x), ("at", v)]) X hlim ho hcd hroom (BindsTo.of_eq (by first | rfl | with_unfolding_all rfl)) (by first | rfl | decide | with_unfolding_all rfl) (fun s₁ IC => ?_) rfl rfl rfl
  obtain ⟨h₁, tk₁, rfl⟩ := IC.toInCall.same
  have k : ∀ b o, s.heap.get? b = some o → h₁.get? b = some o := IC.toInCall.keep
  have hn := IC.toInCall.ns
  have X₁ : K.In h₁ := X.keeps k
  have hx₁ := k _ _ hx
  show wpAny _ _ (execs _ _) _ _ _
  refine wpAny_execs_cons (plainObj_wpAny_Assign_Attribute ?_)
  refine ldE (v := v) hn (by first | rfl | with_unfolding_all rfl | kernel_rfl) (ldE (v := .ref x) hn (by first | rfl | with_unfolding_all rfl | kernel_rfl) ?_)
  refine set_plain X₁ (ox := excO C t0) (od := none) ⟨hx₁, rfl, rfl, trivial⟩ T.sa ?_
  refine exc_osaG X₁ hx₁ hcl rfl T.mr rfl T.noN (fun h₃ tk₃ dx k₃ dn dne hx₃ hn₃ => ?_)
  show wpAny _ _ (execs _ _) _ _ _
  have z : s.heap.objs.size < h₁.objs.size := hn.lt
  exact wpAny_execs_nil (hq h₃ tk₃ dx ⟨fun b o hb e => k₃ b o hb (k b o e), hx₃, Nat.le_of_lt (Nat.lt_of_lt_of_le z dn), dne, hn₃⟩)
theorem made (T : Txt K mg cn ql bm C fI) {v : Value} (X : K.In s.heap) (hlim : s.heap.NoLimit) (hroom : A.depth + 1 < recursionLimit)
    (hq : ∀ h' tk e d, OwnMade s.heap h' e C d v → R (.ok (.ret (.ref e))) { s with heap := h', toks := tk }) :
    codeAny (model prog w) A (.call (.ref C) ⟨[v], []⟩) R s := by
  obtain ⟨nm, q, N, bs, sn, sub, ab, col, dd, k0, k1, k2, k3, k5, hC⟩ := T.cls
  obtain ⟨hp, g, dr, tk, os⟩ := s
  have k : ∀ b o, hp.get? b = some o → ((hp.push (kdv_tup [v])).push (excO C hp.objs.size)).get? b = some o := fun b o e => Heap.get?_push_of_some _ (Heap.get?_push_of_some _ e)
  have hget : ((hp.push (kdv_tup [v])).push (excO C hp.objs.size)).get? (hp.objs.size + 1) = some (excO C hp.objs.size) := by heap_get
  have hnx : K.lookup (hp.objs.size + 1) = none := by
    cases e : K.lookup (hp.objs.size + 1) with
    | none => rfl
    | some o =>
      have z : hp.get? (hp.objs.size + 1) = some o := X _ _ e
      exact absurd (Nat.lt_of_succ_lt (Heap.lt_size z)) (Nat.lt_irrefl _)
  refine call_ownG F.excBase_ValueError T.mr (X _ _ hC) (looks_findIn X T.iC) (fun self => bind_fn X self T.tC) (one_le v) ?_
  refine init (s := ⟨(hp.push (kdv_tup [v])).push (excO C hp.objs.size), g, dr, tk, os⟩) T (X.keeps k) (hlim.keeps k) hget hnx ?_ fun h' tk' dx ⟨k', hx, dn, dne, hns⟩ => ?_
  · show A.depth + 1 < recursionLimit
    exact hroom
  · have old : ∀ b o, hp.get? b = some o → h'.get? b = some o := fun b o e => k' b o (Nat.ne_of_lt (Nat.lt_succ_of_lt (Heap.lt_size e))) (k b o e)
    have z : hp.objs.size + 1 + 1 ≤ dx := by
      first
        | (simpa only [Heap.size_push] using dn)
        | exact dn
        | (have q := dn; rw [Heap.size_push, Heap.size_push] at q; exact q)
    exact ⟨rfl, hq h' tk' (hp.objs.size + 1) dx ⟨old, Nat.le_succ _, ⟨_, _, hx, rfl, rfl, rfl, rfl⟩, Nat.le_trans (Nat.le_trans (Nat.le_succ _) (Nat.le_succ _)) z, dne, hns⟩⟩
end
end LAt
end K1
namespace K1
open PySem PySem.Spec PyProof.Rows L2
section
variable {X : Cx} {cn ql : Str} {bm : List Value} {C fI : Addr}
theorem pmk_LAt {a : Expr} {ta : TA} {p pos : Pos} {k : Nat} (T : LAt.Txt X.K X.mg cn ql bm C fI) (hr : Room k X.A) (ha : PA X [a] ta) (hg : Gl X cn := by rfl)
    (he : starEach (a :: []) X.env = (false, eval a X.env) :: starEach [] X.env := by rfl) (hpl : (backTo pos (starEach [] X.env)).any (·.1) = false := by rfl) (hdb : (cn == ("__debug__" : Str)) = false := by decide) :
    PMk X (.Call (.Name cn p) [a] [] pos) (tMkF "at" C ta) := by
  intro pins s σ H Q I h
  refine wpAny_Call_Name_kw (ld_glob I hg T.gC ?_ hdb)
  refine PySem.W.callWith_K (h₀ := X.base) I.ok.mod.kin T.kC (thn (ha.run pos pins s σ H _ I h) fun us s1 hh => ?_) he hpl
  obtain ⟨vs, H1, I1, r1, v, ev, q1⟩ := hh
  subst ev
  refine ⟨I1.kIn, ?_⟩
  cases r1 with
  | cons rv rn =>
    rename_i v' us'
    cases rn
    show wpAny _ _ (call (.ref C) [v']) _ _ _
    have hlim := I1.nolimit
    obtain ⟨hp, g, dr, tk, os⟩ := s1
    refine wpAny_call (LAt.made T I1.kIn hlim (by have := hr.dp; omega) fun h' tk' e d M => ?_)
    show MkP X pins σ Q (.ref e) ⟨h', g, dr, tk', os⟩
    obtain ⟨oe, fv, hoe, hc, hd, hdat, h1⟩ := M.obj
    have hns := M.ns
    obtain ⟨G', g1, g2⟩ := restrict h' fun b => decide (b ≠ e)
    have gk : ∀ b, b ≠ e → G'.get? b = h'.get? b := fun b hb => g1 b (decide_eq_true hb)
    have ge : G'.get? e = none := g2 e (by simp)
    have old : ∀ b o, hp.get? b = some o → G'.get? b = some o := fun b o q => (gk b (Nat.ne_of_lt (Nat.lt_of_lt_of_le (Heap.lt_size q) M.new))).trans (M.keep b o q)
    have ob : ObjOk X.prog X.w (upd H1 d (.xd [(("at" : Str), v)])) G' d (.xd [(("at" : Str), v)]) :=
      ⟨_, hns.at (fun o q => (gk d M.dne).trans q), fun f => relO_one rv f⟩
    have J : Inv X pins σ (upd H1 d (.xd [(("at" : Str), v)])) ⟨G', g, dr, tk', os⟩ := I1.laid (t' := tk') old M.dbig ob
    refine ⟨e, oe, fv, ⟨G', g, dr, tk', os⟩, _, .ref C, some d, rfl, J, fun b o q => ?_, ge, hoe, ⟨hc, hd⟩, hdat, h1, ?_, rfl, I1.bare, raises_own T.exC T.tyC, q1 d (I1.hok.fresh M.dbig)⟩
    · by_cases hb : b = e
      · have q' : G'.get? b = some o := q
        rw [hb, ge] at q'; cases q'
      · exact (gk b hb).symm.trans q
    · rw [upd_ne (Ne.symm M.dne)]
      exact I1.hok.fresh M.new
theorem ps_raise_LAt {a : Expr} {ta : TA} {W : WX} {p pos pos2 : Pos} {k : Nat} (hc : X.calm = true) (T : LAt.Txt X.K X.mg cn ql bm C fI) (hr : Room k X.A) (tk : Takes X W) (ha : PA X [a] ta) (hg : Gl X cn := by rfl)
    (he : starEach (a :: []) X.env = (false, eval a X.env) :: starEach [] X.env := by rfl) (hpl : (backTo pos (starEach [] X.env)).any (·.1) = false := by rfl) (hdb : (cn == ("__debug__" : Str)) = false := by decide) :
    PS X (.Raise (some (.Call (.Name cn p) [a] [] pos)) none pos2) (tRaiseF "at" C W ta) := ps_raise hc tk (pmk_LAt T hr ha hg he hpl hdb)
theorem pe_by_LAt {a : Addr} {oe : Obj} {cls : Value} {d : Option Addr} {pn : List (Addr × Obj)} {e : Expr} {te : TE} {pos : Pos} (T : LAt.Txt X.K X.mg cn ql bm C fI) (hz : Zc cls d oe) (hf : ∃ vs, oe.data = .fields vs) (he : PE (X.suite a ((a, oe) :: pn)) e te)
    (hb : attributeBase e "at" X.env (eval e X.env) = eval e X.env := by rfl) :
    PE (X.suite a ((a, oe) :: pn)) (.Attribute e "at" pos) (tByF "at" C a cls d te) := by
  refine ⟨fun pins s σ H Q I h => ?_⟩
  refine attr_of hb (thn (he.run pins s σ H _ I h) fun u s1 hh => ?_)
  obtain ⟨x, H1, I1, rx, ex, ec, dd, v, ed, ea, q⟩ := hh
  subst ex
  obtain rfl : u = Value.ref a := rx
  subst ec
  subst ed
  obtain ⟨ha, _⟩ := I1.pin (a, oe) (List.mem_append_left _ List.mem_cons_self)
  obtain ⟨vs, hd⟩ := hf
  have hx : ObjOk X.prog X.w H1 s1.heap dd (.xd [(("at" : Str), v)]) := I1.hok dd _ ea
  obtain ⟨mA, hns, hr⟩ := hx
  obtain ⟨od, ho, hl⟩ := lookIn_ns hns
  have l : List.lookup ("at" : Str) [(("at" : Str), v)] = some v := by simp [List.lookup]
  obtain ⟨u, hu, ru⟩ := RelO.some_of (v := v) (o := mA "at") (by rw [← l]; exact hr "at")
  have J : PySem.W.InstAt s1.heap a oe C (some od) := ⟨ha, hz.1, by unfold PySem.W.notCls; rw [hd] <;> rfl, by rw [hz.2]; exact ho⟩
  exact HandSPX.exc_get I1.kIn J T.ga T.gg T.exC (PySem.W.findObj_own T.hdC T.noN rfl (by rw [hl, hu])) (handed_of ru) ⟨v, H1, I1.tok _, ru, q⟩
end
end K1

namespace K1
namespace LState
open PySem PySem.W PySem.Calls PyProof.Rows PySem.HandSPX
/-- the text of __init__ -/
def iA (p1 p2 : Pos) : Arguments := { posonlyargs := [], args := [{ arg := "self", annotation := none, pos := p1 }, { arg := "state", annotation := none, pos := p2 }], vararg := none, kwonlyargs := [], kw_defaults := [], kwarg := none, defaults := [] }
def iB (q1 q2 q3 q4 : Pos) : List Stmt := [.Assign [.Attribute (.Name "self" q1) "state" q2] (.Name "state" q3) q4]
def iS : Scope := { kind := .function, names := [(PySem.Str.ofString "self", .local), (PySem.Str.ofString "state", .local)], isGenerator := false, isCoroutine := false, more := [] }
/-- what the written part says of the class at C (named cn), of its chain bm, and of its __init__, at fI -/
structure Txt (K : Frag) (mg : Str → Option Value) (cn ql : Str) (bm : List Value) (C fI : Addr) : Prop where
  gC : mg cn = some (.ref C)
  cls : ∃ nm q N bs sn sub ab col dd k0 k1 k2 k3 k5, K.lookup C = some (excClassObj nm q C N bs bm true sn sub ab col dd k0 k1 k2 k3 k5 "LookupError.__new__")
  mr : Mro "LookupError" bm
  sa : findIn K (.ref C) "__setattr__" = some (some (.builtin "object.__setattr__"))
  ga : findIn K (.ref C) "__getattribute__" = some (some (.builtin "BaseException.__getattribute__"))
  gg : findIn K (.ref C) "__getattr__" = some none
  noN : findIn K (.ref C) "state" = some none
  iC : findIn K (.ref C) "__init__" = some (some (.ref fI))
  tC : typeIn K (.ref fI) = some (.type "function")
  kC : keepIn K (.ref C) = true
  exC : subIn K (.ref C) (.type "BaseException") = some true
  tyC : typeIn K (.ref C) = some (.type "type")
  hdC : hasDictIn K C = true
  fn : ∃ (oc : Value) (od : Option Addr) (doc pm : Value) (an : Option Addr) (cdv ct : Value) (osl : Array (Option Value)) (p1 p2 q1 q2 q3 q4 : Pos),
    K.lookup fI = some ⟨oc, od, .func (fnOf "__init__" ql (iA p1 p2) (iB q1 q2 q3 q4) iS .none .none doc pm an cdv ct), osl⟩ ∧ codeIn K cdv ql = true
/-- what __init__ leaves of a fresh exception at x -/
structure InitEnd (h h' : Heap) (x C dx t1 : Addr) (v : Value) : Prop where
  keep : ∀ b o, b ≠ x → h.get? b = some o → h'.get? b = some o
  obj : h'.get? x = some { cls := .ref C, dict := some dx, data := .fields #[.ref t1, .none, .none, .none, .bool false, .none] }
  dbig : h.objs.size ≤ dx
  dne : dx ≠ x
  ns : h'.Ns1 dx (fun y => if y = "state" then some v else none)
structure OwnMade (h h' : Heap) (e C d : Addr) (v : Value) : Prop where
  keep : ∀ b o, h.get? b = some o → h'.get? b = some o
  new : h.objs.size ≤ e
  obj : ∃ oe vs, h'.get? e = some oe ∧ oe.cls = .ref C ∧ oe.dict = some d ∧ oe.data = .fields vs ∧ vs[1]? = some .none
  dbig : h.objs.size ≤ d
  dne : d ≠ e
  ns : h'.Ns1 d (fun y => if y = "state" then some v else none)
section
variable {prog : Program} {w : World} {A : Around} {E : Value → Shared → Prop} {R : Result → Shared → Prop} {s : Shared} {K : Frag} {mg : Str → Option Value} {cn ql : Str} {bm : List Value} {C fI : Addr}
theorem init (T : Txt K mg cn ql bm C fI) {x t0 : Addr} {v : Value} (X : K.In s.heap) (hlim : s.heap.NoLimit) (hx : s.heap.get? x = some (excO C t0)) (hnx : K.lookup x = none) (hroom : A.depth < recursionLimit)
    (hq : ∀ h' tk dx, InitEnd s.heap h' x C dx t0 v → R (.ok (.ret .none)) { s with heap := h', toks := tk }) :
    codeAny (model prog w) A (.call (.ref fI) ⟨[.ref x, v], []⟩) R s := by
  obtain ⟨oc, od, doc, pm, an, cdv, ct, osl, p1, p2, q1, q2, q3, q4, ho, hcd⟩ := T.fn
  obtain ⟨nm, q, N, bs, sn, sub, ab, col, dd, k0, k1, k2, k3, k5, hC⟩ := T.cls
  have hcl : clsIn K C = some { name := nm, bases := bs, mro := .ref C :: bm, ns := N, qualname := q, hasDict := true, slotNames := sn, subclasses := sub, abstract := ab, collection := col, hasDel := false } := by unfold clsIn; rw [hC] <;> rfl
  refine Att.call_fn (binds := [("self", .ref x), ("state", v)]) X hlim ho hcd hroom (BindsTo.of_eq (by first | rfl | with_unfolding_all rfl)) (by first | rfl | decide | with_unfolding_all rfl) (fun s₁ IC => ?_) rfl rfl rfl
  obtain ⟨h₁, tk₁, rfl⟩ := IC.toInCall.same
  have k : ∀ b o, s.heap.get? b = some o → h₁.get? b = some o := IC.toInCall.keep
  have hn := IC.toInCall.ns
  have X₁ : K.In h₁ := X.keeps k
  have hx₁ := k _ _ hx
  show wpAny _ _ (execs _ _) _ _ _
  refine wpAny_execs_cons (plainObj_wpAny_Assign_Attribute ?_)
  refine ldE (v := v) hn (by first | rfl | with_unfolding_all rfl | kernel_rfl) (ldE (v := .ref x) hn (by first | rfl | with_unfolding_all rfl | kernel_rfl) ?_)
  refine set_plain X₁ (ox := excO C t0) (od := none) ⟨hx₁, rfl, rfl, trivial⟩ T.sa ?_
  refine exc_osaG X₁ hx₁ hcl rfl T.mr rfl T.noN (fun h₃ tk₃ dx k₃ dn dne hx₃ hn₃ => ?_)
  show wpAny _ _ (execs _ _) _ _ _
  have z : s.heap.objs.size < h₁.objs.size := hn.lt
  exact wpAny_execs_nil (hq h₃ tk₃ dx ⟨fun b o hb e => k₃ b o hb (k b o e), hx₃, Nat.le_of_lt (Nat.lt_of_lt_of_le z dn), dne, hn₃⟩)
theorem made (T : Txt K mg cn ql bm C fI) {v : Value} (X : K.In s.heap) (hlim : s.heap.NoLimit) (hroom : A.depth + 1 < recursionLimit)
    (hq : ∀ h' tk e d, OwnMade s.heap h' e C d v → R (.ok (.ret (.ref e))) { s with heap := h', toks := tk }) :
    codeAny (model prog w) A (.call (.ref C) ⟨[v], []⟩) R s := by
  obtain ⟨nm, q, N, bs, sn, sub, ab, col, dd, k0, k1, k2, k3, k5, hC⟩ := T.cls
  obtain ⟨hp, g, dr, tk, os⟩ := s
  have k : ∀ b o, hp.get? b = some o → ((hp.push (kdv_tup [v])).push (excO C hp.objs.size)).get? b = some o := fun b o e => Heap.get?_push_of_some _ (Heap.get?_push_of_some _ e)
  have hget : ((hp.push (kdv_tup [v])).push (excO C hp.objs.size)).get? (hp.objs.size + 1) = some (excO C hp.objs.size) := by heap_get
  have hnx : K.lookup (hp.objs.size + 1) = none := by
    cases e : K.lookup (hp.objs.size + 1) with
    | none => rfl
    | some o =>
      have z : hp.get? (hp.objs.size + 1) = some o := X _ _ e
      exact absurd (Nat.lt_of_succ_lt (Heap.lt_size z)) (Nat.lt_irrefl _)
  refine call_ownG F.excBase_LookupError T.mr (X _ _ hC) (looks_findIn X T.iC) (fun self => bind_fn X self T.tC) (one_le v) ?_
  refine init (s := ⟨(hp.push (kdv_tup [v])).push (excO C hp.objs.size), g, dr, tk, os⟩) T (X.keeps k) (hlim.keeps k) hget hnx ?_ fun h' tk' dx ⟨k', hx, dn, dne, hns⟩ => ?_
  · show A.depth + 1 < recursionLimit
    exact hroom
  · have old : ∀ b o, hp.get? b = some o → h'.get? b = some o := fun b o e => k' b o (Nat.ne_of_lt (Nat.lt_succ_of_lt (Heap.lt_size e))) (k b o e)
    have z : hp.objs.size + 1 + 1 ≤ dx := by
      first
        | (simpa only [Heap.size_push] using dn)
        | exact dn
        | (have q := dn; rw [Heap.size_push, Heap.size_push] at q; exact q)
    exact ⟨rfl, hq h' tk' (hp.objs.size + 1) dx ⟨old, Nat.le_succ _, ⟨_, _, hx, rfl, rfl, rfl, rfl⟩, Nat.le_trans (Nat.le_trans (Nat.le_succ _) (Nat.le_succ _)) z, dne, hns⟩⟩
end
end LState
end K1
namespace K1
open PySem PySem.Spec PyProof.Rows L2
section
variable {X : Cx} {cn ql : Str} {bm : List Value} {C fI : Addr}
theorem pmk_LState {a : Expr} {ta : TA} {p pos : Pos} {k : Nat} (T : LState.Txt X.K X.mg cn ql bm C fI) (hr : Room k X.A) (ha : PA X [a] ta) (hg : Gl X cn := by rfl)
    (he : starEach (a :: []) X.env = (false, eval a X.env) :: starEach [] X.env := by rfl) (hpl : (backTo pos (starEach [] X.env)).any (·.1) = false := by rfl) (hdb : (cn == ("__debug__" : Str)) = false := by decide) :
    PMk X (.Call (.Name cn p) [a] [] pos) (tMkF "state" C ta) := by
  intro pins s σ H Q I h
  refine wpAny_Call_Name_kw (ld_glob I hg T.gC ?_ hdb)
  refine PySem.W.callWith_K (h₀ := X.base) I.ok.mod.kin T.kC (thn (ha.run pos pins s σ H _ I h) fun us s1 hh => ?_) he hpl
  obtain ⟨vs, H1, I1, r1, v, ev, q1⟩ := hh
  subst ev
  refine ⟨I1.kIn, ?_⟩
  cases r1 with
  | cons rv rn =>
    rename_i v' us'
    cases rn
    show wpAny _ _ (call (.ref C) [v']) _ _ _
    have hlim := I1.nolimit
    obtain ⟨hp, g, dr, tk, os⟩ := s1
    refine wpAny_call (LState.made T I1.kIn hlim (by have := hr.dp; omega) fun h' tk' e d M => ?_)
    show MkP X pins σ Q (.ref e) ⟨h', g, dr, tk', os⟩
    obtain ⟨oe, fv, hoe, hc, hd, hdat, h1⟩ := M.obj
    have hns := M.ns
    obtain ⟨G', g1, g2⟩ := restrict h' fun b => decide (b ≠ e)
    have gk : ∀ b, b ≠ e → G'.get? b = h'.get? b := fun b hb => g1 b (decide_eq_true hb)
    have ge : G'.get? e = none := g2 e (by simp)
    have old : ∀ b o, hp.get? b = some o → G'.get? b = some o := fun b o q => (gk b (Nat.ne_of_lt (Nat.lt_of_lt_of_le (Heap.lt_size q) M.new))).trans (M.keep b o q)
    have ob : ObjOk X.prog X.w (upd H1 d (.xd [(("state" : Str), v)])) G' d (.xd [(("state" : Str), v)]) :=
      ⟨_, hns.at (fun o q => (gk d M.dne).trans q), fun f => relO_one rv f⟩
    have J : Inv X pins σ (upd H1 d (.xd [(("state" : Str), v)])) ⟨G', g, dr, tk', os⟩ := I1.laid (t' := tk') old M.dbig ob
    refine ⟨e, oe, fv, ⟨G', g, dr, tk', os⟩, _, .ref C, some d, rfl, J, fun b o q => ?_, ge, hoe, ⟨hc, hd⟩, hdat, h1, ?_, rfl, I1.bare, raises_own T.exC T.tyC, q1 d (I1.hok.fresh M.dbig)⟩
    · by_cases hb : b = e
      · have q' : G'.get? b = some o := q
        rw [hb, ge] at q'; cases q'
      · exact (gk b hb).symm.trans q
    · rw [upd_ne (Ne.symm M.dne)]
      exact I1.hok.fresh M.new
theorem ps_raise_LState {a : Expr} {ta : TA} {W : WX} {p pos pos2 : Pos} {k : Nat} (hc : X.calm = true) (T : LState.Txt X.K X.mg cn ql bm C fI) (hr : Room k X.A) (tk : Takes X W) (ha : PA X [a] ta) (hg : Gl X cn := by rfl)
    (he : starEach (a :: []) X.env = (false, eval a X.env) :: starEach [] X.env := by rfl) (hpl : (backTo pos (starEach [] X.env)).any (·.1) = false := by rfl) (hdb : (cn == ("__debug__" : Str)) = false := by decide) :
    PS X (.Raise (some (.Call (.Name cn p) [a] [] pos)) none pos2) (tRaiseF "state" C W ta) := ps_raise hc tk (pmk_LState T hr ha hg he hpl hdb)
theorem pe_by_LState {a : Addr} {oe : Obj} {cls : Value} {d : Option Addr} {pn : List (Addr × Obj)} {e : Expr} {te : TE} {pos : Pos} (T : LState.Txt X.K X.mg cn ql bm C fI) (hz : Zc cls d oe) (hf : ∃ vs, oe.data = .fields vs) (he : PE (X.suite a ((a, oe) :: pn)) e te)
    (hb : attributeBase e "state" X.env (eval e X.env) = eval e X.env := by rfl) :
    PE (X.suite a ((a, oe) :: pn)) (.Attribute e "state" pos) (tByF "state" C a cls d te) := by
  refine ⟨fun pins s σ H Q I h => ?_⟩
  refine attr_of hb (thn (he.run pins s σ H _ I h) fun u s1 hh => ?_)
  obtain ⟨x, H1, I1, rx, ex, ec, dd, v, ed, ea, q⟩ := hh
  subst ex
  obtain rfl : u = Value.ref a := rx
  subst ec
  subst ed
  obtain ⟨ha, _⟩ := I1.pin (a, oe) (List.mem_append_left _ List.mem_cons_self)
  obtain ⟨vs, hd⟩ := hf
  have hx : ObjOk X.prog X.w H1 s1.heap dd (.xd [(("state" : Str), v)]) := I1.hok dd _ ea
  obtain ⟨mA, hns, hr⟩ := hx
  obtain ⟨od, ho, hl⟩ := lookIn_ns hns
  have l : List.lookup ("state" : Str) [(("state" : Str), v)] = some v := by simp [List.lookup]
  obtain ⟨u, hu, ru⟩ := RelO.some_of (v := v) (o := mA "state") (by rw [← l]; exact hr "state")
  have J : PySem.W.InstAt s1.heap a oe C (some od) := ⟨ha, hz.1, by unfold PySem.W.notCls; rw [hd] <;> rfl, by rw [hz.2]; exact ho⟩
  exact HandSPX.exc_get I1.kIn J T.ga T.gg T.exC (PySem.W.findObj_own T.hdC T.noN rfl (by rw [hl, hu])) (handed_of ru) ⟨v, H1, I1.tok _, ru, q⟩
end
end K1

namespace K1
namespace LDeed
open PySem PySem.W PySem.Calls PyProof.Rows PySem.HandSPX
/-- the text of __init__ -/
def iA (p1 p2 : Pos) : Arguments := { posonlyargs := [], args := [{ arg := "self", annotation := none, pos := p1 }, { arg := "deed", annotation := none, pos := p2 }], vararg := none, kwonlyargs := [], kw_defaults := [], kwarg := none, defaults := [] }
def iB (q1 q2 q3 q4 : Pos) : List Stmt := [.Assign [.Attribute (.Name "self" q1) "deed" q2] (.Name "deed" q3) q4]
def iS : Scope := { kind := .function, names := [(PySem.Str.ofString "self", .local), (PySem.Str.ofString "deed", .local)], isGenerator := false, isCoroutine := false, more := [] }
/-- what the written part says of the class at C (named cn), of its chain bm, and of its __init__, at fI -/
structure Txt (K : Frag) (mg : Str → Option Value) (cn ql : Str) (bm : List Value) (C fI : Addr) : Prop where
  gC : mg cn = some (.ref C)
  cls : ∃ nm q N bs sn sub ab col dd k0 k1 k2 k3 k5, K.lookup C = some (excClassObj nm q C N bs bm true sn sub ab col dd k0 k1 k2 k3 k5 "LookupError.__new__")
  mr : Mro "LookupError" bm
  sa : findIn K (.ref C) "__setattr__" = some (some (.builtin "object.__setattr__"))
  ga : findIn K (.ref C) "__getattribute__" = some (some (.builtin "BaseException.__getattribute__"))
  gg : findIn K (.ref C) "__getattr__" = some none
  noN : findIn K (.ref C) "deed" = some none
  iC : findIn K (.ref C) "__init__" = some (some (.ref fI))
  tC : typeIn K (.ref fI) = some (.type "function")
  kC : keepIn K (.ref C) = true
  exC : subIn K (.ref C) (.type "BaseException") = some true
  tyC : typeIn K (.ref C) = some (.type "type")
  hdC : hasDictIn K C = true
  fn : ∃ (oc : Value) (od : Option Addr) (doc pm : Value) (an : Option Addr) (cdv ct : Value) (osl : Array (Option Value)) (p1 p2 q1 q2 q3 q4 : Pos),
    K.lookup fI = some ⟨oc, od, .func (fnOf "__init__" ql (iA p1 p2) (iB q1 q2 q3 q4) iS .none .none doc pm an cdv ct), osl⟩ ∧ codeIn K cdv ql = true
/-- what __init__ leaves of a fresh exception at x -/
structure InitEnd (h h' : Heap) (x C dx t1 : Addr) (v : Value) : Prop where
  keep : ∀ b o, b ≠ x → h.get? b = some o → h'.get? b = some o
  obj : h'.get? x = some { cls := .ref C, dict := some dx, data := .fields #[.ref t1, .none, .none, .none, .bool false, .none] }
  dbig : h.objs.size ≤ dx
  dne : dx ≠ x
  ns : h'.Ns1 dx (fun y => if y = "deed" then some v else none)
structure OwnMade (h h' : Heap) (e C d : Addr) (v : Value) : Prop where
  keep : ∀ b o, h.get? b = some o → h'.get? b = some o
  new : h.objs.size ≤ e
  obj : ∃ oe vs, h'.get? e = some oe ∧ oe.cls = .ref C ∧ oe.dict = some d ∧ oe.data = .fields vs ∧ vs[1]? = some .none
  dbig : h.objs.size ≤ d
  dne : d ≠ e
  ns : h'.Ns1 d (fun y => if y = "deed" then some v else none)
section
variable {prog : Program} {w : World} {A : Around} {E : Value → Shared → Prop} {R : Result → Shared → Prop} {s : Shared} {K : Frag} {mg : Str → Option Value} {cn ql : Str} {bm : List Value} {C fI : Addr}
theorem init (T : Txt K mg cn ql bm C fI) {x t0 : Addr} {v : Value} (X : K.In s.heap) (hlim : s.heap.NoLimit) (hx : s.heap.get? x = some (excO C t0)) (hnx : K.lookup x = none) (hroom : A.depth < recursionLimit)
    (hq : ∀ h' tk dx, InitEnd s.heap h' x C dx t0 v → R (.ok (.ret .none)) { s with heap := h', toks := tk }) :
    codeAny (model prog w) A (.call (.ref fI) ⟨[.ref x, v], []⟩) R s := by
  obtain ⟨oc, od, doc, pm, an, cdv, ct, osl, p1, p2, q1, q2, q3, q4, ho, hcd⟩ := T.fn
  obtain ⟨nm, q, N, bs, sn, sub, ab, col, dd, k0, k1, k2, k3, k5, hC⟩ := T.cls
  have hcl : clsIn K C = some { name := nm, bases := bs, mro := .ref C :: bm, ns := N, qualname := q, hasDict := true, slotNames := sn, subclasses := sub, abstract := ab, collection := col, hasDel := false } := by unfold clsIn; rw [hC] <;> rfl
  refine Att.call_fn (binds := [("self", .ref x), ("deed", v)]) X hlim ho hcd hroom (BindsTo.of_eq (by first | rfl | with_unfolding_all rfl)) (by first | rfl | decide | with_unfolding_all rfl) (fun s₁ IC => ?_) rfl rfl rfl
  obtain ⟨h₁, tk₁, rfl⟩ := IC.toInCall.same
  have k : ∀ b o, s.heap.get? b = some o → h₁.get? b = some o := IC.toInCall.keep
  have hn := IC.toInCall.ns
  have X₁ : K.In h₁ := X.keeps k
  have hx₁ := k _ _ hx
  show wpAny _ _ (execs _ _) _ _ _
  refine wpAny_execs_cons (plainObj_wpAny_Assign_Attribute ?_)
  refine ldE (v := v) hn (by first | rfl | with_unfolding_all rfl | kernel_rfl) (ldE (v := .ref x) hn (by first | rfl | with_unfolding_all rfl | kernel_rfl) ?_)
  refine set_plain X₁ (ox := excO C t0) (od := none) ⟨hx₁, rfl, rfl, trivial⟩ T.sa ?_
  refine exc_osaG X₁ hx₁ hcl rfl T.mr rfl T.noN (fun h₃ tk₃ dx k₃ dn dne hx₃ hn₃ => ?_)
  show wpAny _ _ (execs _ _) _ _ _
  have z : s.heap.objs.size < h₁.objs.size := hn.lt
  exact wpAny_execs_nil (hq h₃ tk₃ dx ⟨fun b o hb e => k₃ b o hb (k b o e), hx₃, Nat.le_of_lt (Nat.lt_of_lt_of_le z dn), dne, hn₃⟩)
theorem made (T : Txt K mg cn ql bm C fI) {v : Value} (X : K.In s.heap) (hlim : s.heap.NoLimit) (hroom : A.depth + 1 < recursionLimit)
    (hq : ∀ h' tk e d, OwnMade s.heap h' e C d v → R (.ok (.ret (.ref e))) { s with heap := h', toks := tk }) :
    codeAny (model prog w) A (.call (.ref C) ⟨[v], []⟩) R s := by
  obtain ⟨nm, q, N, bs, sn, sub, ab, col, dd, k0, k1, k2, k3, k5, hC⟩ := T.cls
  obtain ⟨hp, g, dr, tk, os⟩ := s
  have k : ∀ b o, hp.get? b = some o → ((hp.push (kdv_tup [v])).push (excO C hp.objs.size)).get? b = some o := fun b o e => Heap.get?_push_of_some _ (Heap.get?_push_of_some _ e)
  have hget : ((hp.push (kdv_tup [v])).push (excO C hp.objs.size)).get? (hp.objs.size + 1) = some (excO C hp.objs.size) := by heap_get
  have hnx : K.lookup (hp.objs.size + 1) = none := by
    cases e : K.lookup (hp.objs.size + 1) with
    | none => rfl
    | some o =>
      have z : hp.get? (hp.objs.size + 1) = some o := X _ _ e
      exact absurd (Nat.lt_of_succ_lt (Heap.lt_size z)) (Nat.lt_irrefl _)
  refine call_ownG F.excBase_LookupError T.mr (X _ _ hC) (looks_findIn X T.iC) (fun self => bind_fn X self T.tC) (one_le v) ?_
  refine init (s := ⟨(hp.push (kdv_tup [v])).push (excO C hp.objs.size), g, dr, tk, os⟩) T (X.keeps k) (hlim.keeps k) hget hnx ?_ fun h' tk' dx ⟨k', hx, dn, dne, hns⟩ => ?_
  · show A.depth + 1 < recursionLimit
    exact hroom
  · have old : ∀ b o, hp.get? b = some o → h'.get? b = some o := fun b o e => k' b o (Nat.ne_of_lt (Nat.lt_succ_of_lt (Heap.lt_size e))) (k b o e)
    have z : hp.objs.size + 1 + 1 ≤ dx := by
      first
        | (simpa only [Heap.size_push] using dn)
        | exact dn
        | (have q := dn; rw [Heap.size_push, Heap.size_push] at q; exact q)
    exact ⟨rfl, hq h' tk' (hp.objs.size + 1) dx ⟨old, Nat.le_succ _, ⟨_, _, hx, rfl, rfl, rfl, rfl⟩, Nat.le_trans (Nat.le_trans (Nat.le_succ _) (Nat.le_succ _)) z, dne, hns⟩⟩
end
end LDeed
end K1
namespace K1
open PySem PySem.Spec PyProof.Rows L2
section
variable {X : Cx} {cn ql : Str} {bm : List Value} {C fI : Addr}
theorem pmk_LDeed {a : Expr} {ta : TA} {p pos : Pos} {k : Nat} (T : LDeed.Txt X.K X.mg cn ql bm C fI) (hr : Room k X.A) (ha : PA X [a] ta) (hg : Gl X cn := by rfl)
    (he : starEach (a :: []) X.env = (false, eval a X.env) :: starEach [] X.env := by rfl) (hpl : (backTo pos (starEach [] X.env)).any (·.1) = false := by rfl) (hdb : (cn == ("__debug__" : Str)) = false := by decide) :
    PMk X (.Call (.Name cn p) [a] [] pos) (tMkF "deed" C ta) := by
  intro pins s σ H Q I h
  refine wpAny_Call_Name_kw (ld_glob I hg T.gC ?_ hdb)
  refine PySem.W.callWith_K (h₀ := X.base) I.ok.mod.kin T.kC (thn (ha.run pos pins s σ H _ I h) fun us s1 hh => ?_) he hpl
  obtain ⟨vs, H1, I1, r1, v, ev, q1⟩ := hh
  subst ev
  refine ⟨I1.kIn, ?_⟩
  cases r1 with
  | cons rv rn =>
    rename_i v' us'
    cases rn
    show wpAny _ _ (call (.ref C) [v']) _ _ _
    have hlim := I1.nolimit
    obtain ⟨hp, g, dr, tk, os⟩ := s1
    refine wpAny_call (LDeed.made T I1.kIn hlim (by have := hr.dp; omega) fun h' tk' e d M => ?_)
    show MkP X pins σ Q (.ref e) ⟨h', g, dr, tk', os⟩
    obtain ⟨oe, fv, hoe, hc, hd, hdat, h1⟩ := M.obj
    have hns := M.ns
    obtain ⟨G', g1, g2⟩ := restrict h' fun b => decide (b ≠ e)
    have gk : ∀ b, b ≠ e → G'.get? b = h'.get? b := fun b hb => g1 b (decide_eq_true hb)
    have ge : G'.get? e = none := g2 e (by simp)
    have old : ∀ b o, hp.get? b = some o → G'.get? b = some o := fun b o q => (gk b (Nat.ne_of_lt (Nat.lt_of_lt_of_le (Heap.lt_size q) M.new))).trans (M.keep b o q)
    have ob : ObjOk X.prog X.w (upd H1 d (.xd [(("deed" : Str), v)])) G' d (.xd [(("deed" : Str), v)]) :=
      ⟨_, hns.at (fun o q => (gk d M.dne).trans q), fun f => relO_one rv f⟩
    have J : Inv X pins σ (upd H1 d (.xd [(("deed" : Str), v)])) ⟨G', g, dr, tk', os⟩ := I1.laid (t' := tk') old M.dbig ob
    refine ⟨e, oe, fv, ⟨G', g, dr, tk', os⟩, _, .ref C, some d, rfl, J, fun b o q => ?_, ge, hoe, ⟨hc, hd⟩, hdat, h1, ?_, rfl, I1.bare, raises_own T.exC T.tyC, q1 d (I1.hok.fresh M.dbig)⟩
    · by_cases hb : b = e
      · have q' : G'.get? b = some o := q
        rw [hb, ge] at q'; cases q'
      · exact (gk b hb).symm.trans q
    · rw [upd_ne (Ne.symm M.dne)]
      exact I1.hok.fresh M.new
theorem ps_raise_LDeed {a : Expr} {ta : TA} {W : WX} {p pos pos2 : Pos} {k : Nat} (hc : X.calm = true) (T : LDeed.Txt X.K X.mg cn ql bm C fI) (hr : Room k X.A) (tk : Takes X W) (ha : PA X [a] ta) (hg : Gl X cn := by rfl)
    (he : starEach (a :: []) X.env = (false, eval a X.env) :: starEach [] X.env := by rfl) (hpl : (backTo pos (starEach [] X.env)).any (·.1) = false := by rfl) (hdb : (cn == ("__debug__" : Str)) = false := by decide) :
    PS X (.Raise (some (.Call (.Name cn p) [a] [] pos)) none pos2) (tRaiseF "deed" C W ta) := ps_raise hc tk (pmk_LDeed T hr ha hg he hpl hdb)
theorem pe_by_LDeed {a : Addr} {oe : Obj} {cls : Value} {d : Option Addr} {pn : List (Addr × Obj)} {e : Expr} {te : TE} {pos : Pos} (T : LDeed.Txt X.K X.mg cn ql bm C fI) (hz : Zc cls d oe) (hf : ∃ vs, oe.data = .fields vs) (he : PE (X.suite a ((a, oe) :: pn)) e te)
    (hb : attributeBase e "deed" X.env (eval e X.env) = eval e X.env := by rfl) :
    PE (X.suite a ((a, oe) :: pn)) (.Attribute e "deed" pos) (tByF "deed" C a cls d te) := by
  refine ⟨fun pins s σ H Q I h => ?_⟩
  refine attr_of hb (thn (he.run pins s σ H _ I h) fun u s1 hh => ?_)
  obtain ⟨x, H1, I1, rx, ex, ec, dd, v, ed, ea, q⟩ := hh
  subst ex
  obtain rfl : u = Value.ref a := rx
  subst ec
  subst ed
  obtain ⟨ha, _⟩ := I1.pin (a, oe) (List.mem_append_left _ List.mem_cons_self)
  obtain ⟨vs, hd⟩ := hf
  have hx : ObjOk X.prog X.w H1 s1.heap dd (.xd [(("deed" : Str), v)]) := I1.hok dd _ ea
  obtain ⟨mA, hns, hr⟩ := hx
  obtain ⟨od, ho, hl⟩ := lookIn_ns hns
  have l : List.lookup ("deed" : Str) [(("deed" : Str), v)] = some v := by simp [List.lookup]
  obtain ⟨u, hu, ru⟩ := RelO.some_of (v := v) (o := mA "deed") (by rw [← l]; exact hr "deed")
  have J : PySem.W.InstAt s1.heap a oe C (some od) := ⟨ha, hz.1, by unfold PySem.W.notCls; rw [hd] <;> rfl, by rw [hz.2]; exact ho⟩
  exact HandSPX.exc_get I1.kIn J T.ga T.gg T.exC (PySem.W.findObj_own T.hdC T.noN rfl (by rw [hl, hu])) (handed_of ru) ⟨v, H1, I1.tok _, ru, q⟩
end
end K1
/-! enumerate over a tuple, repr of data of any depth, isinstance of a held exception -/
namespace K1
open PySem PySem.Spec PyProof.Rows L2
theorem meets_enum1 {v : Value} {o : Obj} {H : Heap → Prop} (B : Begins v o H) :
    Meets (Builtin.«enumerate.__new__» ⟨[.type "enumerate", v], []⟩) (fun _ R s => H s.heap ∧
      R (.ok (.ret (.ref (s.heap.push o).objs.size))) { s with heap := (s.heap.push o).push { cls := .type "enumerate", data := .fields #[.none, .bool false, .ref s.heap.objs.size, rawInt 0, .none, .none] } }) :=
  .of_wp fun prog w A R s h => by
    obtain ⟨hp, g, d, tk, os⟩ := s
    obtain ⟨h1, h⟩ := h
    have hsub := sub_enumerate
    have q1 : ∀ {A' : Around} {E : Value → Shared → Prop} {Q : Value → Shared → Prop}, Q (.ref hp.objs.size) ⟨hp.push o, g, d, tk, os⟩ → wpAny (model prog w) A' (pyIter v) Q E ⟨hp, g, d, tk, os⟩ :=
      fun q => B.iter prog w _ _ ⟨hp, g, d, tk, os⟩ _ h1 q
    wp_walk using q1
    refine wpAny_stack_any fun st => wpAny_pure ?_
    split
    · rename_i c _ _ _ _ _
      cases (c == Value.type "enumerate") <;> (wp_walk using q1; exact ⟨_, rfl, h⟩)
    · wp_walk using q1
      exact ⟨_, rfl, h⟩
theorem enum_begins1 {prog : Program} {w : World} {A : Around} {E : Value → Shared → Prop} {s : Shared} {v : Value} {o : Obj} {H : Heap → Prop} {Q : Value → Shared → Prop} (B : Begins v o H) (h1 : H s.heap)
    (h : ∀ h', IsEnum h' (s.heap.objs.size + 1) s.heap.objs.size 0 .none → h'.get? s.heap.objs.size = some o → h'.objs.size = s.heap.objs.size + 2 →
      (∀ b o, s.heap.get? b = some o → h'.get? b = some o) → Q (.ref (s.heap.objs.size + 1)) { s with heap := h' }) :
    wpAny (model prog w) A (call (.type "enumerate") [v]) Q E s := by
  refine callType_new F.called_enumerate (by decide) (F.typeCall_enumerate_1 _) (F.newCall_enumerate_1 _) (fun obj => F.args_object_init_2 obj _) F.entry_enumerate_new (meets_enum1 B) ⟨h1, ?_⟩
  have hz : (s.heap.push o).objs.size = s.heap.objs.size + 1 := Heap.size_push ..
  show _ ∧ _
  rw [hz]
  have he := Heap.get?_push_size (s.heap.push o) (o := { cls := .type "enumerate", data := .fields #[.none, .bool false, .ref s.heap.objs.size, rawInt 0, .none, .none] }) rfl
  rw [hz] at he
  exact ⟨⟨_, he, rfl⟩, h _ he (Heap.get?_push_of_some _ (Heap.get?_push_size _ B.free)) (by rw [Heap.size_push, hz]) fun b o x => Heap.get?_push_of_some _ (Heap.get?_push_of_some _ x)⟩
/-- the tuple at a, each item in a new pair -/
def IteT (K : PySem.W.Frag) (a : Addr) : It :=
  ⟨fun i H => ∃ (xs : List V) (x : V), SqT K H a xs ∧ xs[i]? = some x, fun i H v H' => ∃ T x, v = .ref T ∧ H T = none ∧ H' = upd H T (.tup [.int (i : Nat), x]) ∧ ∀ xs, SqT K H a xs → xs[i]? = some x, fun i H => ∃ xs : List V, SqT K H a xs ∧ xs.length ≤ i⟩
theorem turn_enumT {P : Program} {w : World} {K : PySem.W.Frag} {elts : List Expr} {kk : Nat} {tpos : Pos} (a e it : Addr) :
    Turn P w K (.Tuple elts kk tpos) (IteT K a) [e, it] e (fun i h => (∃ old, IsEnum h e it ((i : Nat) : Int) old) ∧ h.IsTupleIter it a i ∧ e ≠ it ∧ e ≠ a ∧ a ≠ it) where
  mem := by simp
  obj := fun i h st b hb => by
    obtain ⟨⟨old, he⟩, ⟨o, ho, hc, hd⟩, _⟩ := st
    rcases (show b = e ∨ b = it by simpa using hb) with z | z
    · rw [z]; exact ⟨_, he, fun v q => nomatch q⟩
    · rw [z]; exact ⟨o, ho, fun v q => by rw [hd] at q; cases q⟩
  keep := fun i h h' st k => let ⟨⟨old, he⟩, hi, hne⟩ := st; ⟨⟨old, k e (by simp) _ he⟩, hi.at fun o q => k it (by simp) o q, hne⟩
  item := by
    intro X hP hw hK hc i pins s σ H E I hf st hg
    subst hP hw hK
    obtain ⟨⟨old, he⟩, hit, hne, nea, nai⟩ := st
    obtain ⟨xs, x, hq, hx⟩ := hg
    obtain ⟨its, rv, p, hz⟩ := I.tuple hq
    obtain ⟨u, hu, ru⟩ := rv.get hx
    have hil' := (List.getElem?_eq_some_iff.mp hu).1
    have hel : e < s.heap.objs.size := Heap.lt_size he
    have hil : it < s.heap.objs.size := by obtain ⟨_, q, _⟩ := hit; exact Heap.lt_size q
    have D := Draws.tuple (prog := X.prog) (w := X.w) (A := X.A.in1) (show X.A.in1.handled = none from I.ok.hd hc) it a nai its.toArray
    refine wpAny_pyNext_enum_itemD D he ⟨hit, (show s.heap.IsTuple a its.toArray from p)⟩ (by simpa using hil') hne (by simp [hne, nea]) fun y h' tk hy ho hst hT hsz hk => ?_
    have ey : y = u := by
      have z : its[i]? = some y := by simpa using hy
      rw [hu] at z
      exact (Option.some.inj z).symm
    subst ey
    refine ⟨_, rfl, wpAny_letOwnedTupleGo_enum (s := { s with heap := h', toks := tk + 1 }) ho fun h'' he' sb => ?_⟩
    have hT2 : h''.get? s.heap.objs.size = some { cls := .type "tuple", data := .seq #[.int i tk, y] } := (sb.2 _ (Nat.ne_of_gt hel)).trans hT
    have new : ObjOk X.prog X.w (upd H s.heap.objs.size (.tup [.int (i : Nat), x])) h'' s.heap.objs.size (.tup [.int (i : Nat), x]) :=
      ⟨by show 2 ≤ sizeLine; decide, [.int i tk, y], .cons ⟨_, rfl⟩ (.cons ru .nil), ⟨_, hT2, rfl, _, rfl⟩⟩
    have I1 : Inv X pins σ (upd H s.heap.objs.size (.tup [.int (i : Nat), x])) { s with heap := h'', toks := tk + 1 } :=
      I.turnedNew (ch := [e, it]) (fun b ob hb q => (sb.2 b (fun z => hb (by simp [z]))).trans (hk b ob (fun z => hb (by simp [z])) (fun z => hb (by simp [z])) q)) hf (Nat.le_refl _) new
    refine ⟨.ref s.heap.objs.size, _, I1, rfl, ⟨_, x, rfl, I.hok.fresh (Nat.le_refl _), rfl, fun ys hy => by rw [I.tuple_inj hy hq]; exact hx⟩, ⟨⟨y, ?_⟩, hst.1.at fun o q => (sb.2 it (Ne.symm hne)).trans q, hne, nea, nai⟩, fun b hb => ?_⟩
    · have e1 : ((i + 1 : Nat) : Int) = (i : Int) + 1 := by omega
      rw [e1]; exact he'
    · have hb' : b < s.heap.objs.size := by
        rcases (show b = e ∨ b = it by simpa using hb) with z | z
        · rw [z]; exact hel
        · rw [z]; exact hil
      rw [upd_ne (Nat.ne_of_lt hb')]
      exact (hf b hb).1
  done := by
    intro X hP hw hK hc i pins s σ H E I hf st hg
    subst hP hw hK
    obtain ⟨⟨old, he⟩, hit, hne, nea, nai⟩ := st
    obtain ⟨xs, hq, hx⟩ := hg
    obtain ⟨its, rv, p, hz⟩ := I.tuple hq
    obtain ⟨f0, f1, f2, f3, f4, f5⟩ := hf it (by simp)
    have hl := rv.length
    have hTs : s.TypeIs (.ref e) "enumerate" := ⟨_, he, rfl⟩
    unfold pyNext
    refine wpAny_bind (wpAny_attempt (wpAny_callSpecial?_slot (name := Str.ofString "__next__") hTs F.slot_enumerate_next
      (wpAny_call_entry F.slot_enumerate_next hTs F.entry_enumerate_next ?_ (F.args_enumerate_next_1 _))))
    show wpAny _ _ (field (.ref e) 2 >>= _) _ _ _
    refine wpAny_bind (wpAny_field he rfl (x := .ref it) rfl ?_)
    refine wpAny_bind (wpAny_nextOf_tuple_end (show X.A.in1.handled = none from I.ok.hd hc) hit (show s.heap.IsTuple a its.toArray from p) (by simp; omega) fun h' y eb hx' => ?_)
    obtain ⟨o, ho, hc'⟩ := hx'
    refine wpAny_bind (wpAny_isInstance (T := "StopIteration") (b := true) ⟨o, ho, hc'⟩ isSubtype_stop ?_)
    exact wpAny_pure ⟨rfl, I.turned (t' := s.toks) (fun b o hb q => eb b o hb q) f0 f1 f3 f4 f5⟩
  self := fun A i s Q E st h => let ⟨⟨_, he⟩, _⟩ := st; wpAny_pyIter_enum he h
def iEnumA (K : PySem.W.Frag) (ta : TA) : TI := fun σ H R => ta σ H fun vs H1 => ∃ a, vs = [.ref a] ∧ ((∃ xs, SqL K H1 a xs ∧ R (Ite K a) H1) ∨ (∃ xs, SqT K H1 a xs ∧ R (IteT K a) H1))
theorem pi_enumA {X : Cx} {e : Expr} {ta : TA} {p pos tpos : Pos} {elts : List Expr} {kk : Nat} (hg : Gl X "enumerate") (hm : X.mg "enumerate" = none) (ha : PA X [e] ta) (hs : starEach [e] X.env = [(false, eval e X.env)] := by rfl) :
    PI X (.Tuple elts kk tpos) (.Call (.Name "enumerate" p) [e] [] pos) (iEnumA X.K ta) := by
  refine ⟨fun pins s σ H R I h => ?_⟩
  refine Call_ (ld_blt I hg hm boot_enumerate (PyProof.Rows.callWith_type1 (thn (ha.run pos pins s σ H _ I h) fun us s1 ⟨vs, H1, I1, r1, q1⟩ => ?_) hs rfl))
  obtain ⟨a, ex, q⟩ := q1
  subst ex
  cases r1 with
  | cons r rr =>
    cases rr
    cases r
    have big : ∀ b ∈ [s1.heap.objs.size + 1, s1.heap.objs.size], s1.heap.objs.size ≤ b := fun b hb => by
      rcases (show b = s1.heap.objs.size + 1 ∨ b = s1.heap.objs.size by simpa using hb) with z | z
      · rw [z]; exact Nat.le_add_right _ _
      · rw [z]; exact Nat.le_refl _
    rcases q with ⟨xs, hq, q⟩ | ⟨xs, hq, q⟩
    · obtain ⟨its, rv, p', hz⟩ := I1.list hq
      refine call_enumerate_list p'.isList fun h' he hit hsz hk => wpAny_pyIter_enum he ?_
      have I2 : Inv X pins σ H1 { s1 with heap := h' } := I1.kept (t' := s1.toks) hk
      exact ⟨s1.heap.objs.size + 1, [s1.heap.objs.size + 1, s1.heap.objs.size], _, _, H1, rfl, I2, turn_enum a (s1.heap.objs.size + 1) s1.heap.objs.size, ⟨⟨.none, he⟩, hit, Nat.succ_ne_self _⟩, fun b hb => I1.fpOk (big b hb) (I1.hok.fresh (big b hb)), q⟩
    · obtain ⟨its, rv, p', hz⟩ := I1.tuple hq
      have hp : s1.heap.IsTuple a its.toArray := p'
      have hal : a < s1.heap.objs.size := by obtain ⟨_, q, _⟩ := hp; exact Heap.lt_size q
      refine enum_begins1 (begins_tuple a its.toArray) hp fun h' he hit hsz hk => wpAny_pyIter_enum he ?_
      have I2 : Inv X pins σ H1 { s1 with heap := h' } := I1.kept (t' := s1.toks) hk
      exact ⟨s1.heap.objs.size + 1, [s1.heap.objs.size + 1, s1.heap.objs.size], _, _, H1, rfl, I2, turn_enumT a (s1.heap.objs.size + 1) s1.heap.objs.size, ⟨⟨.none, he⟩, ⟨_, hit, rfl, rfl⟩, Nat.succ_ne_self _, Nat.ne_of_gt (Nat.lt_succ_of_lt hal), Nat.ne_of_lt hal⟩, fun b hb => I1.fpOk (big b hb) (I1.hok.fresh (big b hb)), q⟩
section
variable {K : PySem.W.Frag} {a : Addr} {xs : List V} {g : TG} {tb : TS} {D : Ends} {σ : L2.St} {H : Hp}
theorem for_enumL (Pv : Nat → L2.St → Hp → Prop) (h0 : Pv 0 σ H) (hl : ∀ i σ H, i ≤ xs.length → Pv i σ H → SqL K H a xs)
    (hs : ∀ i x T σ H, xs[i]? = some x → H T = none → Pv i σ H → g (.ref T) σ (upd H T (.tup [.int (i : Nat), x])) fun σ2 H2 => tb { D with nx := Pv (i + 1), ct := Pv (i + 1), bk := D.nx } σ2 H2) (hd : ∀ σ H, Pv xs.length σ H → D.nx σ H) :
    ∃ W : Nat → Nat → L2.St → Hp → Prop, (∃ m, W 0 m σ H) ∧ ∀ i m σ H, W i m σ H →
      ((Ite K a).stop i H ∧ D.nx σ H) ∨ ((Ite K a).go i H ∧ ∃ N : L2.St → Hp → Prop, (∀ σ' H', N σ' H' → ∃ m', m' < m ∧ W (i + 1) m' σ' H') ∧ ∀ x H', (Ite K a).yld i H x H' → g x σ H' fun σ2 H2 => tb { D with nx := N, ct := N, bk := D.nx } σ2 H2) := by
  refine ⟨fun i m σ H => m = xs.length - i ∧ i ≤ xs.length ∧ Pv i σ H, ⟨xs.length, by simp, Nat.zero_le _, h0⟩, ?_⟩
  rintro i m σ H ⟨rfl, hi, p⟩
  have q := hl i σ H hi p
  by_cases hlt : i < xs.length
  · refine .inr ⟨⟨xs, xs[i], q, by simp [hlt]⟩, Pv (i + 1), fun σ' H' p' => ⟨xs.length - (i + 1), by omega, rfl, hlt, p'⟩, fun x H' y => ?_⟩
    obtain ⟨T, x', e1, e2, e3, e4⟩ := y
    subst e1 e3
    exact hs i x' T σ H (e4 xs q) e2 p
  · have e : i = xs.length := by omega
    subst e
    exact .inl ⟨⟨xs, q, Nat.le_refl _⟩, hd σ H p⟩
theorem for_enumT (Pv : Nat → L2.St → Hp → Prop) (h0 : Pv 0 σ H) (hl : ∀ i σ H, i ≤ xs.length → Pv i σ H → SqT K H a xs)
    (hs : ∀ i x T σ H, xs[i]? = some x → H T = none → Pv i σ H → g (.ref T) σ (upd H T (.tup [.int (i : Nat), x])) fun σ2 H2 => tb { D with nx := Pv (i + 1), ct := Pv (i + 1), bk := D.nx } σ2 H2) (hd : ∀ σ H, Pv xs.length σ H → D.nx σ H) :
    ∃ W : Nat → Nat → L2.St → Hp → Prop, (∃ m, W 0 m σ H) ∧ ∀ i m σ H, W i m σ H →
      ((IteT K a).stop i H ∧ D.nx σ H) ∨ ((IteT K a).go i H ∧ ∃ N : L2.St → Hp → Prop, (∀ σ' H', N σ' H' → ∃ m', m' < m ∧ W (i + 1) m' σ' H') ∧ ∀ x H', (IteT K a).yld i H x H' → g x σ H' fun σ2 H2 => tb { D with nx := N, ct := N, bk := D.nx } σ2 H2) := by
  refine ⟨fun i m σ H => m = xs.length - i ∧ i ≤ xs.length ∧ Pv i σ H, ⟨xs.length, by simp, Nat.zero_le _, h0⟩, ?_⟩
  rintro i m σ H ⟨rfl, hi, p⟩
  have q := hl i σ H hi p
  by_cases hlt : i < xs.length
  · refine .inr ⟨⟨xs, xs[i], q, by simp [hlt]⟩, Pv (i + 1), fun σ' H' p' => ⟨xs.length - (i + 1), by omega, rfl, hlt, p'⟩, fun x H' y => ?_⟩
    obtain ⟨T, x', e1, e2, e3, e4⟩ := y
    subst e1 e3
    exact hs i x' T σ H (e4 xs q) e2 p
  · have e : i = xs.length := by omega
    subst e
    exact .inl ⟨⟨xs, q, Nat.le_refl _⟩, hd σ H p⟩
end
/-! ### repr -/
/-- repr of what is no object -/
def rReprS : List V → Hp → VK → Prop := fun xs H Q => ∃ v, xs = [v] ∧ ((v = .non ∧ Q (.str "None") H) ∨ (∃ b : Bool, v = .bl b ∧ Q (.str (if b then "True" else "False")) H) ∨ (∃ i : Int, v = .int i ∧ i.natAbs.log2 < 1920 ∧ Q (.str (toString i)) H) ∨
  ∃ x : Str, v = .str x ∧ (reprText x).length ≤ sizeLine ∧ Q (.str (reprText x)) H)
theorem call_reprS {X : Cx} : CallR X (.builtin "repr") rReprS := by
  intro pins s σ H xs us Q I r h
  obtain ⟨v, rfl, h⟩ := h
  obtain ⟨u, rfl, rv⟩ := vals1 r
  rcases h with ⟨rfl, q⟩ | ⟨b, rfl, q⟩ | ⟨i, rfl, hz, q⟩ | ⟨x, rfl, hz, q⟩
  · cases rv
    exact PySem.P.repr_of_none ⟨.str _, H, I.tok _, ⟨_, rfl⟩, q⟩
  · cases rv
    exact PySem.P.repr_of_bool ⟨.str _, H, I.tok _, ⟨_, rfl⟩, q⟩
  · obtain ⟨t, rfl⟩ := rv
    exact PySem.P.repr_of_int hz ⟨.str _, H, I.tok _, ⟨_, rfl⟩, q⟩
  · obtain ⟨t, rfl⟩ := rv
    exact PySem.P.repr_of_str (t := t) ⟨.str _, H, I.tok _, ⟨_, rfl⟩, q⟩ hz
/-- repr of a list or tuple: plain data without dicts -/
def rRepr (K : PySem.W.Frag) : List V → Hp → VK → Prop := fun xs H Q => ∃ a d, xs = [.ref a] ∧ Dp K H (.ref a) d ∧ PyData.showable d = true ∧ PyData.hasDict d = false ∧ PyData.depth d ≤ 40 ∧ d.shown.length ≤ sizeLine ∧ Q (.str d.shown) H
theorem call_repr {X : Cx} (hg : X.A.guards = some []) (hu : X.A.units + 64 < cLine) : CallR X (.builtin "repr") (rRepr X.K) := by
  intro pins s σ H xs us Q I r h
  obtain ⟨a, d, rfl, hd, h1, h2, h3, h4, q⟩ := h
  obtain ⟨u, rfl, rv⟩ := vals1 r
  obtain ⟨as, R⟩ := Dp.reads I d _ u hd rv
  cases rv
  exact repr_of_reads' R h1 (PyData.noDict_hsm h2) hg (by omega) (fun _ _ e => e) (fun h' u' tk k => ⟨.str _, H, I.kept (t' := tk) k, ⟨_, rfl⟩, q⟩) h4
/-! ### isinstance of the exception that a suite holds, its own dict at d -/
structure ExcK (K : PySem.W.Frag) (C : Addr) : Prop where
  cl : (PySem.W.clsIn K C).isSome = true
  ga : PySem.W.findIn K (.ref C) "__getattribute__" = some (some (.builtin "BaseException.__getattribute__"))
  gt : PySem.W.findIn K (.ref C) "__getattr__" = some none
  sb : PySem.W.subIn K (.ref C) (.type "BaseException") = some true
  ca : PySem.W.findIn K (.ref C) "__class__" = some (some (.builtin "object.__class__"))
  sp : PySem.W.specialIn K (.builtin "object.__class__") "__get__" = some (some (.builtin "getset_descriptor.__get__"))
  tk : PySem.W.takesIn K (.builtin "object.__class__") = some true
  mo : PySem.W.mroIn K C (.type "object") = some true
def rIsD (K : PySem.W.Frag) (C d a : Addr) : List V → Hp → VK → Prop := fun xs H Q => ∃ (N : Addr) (g : Str) (v : V) (b : Bool), xs = [.ref a, .ref N] ∧ H d = some (.xd [(g, v)]) ∧ PySem.W.kitOne K (.ref C) (.ref N) = some b ∧ Q (.bl b) H
theorem call_isD {X : Cx} {a C d : Addr} {oe : Obj} {pn : List (Addr × Obj)} (T : ExcK X.K C) (hz : Zc (.ref C) (some d) oe) (hf : ∃ vs, oe.data = .fields vs) : CallR (X.suite a ((a, oe) :: pn)) (.builtin "isinstance") (rIsD X.K C d a) := by
  intro pins s σ H xs us Q I r h
  obtain ⟨N, g, v, b, rfl, hx, e, q⟩ := h
  obtain ⟨u1, u2, rfl, r1, r2⟩ := vals2 r
  cases r1
  cases r2
  obtain ⟨hget, _⟩ := I.pin (a, oe) (List.mem_append.mpr (.inl List.mem_cons_self))
  obtain ⟨vs, hd⟩ := hf
  have hx' : ObjOk X.prog X.w H s.heap d (.xd [(g, v)]) := I.hok d _ hx
  obtain ⟨mA, hns, hr⟩ := hx'
  obtain ⟨od, ho, hl⟩ := lookIn_ns hns
  have J : PySem.W.InstAt s.heap a oe C (some od) := ⟨hget, hz.1, by unfold PySem.W.notCls; rw [hd] <;> rfl, by rw [hz.2]; exact ho⟩
  exact PySem.W.kia_one (PySem.W.kitx_exc T.cl T.ga T.gt T.sb T.ca T.sp T.tk T.mo) I.kIn J e (fun z => nomatch z) fun tk => ⟨.bl b, H, I.kept (t' := tk) fun _ _ z => z, rfl, q⟩
/-! ### defs whose bodies show lists: they are told where nothing is being shown -/
structure FnG (P : Program) (w : World) (K : PySem.W.Frag) (mg : Str → Option Value) (base : Heap) (k : Nat) (f : Addr) (fd : FuncData) (ps : List Str) (sp : Sp) : Prop where
  len : ∀ vs H Q E, sp vs H Q E → vs.length = ps.length
  run : ∀ (A : Around) (outer : List Env) (s : Shared) (H : Hp) (args : Args) (us : List Value) (vs : List V) (Q : VK) (E : XK), Room k A → A.guards = some [] → Env0 P w K mg base A outer s H → BindsTo s fd args (ps.zip us) → Vals vs us → sp vs H Q E →
    codeAny (model P w) A (.call (.ref f) args) (CR CX0 outer P w H s Q E) s
end K1
/-! the text by places; short words for calls -/
namespace K1
open PySem PySem.Spec PyProof.Rows L2
def top (i : Nat) : Stmt := PySem.Challenge.pw_houseslessties_k02_whole_commuting_deeds.main.body.getD i (.Pass ⟨0, 0, 0, 0⟩)
abbrev sWhole : Stmt := top 8
abbrev sBelow : Stmt := top 9
abbrev sSeq : Stmt := top 10
abbrev sFnb : Stmt := top 11
abbrev sMInit : Stmt := inClass (top 16) 0
abbrev sMEq : Stmt := inClass (top 16) 1
abbrev sIsTab : Stmt := top 17
abbrev sChk : Stmt := top 18
abbrev sNeedS : Stmt := top 19
abbrev sFault : Stmt := top 20
abbrev sRow : Stmt := top 21
abbrev sMoved : Stmt := top 22
abbrev sLed : Stmt := top 23
abbrev sFirst : Stmt := top 24
abbrev sOrbit : Stmt := top 25
abbrev sBox : Stmt := top 31
abbrev sTake : Stmt := top 32
abbrev sPick : Stmt := top 33
abbrev sTabs : Stmt := top 34
abbrev sRun : Stmt := top 35
abbrev sLog : Stmt := top 36
abbrev sHeard : Stmt := top 40
abbrev sLaw : Stmt := top 43
abbrev sCPaper : Stmt := top 27
abbrev sNeedC : Stmt := top 28
abbrev sPower : Stmt := top 29
abbrev sComm : Stmt := top 37
abbrev sPaper : Stmt := top 38
abbrev sLOrbit : Stmt := top 39
abbrev sLPower : Stmt := top 41
abbrev sShuf : Stmt := top 42
/-- a def of the text: its object, its name in the module, how its arguments bind -/
structure Df (K : PySem.W.Frag) (mg : Str → Option Value) (x : Str) (st : Stmt) (ps : List Str) (f : Addr) (fd : FuncData) : Prop where
  F : Fun K x x st f fd
  g : mg x = some (.ref f)
  b : Binds K fd ps []
section
variable {X : Cx} {CX : CXT} {k : Nat} {f : Addr} {fd : FuncData} {ps : List Str} {sp : Sp} {E : XK} {x : Str} {st : Stmt} {p pos : Pos} {e : Expr} {es : List Expr} {t : TA}
/-- x(e, ..) -/
theorem pc (D : Df X.K X.mg x st ps f fd) (G : FnOk X.prog X.w X.K X.mg X.base CX k f fd ps sp) (hr : Room k X.A) (hx : Passes CX X E) (ha : PA X (e :: es) t) (hg : Gl X x := by rfl)
    (hdb : (x == ("__debug__" : Str)) = false := by decide) (he : starEach (e :: es) X.env = (false, eval e X.env) :: starEach es X.env := by rfl) (hpl : (backTo pos (starEach es X.env)).any (·.1) = false := by rfl) :
    PE X (.Call (.Name x p) (e :: es) [] pos) (tCall sp [] E t) := pe_call G hr hg D.g D.F.kp D.b .nil hx ha hdb he hpl
end
/-- what a def that raises may let out at its caller's def -/
theorem pass1 {X : Cx} {E : XK} (tk : Takes X (fun cls d _ H => E cls d H)) : Passes (L2.CX X.prog X.w) X E := passes_call tk fun _ _ _ _ h => h
/-! ### tests by cases -/
theorem ifD {c : Bool} {A B : Prop} (h1 : c = true → A) (h2 : c = false → B) : if c = true then A else B := by
  cases c with
  | true => exact iteT (h1 rfl)
  | false => exact iteF (h2 rfl)
theorem eqv {α : Type} {P : α → Prop} {a b : α} (e : a = b) (h : P b) : P a := e ▸ h
theorem qbl {Q : VK} {H : Hp} {a b : Bool} (e : a = b) (h : Q (.bl b) H) : Q (.bl a) H := e ▸ h
/-! ### values of any kind -/
/-- what a value is: some items for a list or a tuple, none for the others -/
inductive KV (K : PySem.W.Frag) (H : Hp) : V → Option (List V) → Prop
  | int (i : Int) : KV K H (.int i) none
  | bl (b : Bool) : KV K H (.bl b) none
  | non : KV K H .non none
  | str (x : Str) : KV K H (.str x) none
  | lst {a : Addr} {xs : List V} (h : H a = some (.lst xs)) : KV K H (.ref a) (some xs)
  | tup {a : Addr} {xs : List V} (h : H a = some (.tup xs)) : KV K H (.ref a) (some xs)
theorem KV.same {K : PySem.W.Frag} {H H' : Hp} {v : V} {o : Option (List V)} (h : KV K H v o) (s : Same H H') : KV K H' v o := by
  cases h with
  | int i => exact .int i
  | bl b => exact .bl b
  | non => exact .non
  | str x => exact .str x
  | lst h => exact .lst (s _ _ h)
  | tup h => exact .tup (s _ _ h)
def wholeB : V → Bool | .int _ => true | _ => false
def boolB : V → Bool | .bl _ => true | _ => false
inductive Tg where | i | b | n | s | l | t
def Tg.nm : Tg → String | .i => "int" | .b => "bool" | .n => "NoneType" | .s => "str" | .l => "list" | .t => "tuple"
def Tg.isI : Tg → Bool | .i => true | _ => false
def Tg.isB : Tg → Bool | .b => true | _ => false
def Tg.isQ : Tg → Bool | .l => true | .t => true | _ => false
theorem KV.ty {K : PySem.W.Frag} {H : Hp} {v : V} {o : Option (List V)} (h : KV K H v o) : ∃ g : Tg, TyX K H v (.type g.nm) ∧ g.isI = wholeB v ∧ g.isB = boolB v ∧ g.isQ = o.isSome := by
  cases h with
  | int i => exact ⟨.i, .base (.int i), rfl, rfl, rfl⟩
  | bl b => exact ⟨.b, .base (.bl b), rfl, rfl, rfl⟩
  | non => exact ⟨.n, .base .non, rfl, rfl, rfl⟩
  | str x => exact ⟨.s, .base (.str x), rfl, rfl, rfl⟩
  | lst h => exact ⟨.l, .base (.lst h), rfl, rfl, rfl⟩
  | tup h => exact ⟨.t, .base (.tup h), rfl, rfl, rfl⟩
theorem kit_I (K : PySem.W.Frag) (g : Tg) : PySem.W.kitOne K (.type g.nm) (.type "int") = some (g.isI || g.isB) := by
  cases g <;> exact kit_ty (by decide +kernel)
theorem kit_B (K : PySem.W.Frag) (g : Tg) : PySem.W.kitOne K (.type g.nm) (.type "bool") = some g.isB := by
  cases g <;> exact kit_ty (by decide +kernel)
def Tg.isL : Tg → Bool | .l => true | _ => false
def Tg.isT : Tg → Bool | .t => true | _ => false
theorem kit_L (K : PySem.W.Frag) (g : Tg) : PySem.W.kitOne K (.type g.nm) (.type "list") = some g.isL := by
  cases g <;> exact kit_ty (by decide +kernel)
theorem kit_T (K : PySem.W.Frag) (g : Tg) : PySem.W.kitOne K (.type g.nm) (.type "tuple") = some g.isT := by
  cases g <;> exact kit_ty (by decide +kernel)
theorem kit_Q (K : PySem.W.Frag) (g : Tg) : PySem.W.kitAny K (.type g.nm) [.type "list", .type "tuple"] = some g.isQ := by
  refine kitAny_cons (kit_L K g) (fun e => kitAny_cons (kit_T K g) (fun e2 => ?_) fun e2 => ?_) fun e => ?_
  all_goals (cases g <;> first | rfl | (cases e; done) | (cases e2; done))
/-- the built-in names that the text uses are the built-in ones -/
structure Bt (mg : Str → Option Value) : Prop where
  isinstance : mg "isinstance" = none
  int : mg "int" = none
  bool : mg "bool" = none
  list : mg "list" = none
  tuple : mg "tuple" = none
  len : mg "len" = none
  enumerate : mg "enumerate" = none
  range : mg "range" = none
  sorted : mg "sorted" = none
  set : mg "set" = none
  repr : mg "repr" = none
  abs : mg "abs" = none
  min : mg "min" = none
  max : mg "max" = none
end K1
namespace K1
open PySem PySem.Spec PyProof.Rows L2
def belowB (v : V) (lim : Int) : Bool := match v with | .int i => decide (0 ≤ i) && decide (i < lim) | _ => false
def seqB (o : Option (List V)) (least most : Int) : Bool := match o with | some xs => decide (least ≤ (xs.length : Int)) && decide ((xs.length : Int) ≤ most) | none => false
def spWhole (K : PySem.W.Frag) : Sp := fun vs H Q _ => ∃ v o, vs = [v] ∧ KV K H v o ∧ Q (.bl (wholeB v)) H
def spBelow (K : PySem.W.Frag) : Sp := fun vs H Q _ => ∃ v o lim, vs = [v, .int lim] ∧ KV K H v o ∧ Q (.bl (belowB v lim)) H
def spSeq (K : PySem.W.Frag) : Sp := fun vs H Q _ => ∃ v o least most, vs = [v, .int least, .int most] ∧ KV K H v o ∧ ∀ H', Same H H' → Q (.bl (seqB o least most)) H'
section
variable {P : Program} {w : World} {K : PySem.W.Frag} {mg : Str → Option Value} {base : Heap}
theorem scW : FnScope ["value"] ["value"] (defScope sWhole) := ⟨rfl, rfl, rfl, by decide +kernel, rfl, by decide +kernel, by decide +kernel⟩
theorem ok_whole {f : Addr} {fd : FuncData} (D : Df K mg "is_whole" sWhole ["value"] f fd) (B : Bt mg) : FnOk P w K mg base CX0 1 f fd ["value"] (spWhole K) := by
  refine D.F.ok scW (fun vs H Q E h => ?_) (fun cdv A outer s H vs Q E hr h => ?_)
  · obtain ⟨v, o, rfl, _⟩ := h
    rfl
  · obtain ⟨v, o, rfl, kv, q⟩ := h
    obtain ⟨g, ty, eI, eB, eQ⟩ := kv.ty
    refine ⟨_, pss_one (ps_ret (pe_and (pe_callB call_isi (by rfl) B.isinstance (by decide +kernel) (pa_cons (pv 0) (pa_cons (pe_bltn (v := .ty "int") (by rfl) B.int PyProof.Rows.boot_int rfl) pa_nil)))
      (pe_one (pe_not (pe_callB call_isi (by rfl) B.isinstance (by decide +kernel) (pa_cons (pv 0) (pa_cons (pe_bltn (v := .ty "bool") (by rfl) B.bool PyProof.Rows.boot_bool rfl) pa_nil))))))), ?_⟩
    refine ⟨_, rfl, _, _, _, _, _, rfl, .ty _, ty, kit_I K g, _, rfl, ifD (fun e => ?_) fun e => ?_⟩
    · refine ⟨_, rfl, _, _, _, _, _, rfl, .ty _, ty, kit_B K g, _, rfl, ?_⟩
      have z : (!g.isB) = wholeB v := by rw [← eI]; cases g <;> first | rfl | cases e
      exact qbl z q
    · have z : false = wholeB v := by rw [← eI]; cases g <;> first | rfl | cases e
      exact qbl z q
theorem scB : FnScope ["value", "limit"] ["value", "limit"] (defScope sBelow) := ⟨rfl, rfl, rfl, by decide +kernel, rfl, by decide +kernel, by decide +kernel⟩
theorem ok_below {f fW : Addr} {fd fdW : FuncData} (D : Df K mg "is_below" sBelow ["value", "limit"] f fd) (DW : Df K mg "is_whole" sWhole ["value"] fW fdW) (B : Bt mg) : FnOk P w K mg base CX0 2 f fd ["value", "limit"] (spBelow K) := by
  have GW : FnOk P w K mg base CX0 1 fW fdW ["value"] (spWhole K) := ok_whole DW B
  refine D.F.ok scB (fun vs H Q E h => ?_) (fun cdv A outer s H vs Q E hr h => ?_)
  · obtain ⟨v, o, lim, rfl, _⟩ := h
    rfl
  · obtain ⟨v, o, lim, rfl, kv, q⟩ := h
    refine ⟨_, pss_one (ps_ret (pe_and (pc DW GW hr pass0 (pa_cons (pv 0) pa_nil)) (pe_one (pe_chain op_le op_lt pe_int (pv 0) (pv 1))))), ?_⟩
    refine ⟨_, rfl, _, _, rfl, kv, _, rfl, ifD (fun e => ?_) fun e => ?_⟩
    · obtain ⟨i, rfl⟩ : ∃ i, v = .int i := by
        cases v <;> first | exact ⟨_, rfl⟩ | cases e
      refine ⟨_, rfl, _, _, rfl, rfl, _, rfl, ifD (fun e2 => ?_) fun e2 => ?_⟩
      · refine ⟨_, rfl, _, _, rfl, rfl, ?_⟩
        have z : decide (i < lim) = belowB (.int i) lim := by
          show _ = (decide (0 ≤ i) && decide (i < lim))
          rw [e2]; rfl
        exact qbl z q
      · have z : false = belowB (.int i) lim := by
          show _ = (decide (0 ≤ i) && decide (i < lim))
          rw [e2]; rfl
        exact qbl z q
    · have z : false = belowB v lim := by cases v <;> first | rfl | cases e
      exact qbl z q
theorem scS : FnScope ["value", "least", "most"] ["value", "least", "most"] (defScope sSeq) := ⟨rfl, rfl, rfl, by decide +kernel, rfl, by decide +kernel, by decide +kernel⟩
theorem ok_seq {f : Addr} {fd : FuncData} (D : Df K mg "is_sequence" sSeq ["value", "least", "most"] f fd) (B : Bt mg) : FnOk P w K mg base CX0 1 f fd ["value", "least", "most"] (spSeq K) := by
  refine D.F.ok scS (fun vs H Q E h => ?_) (fun cdv A outer s H vs Q E hr h => ?_)
  · obtain ⟨v, o, least, most, rfl, _⟩ := h
    rfl
  · obtain ⟨v, o, least, most, rfl, kv, q⟩ := h
    refine ⟨_, pss_one (ps_ret (pe_and (pe_callB call_isiT (by rfl) B.isinstance (by decide +kernel) (pa_cons (pv 0) (pa_cons (pe_tup (pa_cons (pe_bltn (v := .ty "list") (by rfl) B.list PyProof.Rows.boot_list rfl) (pa_cons (pe_bltn (v := .ty "tuple") (by rfl) B.tuple PyProof.Rows.boot_tuple rfl) pa_nil))) pa_nil)))
      (pe_one (pe_chain op_le op_le (pv 1) (pe_callB call_len_seq (by rfl) B.len PySem.boot_len (pa_cons (pv 0) pa_nil)) (pv 2))))), ?_⟩
    refine ⟨_, rfl, (by show 2 ≤ sizeLine; decide), fun p hp => ?_⟩
    have sm : Same H (upd H p (.tup [.ty "list", .ty "tuple"])) := fun b o e => by rw [upd_ne (ne_of_none e hp)]; exact e
    obtain ⟨g, ty, eI, eB, eQ⟩ := (kv.same sm).ty
    refine ⟨_, _, _, _, _, _, rfl, upd_same, .cons (.ty _) (.cons (.ty _) .nil), ty, kit_Q K g, _, rfl, ifD (fun e => ?_) fun e => ?_⟩
    · have kv2 := kv.same sm
      generalize hH1 : upd H p (.tup [.ty "list", .ty "tuple"]) = H1 at *
      rw [eQ] at e
      have q2 := q _ sm
      cases kv with
      | lst h =>
        rename_i a xs
        have h1 : H1 a = some (.lst xs) := sm _ _ h
        refine ⟨_, rfl, _, rfl, _, _, rfl, .inl (SqL.of h1), _, _, rfl, rfl, _, rfl, ifD (fun e2 => ?_) fun e2 => ?_⟩
        · refine ⟨_, rfl, _, _, rfl, rfl, qbl ?_ q2⟩
          show _ = (decide (least ≤ (xs.length : Int)) && decide ((xs.length : Int) ≤ most))
          rw [e2]; rfl
        · refine qbl ?_ q2
          show _ = (decide (least ≤ (xs.length : Int)) && decide ((xs.length : Int) ≤ most))
          rw [e2]; rfl
      | tup h =>
        rename_i a xs
        have h1 : H1 a = some (.tup xs) := sm _ _ h
        refine ⟨_, rfl, _, rfl, _, _, rfl, .inr (SqT.of h1), _, _, rfl, rfl, _, rfl, ifD (fun e2 => ?_) fun e2 => ?_⟩
        · refine ⟨_, rfl, _, _, rfl, rfl, qbl ?_ q2⟩
          show _ = (decide (least ≤ (xs.length : Int)) && decide ((xs.length : Int) ≤ most))
          rw [e2]; rfl
        · refine qbl ?_ q2
          show _ = (decide (least ≤ (xs.length : Int)) && decide ((xs.length : Int) ≤ most))
          rw [e2]; rfl
      | _ => cases e
    · rw [eQ] at e
      have z : o = none := by cases o <;> first | rfl | cases e
      subst z
      exact q _ sm
end
end K1
namespace K1
open PySem PySem.Spec PyProof.Rows L2
def fnb (xs : List V) (lim : Int) : V := match xs.findIdx? (fun x => !belowB x lim) with | some i => .int (i : Nat) | none => .non
theorem fnb_at {xs : List V} {lim : Int} {i : Nat} {x : V} (hx : xs[i]? = some x) (hn : belowB x lim = false) (hb : ∀ j y, j < i → xs[j]? = some y → belowB y lim = true) : fnb xs lim = .int (i : Nat) := by
  obtain ⟨hi, ex⟩ := List.getElem?_eq_some_iff.mp hx
  have e : xs.findIdx? (fun x => !belowB x lim) = some i := by
    rw [List.findIdx?_eq_some_iff_getElem]
    refine ⟨hi, by rw [ex, hn]; rfl, fun j hj => ?_⟩
    have hj' : j < xs.length := Nat.lt_trans hj hi
    have := hb j xs[j] hj (by simp [hj'])
    simp [this]
  unfold fnb
  rw [e]
theorem fnb_none {xs : List V} {lim : Int} (hb : ∀ j y, j < xs.length → xs[j]? = some y → belowB y lim = true) : fnb xs lim = .non := by
  have e : xs.findIdx? (fun x => !belowB x lim) = none := by
    rw [List.findIdx?_eq_none_iff]
    intro x hx
    obtain ⟨j, hj, e⟩ := List.mem_iff_getElem.mp hx
    have := hb j xs[j] hj (by simp [hj])
    rw [← e, this]; rfl
  unfold fnb
  rw [e]
/-- a list or tuple at a -/
def SeqA (H : Hp) (a : Addr) (xs : List V) : Prop := H a = some (.lst xs) ∨ H a = some (.tup xs)
theorem SeqA.same {H H' : Hp} {a : Addr} {xs : List V} (h : SeqA H a xs) (s : Same H H') : SeqA H' a xs := h.elim (fun h => .inl (s _ _ h)) fun h => .inr (s _ _ h)
theorem SeqA.kv {K : PySem.W.Frag} {H : Hp} {a : Addr} {xs : List V} (h : SeqA H a xs) : KV K H (.ref a) (some xs) := h.elim .lst .tup
/-- each item is of some kind -/
def Kinds (K : PySem.W.Frag) (H : Hp) (xs : List V) : Prop := ∀ x ∈ xs, ∃ o, KV K H x o
theorem Kinds.same {K : PySem.W.Frag} {H H' : Hp} {xs : List V} (h : Kinds K H xs) (s : Same H H') : Kinds K H' xs := fun x hx => let ⟨o, k⟩ := h x hx; ⟨o, k.same s⟩
theorem same_new {H : Hp} {p : Addr} {o : HO} (hp : H p = none) : Same H (upd H p o) := fun b u e => by rw [upd_ne (ne_of_none e hp)]; exact e
def spFnb (K : PySem.W.Frag) : Sp := fun vs H Q _ => ∃ a xs lim, vs = [.ref a, .int lim] ∧ SeqA H a xs ∧ Kinds K H xs ∧ ∀ H', Same H H' → Q (fnb xs lim) H'
section
variable {P : Program} {w : World} {K : PySem.W.Frag} {mg : Str → Option Value} {base : Heap}
theorem scF : FnScope ["items", "limit", "at", "item"] ["items", "limit"] (defScope sFnb) := ⟨rfl, rfl, rfl, by decide +kernel, rfl, by decide +kernel, by decide +kernel⟩
/-- one turn of the search, and the way behind it: the iterator is a list's or a tuple's -/
theorem ok_fnb {f fB : Addr} {fd fdB : FuncData} (D : Df K mg "first_not_below" sFnb ["items", "limit"] f fd) (DB : Df K mg "is_below" sBelow ["value", "limit"] fB fdB) (B : Bt mg)
    (GB : FnOk P w K mg base CX0 2 fB fdB ["value", "limit"] (spBelow K)) : FnOk P w K mg base CX0 3 f fd ["items", "limit"] (spFnb K) := by
  refine D.F.ok scF (fun vs H Q E h => ?_) (fun cdv A outer s H vs Q E hr h => ?_)
  · obtain ⟨a, xs, lim, rfl, _⟩ := h
    rfl
  · obtain ⟨a, xs, lim, rfl, hS, hK, q⟩ := h
    refine ⟨_, pss_cons (ps_for PassesOwn.never rfl (pi_enumA (by rfl) B.enumerate (pa_cons (pv 0) pa_nil))
        (pg_tup rfl (pgs_cons (pg_name (i := 2) scF.nd rfl (.inl rfl)) (pgs_cons (pg_name (i := 3) scF.nd rfl (.inl rfl)) pgs_nil)))
        (pss_one (ps_if (pt_not (pt_val (pc DB GB hr pass0 (pa_cons (pv 3) (pa_cons (pv 1) pa_nil))))) (pss_one (ps_ret (pv 2))) pss_nil)))
      (pss_one (ps_ret pe_non)), ?_⟩
    let Pv : Nat → L2.St → Hp → Prop := fun i σ H' => ∃ v2 v3 : Option V, σ = [some (.ref a), some (.int lim), v2, v3] ∧ Same H H' ∧ ∀ j y, j < i → xs[j]? = some y → belowB y lim = true
    have end_ : ∀ σ H', Pv xs.length σ H' → Q .non H' := fun σ H' ⟨v2, v3, _, sm, hb⟩ => by
      have := q H' sm
      rw [fnb_none hb] at this
      exact this
    refine ⟨_, rfl, a, rfl, ?_⟩
    rcases hS with hS | hS
    · refine .inl ⟨xs, SqL.of hS, for_enumL (K := K) Pv ⟨none, none, rfl, Same.refl H, fun j y hj => absurd hj (Nat.not_lt_zero _)⟩ (fun i σ H' _ ⟨_, _, _, sm, _⟩ => SqL.of (sm _ _ hS)) ?_ end_⟩
      rintro i x T σ H' hx hT ⟨v2, v3, rfl, sm, hb⟩
      have sm2 : Same H (upd H' T (.tup [.int (i : Nat), x])) := sm.trans (same_new hT)
      obtain ⟨o, kv⟩ := hK x (List.mem_of_getElem? hx)
      refine ⟨T, _, rfl, SqT.of upd_same, rfl, _, _, rfl, _, _, rfl, rfl, ?_⟩
      refine ⟨_, rfl, _, rfl, _, o, lim, rfl, kv.same sm2, _, rfl, ?_⟩
      refine ifD (fun e => ?_) fun e => ?_
      · refine ⟨_, rfl, ?_⟩
        have e' : belowB x lim = false := by simpa using e
        have := q _ sm2
        rw [fnb_at hx e' hb] at this
        exact this
      · have e' : belowB x lim = true := by simpa using e
        refine ⟨_, _, rfl, sm2, fun j y hj hy => ?_⟩
        rcases Nat.lt_succ_iff_lt_or_eq.mp hj with z | z
        · exact hb j y z hy
        · subst z
          rw [hx] at hy
          rw [← Option.some.inj hy]
          exact e'
    · refine .inr ⟨xs, SqT.of hS, for_enumT (K := K) Pv ⟨none, none, rfl, Same.refl H, fun j y hj => absurd hj (Nat.not_lt_zero _)⟩ (fun i σ H' _ ⟨_, _, _, sm, _⟩ => SqT.of (sm _ _ hS)) ?_ end_⟩
      rintro i x T σ H' hx hT ⟨v2, v3, rfl, sm, hb⟩
      have sm2 : Same H (upd H' T (.tup [.int (i : Nat), x])) := sm.trans (same_new hT)
      obtain ⟨o, kv⟩ := hK x (List.mem_of_getElem? hx)
      refine ⟨T, _, rfl, SqT.of upd_same, rfl, _, _, rfl, _, _, rfl, rfl, ?_⟩
      refine ⟨_, rfl, _, rfl, _, o, lim, rfl, kv.same sm2, _, rfl, ?_⟩
      refine ifD (fun e => ?_) fun e => ?_
      · refine ⟨_, rfl, ?_⟩
        have e' : belowB x lim = false := by simpa using e
        have := q _ sm2
        rw [fnb_at hx e' hb] at this
        exact this
      · have e' : belowB x lim = true := by simpa using e
        refine ⟨_, _, rfl, sm2, fun j y hj hy => ?_⟩
        rcases Nat.lt_succ_iff_lt_or_eq.mp hj with z | z
        · exact hb j y z hy
        · subst z
          rw [hx] at hy
          rw [← Option.some.inj hy]
          exact e'
end
end K1
namespace K1
open PySem PySem.Spec PyProof.Rows L2
/-- the module's numbers -/
structure Ct (mg : Str → Option Value) : Prop where
  tabs : ∃ t, mg "MOST_TABLES" = some (.int 8 t)
  states : ∃ t, mg "MOST_STATES" = some (.int 12 t)
  row : ∃ t, mg "MOST_ROW" = some (.int 10000 t)
/-- a walk over a list or a tuple -/
def iSeqA (K : PySem.W.Frag) (tl : TE) : TI := fun σ H R => tl σ H fun x H1 => ∃ a, x = .ref a ∧ ((∃ xs, SqL K H1 a xs ∧ R (Itl K a) H1) ∨ (∃ xs, SqT K H1 a xs ∧ R (Itt K a) H1))
theorem pi_seqA {X : Cx} {tg l : Expr} {tl : TE} (hl : PE X l tl) : PI X tg l (iSeqA X.K tl) := by
  refine ⟨fun pins s σ H R I h => ?_⟩
  refine thn (hl.run pins s σ H _ I h) fun v s1 ⟨x, H1, I1, r1, q1⟩ => ?_
  obtain ⟨a, e, q⟩ := q1
  subst e
  cases r1
  rcases q with ⟨xs, hq, q⟩ | ⟨xs, hq, q⟩
  · obtain ⟨its, rv, p, hz⟩ := I1.list hq
    refine wpAny_pyIter_list p.isList ?_
    refine ⟨s1.heap.objs.size, [s1.heap.objs.size], _, _, H1, rfl, I1.kept (t' := s1.toks) fun b o e => Heap.get?_push_of_some _ e, turn_list a _, ⟨_, Heap.get?_push_size _ rfl, rfl, rfl⟩, fun b hb => ?_, q⟩
    have e : b = s1.heap.objs.size := by simpa using hb
    subst e
    exact I1.fpOk (Nat.le_refl _) (I1.hok.fresh (Nat.le_refl _))
  · obtain ⟨its, rv, p, hz⟩ := I1.tuple hq
    refine wpAny_pyIter_tuple (show s1.heap.IsTuple a its.toArray from p) ?_
    refine ⟨s1.heap.objs.size, [s1.heap.objs.size], _, _, H1, rfl, I1.kept (t' := s1.toks) fun b o e => Heap.get?_push_of_some _ e, turn_tuple a _, ⟨_, Heap.get?_push_size _ rfl, rfl, rfl⟩, fun b hb => ?_, q⟩
    have e : b = s1.heap.objs.size := by simpa using hb
    subst e
    exact I1.fpOk (Nat.le_refl _) (I1.hok.fresh (Nat.le_refl _))
/-- a table of n states, by its items (none: no sequence) -/
def isTab (r : Option (List V)) (n : Int) : Bool := seqB r n n && match r with | some ys => decide (fnb ys n = V.non) | none => false
/-- a value and, if it is a sequence, the kinds of its items -/
structure Rw (K : PySem.W.Frag) (H : Hp) (x : V) (r : Option (List V)) : Prop where
  kv : KV K H x r
  ks : ∀ ys, r = some ys → Kinds K H ys
theorem Rw.same {K : PySem.W.Frag} {H H' : Hp} {x : V} {r : Option (List V)} (h : Rw K H x r) (s : Same H H') : Rw K H' x r := ⟨h.kv.same s, fun ys e => (h.ks ys e).same s⟩
theorem KV.seqA {K : PySem.W.Frag} {H : Hp} {x : V} {ys : List V} (h : KV K H x (some ys)) : ∃ a, x = .ref a ∧ SeqA H a ys := by
  cases h with
  | lst h => exact ⟨_, rfl, .inl h⟩
  | tup h => exact ⟨_, rfl, .inr h⟩
def spIsTab (K : PySem.W.Frag) : Sp := fun vs H Q _ => ∃ x r n, vs = [x, .int n] ∧ Rw K H x r ∧ ∀ H', Same H H' → Q (.bl (isTab r n)) H'
section
variable {P : Program} {w : World} {K : PySem.W.Frag} {mg : Str → Option Value} {base : Heap}
theorem scIT : FnScope ["value", "states"] ["value", "states"] (defScope sIsTab) := ⟨rfl, rfl, rfl, by decide +kernel, rfl, by decide +kernel, by decide +kernel⟩
theorem ok_istab {f fS fF : Addr} {fd fdS fdF : FuncData} (D : Df K mg "is_table" sIsTab ["value", "states"] f fd) (DS : Df K mg "is_sequence" sSeq ["value", "least", "most"] fS fdS) (DF : Df K mg "first_not_below" sFnb ["items", "limit"] fF fdF)
    (GS : FnOk P w K mg base CX0 1 fS fdS ["value", "least", "most"] (spSeq K)) (GF : FnOk P w K mg base CX0 3 fF fdF ["items", "limit"] (spFnb K)) : FnOk P w K mg base CX0 4 f fd ["value", "states"] (spIsTab K) := by
  refine D.F.ok scIT (fun vs H Q E h => ?_) (fun cdv A outer s H vs Q E hr h => ?_)
  · obtain ⟨x, r, n, rfl, _⟩ := h
    rfl
  · obtain ⟨x, r, n, rfl, hw, q⟩ := h
    refine ⟨_, pss_one (ps_ret (pe_and (pc DS GS (hr.mono (by decide)) pass0 (pa_cons (pv 0) (pa_cons (pv 1) (pa_cons (pv 1) pa_nil)))) (pe_one (pe_cmp (pc_isN (pc DF GF hr pass0 (pa_cons (pv 0) (pa_cons (pv 1) pa_nil)))) rfl)))), ?_⟩
    refine ⟨_, rfl, _, rfl, _, rfl, _, r, n, n, rfl, hw.kv, fun H1 sm => ⟨_, rfl, ifD (fun e => ?_) fun e => ?_⟩⟩
    · cases r with
      | none => cases e
      | some ys =>
        obtain ⟨a, rfl, hS⟩ := hw.kv.seqA
        refine ⟨_, rfl, _, rfl, a, ys, n, rfl, hS.same sm, (hw.ks ys rfl).same sm, fun H2 sm2 => qbl ?_ (q _ (sm.trans sm2))⟩
        show _ = (seqB (some ys) n n && _)
        rw [e]; rfl
    · refine qbl ?_ (q _ sm)
      show _ = (seqB r n n && _)
      rw [e]; rfl
end
end K1
namespace K1
open PySem PySem.Spec PyProof.Rows L2
/-- the items of a lot of tables, each with what it holds -/
structure Rws (K : PySem.W.Frag) (H : Hp) (xs : List V) (rs : List (Option (List V))) : Prop where
  len : xs.length = rs.length
  at_ : ∀ (i : Nat) x r, xs[i]? = some x → rs[i]? = some r → Rw K H x r
theorem Rws.same {K : PySem.W.Frag} {H H' : Hp} {xs : List V} {rs : List (Option (List V))} (h : Rws K H xs rs) (s : Same H H') : Rws K H' xs rs := ⟨h.len, fun i x r e1 e2 => (h.at_ i x r e1 e2).same s⟩
theorem Rws.get {K : PySem.W.Frag} {H : Hp} {xs : List V} {rs : List (Option (List V))} (h : Rws K H xs rs) {i : Nat} {x : V} (e : xs[i]? = some x) : ∃ r, rs[i]? = some r ∧ Rw K H x r := by
  have hi : i < rs.length := h.len ▸ (List.getElem?_eq_some_iff.mp e).1
  exact ⟨rs[i], by simp [hi], h.at_ i x _ e (by simp [hi])⟩
/-- what is told of a value that is no machine: none for a machine's tables (xs of the value, by their items) -/
def chkAt (o : Option (List (Option (List V)))) : Option Int :=
  match o with
  | none => some (-1)
  | some rs => if rs.length < 1 ∨ 8 < rs.length then some (-1) else
    match rs[0]? with
    | some (some y0) => if y0.length < 1 ∨ 12 < y0.length then some 0 else (rs.findIdx? fun r => !isTab r (y0.length : Int)).map fun i => (i : Int)
    | _ => some 0
/-- a value that may be a machine's tables; of its items nothing is known where there are too many, or none -/
inductive Mv (K : PySem.W.Frag) (H : Hp) : V → Option (List (Option (List V))) → Prop
  | no {v : V} (h : KV K H v none) : Mv K H v none
  | yes {v : V} {xs : List V} {rs : List (Option (List V))} (h : KV K H v (some xs)) (r : Rws K H xs rs) : Mv K H v (some rs)
theorem Mv.same {K : PySem.W.Frag} {H H' : Hp} {v : V} {o : Option (List (Option (List V)))} (h : Mv K H v o) (s : Same H H') : Mv K H' v o := by
  cases h with
  | no h => exact .no (h.same s)
  | yes h r => exact .yes (h.same s) (r.same s)
/-- tables that stand at ta, each as a tuple -/
def TabsAt (H : Hp) (ta : Addr) (ts : List (List V)) : Prop := ∃ as : List Addr, H ta = some (.tup (as.map V.ref)) ∧ as.length = ts.length ∧ ∀ (i : Nat) a t, as[i]? = some a → ts[i]? = some t → H a = some (.tup t)
theorem TabsAt.same {H H' : Hp} {ta : Addr} {ts : List (List V)} (h : TabsAt H ta ts) (s : Same H H') : TabsAt H' ta ts := let ⟨as, h1, h2, h3⟩ := h; ⟨as, s _ _ h1, h2, fun i a t e1 e2 => s _ _ (h3 i a t e1 e2)⟩
/-- an error of the class at C, its field f at v -/
def Rz (C : Addr) (f : Str) (v : V) (H : Hp) (E : XK) : Prop := ∀ d H', Same H H' → H d = none → H' d = some (.xd [(f, v)]) → E (.ref C) (some d) H'
/-- checked_tables: the tables, or the error -/
def spChk (K : PySem.W.Frag) (C : Addr) : Sp := fun vs H Q E => ∃ v o, vs = [v] ∧ Mv K H v o ∧ (∀ z, chkAt o = some z → Rz C "at" (.int z) H E) ∧
  (chkAt o = none → ∀ (ts : List (List V)), o = some (ts.map some) → ∀ ta H', Same H H' → TabsAt H' ta ts → Q (.ref ta) H')
theorem chk_neg {o : Option (List (Option (List V)))} (h : seqB (o.map fun rs => rs.map fun _ => V.non) 1 8 = false) : chkAt o = some (-1) := by
  cases o with
  | none => rfl
  | some rs =>
    have z : rs.length < 1 ∨ 8 < rs.length := by
      have e : (decide ((1 : Int) ≤ ((rs.map fun _ => V.non).length : Int)) && decide (((rs.map fun _ => V.non).length : Int) ≤ 8)) = false := h
      rw [List.length_map] at e
      simp only [Bool.and_eq_false_iff, decide_eq_false_iff_not] at e
      omega
    show (if rs.length < 1 ∨ 8 < rs.length then some (-1) else _) = _
    rw [if_pos z]
theorem chk_zero {rs : List (Option (List V))} {r0 : Option (List V)} (h1 : seqB (some (rs.map fun _ => V.non)) 1 8 = true) (h0 : rs[0]? = some r0) (h : seqB r0 1 12 = false) : chkAt (some rs) = some 0 := by
  have e : (decide ((1 : Int) ≤ ((rs.map fun _ => V.non).length : Int)) && decide (((rs.map fun _ => V.non).length : Int) ≤ 8)) = true := h1
  rw [List.length_map] at e
  simp only [Bool.and_eq_true, decide_eq_true_eq] at e
  have z : ¬ (rs.length < 1 ∨ 8 < rs.length) := by omega
  show (if rs.length < 1 ∨ 8 < rs.length then some (-1) else _) = _
  rw [if_neg z, h0]
  cases r0 with
  | none => rfl
  | some y0 =>
    have e : (decide ((1 : Int) ≤ (y0.length : Int)) && decide ((y0.length : Int) ≤ 12)) = false := h
    simp only [Bool.and_eq_false_iff, decide_eq_false_iff_not] at e
    have z : y0.length < 1 ∨ 12 < y0.length := by omega
    show (if y0.length < 1 ∨ 12 < y0.length then some 0 else _) = _
    rw [if_pos z]
theorem chk_in {rs : List (Option (List V))} {y0 : List V} (h1 : seqB (some (rs.map fun _ => V.non)) 1 8 = true) (h0 : rs[0]? = some (some y0)) (h : seqB (some y0) 1 12 = true) : chkAt (some rs) = (rs.findIdx? fun r => !isTab r (y0.length : Int)).map fun i => (i : Int) := by
  have e : (decide ((1 : Int) ≤ ((rs.map fun _ => V.non).length : Int)) && decide (((rs.map fun _ => V.non).length : Int) ≤ 8)) = true := h1
  rw [List.length_map] at e
  simp only [Bool.and_eq_true, decide_eq_true_eq] at e
  have z : ¬ (rs.length < 1 ∨ 8 < rs.length) := by omega
  have e2 : (decide ((1 : Int) ≤ (y0.length : Int)) && decide ((y0.length : Int) ≤ 12)) = true := h
  simp only [Bool.and_eq_true, decide_eq_true_eq] at e2
  have z2 : ¬ (y0.length < 1 ∨ 12 < y0.length) := by omega
  show (if rs.length < 1 ∨ 8 < rs.length then some (-1) else _) = _
  rw [if_neg z, h0]
  show (if y0.length < 1 ∨ 12 < y0.length then some 0 else _) = _
  rw [if_neg z2]
theorem find_at {α : Type} {rs : List α} {p : α → Bool} {i : Nat} {r : α} (hr : rs[i]? = some r) (hn : p r = true) (hb : ∀ (j : Nat) y, j < i → rs[j]? = some y → p y = false) : rs.findIdx? p = some i := by
  obtain ⟨hi, ex⟩ := List.getElem?_eq_some_iff.mp hr
  rw [List.findIdx?_eq_some_iff_getElem]
  refine ⟨hi, by rw [ex, hn], fun j hj => ?_⟩
  have hj' : j < rs.length := Nat.lt_trans hj hi
  have := hb j rs[j] hj (by simp [hj'])
  simp [this]
theorem find_none {α : Type} {rs : List α} {p : α → Bool} (hb : ∀ (j : Nat) y, j < rs.length → rs[j]? = some y → p y = false) : rs.findIdx? p = none := by
  rw [List.findIdx?_eq_none_iff]
  intro x hx
  obtain ⟨j, hj, e⟩ := List.mem_iff_getElem.mp hx
  exact e ▸ hb j rs[j] hj (by simp [hj])
theorem isTab_some {r : Option (List V)} {n : Int} (h : isTab r n = true) : ∃ ys, r = some ys := by
  cases r with
  | none => cases h
  | some ys => exact ⟨ys, rfl⟩
/-- tuple(x) -/
def rTup (K : PySem.W.Frag) : List V → Hp → VK → Prop := fun xs H Q => ∃ p ys, xs = [.ref p] ∧ ((SqL K H p ys ∧ ∀ l, H l = none → Q (.ref l) (upd H l (.tup ys))) ∨ (SqT K H p ys ∧ Q (.ref p) H))
theorem ctup {X : Cx} {K : PySem.W.Frag} (h : X.K = K) : CallR X (.type "tuple") (rTup K) := by
  subst h
  exact call_tuple_of
section
variable {P : Program} {w : World} {K : PySem.W.Frag} {mg : Str → Option Value} {base : Heap}
theorem scC : FnScope ["value", "states", "at", "table"] ["value"] (defScope sChk) := ⟨rfl, rfl, rfl, by decide +kernel, rfl, by decide +kernel, by decide +kernel⟩
theorem ok_chk {f fS fI C cI : Addr} {fd fdS fdI : FuncData} {bm : List Value} {ql : Str} (D : Df K mg "checked_tables" sChk ["value"] f fd) (DS : Df K mg "is_sequence" sSeq ["value", "least", "most"] fS fdS) (DI : Df K mg "is_table" sIsTab ["value", "states"] fI fdI)
    (B : Bt mg) (c : Ct mg) (T : LAt.Txt K mg "BadMachine" ql bm C cI) (GS : FnOk P w K mg base CX0 1 fS fdS ["value", "least", "most"] (spSeq K)) (GI : FnOk P w K mg base CX0 4 fI fdI ["value", "states"] (spIsTab K)) :
    FnOk P w K mg base (L2.CX P w) 5 f fd ["value"] (spChk K C) := by
  obtain ⟨t1, hc1⟩ := c.tabs
  obtain ⟨t2, hc2⟩ := c.states
  refine D.F.okX scC (fun vs H Q E h => ?_) (fun cdv A outer s H vs Q E hr h => ?_)
  · obtain ⟨v, o, rfl, _⟩ := h
    rfl
  · obtain ⟨v, o, rfl, hm, qE, qQ⟩ := h
    have hr1 : Room 1 _ := hr.mono (by decide)
    refine ⟨_, pss_cons (ps_if (pt_not (pt_val (pc DS GS hr1 pass0 (pa_cons (pv 0) (pa_cons pe_int (pa_cons (pe_glob (v := .int 8) (by rfl) hc1 ⟨_, rfl⟩) pa_nil)))))) (pss_one (ps_raise_LAt rfl T hr (takes_of rfl rfl rfl rfl) (pa_cons (pe_un un_neg pe_int) pa_nil))) pss_nil)
      (pss_cons (ps_if (pt_not (pt_val (pc DS GS hr1 pass0 (pa_cons (pe_ix ix_seq (pv 0) pe_int (fun _ _ => rfl)) (pa_cons pe_int (pa_cons (pe_glob (v := .int 12) (by rfl) hc2 ⟨_, rfl⟩) pa_nil)))))) (pss_one (ps_raise_LAt rfl T hr (takes_of rfl rfl rfl rfl) (pa_cons pe_int pa_nil))) pss_nil)
      (pss_cons (ps_set (i := 1) scC.nd rfl (.inl rfl) (pe_callB call_len_seq (by rfl) B.len PySem.boot_len (pa_cons (pe_ix ix_seq (pv 0) pe_int (fun _ _ => rfl)) pa_nil)))
      (pss_cons (ps_for (passes_of rfl) rfl (pi_enumA (by rfl) B.enumerate (pa_cons (pv 0) pa_nil)) (pg_tup rfl (pgs_cons (pg_name (i := 2) scC.nd rfl (.inl rfl)) (pgs_cons (pg_name (i := 3) scC.nd rfl (.inl rfl)) pgs_nil)))
        (pss_one (ps_if (pt_not (pt_val (pc DI GI hr pass0 (pa_cons (pv 3) (pa_cons (pv 1) pa_nil))))) (pss_one (ps_raise_LAt rfl T hr (takes_of rfl rfl rfl rfl) (pa_cons (pv 2) pa_nil))) pss_nil)))
      (pss_one (ps_ret (pe_callTy call_tuple_of (by rfl) B.tuple (by decide +kernel) (pa_cons
        (pe_lc (own := [("table", 3)]) (g := gName 3) (tt := tYes) rfl scC.nd (pi_seqA (pv 0)) (blkOk_by (N := ["value", "states", "at", "table"]) (sc := defScope sChk) (by decide +kernel)) (fun _ _ _ _ _ => pg_name (i := 3) scC.nd rfl (Or.inl rfl)) (fun _ _ _ _ _ => pts_nil)
          (fun _ _ _ _ _ => pe_callTy (ctup (K := K) rfl) (by rfl) B.tuple PyProof.Rows.boot_tuple (pa_cons (pv 3) pa_nil))) pa_nil))))))), ?_⟩
    cases hm with
    | no kv =>
      refine ⟨_, rfl, _, none, 1, 8, rfl, kv, fun H1 s1 => ⟨_, rfl, ?_⟩⟩
      exact iteT ⟨_, rfl, _, rfl, fun d hd => qE (-1) rfl d _ (s1.trans (same_new hd)) (s1.free hd) upd_same⟩
    | yes kv R =>
      rename_i xs rs
      have eqs : ∀ l m, seqB (some xs) l m = seqB (some (rs.map fun _ => V.non)) l m := fun l m => by
        show (_ && _) = (_ && _)
        rw [List.length_map, R.len]
      refine ⟨_, rfl, _, some xs, 1, 8, rfl, kv, fun H1 s1 => ⟨_, rfl, ifD (fun e1 => ?_) fun e1 => ?_⟩⟩
      · have e1' : seqB (some xs) 1 8 = false := by simpa using e1
        rw [eqs] at e1'
        exact ⟨_, rfl, _, rfl, fun d hd => qE (-1) (chk_neg (o := some rs) e1') d _ (s1.trans (same_new hd)) (s1.free hd) upd_same⟩
      · have e1' : seqB (some xs) 1 8 = true := by simpa using e1
        have e1r := e1'
        rw [eqs] at e1r
        have hx0 : ∃ x0, xs[0]? = some x0 := by
          have z : (decide ((1 : Int) ≤ (xs.length : Int)) && decide ((xs.length : Int) ≤ 8)) = true := e1'
          simp only [Bool.and_eq_true, decide_eq_true_eq] at z
          exact ⟨xs[0]'(by omega), by simp⟩
        obtain ⟨x0, hx0⟩ := hx0
        obtain ⟨r0, hr0, W0⟩ := R.get hx0
        obtain ⟨a, rfl, hS⟩ := kv.seqA
        have ixr : ∀ {H' : Hp} {Qv : VK}, Same H H' → Qv x0 H' → rIx K (.ref a) (.int 0) H' Qv := fun {H' Qv} sm q => by
          rcases hS.same sm with h | h
          · exact .inl ⟨a, xs, 0, x0, rfl, rfl, SqL.of h, atI_nat (j := 0) hx0, q⟩
          · exact .inr (.inl ⟨a, xs, 0, x0, rfl, rfl, SqT.of h, atI_nat (j := 0) hx0, q⟩)
        refine ⟨_, rfl, ixr s1 ?_⟩
        refine ⟨_, r0, 1, 12, rfl, W0.kv.same s1, fun H2 s2 => ⟨_, rfl, ifD (fun e2 => ?_) fun e2 => ?_⟩⟩
        · have e2' : seqB r0 1 12 = false := by simpa using e2
          exact ⟨_, rfl, fun d hd => qE 0 (chk_zero e1r hr0 e2') d _ ((s1.trans s2).trans (same_new hd)) ((s1.trans s2).free hd) upd_same⟩
        · have e2' : seqB r0 1 12 = true := by simpa using e2
          have s12 := s1.trans s2
          obtain ⟨y0, rfl⟩ : ∃ y0, r0 = some y0 := by
            cases r0 with
            | none => cases e2'
            | some y0 => exact ⟨y0, rfl⟩
          have hc := chk_in e1r hr0 e2'
          obtain ⟨a0, rfl, hS0⟩ := W0.kv.seqA
          refine ⟨_, rfl, ixr s12 ⟨a0, y0, rfl, (hS0.same s12).elim (fun h => .inl (SqL.of h)) (fun h => .inr (SqT.of h)), ?_⟩⟩
          -- the loop
          let Pv : Nat → L2.St → Hp → Prop := fun i σ H' => ∃ v2 v3 : Option V, σ = [some (.ref a), some (.int (y0.length : Int)), v2, v3] ∧ Same H H' ∧ ∀ (j : Nat) r, j < i → rs[j]? = some r → isTab r (y0.length : Int) = true
          refine ⟨_, rfl, a, rfl, ?_⟩
          have P0 : Pv 0 [some (.ref a), some (.int (y0.length : Int)), none, none] H2 := ⟨none, none, rfl, s12, fun j r hj => absurd hj (Nat.not_lt_zero _)⟩
          rcases hS with hS | hS
          · refine .inl ⟨xs, SqL.of (s12 _ _ hS), for_enumL (K := K) Pv P0 (fun i σ H' _ ⟨_, _, _, sm, _⟩ => SqL.of (sm _ _ hS)) ?_ ?_⟩
            · rintro i x T σ H' hx hT ⟨v2, v3, rfl, sm, hb⟩
              have sm2 : Same H (upd H' T (.tup [.int (i : Nat), x])) := sm.trans (same_new hT)
              obtain ⟨r, hr', W⟩ := R.get hx
              refine ⟨T, _, rfl, SqT.of upd_same, rfl, _, _, rfl, _, _, rfl, rfl, ?_⟩
              refine ⟨_, rfl, _, rfl, x, r, (y0.length : Int), rfl, W.same sm2, fun H3 s3 => ⟨_, rfl, ifD (fun e => ?_) fun e => ?_⟩⟩
              · have e' : isTab r (y0.length : Int) = false := by simpa using e
                have hz : chkAt (some rs) = some (i : Int) := by
                  rw [hc, find_at hr' (by rw [e']; rfl) fun j y hj hy => by rw [hb j y hj hy]; rfl]; rfl
                exact ⟨_, rfl, _, rfl, fun d hd => qE _ hz d _ ((sm2.trans s3).trans (same_new hd)) ((sm2.trans s3).free hd) upd_same⟩
              · have e' : isTab r (y0.length : Int) = true := by simpa using e
                refine ⟨_, _, rfl, sm2.trans s3, fun j y hj hy => ?_⟩
                rcases Nat.lt_succ_iff_lt_or_eq.mp hj with z | z
                · exact hb j y z hy
                · subst z
                  rw [hr'] at hy
                  rw [← Option.some.inj hy]
                  exact e'
            · rintro σ H' ⟨v2, v3, rfl, sm, hb⟩
              have hz : chkAt (some rs) = none := by
                rw [hc, find_none fun j y hj hy => by rw [hb j y (by rw [R.len]; exact hj) hy]; rfl]; rfl
              have hsome : ∀ (i : Nat) r, rs[i]? = some r → ∃ ys, r = some ys := fun i r hi => isTab_some (hb i r (by rw [R.len]; exact (List.getElem?_eq_some_iff.mp hi).1) hi)
              have hts : some rs = some ((rs.map fun r => r.getD []).map some) := by
                congr 1
                rw [List.map_map]
                refine (List.map_id rs).symm.trans (List.map_congr_left fun r hr => ?_)
                obtain ⟨i, hi, e⟩ := List.mem_iff_getElem.mp hr
                obtain ⟨ys, rfl⟩ := hsome i r (by rw [← e]; simp [hi])
                rfl
              have qq := qQ hz _ hts
              have gett : ∀ (i : Nat) x, xs[i]? = some x → ∃ b ys, x = .ref b ∧ rs[i]? = some (some ys) ∧ SeqA H b ys := fun i x hx => by
                obtain ⟨r, h1, W⟩ := R.get hx
                obtain ⟨ys, rfl⟩ := hsome i r h1
                obtain ⟨b, rfl, h2⟩ := W.kv.seqA
                exact ⟨b, ys, rfl, h1, h2⟩
              let Lv : Addr → Nat → Hp → Prop := fun D i H2 => ∃ as : List Addr, as.length = i ∧ Same H' H2 ∧ H2 D = some (.lst (as.map V.ref)) ∧ ∀ (j : Nat) b t, as[j]? = some b → rs[j]? = some (some t) → H2 b = some (.tup t)
              refine ⟨_, rfl, a, rfl, .inl ⟨xs, SqL.of (sm _ _ hS), fun D hD => lc_list (K := K) (a := a) (xs := xs) (Lv D) ⟨[], rfl, same_new hD, upd_same, fun j b t z => nomatch z⟩ (fun i H2 _ ⟨as, _, s5, _⟩ => SqL.of (s5 _ _ (sm _ _ hS))) ?_ ?_⟩⟩
              · rintro i x H2 hx ⟨as, hl, s5, hD2, hA⟩
                obtain ⟨b, ys, rfl, h1, h2⟩ := gett i x hx
                have nD : ∀ c o, H' c = some o → c ≠ D := fun c o e => ne_of_none e hD
                have hlen : (as.map V.ref).length < sizeLine := by
                  rw [List.length_map, hl, sizeLine_eq]
                  have := (List.getElem?_eq_some_iff.mp hx).1
                  have z : (decide ((1 : Int) ≤ (xs.length : Int)) && decide ((xs.length : Int) ≤ 8)) = true := e1'
                  simp only [Bool.and_eq_true, decide_eq_true_eq] at z
                  omega
                have fin : ∀ (l : Addr) (H3 : Hp), Same H2 H3 → H3 l = some (.tup ys) → H3 D = some (.lst (as.map V.ref)) → l ≠ D → Lv D (i + 1) (upd H3 D (.lst (as.map V.ref ++ [.ref l]))) := fun l H3 s6 hl3 hD3 hne => by
                  have keep : ∀ c o, H3 c = some o → c ≠ D → upd H3 D (.lst (as.map V.ref ++ [.ref l])) c = some o := fun c o e n => by rw [upd_ne n]; exact e
                  refine ⟨as ++ [l], by rw [List.length_append, hl]; rfl, fun c o e => keep c o (s6 _ _ (s5 _ _ e)) (nD c o e), by rw [upd_same, List.map_append]; rfl, fun j b t hb ht => ?_⟩
                  by_cases hj : j < as.length
                  · rw [List.getElem?_append_left hj] at hb
                    have z := s6 _ _ (hA j b t hb ht)
                    exact keep _ _ z (ne_of z hD3 (by intro q; cases q))
                  · have hj2 : j = as.length := by
                      have := (List.getElem?_eq_some_iff.mp hb).1
                      rw [List.length_append] at this
                      have q : ([l] : List Addr).length = 1 := rfl
                      omega
                    subst hj2
                    rw [List.getElem?_append_right (Nat.le_refl _), Nat.sub_self] at hb
                    have eb : l = b := Option.some.inj hb
                    subst eb
                    rw [hl, h1] at ht
                    rw [← Option.some.inj (Option.some.inj ht)]
                    exact keep _ _ hl3 hne
                refine ⟨rfl, _, rfl, b, ys, rfl, ?_⟩
                rcases h2 with h2 | h2
                · have hb2 := s5 _ _ (sm _ _ h2)
                  refine .inl ⟨SqL.of hb2, fun l hl2 => ?_⟩
                  have nlD : l ≠ D := fun e => by rw [e, hD2] at hl2; cases hl2
                  exact ⟨_, (upd_ne nlD.symm).trans hD2, hlen, fin l _ (same_new hl2) upd_same ((upd_ne nlD.symm).trans hD2) nlD⟩
                · have hb2 := s5 _ _ (sm _ _ h2)
                  refine .inr ⟨SqT.of hb2, ?_⟩
                  exact ⟨_, hD2, hlen, fin b _ (Same.refl _) hb2 hD2 (ne_of hb2 hD2 (by intro q; cases q))⟩
              · rintro H2 ⟨as, hl, s5, hD2, hA⟩
                refine ⟨D, _, rfl, .inl ⟨SqL.of hD2, fun ta hta => ?_⟩⟩
                have s7 : Same H (upd H2 ta (.tup (as.map V.ref))) := (sm.trans s5).trans (same_new hta)
                refine qq ta _ s7 ⟨as, upd_same, by rw [hl, List.length_map, R.len], fun j b t hb ht => ?_⟩
                have hj : rs[j]? = some (some t) := by
                  rw [List.getElem?_map] at ht
                  cases e : rs[j]? with
                  | none => rw [e] at ht; cases ht
                  | some r =>
                    obtain ⟨ys, rfl⟩ := hsome j r e
                    rw [e] at ht
                    rw [← Option.some.inj ht]; rfl
                exact same_new hta _ _ (hA j b t hb hj)
          · refine .inr ⟨xs, SqT.of (s12 _ _ hS), for_enumT (K := K) Pv P0 (fun i σ H' _ ⟨_, _, _, sm, _⟩ => SqT.of (sm _ _ hS)) ?_ ?_⟩
            · rintro i x T σ H' hx hT ⟨v2, v3, rfl, sm, hb⟩
              have sm2 : Same H (upd H' T (.tup [.int (i : Nat), x])) := sm.trans (same_new hT)
              obtain ⟨r, hr', W⟩ := R.get hx
              refine ⟨T, _, rfl, SqT.of upd_same, rfl, _, _, rfl, _, _, rfl, rfl, ?_⟩
              refine ⟨_, rfl, _, rfl, x, r, (y0.length : Int), rfl, W.same sm2, fun H3 s3 => ⟨_, rfl, ifD (fun e => ?_) fun e => ?_⟩⟩
              · have e' : isTab r (y0.length : Int) = false := by simpa using e
                have hz : chkAt (some rs) = some (i : Int) := by
                  rw [hc, find_at hr' (by rw [e']; rfl) fun j y hj hy => by rw [hb j y hj hy]; rfl]; rfl
                exact ⟨_, rfl, _, rfl, fun d hd => qE _ hz d _ ((sm2.trans s3).trans (same_new hd)) ((sm2.trans s3).free hd) upd_same⟩
              · have e' : isTab r (y0.length : Int) = true := by simpa using e
                refine ⟨_, _, rfl, sm2.trans s3, fun j y hj hy => ?_⟩
                rcases Nat.lt_succ_iff_lt_or_eq.mp hj with z | z
                · exact hb j y z hy
                · subst z
                  rw [hr'] at hy
                  rw [← Option.some.inj hy]
                  exact e'
            · rintro σ H' ⟨v2, v3, rfl, sm, hb⟩
              have hz : chkAt (some rs) = none := by
                rw [hc, find_none fun j y hj hy => by rw [hb j y (by rw [R.len]; exact hj) hy]; rfl]; rfl
              have hsome : ∀ (i : Nat) r, rs[i]? = some r → ∃ ys, r = some ys := fun i r hi => isTab_some (hb i r (by rw [R.len]; exact (List.getElem?_eq_some_iff.mp hi).1) hi)
              have hts : some rs = some ((rs.map fun r => r.getD []).map some) := by
                congr 1
                rw [List.map_map]
                refine (List.map_id rs).symm.trans (List.map_congr_left fun r hr => ?_)
                obtain ⟨i, hi, e⟩ := List.mem_iff_getElem.mp hr
                obtain ⟨ys, rfl⟩ := hsome i r (by rw [← e]; simp [hi])
                rfl
              have qq := qQ hz _ hts
              have gett : ∀ (i : Nat) x, xs[i]? = some x → ∃ b ys, x = .ref b ∧ rs[i]? = some (some ys) ∧ SeqA H b ys := fun i x hx => by
                obtain ⟨r, h1, W⟩ := R.get hx
                obtain ⟨ys, rfl⟩ := hsome i r h1
                obtain ⟨b, rfl, h2⟩ := W.kv.seqA
                exact ⟨b, ys, rfl, h1, h2⟩
              let Lv : Addr → Nat → Hp → Prop := fun D i H2 => ∃ as : List Addr, as.length = i ∧ Same H' H2 ∧ H2 D = some (.lst (as.map V.ref)) ∧ ∀ (j : Nat) b t, as[j]? = some b → rs[j]? = some (some t) → H2 b = some (.tup t)
              refine ⟨_, rfl, a, rfl, .inr ⟨xs, SqT.of (sm _ _ hS), fun D hD => lc_tup (K := K) (a := a) (xs := xs) (Lv D) ⟨[], rfl, same_new hD, upd_same, fun j b t z => nomatch z⟩ (fun i H2 _ ⟨as, _, s5, _⟩ => SqT.of (s5 _ _ (sm _ _ hS))) ?_ ?_⟩⟩
              · rintro i x H2 hx ⟨as, hl, s5, hD2, hA⟩
                obtain ⟨b, ys, rfl, h1, h2⟩ := gett i x hx
                have nD : ∀ c o, H' c = some o → c ≠ D := fun c o e => ne_of_none e hD
                have hlen : (as.map V.ref).length < sizeLine := by
                  rw [List.length_map, hl, sizeLine_eq]
                  have := (List.getElem?_eq_some_iff.mp hx).1
                  have z : (decide ((1 : Int) ≤ (xs.length : Int)) && decide ((xs.length : Int) ≤ 8)) = true := e1'
                  simp only [Bool.and_eq_true, decide_eq_true_eq] at z
                  omega
                have fin : ∀ (l : Addr) (H3 : Hp), Same H2 H3 → H3 l = some (.tup ys) → H3 D = some (.lst (as.map V.ref)) → l ≠ D → Lv D (i + 1) (upd H3 D (.lst (as.map V.ref ++ [.ref l]))) := fun l H3 s6 hl3 hD3 hne => by
                  have keep : ∀ c o, H3 c = some o → c ≠ D → upd H3 D (.lst (as.map V.ref ++ [.ref l])) c = some o := fun c o e n => by rw [upd_ne n]; exact e
                  refine ⟨as ++ [l], by rw [List.length_append, hl]; rfl, fun c o e => keep c o (s6 _ _ (s5 _ _ e)) (nD c o e), by rw [upd_same, List.map_append]; rfl, fun j b t hb ht => ?_⟩
                  by_cases hj : j < as.length
                  · rw [List.getElem?_append_left hj] at hb
                    have z := s6 _ _ (hA j b t hb ht)
                    exact keep _ _ z (ne_of z hD3 (by intro q; cases q))
                  · have hj2 : j = as.length := by
                      have := (List.getElem?_eq_some_iff.mp hb).1
                      rw [List.length_append] at this
                      have q : ([l] : List Addr).length = 1 := rfl
                      omega
                    subst hj2
                    rw [List.getElem?_append_right (Nat.le_refl _), Nat.sub_self] at hb
                    have eb : l = b := Option.some.inj hb
                    subst eb
                    rw [hl, h1] at ht
                    rw [← Option.some.inj (Option.some.inj ht)]
                    exact keep _ _ hl3 hne
                refine ⟨rfl, _, rfl, b, ys, rfl, ?_⟩
                rcases h2 with h2 | h2
                · have hb2 := s5 _ _ (sm _ _ h2)
                  refine .inl ⟨SqL.of hb2, fun l hl2 => ?_⟩
                  have nlD : l ≠ D := fun e => by rw [e, hD2] at hl2; cases hl2
                  exact ⟨_, (upd_ne nlD.symm).trans hD2, hlen, fin l _ (same_new hl2) upd_same ((upd_ne nlD.symm).trans hD2) nlD⟩
                · have hb2 := s5 _ _ (sm _ _ h2)
                  refine .inr ⟨SqT.of hb2, ?_⟩
                  exact ⟨_, hD2, hlen, fin b _ (Same.refl _) hb2 hD2 (ne_of hb2 hD2 (by intro q; cases q))⟩
              · rintro H2 ⟨as, hl, s5, hD2, hA⟩
                refine ⟨D, _, rfl, .inl ⟨SqL.of hD2, fun ta hta => ?_⟩⟩
                have s7 : Same H (upd H2 ta (.tup (as.map V.ref))) := (sm.trans s5).trans (same_new hta)
                refine qq ta _ s7 ⟨as, upd_same, by rw [hl, List.length_map, R.len], fun j b t hb ht => ?_⟩
                have hj : rs[j]? = some (some t) := by
                  rw [List.getElem?_map] at ht
                  cases e : rs[j]? with
                  | none => rw [e] at ht; cases ht
                  | some r =>
                    obtain ⟨ys, rfl⟩ := hsome j r e
                    rw [e] at ht
                    rw [← Option.some.inj ht]; rfl
                exact same_new hta _ _ (hA j b t hb hj)
end
end K1
namespace K1
open PySem PySem.Spec PyProof.Rows L2
/-! ### the machine's object -/
def mf (ta : Addr) (n k : Int) : List (Str × V) := putF "states" (.int k) (putF "deeds" (.int n) (putF "tables" (.ref ta) []))
theorem mf_t (ta : Addr) (n k : Int) : (mf ta n k).lookup ("tables" : Str) = some (.ref ta) := by
  unfold mf
  rw [lookup_putF, if_neg (by decide +kernel), lookup_putF, if_neg (by decide +kernel), lookup_putF, if_pos rfl]
theorem mf_d (ta : Addr) (n k : Int) : (mf ta n k).lookup ("deeds" : Str) = some (.int n) := by
  unfold mf
  rw [lookup_putF, if_neg (by decide +kernel), lookup_putF, if_pos rfl]
theorem mf_s (ta : Addr) (n k : Int) : (mf ta n k).lookup ("states" : Str) = some (.int k) := by
  unfold mf
  rw [lookup_putF, if_pos rfl]
/-- the machine at m, of the class at M: tables that stand at ta -/
def MachAt (M : Addr) (H : Hp) (m ta : Addr) (ts : List (List V)) : Prop :=
  (∃ (dx : Addr) (t0 : List V), ts[0]? = some t0 ∧ H m = some (.ins M dx (mf ta (ts.length : Int) (t0.length : Int)))) ∧ TabsAt H ta ts
theorem MachAt.same {M : Addr} {H H' : Hp} {m ta : Addr} {ts : List (List V)} (h : MachAt M H m ta ts) (s : Same H H') : MachAt M H' m ta ts :=
  let ⟨⟨dx, t0, h0, h1⟩, h2⟩ := h
  ⟨⟨dx, t0, h0, s _ _ h1⟩, h2.same s⟩
/-- what the walk asks of the class Machine, at M -/
structure McT (K : PySem.W.Frag) (mg : Str → Option Value) (M : Addr) : Prop where
  cl : Cls K M
  nT : NoAttr K M "tables"
  nD : NoAttr K M "deeds"
  nS : NoAttr K M "states"
  g : mg "Machine" = some (.ref M)
  ca : PySem.W.findIn K (.ref M) "__class__" = some (some (.builtin "object.__class__"))
  sp : PySem.W.specialIn K (.builtin "object.__class__") "__get__" = some (some (.builtin "getset_descriptor.__get__"))
  tk : PySem.W.takesIn K (.builtin "object.__class__") = some true
  mo : PySem.W.mroIn K M (.type "object") = some true
/-- __init__ of a fresh machine -/
def spMInit (K : PySem.W.Frag) (C M : Addr) : Sp := fun vs H Q E => ∃ m dx v o, vs = [.ref m, v] ∧ H m = some (.ins M dx []) ∧ Mv K H v o ∧ (∀ z, chkAt o = some z → Rz C "at" (.int z) H E) ∧
  (chkAt o = none → ∀ (ts : List (List V)), o = some (ts.map some) → ∀ ta H', (∀ b u, H b = some u → b ≠ m → H' b = some u) → MachAt M H' m ta ts → Q .non H')
theorem chk_first {ts : List (List V)} (h : chkAt (some (ts.map some)) = none) : ∃ t0, ts[0]? = some t0 := by
  cases ts with
  | nil =>
    have z : chkAt (some ([] : List (Option (List V)))) = some (-1) := rfl
    rw [show (([] : List (List V)).map some) = [] from rfl, z] at h
    cases h
  | cons a r => exact ⟨a, rfl⟩
section
variable {P : Program} {w : World} {K : PySem.W.Frag} {mg : Str → Option Value} {base : Heap}
theorem scMI : FnScope ["self", "tables"] ["self", "tables"] (defScope sMInit) := ⟨rfl, rfl, rfl, by decide +kernel, rfl, by decide +kernel, by decide +kernel⟩
theorem ok_minit {f fC C M : Addr} {fd fdC : FuncData} (F : Fun K "__init__" "Machine.__init__" sMInit f fd) (DC : Df K mg "checked_tables" sChk ["value"] fC fdC) (B : Bt mg) (T : McT K mg M)
    (GC : FnOk P w K mg base (L2.CX P w) 5 fC fdC ["value"] (spChk K C)) : FnOk P w K mg base (L2.CX P w) 6 f fd ["self", "tables"] (spMInit K C M) := by
  refine F.okX scMI (fun vs H Q E h => ?_) (fun cdv A outer s H vs Q E hr h => ?_)
  · obtain ⟨m, dx, v, o, rfl, _⟩ := h
    rfl
  · obtain ⟨m, dx, v, o, rfl, hm, mv, qE, qQ⟩ := h
    refine ⟨_, pss_cons (ps_fld (pv 0) (pc DC GC hr (pass1 (takes_of rfl rfl rfl rfl)) (pa_cons (pv 1) pa_nil)) rfl)
      (pss_cons (ps_fld (pv 0) (pe_callB call_len_seq (by rfl) B.len PySem.boot_len (pa_cons (pe_fld (pv 0) rfl) pa_nil)) rfl)
      (pss_one (ps_fld (pv 0) (pe_callB call_len_seq (by rfl) B.len PySem.boot_len (pa_cons (pe_ix ix_tup (pe_fld (pv 0) rfl) pe_int (fun _ _ => rfl)) pa_nil)) rfl))), ?_⟩
    refine ⟨_, rfl, v, o, rfl, mv, fun z hz d H' sm hd he => qE z hz d H' sm hd he, fun hz ts hts ta H' sm hT => ?_⟩
    subst hts
    obtain ⟨t0, h0⟩ := chk_first hz
    have hm1 := sm _ _ hm
    obtain ⟨as, ha1, ha2, ha3⟩ := hT
    have nma : m ≠ ta := ne_of hm1 ha1 (by intro q; cases q)
    have k1 : ∀ {fs : List (Str × V)}, (upd H' m (.ins M dx fs)) ta = some (.tup (as.map V.ref)) := fun {fs} => by rw [upd_ne nma.symm]; exact ha1
    obtain ⟨a0, ea0⟩ : ∃ a0, as[0]? = some a0 := by
      have : 0 < as.length := by rw [ha2]; exact (List.getElem?_eq_some_iff.mp h0).1
      exact ⟨as[0], by simp [this]⟩
    have hA0 := ha3 0 a0 t0 ea0 h0
    have nm0 : m ≠ a0 := ne_of hm1 hA0 (by intro q; cases q)
    refine ⟨_, rfl, m, M, dx, [], rfl, hm1, T.cl, T.nT, (by show 0 < 1000; decide), ?_⟩
    refine ⟨_, rfl, m, M, dx, _, _, rfl, upd_same, T.cl, T.nT, (by rw [lookup_putF, if_pos rfl]), ta, _, rfl, .inr (SqT.of k1), _, rfl, m, M, dx, _, rfl, upd_same, T.cl, T.nD, (by show 1 < 1000; decide), ?_⟩
    rw [upd_upd]
    refine ⟨_, rfl, m, M, dx, _, _, rfl, upd_same, T.cl, T.nT, (by rw [lookup_putF, if_neg (by decide +kernel), lookup_putF, if_pos rfl]), ta, _, 0, _, rfl, rfl, SqT.of k1, atI_nat (j := 0) (by rw [List.getElem?_map, ea0]; rfl), a0, t0, rfl, .inr (SqT.of (by rw [upd_ne nm0.symm]; exact hA0)), _, rfl, m, M, dx, _, rfl, upd_same, T.cl, T.nS, (by show 2 < 1000; decide), ?_⟩
    rw [upd_upd]
    refine qQ hz ts rfl ta _ (fun b u e hb => ?_) ⟨⟨dx, t0, h0, ?_⟩, as, k1, ha2, fun i a t e1 e2 => ?_⟩
    · rw [upd_ne hb]
      exact sm _ _ e
    · rw [upd_same]
      show some (HO.ins M dx (putF "states" (.int t0.length) (putF "deeds" (.int ((as.map V.ref).length : Int)) (putF "tables" (.ref ta) [])))) = _
      rw [List.length_map, ha2]
      rfl
    · have z := ha3 i a t e1 e2
      rw [upd_ne (ne_of z hm1 (by intro q; cases q))]
      exact z
end
end K1
namespace K1
open PySem PySem.Spec PyProof.Rows L2
/-- x == y by x's own __eq__: y another such instance, or a tuple -/
def rEqOwn (C : Addr) (sp : Sp) : R2 := fun x y H Q => ∃ (a : Addr) (dx : Addr) (fs : List (Str × V)), x = .ref a ∧ H a = some (.ins C dx fs) ∧ ((∃ (b dy : Addr) (gs : List (Str × V)), y = .ref b ∧ H b = some (.ins C dy gs)) ∨ ∃ (b : Addr) (ys : List V), y = .ref b ∧ H b = some (.tup ys)) ∧
  sp [x, y] H (fun v H' => ∃ k, v = .bl k ∧ Q v H') E0
theorem op_eqOwn {X : Cx} {n : Nat} {C f : Addr} {fd : FuncData} {ps : List Str} {sp : Sp} (F : FnOk X.prog X.w X.K X.mg X.base CX0 n f fd ps sp) (hr : Room n X.A)
    (hs : PySem.W.findIn X.K (.ref C) "__eq__" = some (some (.ref f))) (hf : PySem.W.isFn X.K (.ref f) = true) (hb : Binds X.K fd ps []) (nf : PySem.W.notFirst X.K C (.type "tuple") = true) : OpR X (compareOp .Eq) (rEqOwn C sp) := by
  intro pins s σ H x y v u Q I rx ry hq
  obtain ⟨a, dx, fs, rfl, ha, hy, hsp⟩ := hq
  cases rx
  show wpAny (model X.prog X.w) X.A (richCompare .Eq (.ref a) u) (EP X pins σ Q) X.xe s
  obtain ⟨mA, J, _⟩ := ins_get I.hok ha
  obtain ⟨od, J, _⟩ := J.look
  obtain ⟨m, hF⟩ := I.fr
  have tl : ∃ tb, PySem.W.Looks (model X.prog X.w) s.heap (typeOf u) tb ∧ PySem.W.notFirst X.K C tb = true := by
    rcases hy with ⟨b, dy, gs, rfl, hb'⟩ | ⟨b, ys, rfl, hb'⟩
    · cases ry
      obtain ⟨mB, J', _⟩ := ins_get I.hok hb'
      obtain ⟨od', J', _⟩ := J'.look
      exact ⟨.ref C, J'.type, by simp [PySem.W.notFirst]⟩
    · cases ry
      obtain ⟨_, its, rv, o, h1, h2, _⟩ := (show ObjOk X.prog X.w H s.heap b (.tup ys) from I.hok b _ hb')
      exact ⟨.type "tuple", h2 ▸ (PySem.W.Looks.ld h1).andThen .now, nf⟩
  obtain ⟨tb, tl, hn⟩ := tl
  refine PySem.W.cmp_K (op := .Eq) (tb := tb) hr.units0 hF I.ok.mod.kin J tl hn hs hf ?_
  have hl := F.len _ _ _ _ hsp
  have r2 : Vals [V.ref a, y] [Value.ref a, u] := .cons rfl (.cons ry .nil)
  refine wpAny_call (codeAny_mono (F.run X.A X.stack s H ⟨[.ref a, u], []⟩ [.ref a, u] [.ref a, y] _ E0 hr I.env0 (by
    have := hb s [.ref a, u] I.kIn (by simpa using hl)
    simpa using this) r2 hsp) fun r s' hq => ?_)
  cases r with
  | error e => exact (show False from hq).elim
  | ok fl =>
    cases fl with
    | ret w =>
      obtain ⟨z, H', I', rz, k, ez, q⟩ := I.after hq
      subst ez
      cases rz
      exact ⟨.bl k, H', I', rfl, q⟩
    | next => exact False.elim hq
    | brk => exact False.elim hq
    | cont => exact False.elim hq
/-! ### whole numbers by rows -/
/-- the tables of a machine as lists of whole numbers -/
abbrev Ts := List (List Int)
def vrow (t : List Int) : List V := t.map V.int
def vts (ts : Ts) : List (List V) := ts.map vrow
def dI (t : List Int) : List PyData := t.map PyData.int
def dT (ts : Ts) : PyData := .tuple (ts.map fun t => .tuple (dI t))
section
variable {K : PySem.W.Frag} {H : Hp}
theorem dp_ints : ∀ t : List Int, DpAll K H (vrow t) (dI t)
  | [] => .nil
  | i :: r => .cons (.int i) (dp_ints r)
theorem dp_tup {a : Addr} {t : List Int} (h : H a = some (.tup (vrow t))) : Dp K H (.ref a) (.tuple (dI t)) := .tup (SqT.of h) (dp_ints t)
theorem dp_refs : ∀ (as : List Addr) (ts : Ts), as.length = ts.length → (∀ (i : Nat) a t, as[i]? = some a → (vts ts)[i]? = some t → H a = some (.tup t)) → DpAll K H (as.map V.ref) (ts.map fun t => PyData.tuple (dI t))
  | [], [], _, _ => .nil
  | a :: as, t :: ts, hl, h => .cons (dp_tup (h 0 a (vrow t) rfl rfl)) (dp_refs as ts (Nat.succ.inj hl) fun i b u e1 e2 => h (i + 1) b u e1 e2)
  | [], _ :: _, hl, _ => nomatch hl
  | _ :: _, [], hl, _ => nomatch hl
theorem TabsAt.dp {ta : Addr} {ts : Ts} (h : TabsAt H ta (vts ts)) : Dp K H (.ref ta) (dT ts) := by
  obtain ⟨as, h1, h2, h3⟩ := h
  exact .tup (SqT.of h1) (dp_refs as ts (by rw [h2]; exact List.length_map _) h3)
end
/-- plain data: shown shortly, compared by what they hold -/
structure Pl (d : PyData) (n w : Nat) : Prop where
  lay : d.canLay0 = true
  sh : d.showable = true
  nd : d.hasDict = false
  dp : d.depth ≤ n
  wt : d.weight ≤ w
  sr : d.leavesShort 20 = true
structure PlA (ds : List PyData) (n w : Nat) : Prop where
  lay : PyData.canLayAll0 ds = true
  sh : PyData.showableAll ds = true
  nd : PyData.hasDictAll ds = false
  dp : PyData.depthAll ds ≤ n
  wt : PyData.weightAll ds ≤ w
  sr : PyData.leavesShortAll 20 ds = true
theorem Pl.int {i : Int} (h : i.natAbs < 10 ^ 19) : Pl (.int i) 0 64 := by
  have h3 : i.natAbs ≠ 0 → i.natAbs.log2 < 64 := fun z => (Nat.log2_lt z).mpr (Nat.lt_of_lt_of_le h (by decide))
  refine ⟨by simp only [PyData.canLay0], ?_, by simp only [PyData.hasDict], by simp only [PyData.depth]; omega, ?_, ?_⟩
  · simp only [PyData.showable, decide_eq_true_eq]
    by_cases z : i.natAbs = 0
    · rw [z]; decide
    · have := h3 z
      omega
  · simp only [PyData.weight]
    split
    · omega
    · rename_i z
      have := h3 (fun e => z (by rw [Int.natAbs_eq_zero.mp e]; rfl))
      omega
  · have e := int_text_length_le10 (a := i) (k := 19) (by decide) h
    simp only [PyData.leavesShort, decide_eq_true_eq, PyData.shown]
    exact decide_eq_true (Nat.le_trans (Nat.le_of_eq (PySem.ofString_length _)) e)
theorem Pl.bl (b : Bool) : Pl (.bool b) 0 0 := ⟨by simp only [PyData.canLay0], by simp only [PyData.showable], by simp only [PyData.hasDict], by simp only [PyData.depth]; omega, by simp only [PyData.weight]; omega, by simp only [PyData.leavesShort]⟩
theorem PlA.nil : PlA [] 0 0 := ⟨by simp only [PyData.canLayAll0], by simp only [PyData.showableAll], by simp only [PyData.hasDictAll], by simp only [PyData.depthAll]; omega, by simp only [PyData.weightAll]; omega, by simp only [PyData.leavesShortAll]⟩
theorem PlA.cons {d : PyData} {ds : List PyData} {n m u v : Nat} (a : Pl d n u) (b : PlA ds m v) : PlA (d :: ds) (max n m) (u + 1 + v) := by
  refine ⟨by simp only [PyData.canLayAll0, a.lay, b.lay, Bool.and_self], by simp only [PyData.showableAll, a.sh, b.sh, Bool.and_self], by simp only [PyData.hasDictAll, a.nd, b.nd, Bool.or_self], ?_, ?_, by simp only [PyData.leavesShortAll, a.sr, b.sr, Bool.and_self]⟩
  · have h1 := a.dp; have h2 := b.dp
    simp only [PyData.depthAll]; omega
  · have h1 := a.wt; have h2 := b.wt
    simp only [PyData.weightAll]; omega
theorem Pl.list {ds : List PyData} {n w : Nat} (a : PlA ds n w) : Pl (.list ds) (n + 1) w := by
  refine ⟨by simp only [PyData.canLay0, a.lay], by simp only [PyData.showable, a.sh], by simp only [PyData.hasDict, a.nd], ?_, ?_, by simp only [PyData.leavesShort, a.sr]⟩
  · have h1 := a.dp
    simp only [PyData.depth]; omega
  · have h1 := a.wt
    simp only [PyData.weight]; omega
theorem Pl.tuple {ds : List PyData} {n w : Nat} (a : PlA ds n w) : Pl (.tuple ds) (n + 1) w := by
  refine ⟨by simp only [PyData.canLay0, a.lay], by simp only [PyData.showable, a.sh], by simp only [PyData.hasDict, a.nd], ?_, ?_, by simp only [PyData.leavesShort, a.sr]⟩
  · have h1 := a.dp
    simp only [PyData.depth]; omega
  · have h1 := a.wt
    simp only [PyData.weight]; omega
theorem Pl.mono {d : PyData} {n w m v : Nat} (a : Pl d n w) (h1 : n ≤ m) (h2 : w ≤ v) : Pl d m v := ⟨a.lay, a.sh, a.nd, Nat.le_trans a.dp h1, Nat.le_trans a.wt h2, a.sr⟩
theorem PlA.mono {d : List PyData} {n w m v : Nat} (a : PlA d n w) (h1 : n ≤ m) (h2 : w ≤ v) : PlA d m v := ⟨a.lay, a.sh, a.nd, Nat.le_trans a.dp h1, Nat.le_trans a.wt h2, a.sr⟩
theorem Pl.shaped {d : PyData} {n w : Nat} (a : Pl d n w) (h : n ≤ 40) : SeqAt.shaped d = true := by
  have := a.dp
  unfold SeqAt.shaped
  rw [a.lay, decide_eq_true (by omega)]; rfl
theorem Pl.short {d : PyData} {n w : Nat} (a : Pl d n w) (h : w ≤ 100000) : d.shown.length ≤ sizeLine := by
  have h1 := PyData.shown_le 20 (by decide) d a.sr
  have h2 := a.wt
  rw [sizeLine_eq]
  omega
/-- rows of whole numbers below 10 ^ 19 -/
theorem pla_ints : ∀ t : List Int, (∀ i ∈ t, i.natAbs < 10 ^ 19) → PlA (dI t) 0 (t.length * 65)
  | [], _ => PlA.nil
  | i :: r, h => (PlA.cons (Pl.int (h i List.mem_cons_self)) (pla_ints r fun j hj => h j (List.mem_cons_of_mem _ hj))).mono (by omega) (by show 64 + 1 + r.length * 65 ≤ (r.length + 1) * 65; omega)
theorem pla_rows {n : Nat} : ∀ ts : Ts, (∀ t ∈ ts, t.length ≤ n ∧ ∀ i ∈ t, i.natAbs < 10 ^ 19) → PlA (ts.map fun t => PyData.tuple (dI t)) 1 (ts.length * (n * 65 + 1))
  | [], _ => PlA.nil.mono (by omega) (by omega)
  | t :: r, h => by
    obtain ⟨h1, h2⟩ := h t List.mem_cons_self
    refine (PlA.cons (Pl.tuple (pla_ints t h2)) (pla_rows r fun u hu => h u (List.mem_cons_of_mem _ hu))).mono (by omega) ?_
    show t.length * 65 + 1 + r.length * (n * 65 + 1) ≤ (r.length + 1) * (n * 65 + 1)
    rw [Nat.add_mul]
    omega
theorem pl_dT {n : Nat} {ts : Ts} (h : ∀ t ∈ ts, t.length ≤ n ∧ ∀ i ∈ t, i.natAbs < 10 ^ 19) : Pl (dT ts) 2 (ts.length * (n * 65 + 1)) := Pl.tuple (pla_rows ts h)
end K1
namespace K1
open PySem PySem.Spec PyProof.Rows L2
/-- tables that are shown and compared: few, of few states -/
def Few (ts : Ts) : Prop := ts.length ≤ 8 ∧ ∀ t ∈ ts, t.length ≤ 12 ∧ ∀ i ∈ t, i.natAbs < 10 ^ 19
theorem Few.pl {ts : Ts} (h : Few ts) : Pl (dT ts) 2 10000 := (pl_dT h.2).mono (Nat.le_refl _) (by have := h.1; have : ts.length * (12 * 65 + 1) ≤ 8 * (12 * 65 + 1) := Nat.mul_le_mul_right _ h.1; omega)
/-- machine == other: another machine with the same tables, or a tuple -/
def spMEq (M : Addr) : Sp := fun vs H Q _ => ∃ m ta ts v, vs = [.ref m, v] ∧ MachAt M H m ta (vts ts) ∧ Few ts ∧
  ((∃ m2 ta2, v = .ref m2 ∧ MachAt M H m2 ta2 (vts ts) ∧ Q (.bl true) H) ∨ (∃ a xs, v = .ref a ∧ H a = some (.tup xs) ∧ Q (.bl false) H))
/-- which answers isinstance gives of the class -/
structure McI (K : PySem.W.Frag) (M : Addr) : Prop where
  y : PySem.W.kitOne K (.ref M) (.ref M) = some true
  n : PySem.W.kitOne K (.type "tuple") (.ref M) = some false
def spNeed (M C : Addr) (fld : Str) (g : Ts → Nat) : Sp := fun vs H Q E => ∃ m ta ts v, vs = [.ref m, v] ∧ MachAt M H m ta (vts ts) ∧ (∃ (K : PySem.W.Frag) (o : Option (List V)), KV K H v o) ∧
  (belowB v (g ts : Int) = true → Q v H) ∧ (belowB v (g ts : Int) = false → Rz C fld v H E)
theorem ints_of {t0 : List V} {ts : Ts} (h : (vts ts)[0]? = some t0) : ∃ r : List Int, ts[0]? = some r ∧ t0 = vrow r := by
  rw [vts, List.getElem?_map] at h
  cases e : ts[0]? with
  | none => rw [e] at h; cases h
  | some r =>
    rw [e] at h
    exact ⟨r, rfl, (Option.some.inj h).symm⟩
/-- how many states -/
def nS (ts : Ts) : Nat := (ts[0]?.getD []).length
theorem MachAt.fs {M : Addr} {H : Hp} {m ta : Addr} {ts : Ts} (h : MachAt M H m ta (vts ts)) : ∃ dx : Addr, H m = some (.ins M dx (mf ta (ts.length : Int) (nS ts : Int))) := by
  obtain ⟨⟨dx, t0, h0, h1⟩, _⟩ := h
  obtain ⟨r, hr, rfl⟩ := ints_of h0
  refine ⟨dx, ?_⟩
  rw [h1]
  have e1 : (vts ts).length = ts.length := List.length_map _
  have e2 : (vrow r).length = nS ts := by
    unfold nS
    rw [hr]
    exact List.length_map _
  rw [e1, e2]
section
variable {P : Program} {w : World} {K : PySem.W.Frag} {mg : Str → Option Value} {base : Heap}
theorem scME : FnScope ["self", "other"] ["self", "other"] (defScope sMEq) := ⟨rfl, rfl, rfl, by decide +kernel, rfl, by decide +kernel, by decide +kernel⟩
theorem ok_meq {f M : Addr} {fd : FuncData} (F : Fun K "__eq__" "Machine.__eq__" sMEq f fd) (B : Bt mg) (T : McT K mg M) (T2 : McI K M) : FnOk P w K mg base CX0 1 f fd ["self", "other"] (spMEq M) := by
  refine F.ok scME (fun vs H Q E h => ?_) (fun cdv A outer s H vs Q E hr h => ?_)
  · obtain ⟨m, ta, ts, v, rfl, _⟩ := h
    rfl
  · obtain ⟨m, ta, ts, v, rfl, hM, hF, q⟩ := h
    refine ⟨_, pss_one (ps_ret (pe_and (pe_callB call_isi (by rfl) B.isinstance (by decide +kernel) (pa_cons (pv 1) (pa_cons (pe_glob (v := .ref M) (by rfl) T.g rfl) pa_nil)))
      (pe_one (pe_cmpR (op_eqD hr.units) (pe_fld (pv 0) rfl) (pe_fld (pv 1) rfl) (nomark _))))), ?_⟩
    obtain ⟨dx, h1⟩ := hM.fs
    rcases q with ⟨m2, ta2, rfl, hM2, q⟩ | ⟨a, xs, rfl, ha, q⟩
    · obtain ⟨dx2, h2⟩ := hM2.fs
      refine ⟨_, rfl, _, _, _, _, _, rfl, .own M, .base (.ins h2 T.cl T.ca T.sp T.tk T.mo), T2.y, _, rfl, iteT ?_⟩
      refine ⟨_, rfl, m, M, dx, _, _, rfl, h1, T.cl, T.nT, mf_t _ _ _, _, rfl, m2, M, dx2, _, _, rfl, h2, T.cl, T.nT, mf_t _ _ _, dT ts, dT ts, hM.2.dp, hM2.2.dp, hF.pl.shaped (by decide), hF.pl.shaped (by decide), qbl ?_ q⟩
      exact SeqAt.eqv_refl _ hF.pl.lay
    · refine ⟨_, rfl, _, _, _, _, _, rfl, .own M, .base (.tup ha), T2.n, _, rfl, iteF q⟩
theorem scNS : FnScope ["machine", "state"] ["machine", "state"] (defScope sNeedS) := ⟨rfl, rfl, rfl, by decide +kernel, rfl, by decide +kernel, by decide +kernel⟩
theorem ok_needS {f fB C M cI : Addr} {fd fdB : FuncData} {bm : List Value} {ql : Str} (D : Df K mg "need_state" sNeedS ["machine", "state"] f fd) (DB : Df K mg "is_below" sBelow ["value", "limit"] fB fdB) (T : McT K mg M) (TX : LState.Txt K mg "NoState" ql bm C cI)
    (GB : FnOk P w K mg base CX0 2 fB fdB ["value", "limit"] (spBelow K)) : FnOk P w K mg base (L2.CX P w) 3 f fd ["machine", "state"] (spNeed M C "state" nS) := by
  refine D.F.okX scNS (fun vs H Q E h => ?_) (fun cdv A outer s H vs Q E hr h => ?_)
  · obtain ⟨m, ta, ts, v, rfl, _⟩ := h
    rfl
  · obtain ⟨m, ta, ts, v, rfl, hM, ⟨K', o, kv⟩, q1, q2⟩ := h
    refine ⟨_, pss_cons (ps_if (pt_not (pt_val (pc DB GB hr pass0 (pa_cons (pv 1) (pa_cons (pe_fld (pv 0) rfl) pa_nil))))) (pss_one (ps_raise_LState rfl TX hr (takes_of rfl rfl rfl rfl) (pa_cons (pv 1) pa_nil))) pss_nil) (pss_one (ps_ret (pv 1))), ?_⟩
    obtain ⟨dx, h1⟩ := hM.fs
    have kv' : KV K H v o := by cases kv <;> first | exact .int _ | exact .bl _ | exact .non | exact .str _ | exact .lst (by assumption) | exact .tup (by assumption)
    refine ⟨_, rfl, _, rfl, m, M, dx, _, _, rfl, h1, T.cl, T.nS, mf_s _ _ _, v, o, _, rfl, kv', _, rfl, ifD (fun e => ?_) fun e => ?_⟩
    · exact ⟨_, rfl, _, rfl, fun d hd => q2 (by simpa using e) d _ (same_new hd) hd upd_same⟩
    · exact ⟨_, rfl, q1 (by simpa using e)⟩
end
end K1
namespace K1
open PySem PySem.Spec PyProof.Rows L2
def rowF (r : Option (List V)) (n : Int) : V := if seqB r 0 10000 = true then fnb (r.getD []) n else .int (-1)
theorem fnb_non {xs : List V} {lim : Int} (h : fnb xs lim = .non) : ∀ x ∈ xs, belowB x lim = true := by
  unfold fnb at h
  cases e : xs.findIdx? (fun x => !belowB x lim) with
  | some i => rw [e] at h; cases h
  | none =>
    rw [List.findIdx?_eq_none_iff] at e
    intro x hx
    simpa using e x hx
theorem fnb_all {xs : List V} {lim : Int} (h : ∀ x ∈ xs, belowB x lim = true) : fnb xs lim = .non := fnb_none fun j y _ hy => h y (List.mem_of_getElem? hy)
theorem rowF_non {r : Option (List V)} {n : Int} (h : rowF r n = .non) : ∃ xs, r = some xs ∧ ∀ x ∈ xs, belowB x n = true := by
  unfold rowF at h
  by_cases e : seqB r 0 10000 = true
  · rw [if_pos e] at h
    cases r with
    | none => cases e
    | some xs => exact ⟨xs, rfl, fnb_non h⟩
  · rw [if_neg e] at h
    cases h
/-- where a deed leads a state; where a row leads it -/
def stp (ts : Ts) (s d : Int) : Int := ((ts[d.toNat]?.getD [])[s.toNat]?).getD 0
def run (ts : Ts) (s : Int) (row : List Int) : Int := row.foldl (stp ts) s
/-- well made tables -/
structure Wf (ts : Ts) : Prop where
  t1 : 1 ≤ ts.length
  t8 : ts.length ≤ 8
  s1 : 1 ≤ nS ts
  s12 : nS ts ≤ 12
  row : ∀ t ∈ ts, t.length = nS ts ∧ ∀ i ∈ t, 0 ≤ i ∧ i < (nS ts : Int)
theorem Wf.few {ts : Ts} (h : Wf ts) : Few ts := ⟨h.t8, fun t ht => ⟨by rw [(h.row t ht).1]; exact h.s12, fun i hi => by
  have := (h.row t ht).2 i hi
  have := h.s12
  omega⟩⟩
theorem Wf.at_ {ts : Ts} (h : Wf ts) {s d : Int} (hd : 0 ≤ d ∧ d < ts.length) (hs : 0 ≤ s ∧ s < (nS ts : Int)) : ∃ t, ts[d.toNat]? = some t ∧ t[s.toNat]? = some (stp ts s d) ∧ 0 ≤ stp ts s d ∧ stp ts s d < (nS ts : Int) := by
  have h1 : d.toNat < ts.length := by omega
  have ht : ts[d.toNat]? = some ts[d.toNat] := by simp [h1]
  have hm : ts[d.toNat] ∈ ts := List.getElem_mem h1
  obtain ⟨r1, r2⟩ := h.row _ hm
  have h2 : s.toNat < ts[d.toNat].length := by rw [r1]; omega
  have e : stp ts s d = ts[d.toNat][s.toNat] := by
    unfold stp
    rw [ht]
    simp [h2]
  refine ⟨_, ht, by rw [e]; simp [h2], ?_⟩
  rw [e]
  exact r2 _ (List.getElem_mem h2)
theorem Wf.run {ts : Ts} (h : Wf ts) : ∀ (row : List Int) (s : Int), (∀ d ∈ row, 0 ≤ d ∧ d < (ts.length : Int)) → 0 ≤ s ∧ s < (nS ts : Int) → 0 ≤ run ts s row ∧ run ts s row < (nS ts : Int)
  | [], s, _, hs => hs
  | d :: r, s, hd, hs => by
    obtain ⟨t, _, _, h3⟩ := h.at_ (hd d List.mem_cons_self) hs
    exact Wf.run h r (stp ts s d) (fun e he => hd e (List.mem_cons_of_mem _ he)) h3
theorem run_snoc (ts : Ts) (s : Int) (row : List Int) (d : Int) : run ts s (row ++ [d]) = stp ts (run ts s row) d := by
  unfold run
  rw [List.foldl_append]; rfl
theorem take_succ {α : Type} {l : List α} {i : Nat} {x : α} (h : l[i]? = some x) : l.take (i + 1) = l.take i ++ [x] := by
  rw [List.take_add_one, h]; rfl
def spFault (K : PySem.W.Frag) (M : Addr) : Sp := fun vs H Q _ => ∃ m ta ts v r, vs = [.ref m, v] ∧ MachAt M H m ta (vts ts) ∧ Rw K H v r ∧ ∀ H', Same H H' → Q (rowF r (ts.length : Int)) H'
def spRow (K : PySem.W.Frag) (M C : Addr) : Sp := fun vs H Q E => ∃ m ta ts v r, vs = [.ref m, v] ∧ MachAt M H m ta (vts ts) ∧ Rw K H v r ∧ (rowF r (ts.length : Int) ≠ .non → Rz C "at" (rowF r (ts.length : Int)) H E) ∧
  (rowF r (ts.length : Int) = .non → ∀ xs, r = some xs → ∀ p H', Same H H' → H' p = some (.tup xs) → Q (.ref p) H')
def spMoved (M : Addr) : Sp := fun vs H Q _ => ∃ m ta ts s p row, vs = [.ref m, .int s, .ref p] ∧ MachAt M H m ta (vts ts) ∧ Wf ts ∧ (0 ≤ s ∧ s < (nS ts : Int)) ∧ H p = some (.tup (vrow row)) ∧ (∀ d ∈ row, 0 ≤ d ∧ d < (ts.length : Int)) ∧ Q (.int (run ts s row)) H
def spLed (K : PySem.W.Frag) (M CS CR : Addr) : Sp := fun vs H Q E => ∃ m ta ts v rv, vs = [.ref m, v, rv] ∧ MachAt M H m ta (vts ts) ∧ Wf ts ∧ (∃ o, KV K H v o) ∧ (belowB v (nS ts : Int) = false → Rz CS "state" v H E) ∧
  ((belowB v (nS ts : Int) = true) → ∃ s r, v = .int s ∧ Rw K H rv r ∧ (rowF r (ts.length : Int) ≠ .non → Rz CR "at" (rowF r (ts.length : Int)) H E) ∧ (rowF r (ts.length : Int) = .non → ∃ row, r = some (vrow row) ∧ ∀ H', Same H H' → Q (.int (run ts s row)) H'))
section
variable {P : Program} {w : World} {K : PySem.W.Frag} {mg : Str → Option Value} {base : Heap}
theorem scFa : FnScope ["machine", "value"] ["machine", "value"] (defScope sFault) := ⟨rfl, rfl, rfl, by decide +kernel, rfl, by decide +kernel, by decide +kernel⟩
theorem ok_fault {f fS fF M : Addr} {fd fdS fdF : FuncData} (D : Df K mg "row_fault" sFault ["machine", "value"] f fd) (DS : Df K mg "is_sequence" sSeq ["value", "least", "most"] fS fdS) (DF : Df K mg "first_not_below" sFnb ["items", "limit"] fF fdF) (c : Ct mg) (T : McT K mg M)
    (GS : FnOk P w K mg base CX0 1 fS fdS ["value", "least", "most"] (spSeq K)) (GF : FnOk P w K mg base CX0 3 fF fdF ["items", "limit"] (spFnb K)) : FnOk P w K mg base CX0 4 f fd ["machine", "value"] (spFault K M) := by
  obtain ⟨t1, hc1⟩ := c.row
  refine D.F.ok scFa (fun vs H Q E h => ?_) (fun cdv A outer s H vs Q E hr h => ?_)
  · obtain ⟨m, ta, ts, v, r, rfl, _⟩ := h
    rfl
  · obtain ⟨m, ta, ts, v, r, rfl, hM, W, q⟩ := h
    refine ⟨_, pss_cons (ps_if (pt_not (pt_val (pc DS GS (hr.mono (by decide)) pass0 (pa_cons (pv 1) (pa_cons pe_int (pa_cons (pe_glob (v := .int 10000) (by rfl) hc1 ⟨_, rfl⟩) pa_nil)))))) (pss_one (ps_ret (pe_un un_neg pe_int))) pss_nil)
      (pss_one (ps_ret (pc DF GF hr pass0 (pa_cons (pv 1) (pa_cons (pe_fld (pv 0) rfl) pa_nil))))), ?_⟩
    refine ⟨_, rfl, v, r, 0, 10000, rfl, W.kv, fun H1 s1 => ⟨_, rfl, ifD (fun e => ?_) fun e => ?_⟩⟩
    · have e' : ¬ seqB r 0 10000 = true := by simpa using e
      refine ⟨_, rfl, ?_⟩
      have := q _ s1
      unfold rowF at this
      rw [if_neg e'] at this
      exact this
    · have e' : seqB r 0 10000 = true := by simpa using e
      obtain ⟨xs, rfl⟩ : ∃ xs, r = some xs := by cases r with
        | none => cases e'
        | some xs => exact ⟨xs, rfl⟩
      obtain ⟨a, rfl, hS⟩ := W.kv.seqA
      obtain ⟨dx, h1⟩ := (hM.same s1).fs
      refine ⟨_, rfl, _, rfl, m, M, dx, _, _, rfl, h1, T.cl, T.nD, mf_d _ _ _, a, xs, _, rfl, hS.same s1, (W.ks xs rfl).same s1, fun H2 s2 => ?_⟩
      have := q _ (s1.trans s2)
      unfold rowF at this
      rw [if_pos e'] at this
      exact this
theorem scRo : FnScope ["machine", "value", "at"] ["machine", "value"] (defScope sRow) := ⟨rfl, rfl, rfl, by decide +kernel, rfl, by decide +kernel, by decide +kernel⟩
theorem ok_row {f fF C M cI : Addr} {fd fdF : FuncData} {bm : List Value} {ql : Str} (D : Df K mg "check_row" sRow ["machine", "value"] f fd) (DF : Df K mg "row_fault" sFault ["machine", "value"] fF fdF) (B : Bt mg) (TX : LAt.Txt K mg "BadRow" ql bm C cI)
    (GF : FnOk P w K mg base CX0 4 fF fdF ["machine", "value"] (spFault K M)) : FnOk P w K mg base (L2.CX P w) 5 f fd ["machine", "value"] (spRow K M C) := by
  refine D.F.okX scRo (fun vs H Q E h => ?_) (fun cdv A outer s H vs Q E hr h => ?_)
  · obtain ⟨m, ta, ts, v, r, rfl, _⟩ := h
    rfl
  · obtain ⟨m, ta, ts, v, r, rfl, hM, W, q1, q2⟩ := h
    refine ⟨_, pss_cons (ps_set (i := 2) scRo.nd rfl (.inl rfl) (pc DF GF hr pass0 (pa_cons (pv 0) (pa_cons (pv 1) pa_nil))))
      (pss_cons (ps_if (pt_cmpR op_notN (pv 2) pe_non (nomark _)) (pss_one (ps_raise_LAt rfl TX hr (takes_of rfl rfl rfl rfl) (pa_cons (pv 2) pa_nil))) pss_nil)
      (pss_one (ps_ret (pe_callTy call_tuple_of (by rfl) B.tuple (by decide +kernel) (pa_cons (pv 1) pa_nil))))), ?_⟩
    refine ⟨_, rfl, _, rfl, m, ta, ts, v, r, rfl, hM, W, fun H1 s1 => ?_⟩
    refine ⟨_, rfl, rfl, _, rfl, ifD (fun e => ?_) fun e => ?_⟩
    · have e' : rowF r (ts.length : Int) ≠ .non := by simpa using e
      exact ⟨_, rfl, _, rfl, fun d hd => q1 e' d _ (s1.trans (same_new hd)) (s1.free hd) upd_same⟩
    · have e' : rowF r (ts.length : Int) = .non := by simpa using e
      obtain ⟨xs, rfl, _⟩ := rowF_non e'
      obtain ⟨a, rfl, hS⟩ := W.kv.seqA
      refine ⟨_, rfl, a, xs, rfl, ?_⟩
      rcases hS.same s1 with h | h
      · exact .inl ⟨SqL.of h, fun l hl => q2 e' xs rfl l _ (s1.trans (same_new hl)) upd_same⟩
      · exact .inr ⟨SqT.of h, q2 e' xs rfl a _ s1 h⟩
theorem scMv : FnScope ["machine", "state", "row", "deed"] ["machine", "state", "row"] (defScope sMoved) := ⟨rfl, rfl, rfl, by decide +kernel, rfl, by decide +kernel, by decide +kernel⟩
theorem ok_moved {f M : Addr} {fd : FuncData} (D : Df K mg "moved" sMoved ["machine", "state", "row"] f fd) (T : McT K mg M) : FnOk P w K mg base CX0 1 f fd ["machine", "state", "row"] (spMoved M) := by
  refine D.F.ok scMv (fun vs H Q E h => ?_) (fun cdv A outer s H vs Q E hr h => ?_)
  · obtain ⟨m, ta, ts, v, p, row, rfl, _⟩ := h
    rfl
  · obtain ⟨m, ta, ts, s0, p, row, rfl, hM, hW, hs, hp, hd, q⟩ := h
    refine ⟨_, pss_cons (ps_for PassesOwn.never rfl (pi_tup (pv 2)) (pg_name (i := 3) scMv.nd rfl (.inl rfl)) (pss_one (ps_set (i := 1) scMv.nd rfl (.inl rfl) (pe_ix ix_tup (pe_ix ix_tup (pe_fld (pv 0) rfl) (pv 3) (fun _ _ => rfl)) (pv 1) (fun _ _ => rfl)))))
      (pss_one (ps_ret (pv 1))), ?_⟩
    refine ⟨_, rfl, p, rfl, ⟨_, SqT.of hp⟩, for_tup (K := K) (a := p) (xs := vrow row) (fun i σ H' => ∃ v3 : Option V, σ = [some (.ref m), some (.int (run ts s0 (row.take i))), some (.ref p), v3] ∧ H' = H)
      ⟨none, rfl, rfl⟩ (fun i σ H' _ ⟨_, _, e⟩ => by rw [e]; exact SqT.of hp) ?_ ?_⟩
    · rintro i y σ H' hi ⟨v3, rfl, rfl⟩
      obtain ⟨d, ed, rfl⟩ : ∃ d, row[i]? = some d ∧ y = V.int d := by
        rw [vrow, List.getElem?_map] at hi
        cases e : row[i]? with
        | none => rw [e] at hi; cases hi
        | some z =>
          rw [e] at hi
          exact ⟨z, rfl, (Option.some.inj hi).symm⟩
      have hb := hd d (List.mem_of_getElem? ed)
      have hr' := hW.run (row.take i) s0 (fun e he => hd e (List.mem_of_mem_take he)) hs
      obtain ⟨t, h1, h2, h3⟩ := hW.at_ hb hr'
      obtain ⟨dx, hm⟩ := hM.fs
      obtain ⟨as, ha1, ha2, ha3⟩ := hM.2
      have hla : d.toNat < as.length := by rw [ha2, vts, List.length_map]; omega
      have hA : as[d.toNat]? = some as[d.toNat] := by simp [hla]
      have hT := ha3 d.toNat _ (vrow t) hA (by rw [vts, List.getElem?_map, h1]; rfl)
      refine ⟨_, rfl, m, M, dx, _, _, rfl, hm, T.cl, T.nT, mf_t _ _ _, _, rfl, ta, _, d, _, rfl, rfl, SqT.of ha1, at_of (j := d.toNat) (by omega) (by rw [List.getElem?_map, hA]; rfl), ?_⟩
      refine ⟨_, rfl, _, _, _, .int (stp ts (run ts s0 (row.take i)) d), rfl, rfl, SqT.of hT, at_of (j := (run ts s0 (row.take i)).toNat) (by omega) (by rw [vrow, List.getElem?_map, h2]; rfl), ?_⟩
      refine ⟨some (.int d), ?_, rfl⟩
      rw [take_succ ed, run_snoc]
      rfl
    · rintro σ H' ⟨v3, rfl, rfl⟩
      have e : row.take (vrow row).length = row := by rw [vrow, List.length_map, List.take_length]
      rw [e]
      exact ⟨_, rfl, q⟩
theorem scLe : FnScope ["machine", "state", "row"] ["machine", "state", "row"] (defScope sLed) := ⟨rfl, rfl, rfl, by decide +kernel, rfl, by decide +kernel, by decide +kernel⟩
theorem ok_led {f fN fM fR CS CR M : Addr} {fd fdN fdM fdR : FuncData} (D : Df K mg "led" sLed ["machine", "state", "row"] f fd) (DN : Df K mg "need_state" sNeedS ["machine", "state"] fN fdN) (DM : Df K mg "moved" sMoved ["machine", "state", "row"] fM fdM) (DR : Df K mg "check_row" sRow ["machine", "value"] fR fdR)
    (GN : FnOk P w K mg base (L2.CX P w) 3 fN fdN ["machine", "state"] (spNeed M CS "state" nS)) (GM : FnOk P w K mg base CX0 1 fM fdM ["machine", "state", "row"] (spMoved M)) (GR : FnOk P w K mg base (L2.CX P w) 5 fR fdR ["machine", "value"] (spRow K M CR)) :
    FnOk P w K mg base (L2.CX P w) 6 f fd ["machine", "state", "row"] (spLed K M CS CR) := by
  refine D.F.okX scLe (fun vs H Q E h => ?_) (fun cdv A outer s H vs Q E hr h => ?_)
  · obtain ⟨m, ta, ts, v, rv, rfl, _⟩ := h
    rfl
  · obtain ⟨m, ta, ts, v, rv, rfl, hM, hW, ⟨o, kv⟩, q1, q2⟩ := h
    refine ⟨_, pss_cons (ps_expr (pc DN GN (hr.mono (by decide)) (pass1 (takes_of rfl rfl rfl rfl)) (pa_cons (pv 0) (pa_cons (pv 1) pa_nil))))
      (pss_one (ps_ret (pc DM GM (hr.mono (by decide)) pass0 (pa_cons (pv 0) (pa_cons (pv 1) (pa_cons (pc DR GR hr (pass1 (takes_of rfl rfl rfl rfl)) (pa_cons (pv 0) (pa_cons (pv 2) pa_nil))) pa_nil)))))), ?_⟩
    refine ⟨_, rfl, _, rfl, m, ta, ts, v, rfl, hM, ⟨K, o, kv⟩, fun e => ?_, fun e => q1 e⟩
    obtain ⟨s0, r, rfl, W, q3, q4⟩ := q2 e
    have hs : 0 ≤ s0 ∧ s0 < (nS ts : Int) := by
      have z : (decide (0 ≤ s0) && decide (s0 < (nS ts : Int))) = true := e
      simpa using z
    refine ⟨_, rfl, _, rfl, _, rfl, _, rfl, m, ta, ts, rv, r, rfl, hM, W, fun e2 => q3 e2, fun e2 xs hxs p H' sm hp => ?_⟩
    obtain ⟨row, rfl, q⟩ := q4 e2
    obtain rfl : vrow row = xs := Option.some.inj hxs
    obtain ⟨_, hx, hb⟩ := rowF_non e2
    obtain rfl := Option.some.inj hx
    refine ⟨m, ta, ts, s0, p, row, rfl, hM.same sm, hW, hs, hp, fun d hd => ?_, q _ sm⟩
    have z : (decide (0 ≤ d) && decide (d < (ts.length : Int))) = true := hb (.int d) (List.mem_map.mpr ⟨d, hd, rfl⟩)
    simpa using z
end
end K1
namespace K1
open PySem PySem.Spec PyProof.Rows L2
/-! ### {k: v}, k a tuple -/
def tDispT (tk tv : TE) : TE := fun σ H Q => ∀ p, H p = none → tk σ (upd H p (.dT [])) fun x H1 => tv σ H1 fun y H2 => ∃ b k, x = .ref b ∧ H2 b = some (.tup (k.map kV)) ∧ H2 p = some (.dT []) ∧ Q (.ref p) (upd H2 p (.dT [(k, y)]))
theorem pe_dispT {X : Cx} {pos : Pos} {ke ve : Expr} {tk tv : TE} (hu : X.A.units < cLine) (hk : PE X ke tk) (hv : PE X ve tv) : PE X (.Dict [some ke] [ve] pos) (tDispT tk tv) := by
  refine ⟨fun pins s σ H Q I q => ?_⟩
  have hn := I.hok.fresh (Nat.le_refl s.heap.objs.size)
  have I1 := I.laid (a := s.heap.objs.size) (o := .dT []) (h' := s.heap.push { cls := .type "dict", data := .dict #[] }) (t' := s.toks) (fun _ _ q => Heap.get?_push_of_some _ q) (Nat.le_refl _) (dt_empty s.heap I.big)
  have P := pps_cons (pos := pos) hk hv pps_nil
  rw [arm_eval_Dict, zip_pairTrees [some ke] [ve] X.env pos rfl rfl, dictDisplay_pairs _ (by intro e; cases e) (by show 1 < 17; decide)]
  refine wpAny_bind (wpAny_standAt (wpAny_bind (wpAny_subDictH (knd := tupleKind (mixKind X.prog X.w)) (Q := fun d s' => wpAny (model X.prog X.w) X.A (pure (Value.ref d)) (EP X pins σ Q) X.xe s') hu (by show 1 ≤ 15; decide) ?_)))
  let Φ : V → V → Hp → Prop := fun x y H2 => ∃ b k, x = .ref b ∧ H2 b = some (.tup (k.map kV)) ∧ H2 s.heap.objs.size = some (.dT []) ∧ Q (.ref s.heap.objs.size) (upd H2 s.heap.objs.size (.dT [(k, y)]))
  refine thn (P.run pins _ σ _ (fun ps H2 => match ps with | [(x, y)] => Φ x y H2 | _ => False) I1 (q _ hn)) fun ws s2 hh => ?_
  obtain ⟨ps, H2, I2, rel, hh⟩ := hh
  match ps, hh with
  | [(x, y)], ⟨b, k, ex, hb, hp, q2⟩ =>
    cases rel with
    | cons r1 r2 =>
      cases r2
      rename_i u
      obtain ⟨u1, u2⟩ := u
      obtain ⟨rx, ry⟩ := r1
      subst ex
      obtain rfl : u1 = Value.ref b := rx
      obtain ⟨z, hd, xs, kt, dd⟩ := dt_of I2.hok hp
      cases kt
      refine ⟨[(k, b, u2)], ⟨rfl, rfl, key_of I2.hok hb, trivial⟩, dd, fun h' tk' dd' hs => wpAny_pure ?_⟩
      have dd2 : h'.DictOfH (tupleKind (mixKind X.prog X.w)) s.heap.objs.size [(k, b, u2)] := dd'
      have he : ∃ q, h'.get? s.heap.objs.size = some q := let ⟨q, _, _, hq, _⟩ := dd2; ⟨q, hq⟩
      obtain ⟨ob, es, ep, hq, h2, h3, h4, _, h5⟩ := dd2
      have nb : b ≠ s.heap.objs.size := ne_of hb hp (fun z => nomatch z)
      have kt2 : KT (upd H2 s.heap.objs.size (.dT [(k, y)])) [(k, y)] [(k, b, u2)] := .cons ⟨rfl, by rw [upd_ne nb]; exact hb, ry⟩ .nil
      refine ⟨.ref s.heap.objs.size, _, d_write (ob := .dT [(k, y)]) I2 (by rw [hp]; exact True.intro) hs he ⟨by show 1 ≤ sizeLine; decide, hd, _, kt2, ob, es, ep, hq, h2, h3, h4, h5⟩, rfl, q2⟩
/-! ### the keys of a dict that nobody else sees: locked for good -/
def iKeysF (td : TE) : TI := fun σ H R => td σ H fun x H1 => ∃ d kvs, x = .ref d ∧ H1 d = some (.dT kvs) ∧ ∀ o, R (Itkt d o kvs) (upd H1 d (.frz o (.dT kvs)))
theorem pi_keysF {X : Cx} {tg e : Expr} {td : TE} (he : PE X e td) : PI X tg e (iKeysF td) := by
  refine ⟨fun pins s σ H R I h => ?_⟩
  refine thn (he.run pins s σ H _ I h) fun u s1 ⟨x, H1, I1, rx, d, kvs, ex, hd0, q⟩ => ?_
  subst ex
  obtain rfl : u = Value.ref d := rx
  obtain ⟨o, I2⟩ := I1.lock hd0 trivial
  obtain ⟨hs, hgd, hx, es, ep, hdt, hsz, ent⟩ := I2.frzT upd_same
  refine iter_keys hs hgd hx hdt (pi_one (tk := s1.toks) I2 _ (turn_keysT _ hdt) ⟨_, Heap.get?_push_size _ rfl, rfl, ?_⟩ (q o))
  rw [hsz] <;> rfl
theorem lc_keysF {d : Addr} {o : Obj} {kvs : List (List Key × V)} {g : TG} {tt : TT} {te : TE} {vs : List Nat} {σ : L2.St} {H1 : Hp} {D : Addr} {Qd : Hp → Prop} (Pv : Nat → Hp → Prop) (h0 : Pv 0 (upd H1 D (.lst []))) (hl : ∀ i H, i ≤ kvs.length → Pv i H → H d = some (.frz o (.dT kvs)))
    (hs : ∀ (i : Nat) k v q H, kvs[i]? = some (k, v) → H q = some (.tup (k.map kV)) → Pv i H → g (.ref q) (wipe σ vs) H fun σ2 H2 => wipe σ2 vs = wipe σ vs ∧ tt σ2 H2 fun b H3 =>
      if b = true then te σ2 H3 fun y H4 => ∃ acc, H4 D = some (.lst acc) ∧ acc.length < sizeLine ∧ Pv (i + 1) (upd H4 D (.lst (acc ++ [y]))) else Pv (i + 1) H3) (hd : ∀ H, Pv kvs.length H → Qd H) :
    ∃ W : Nat → Nat → Hp → Prop, (∃ m, W 0 m (upd H1 D (.lst []))) ∧ ∀ i m H, W i m H →
      ((Itkt d o kvs).stop i H ∧ Qd H) ∨ ((Itkt d o kvs).go i H ∧ ∃ Nx : Hp → Prop, (∀ H', Nx H' → ∃ m', m' < m ∧ W (i + 1) m' H') ∧ ∀ x H', (Itkt d o kvs).yld i H x H' → g x (wipe σ vs) H' fun σ2 H2 => wipe σ2 vs = wipe σ vs ∧ tt σ2 H2 fun b H3 =>
        if b = true then te σ2 H3 fun y H4 => ∃ acc, H4 D = some (.lst acc) ∧ acc.length < sizeLine ∧ Nx (upd H4 D (.lst (acc ++ [y]))) else Nx H3) := by
  refine ⟨fun i m H => m = kvs.length - i ∧ i ≤ kvs.length ∧ Pv i H, ⟨kvs.length, by simp, Nat.zero_le _, h0⟩, ?_⟩
  rintro i m H ⟨rfl, hi, p⟩
  have q := hl i H hi p
  by_cases hlt : i < kvs.length
  · refine .inr ⟨⟨q, hlt⟩, Pv (i + 1), fun H' p' => ⟨kvs.length - (i + 1), by omega, rfl, hlt, p'⟩, fun x H' y => ?_⟩
    obtain ⟨e, k, v, b, e1, e2, e3⟩ := y
    subst e e2
    exact hs i k v b _ e1 e3 p
  · have e : i = kvs.length := by omega
    subst e
    exact .inl ⟨⟨q, Nat.le_refl _⟩, hd H p⟩
end K1
namespace K1
open PySem PySem.Spec PyProof.Rows L2
/-- the states to which rows lead -/
inductive Reach (ts : Ts) (s : Int) : Int → Prop
  | refl : Reach ts s s
  | step {x d : Int} (h : Reach ts s x) (hd : 0 ≤ d ∧ d < (ts.length : Int)) : Reach ts s (stp ts x d)
theorem Reach.rng {ts : Ts} (w : Wf ts) {s x : Int} (hs : 0 ≤ s ∧ s < (nS ts : Int)) (h : Reach ts s x) : 0 ≤ x ∧ x < (nS ts : Int) := by
  induction h with
  | refl => exact hs
  | step h hd ih => exact (w.at_ hd ih).choose_spec.2.2
abbrev kI (x : Int) : List Key := [Sum.inl x]
/-- the search: its dict at d, its queue at q, the states met L -/
structure BF (ts : Ts) (s0 : Int) (H : Hp) (d q : Addr) (L : List Int) (kvs : List (List Key × V)) (as : List Addr) : Prop where
  hd : H d = some (.dT kvs)
  ky : kvs.map (·.1) = L.map kI
  vl : ∀ (i : Nat) k v, kvs[i]? = some (k, v) → ∃ a xs, v = .ref a ∧ H a = some (.tup xs) ∧ xs.length ≤ i
  hq : H q = some (.lst (as.map V.ref))
  ln : as.length = L.length
  it : ∀ (i : Nat) a x, as[i]? = some a → L[i]? = some x → H a = some (.tup [.int x])
  nd : L.Nodup
  rn : ∀ x ∈ L, 0 ≤ x ∧ x < (nS ts : Int)
  rc : ∀ x ∈ L, Reach ts s0 x
  st : s0 ∈ L
theorem BF.same {ts : Ts} {s0 : Int} {H H' : Hp} {d q : Addr} {L : List Int} {kvs : List (List Key × V)} {as : List Addr} (b : BF ts s0 H d q L kvs as) (s : Same H H') : BF ts s0 H' d q L kvs as :=
  ⟨s _ _ b.hd, b.ky, fun i k v e => let ⟨a, xs, h1, h2, h3⟩ := b.vl i k v e; ⟨a, xs, h1, s _ _ h2, h3⟩, s _ _ b.hq, b.ln, fun i a x e1 e2 => s _ _ (b.it i a x e1 e2), b.nd, b.rn, b.rc, b.st⟩
/-- at most as many as there are numbers -/
theorem nodup_le : ∀ (n : Nat) (L : List Int), L.Nodup → (∀ x ∈ L, 0 ≤ x ∧ x < (n : Int)) → L.length ≤ n
  | 0, L, _, h => by
    cases L with
    | nil => exact Nat.le_refl _
    | cons a r => have := h a List.mem_cons_self; omega
  | n + 1, L, nd, h => by
    have ih := nodup_le n (L.erase (n : Int)) (nd.erase _) fun x hx => by
      have h1 := h x (List.mem_of_mem_erase hx)
      have h2 : x ≠ (n : Int) := fun e => by
        rw [e] at hx
        exact (List.Nodup.mem_erase_iff nd).mp hx |>.1 rfl
      omega
    have h3 : L.length ≤ (L.erase (n : Int)).length + 1 := by
      by_cases hm : (n : Int) ∈ L
      · rw [List.length_erase_of_mem hm]; omega
      · rw [List.erase_of_not_mem hm]; omega
    omega
theorem BF.few {ts : Ts} {s0 : Int} {H : Hp} {d q : Addr} {L : List Int} {kvs : List (List Key × V)} {as : List Addr} (b : BF ts s0 H d q L kvs as) : L.length ≤ nS ts := nodup_le _ _ b.nd b.rn
theorem BF.klen {ts : Ts} {s0 : Int} {H : Hp} {d q : Addr} {L : List Int} {kvs : List (List Key × V)} {as : List Addr} (b : BF ts s0 H d q L kvs as) : kvs.length = L.length := by
  have := congrArg List.length b.ky
  simpa using this
theorem val_some {kvs : List (List Key × V)} {k : List Key} {v : V} (h : valV kvs k = some v) : ∃ i : Nat, kvs[i]? = some (k, v) := by
  unfold valV at h
  cases e : kvs.find? (fun kv => decide (kv.1 = k)) with
  | none => rw [e] at h; cases h
  | some p =>
    rw [e] at h
    have h1 := List.find?_some e
    have h2 := List.mem_of_find?_eq_some e
    obtain ⟨i, hi, ep⟩ := List.mem_iff_getElem.mp h2
    refine ⟨i, ?_⟩
    rw [List.getElem?_eq_getElem hi, ep]
    obtain ⟨p1, p2⟩ := p
    have e1 : p1 = k := of_decide_eq_true h1
    have e2 : p2 = v := Option.some.inj h
    rw [e1, e2]
theorem val_none {kvs : List (List Key × V)} {L : List Int} (hk : kvs.map (·.1) = L.map kI) {x : Int} : valV kvs (kI x) = none ↔ x ∉ L := by
  have e := valV_any (kI x) kvs
  have h : (kvs.any fun kv => decide (kv.1 = kI x)) = true ↔ x ∈ L := by
    have z : (kvs.any fun kv => decide (kv.1 = kI x)) = ((kvs.map (·.1)).any fun k => decide (k = kI x)) := by rw [List.any_map]; rfl
    rw [z, hk, List.any_map, List.any_eq_true]
    constructor
    · rintro ⟨y, hy, e⟩
      have e' : kI y = kI x := of_decide_eq_true e
      injection e' with e1 _
      injection e1 with e1
      rw [← e1]; exact hy
    · intro hx
      exact ⟨x, hx, decide_eq_true rfl⟩
  constructor
  · intro hn hx
    rw [hn] at e
    rw [h.mpr hx] at e
    cases e
  · intro hx
    cases q : valV kvs (kI x) with
    | none => rfl
    | some v =>
      rw [q] at e
      exact absurd (h.mp e) hx
/-- a new state: into the dict and the queue -/
theorem BF.put {ts : Ts} {s0 : Int} {H : Hp} {d q : Addr} {L : List Int} {kvs : List (List Key × V)} {as : List Addr} (b : BF ts s0 H d q L kvs as) {x : Int} {e a : Addr} {xs : List V} (hx : x ∉ L) (he : H e = some (.tup [.int x])) (ha : H a = some (.tup xs)) (hl : xs.length ≤ L.length)
    (hr : 0 ≤ x ∧ x < (nS ts : Int)) (hc : Reach ts s0 x) :
    BF ts s0 (upd (upd H d (.dT (putK kvs (kI x) (.ref a)))) q (.lst (as.map V.ref ++ [.ref e]))) d q (L ++ [x]) (kvs ++ [(kI x, .ref a)]) (as ++ [e]) := by
  have ndq : d ≠ q := ne_of b.hd b.hq (by intro z; cases z)
  have keep : ∀ c ys, H c = some (.tup ys) → (upd (upd H d (.dT (putK kvs (kI x) (.ref a)))) q (.lst (as.map V.ref ++ [.ref e]))) c = some (.tup ys) := fun c ys h => by
    rw [upd_ne (ne_of h b.hq (by intro z; cases z)), upd_ne (ne_of h b.hd (by intro z; cases z))]; exact h
  refine ⟨?_, ?_, fun i k v h => ?_, ?_, ?_, fun i c y h1 h2 => ?_, ?_, fun y hy => ?_, fun y hy => ?_, List.mem_append_left _ b.st⟩
  · rw [upd_ne ndq, upd_same, putK_new _ ((val_none b.ky).mpr hx)]
  · rw [List.map_append, b.ky, List.map_append]; rfl
  · by_cases hi : i < kvs.length
    · rw [List.getElem?_append_left hi] at h
      obtain ⟨c, ys, e1, e2, e3⟩ := b.vl i k v h
      exact ⟨c, ys, e1, keep _ _ e2, e3⟩
    · have hi2 : i = kvs.length := by
        have := (List.getElem?_eq_some_iff.mp h).1
        rw [List.length_append] at this
        have z : ([(kI x, V.ref a)] : List (List Key × V)).length = 1 := rfl
        omega
      subst hi2
      rw [List.getElem?_append_right (Nat.le_refl _), Nat.sub_self] at h
      have e1 : (kI x, V.ref a) = (k, v) := Option.some.inj h
      injection e1 with _ e1
      exact ⟨a, xs, e1.symm, keep _ _ ha, by rw [b.klen]; exact hl⟩
  · rw [upd_same, List.map_append]; rfl
  · rw [List.length_append, List.length_append, b.ln]; rfl
  · by_cases hi : i < as.length
    · rw [List.getElem?_append_left hi] at h1
      rw [List.getElem?_append_left (by rw [← b.ln]; exact hi)] at h2
      exact keep _ _ (b.it i c y h1 h2)
    · have hi2 : i = as.length := by
        have := (List.getElem?_eq_some_iff.mp h1).1
        rw [List.length_append] at this
        have z : ([e] : List Addr).length = 1 := rfl
        omega
      subst hi2
      rw [List.getElem?_append_right (Nat.le_refl _), Nat.sub_self] at h1
      rw [b.ln, List.getElem?_append_right (Nat.le_refl _), Nat.sub_self] at h2
      rw [← Option.some.inj h1, ← Option.some.inj h2]
      exact keep _ _ he
  · rw [List.nodup_append]
    exact ⟨b.nd, by simp, fun y hy z hz e => by
      rw [List.mem_singleton.mp hz] at e
      rw [e] at hy
      exact hx hy⟩
  · rcases List.mem_append.mp hy with h | h
    · exact b.rn y h
    · rw [List.mem_singleton.mp h]; exact hr
  · rcases List.mem_append.mp hy with h | h
    · exact b.rc y h
    · rw [List.mem_singleton.mp h]; exact hc
/-- a key's value -/
theorem BF.look {ts : Ts} {s0 : Int} {H : Hp} {d q : Addr} {L : List Int} {kvs : List (List Key × V)} {as : List Addr} (b : BF ts s0 H d q L kvs as) {x : Int} {i : Nat} (hi : L[i]? = some x) : ∃ a xs, valV kvs (kI x) = some (.ref a) ∧ H a = some (.tup xs) ∧ xs.length ≤ i := by
  cases e : valV kvs (kI x) with
  | none => exact absurd (List.mem_of_getElem? hi) ((val_none b.ky).mp e)
  | some v =>
    obtain ⟨j, hj⟩ := val_some e
    obtain ⟨a, xs, rfl, h2, h3⟩ := b.vl j _ _ hj
    have hk : (kvs.map (·.1))[j]? = some (kI x) := by rw [List.getElem?_map, hj]; rfl
    rw [b.ky, List.getElem?_map] at hk
    cases e2 : L[j]? with
    | none => rw [e2] at hk; cases hk
    | some y =>
      rw [e2] at hk
      have e3 : kI y = kI x := Option.some.inj hk
      injection e3 with e4 _
      injection e4 with e4
      subst e4
      have hij : j = i := by
        obtain ⟨h1, e5⟩ := List.getElem?_eq_some_iff.mp e2
        obtain ⟨h2', e6⟩ := List.getElem?_eq_some_iff.mp hi
        exact (List.getElem_inj b.nd).mp (e5.trans e6.symm)
      subst hij
      exact ⟨a, xs, rfl, h2, h3⟩
theorem ixTK {X : Cx} {K : PySem.W.Frag} (h : X.K = K) : IxR X (rIxT K) := by
  subst h
  exact ix_tup
end K1
namespace K1
open PySem PySem.Spec PyProof.Rows L2
def spFirst (M : Addr) : Sp := fun vs H Q _ => ∃ m ta ts s0 p, vs = [.ref m, .ref p, .non, .non] ∧ MachAt M H m ta (vts ts) ∧ Wf ts ∧ (0 ≤ s0 ∧ s0 < (nS ts : Int)) ∧ H p = some (.tup [.int s0]) ∧
  ∀ d q L kvs as H', Same H H' → H d = none → BF ts s0 H' d q L kvs as → (∀ x ∈ L, ∀ e : Int, 0 ≤ e ∧ e < (ts.length : Int) → stp ts x e ∈ L) → Q (.ref d) H'
section
variable {P : Program} {w : World} {K : PySem.W.Frag} {mg : Str → Option Value} {base : Heap}
/-- a def with two defaults that are None -/
structure DfF (K : PySem.W.Frag) (mg : Str → Option Value) (f : Addr) (fd : FuncData) : Prop where
  F : FunD K "first_rows" "first_rows" (defArgs sFirst) (defBody sFirst) (defScope sFirst) [.non, .non] [] f fd
  g : mg "first_rows" = some (.ref f)
theorem DfF.b {f : Addr} {fd : FuncData} (D : DfF K mg f fd) : ∃ ds, Vals [.non, .non] ds ∧ Binds K fd ["machine", "states", "out", "most"] ds :=
  D.F.binds1 2 0 (by simp) rfl fun T kV doc pm an cdv ct us its h1 h2 => match us, its, h1, h2 with | [_, _], [_, _], _, _ => ⟨_, rfl, rfl⟩
abbrev nFR : List Str := ["machine", "states", "out", "most", "rows", "queue", "at", "here", "deed", "table", "ends", "state"]
theorem scFR : FnScope nFR ["machine", "states", "out", "most"] (defScope sFirst) := ⟨rfl, rfl, rfl, by decide +kernel, rfl, by decide +kernel, by decide +kernel⟩
theorem iteE {c : Bool} {A B : Prop} (e : c = true) (h : A) : if c = true then A else B := by subst e; exact iteT h
theorem iteN {c : Bool} {A B : Prop} (e : c = false) (h : B) : if c = true then A else B := by subst e; exact iteF h
/-- a test that the proof never comes to -/
theorem pt_never {X : Cx} {e : Expr} : PT X e fun _ _ _ => False := ⟨fun _ _ _ _ _ _ h => h.elim⟩
theorem ok_first {f M : Addr} {fd : FuncData} (D : DfF K mg f fd) (B : Bt mg) (T : McT K mg M) : FnOk P w K mg base CX0 1 f fd ["machine", "states", "out", "most"] (spFirst M) := by
  refine D.F.ok scFR (fun vs H Q E h => ?_) (fun cdv A outer s H vs Q E hr h => ?_)
  · obtain ⟨m, ta, ts, s0, p, rfl, _⟩ := h
    rfl
  · obtain ⟨m, ta, ts, s0, p, rfl, hM, hW, hs, hp, q⟩ := h
    have hu := hu_of hr
    suffices z : ∃ t, PSs (cxOf CX0 P w K mg base nFR "first_rows" (defScope sFirst) f cdv A outer s H E).nox (defBody sFirst) t ∧ t { nx := fun _ H' => Q .non H', rt := Q } (start nFR [.ref m, .ref p, .non, .non]) H from
      let ⟨t, h1, h2⟩ := z
      ⟨t, h1.nox, h2⟩
    refine ⟨_, pss_cons (ps_set (i := 4) scFR.nd rfl (.inl rfl) (pe_dispT (Nat.lt_of_succ_lt hu) (pv 1) (pe_tup pa_nil)))
      (pss_cons (ps_set (i := 5) scFR.nd rfl (.inl rfl) (pe_lst (pa_cons (pv 1) pa_nil)))
      (pss_cons (ps_set (i := 6) scFR.nd rfl (.inl rfl) pe_int)
      (pss_cons (ps_while PassesOwn.never (PW.pt (pw_and (pt_cmpR op_lt (pv 6) (pe_callB call_len_seq (by rfl) B.len PySem.boot_len (pa_cons (pv 5) pa_nil)) (nomark _))
          (pw_and1 (PW.pt (pw_or (pt_cmp (pc_isN (pv 2))) (pw_or1 pt_never))))))
        (pss_cons (ps_set (i := 7) scFR.nd rfl (.inl rfl) (pe_ix ix_list (pv 5) (pv 6) (fun _ _ => rfl)))
        (pss_cons (ps_for PassesOwn.never rfl (pi_enumA (by rfl) B.enumerate (pa_cons (pe_fld (pv 0) rfl) pa_nil)) (pg_tup rfl (pgs_cons (pg_name (i := 8) scFR.nd rfl (.inl rfl)) (pgs_cons (pg_name (i := 9) scFR.nd rfl (.inr rfl)) pgs_nil)))
          (pss_cons (ps_set (i := 10) scFR.nd rfl (.inl rfl) (pe_callTy call_tuple_of (by rfl) B.tuple PyProof.Rows.boot_tuple (pa_cons
              (pe_lc (own := [("state", 11)]) (g := gName 11) (tt := tYes) rfl scFR.nd (pi_tup (pv 7)) (blkOk_by (N := nFR) (sc := defScope sFirst) (by decide +kernel)) (fun _ _ _ _ _ => pg_name (i := 11) scFR.nd rfl (Or.inl rfl)) (fun _ _ _ _ _ => pts_nil)
                (fun _ _ _ _ _ => pe_ix (ixTK (K := K) rfl) (pv 9) (pv 11) (fun _ _ => rfl))) pa_nil)))
          (pss_one (ps_if (pt_cmp (pc_dnotin hu (pv 10) (pv 4))) (pss_cons (ps_dput hu (pv 4) (pv 10) (pe_op op_catA (pe_dget hu (pv 4) (pv 7) (fun _ _ => rfl)) (pe_tup (pa_cons (pv 8) pa_nil))) rfl)
            (pss_one (ps_expr (pe_bm PySem.F.plainAttrs_list PySem.F.slot_list_append PySem.F.type_list_append mt_append (pv 5) (pa_cons (pv 10) pa_nil))))) pss_nil))))
        (pss_cons (ps_if (PW.pt (pw_and (pt_cmp (pc_notN (pv 3))) (pw_and1 pt_never))) pss_never pss_nil)
        (pss_one (ps_aug (i := 6) scFR.nd rfl (.inl rfl) pe_int ip_add))))))
      (pss_one (ps_ret (pv 4)))))), ?_⟩
    intro d hd
    refine ⟨_, rfl, (by show 0 ≤ sizeLine; decide), fun e0 he0 => ?_⟩
    have hd1 : H p ≠ none := by rw [hp]; intro z; cases z
    have ned : e0 ≠ d := fun z => by rw [z, upd_same] at he0; cases he0
    have se : Same H (upd (upd H d (.dT [])) e0 (.tup [])) := (same_new hd).trans (same_new he0)
    refine ⟨p, kI s0, rfl, se _ _ hp, by rw [upd_ne ned.symm, upd_same], ?_⟩
    generalize hH1 : upd (upd (upd H d (.dT [])) e0 (.tup [])) d (.dT [(kI s0, .ref e0)]) = H1
    have s1 : Same H H1 := fun b o e => by
      rw [← hH1, upd_ne (ne_of_none e hd)]
      exact se _ _ e
    have hd1' : H1 d = some (.dT [(kI s0, .ref e0)]) := by rw [← hH1, upd_same]
    have he1 : H1 e0 = some (.tup []) := by rw [← hH1, upd_ne ned, upd_same]
    refine ⟨_, rfl, (by show 1 ≤ sizeLine; decide), fun q0 hq0 => ?_⟩
    have s2 : Same H (upd H1 q0 (.lst [.ref p])) := s1.trans (same_new hq0)
    have b0 : BF ts s0 (upd H1 q0 (.lst [.ref p])) d q0 [s0] [(kI s0, .ref e0)] [p] := by
      have sm := same_new (o := HO.lst [.ref p]) hq0
      refine ⟨sm _ _ hd1', rfl, fun i k v h => ?_, upd_same, rfl, fun i a x h1 h2 => ?_, by simp, fun x hx => ?_, fun x hx => ?_, by simp⟩
      · cases i with
        | zero =>
          have z : (kI s0, V.ref e0) = (k, v) := Option.some.inj h
          injection z with _ z
          exact ⟨e0, [], z.symm, sm _ _ he1, Nat.le_refl _⟩
        | succ i => cases h
      · cases i with
        | zero =>
          obtain rfl : p = a := Option.some.inj h1
          obtain rfl : s0 = x := Option.some.inj h2
          exact s2 _ _ hp
        | succ i => cases h1
      · rw [List.mem_singleton.mp hx]; exact hs
      · rw [List.mem_singleton.mp hx]; exact .refl
    have nd0 : H d = none := hd
    refine while_by (fun σ H' => ∃ (i : Nat) (L : List Int) (kvs : List (List Key × V)) (as : List Addr) (v5 v6 v7 v8 : Option V), σ = [some (.ref m), some (.ref p), some .non, some .non, some (.ref d), some (.ref q0), some (.int (i : Int)), v5, v6, v7, v8, none] ∧ Same H H' ∧ BF ts s0 H' d q0 L kvs as ∧ i ≤ L.length ∧
        ∀ (j : Nat) x, j < i → L[j]? = some x → ∀ e : Int, 0 ≤ e ∧ e < (ts.length : Int) → stp ts x e ∈ L)
      (fun (σ : L2.St) _ => match σ[6]? with | some (some (V.int i)) => nS ts - i.toNat | _ => 0) ⟨0, _, _, _, none, none, none, none, rfl, s2, b0, Nat.zero_le _, fun j x hj => absurd hj (Nat.not_lt_zero _)⟩ ?_
      (fun σ H Q Q' hQ ⟨v, h1, v3, h2, p, ys, h3, h4, i, j, h5, h6, k, h7, h8⟩ => by
        refine ⟨v, h1, v3, h2, p, ys, h3, h4, i, j, h5, h6, k, h7, ?_⟩
        cases k with
        | false => exact hQ _ _ h8
        | true =>
          obtain ⟨u, hu, c, hc, h9⟩ := h8
          refine ⟨u, hu, c, hc, ?_⟩
          cases c with
          | false => exact h9
          | true => exact hQ _ _ h9)
    rintro σ H' ⟨i, L, kvs, as, v5, v6, v7, v8, rfl, sm, b, hi, cl⟩
    refine ⟨_, rfl, _, rfl, q0, _, rfl, .inl (SqL.of b.hq), _, _, rfl, rfl, _, rfl, ifD (fun ec => ⟨_, rfl, _, rfl, iteE rfl (iteT ?_)⟩) fun ec => iteF ?_⟩
    · have hlt : i < L.length := by
        have z : (i : Int) < ((as.map V.ref).length : Int) := of_decide_eq_true ec
        rw [List.length_map, b.ln] at z
        omega
      obtain ⟨x, hx⟩ : ∃ x, L[i]? = some x := ⟨L[i], List.getElem?_eq_getElem hlt⟩
      obtain ⟨a, ha⟩ : ∃ a, as[i]? = some a := by
        have : i < as.length := by rw [b.ln]; exact hlt
        exact ⟨as[i], List.getElem?_eq_getElem this⟩
      have hax := b.it i a x ha hx
      have hxr := b.rn x (List.mem_of_getElem? hx)
      obtain ⟨dx, hm⟩ := hM.fs
      obtain ⟨tas, ht1, ht2, ht3⟩ := hM.2
      have ltas : tas.length = ts.length := by rw [ht2, vts, List.length_map]
      refine ⟨_, rfl, _, rfl, q0, _, (i : Int), .ref a, rfl, rfl, SqL.of b.hq, atI_nat (by rw [List.getElem?_map, ha]; rfl), ?_⟩
      refine ⟨_, rfl, m, M, dx, _, _, rfl, sm _ _ hm, T.cl, T.nT, mf_t _ _ _, ta, rfl, .inr ⟨_, SqT.of (sm _ _ ht1), for_enumT (K := K) (a := ta) (xs := tas.map V.ref)
        (fun j σ H' => ∃ (L' : List Int) (kvs : List (List Key × V)) (as : List Addr) (v6 v7 v8 : Option V), σ = [some (.ref m), some (.ref p), some .non, some .non, some (.ref d), some (.ref q0), some (.int (i : Int)), some (.ref a), v6, v7, v8, none] ∧ Same H H' ∧ BF ts s0 H' d q0 L' kvs as ∧ H' a = some (.tup [.int x]) ∧ (∃ r, L' = L ++ r) ∧ ∀ e : Int, 0 ≤ e ∧ e < (j : Int) → stp ts x e ∈ L')
        ⟨L, kvs, as, _, _, _, rfl, sm, b, hax, ⟨[], by simp⟩, fun e he => by omega⟩ (fun j σ H' _ ⟨_, _, _, _, _, _, _, sm, _⟩ => SqT.of (sm _ _ ht1)) ?_ ?_⟩⟩
      · rintro j y T0 σ H' hy hT0 ⟨L', kvs, as, v6, v7, v8, rfl, sm, b, hax, ⟨r, rfl⟩, hc⟩
        obtain ⟨tj, htj, rfl⟩ : ∃ t, tas[j]? = some t ∧ y = V.ref t := by
          rw [List.getElem?_map] at hy
          cases e : tas[j]? with
          | none => rw [e] at hy; cases hy
          | some t => rw [e] at hy; exact ⟨t, rfl, (Option.some.inj hy).symm⟩
        have hjt : j < ts.length := by rw [← ltas]; exact (List.getElem?_eq_some_iff.mp htj).1
        have hdj : 0 ≤ (j : Int) ∧ (j : Int) < (ts.length : Int) := by omega
        obtain ⟨t, h1, h2, h3⟩ := hW.at_ hdj hxr
        have h1' : ts[j]? = some t := by simpa using h1
        have hT := ht3 j tj (vrow t) htj (by rw [vts, List.getElem?_map, h1']; rfl)
        generalize hyy : stp ts x (j : Int) = yy at h2 h3
        have sT := same_new (o := HO.tup [.int (j : Nat), .ref tj]) hT0
        refine ⟨T0, _, rfl, SqT.of upd_same, rfl, _, _, rfl, _, _, rfl, rfl, ?_⟩
        generalize hH2 : upd H' T0 (.tup [.int (j : Nat), .ref tj]) = H2 at sT ⊢
        have b2 := b.same sT
        have sm2 := sm.trans sT
        have hax2 := sT _ _ hax
        -- ends
        refine ⟨_, rfl, a, rfl, ⟨_, SqT.of hax2⟩, fun D0 hD0 => lc_tup (K := K) (a := a) (xs := [.int x]) (fun k H3 => Same H2 H3 ∧ H3 D0 = some (.lst (([V.int yy]).take k))) ⟨same_new hD0, upd_same⟩ (fun k H3 _ ⟨s3, _⟩ => SqT.of (s3 _ _ hax2)) ?_ ?_⟩
        · rintro k z H3 hz ⟨s3, hD3⟩
          cases k with
          | succ k => cases hz
          | zero =>
            obtain rfl : V.int x = z := Option.some.inj hz
            refine ⟨rfl, _, rfl, _, rfl, tj, _, x, .int yy, rfl, rfl, SqT.of (s3 _ _ (sm2 _ _ hT)), at_of (j := x.toNat) (by omega) (by rw [vrow, List.getElem?_map, h2]; rfl), ?_⟩
            refine ⟨[], hD3, (by show 0 < sizeLine; decide), ?_, upd_same⟩
            intro c o e
            rw [upd_ne (ne_of_none e hD0)]
            exact s3 _ _ e
        · rintro H3 ⟨s3, hD3⟩
          refine ⟨D0, _, rfl, .inl ⟨SqL.of hD3, fun en hen => ?_⟩⟩
          have s4 := s3.trans (same_new (o := HO.tup [V.int yy]) hen)
          generalize hH4 : upd H3 en (.tup (([V.int yy]).take [V.int x].length)) = H4
          have hen4 : H4 en = some (.tup [.int yy]) := by rw [← hH4]; exact upd_same
          have s4' : Same H2 H4 := by rw [← hH4]; exact s4
          have b4 := b2.same s4'
          have sm4 := sm2.trans s4'
          have hax4 := s4' _ _ hax2
          have goal_ : ∀ (L2 : List Int) (kvs2 : List (List Key × V)) (as2 : List Addr) (H5 : Hp) (w6 w7 w8 : Option V), Same H H5 → BF ts s0 H5 d q0 L2 kvs2 as2 → H5 a = some (.tup [.int x]) → (∃ r2, L2 = L ++ r2) → (∀ z ∈ L ++ r, z ∈ L2) → yy ∈ L2 →
              ∃ (L' : List Int) (kvs : List (List Key × V)) (as : List Addr) (u6 u7 u8 : Option V), [some (V.ref m), some (V.ref p), some V.non, some V.non, some (V.ref d), some (V.ref q0), some (V.int (i : Int)), some (V.ref a), w6, w7, w8, none] = [some (V.ref m), some (V.ref p), some V.non, some V.non, some (V.ref d), some (V.ref q0), some (V.int (i : Int)), some (V.ref a), u6, u7, u8, none] ∧ Same H H5 ∧ BF ts s0 H5 d q0 L' kvs as ∧ H5 a = some (.tup [.int x]) ∧ (∃ r, L' = L ++ r) ∧ ∀ e : Int, 0 ≤ e ∧ e < ((j + 1 : Nat) : Int) → stp ts x e ∈ L' :=
            fun L2 kvs2 as2 H5 w6 w7 w8 s5 b5 ha5 hr2 hsub hin => ⟨L2, kvs2, as2, w6, w7, w8, rfl, s5, b5, ha5, hr2, fun e he => by
              by_cases z : e = (j : Int)
              · rw [z, hyy]; exact hin
              · exact hsub _ (hc e (by omega))⟩
          refine ⟨_, rfl, _, rfl, d, _, rfl, DGet.t (k := kI yy) b4.hd hen4, _, rfl, ?_⟩
          cases ev : valV kvs (kI yy) with
          | some v =>
            refine iteF ?_
            have hin : yy ∈ L ++ r := by
              by_cases z : yy ∈ L ++ r
              · exact z
              · rw [(val_none b4.ky).mpr z] at ev; cases ev
            exact goal_ _ _ _ _ _ _ _ sm4 b4 hax4 ⟨r, rfl⟩ (fun z hz => hz) hin
          | none =>
            refine iteT ?_
            have hnin := (val_none b4.ky).mp ev
            have hxi : (L ++ r)[i]? = some x := by rw [List.getElem?_append_left hlt]; exact hx
            obtain ⟨ra, rxs, hv, hra, hrl⟩ := b4.look hxi
            have hil : i < (L ++ r).length := (List.getElem?_eq_some_iff.mp hxi).1
            have hsmall : (L ++ r).length ≤ 12 := Nat.le_trans b4.few hW.s12
            refine ⟨_, rfl, _, rfl, d, .ref ra, rfl, by rw [← hv]; exact DGet.t b4.hd hax4, _, rfl, (by show 1 ≤ sizeLine; decide), fun dt hdt => ?_⟩
            have s5 := same_new (o := HO.tup [V.int (j : Nat)]) hdt
            -- whichever tuple stands for the row, the rest is the same
            have rest : ∀ (rb : Addr) (ys : List V) (H6 : Hp), Same H4 H6 → H6 rb = some (.tup ys) → ys.length ≤ (L ++ r).length → DPut H6 d (.ref en) (.ref rb) (upd H6 d (.dT (putK kvs (kI yy) (.ref rb)))) ∧
                BF ts s0 (upd (upd H6 d (.dT (putK kvs (kI yy) (.ref rb)))) q0 (.lst (as.map V.ref ++ [.ref en]))) d q0 ((L ++ r) ++ [yy]) (kvs ++ [(kI yy, .ref rb)]) (as ++ [en]) ∧ (upd H6 d (.dT (putK kvs (kI yy) (.ref rb)))) q0 = some (.lst (as.map V.ref)) ∧
                Same H (upd (upd H6 d (.dT (putK kvs (kI yy) (.ref rb)))) q0 (.lst (as.map V.ref ++ [.ref en]))) ∧ (upd (upd H6 d (.dT (putK kvs (kI yy) (.ref rb)))) q0 (.lst (as.map V.ref ++ [.ref en]))) a = some (.tup [.int x]) := fun rb ys H6 s6 hrb hyl => by
              have b6 := b4.same s6
              have hq6 := b6.hq
              have ndq : q0 ≠ d := ne_of hq6 b6.hd (by intro z; cases z)
              refine ⟨DPut.t b6.hd (s6 _ _ hen4) (by rw [b6.klen, sizeLine_eq]; omega), b6.put hnin (s6 _ _ hen4) hrb hyl h3 (hyy ▸ .step (b6.rc x (List.mem_of_getElem? hxi)) hdj), by rw [upd_ne ndq]; exact hq6, fun c o e => ?_, ?_⟩
              · have hcq : c ≠ q0 := fun z => by rw [z, s1.free hq0] at e; cases e
                rw [upd_ne hcq, upd_ne (ne_of_none e nd0)]
                exact s6 _ _ (sm4 _ _ e)
              · have z := s6 _ _ hax4
                rw [upd_ne (ne_of z hq6 (by intro z; cases z)), upd_ne (ne_of z b6.hd (by intro z; cases z))]
                exact z
            have fin : ∀ (rb : Addr) (ys : List V) (H6 : Hp), Same H4 H6 → H6 rb = some (.tup ys) → ys.length ≤ (L ++ r).length → (as.map V.ref).length < sizeLine := fun _ _ _ _ _ _ => by
              rw [List.length_map, b4.ln, sizeLine_eq]; omega
            refine ⟨ra, dt, rxs, [.int (j : Nat)], rfl, rfl, SqT.of (s5 _ _ hra), SqT.of upd_same, ?_, fun e => ?_, fun _ e => absurd e (by simp), fun _ _ pn hpn => ?_⟩
            · show rxs.length + 1 ≤ sizeLine
              rw [sizeLine_eq]; omega
            · obtain ⟨g1, g2, g3, g4, g5⟩ := rest dt [.int (j : Nat)] _ s5 upd_same (by show 1 ≤ _; omega)
              refine ⟨_, rfl, _, rfl, d, _, rfl, g1, ?_⟩
              refine ⟨_, rfl, .inl ⟨rfl, _, SqL.of g3⟩, _, rfl, q0, _, _, rfl, rfl, g3, fin dt _ _ s5 upd_same (by show 1 ≤ _; omega), ?_⟩
              exact goal_ _ _ _ _ _ _ _ g4 g2 g5 ⟨r ++ [yy], by simp⟩ (fun z hz => List.mem_append_left _ hz) (by simp)
            · have s6 := s5.trans (same_new (o := HO.tup (rxs ++ [V.int (j : Nat)])) hpn)
              have hl6 : (rxs ++ [V.int (j : Nat)]).length ≤ (L ++ r).length := by
                rw [List.length_append]
                show rxs.length + 1 ≤ _
                omega
              obtain ⟨g1, g2, g3, g4, g5⟩ := rest pn _ _ s6 upd_same hl6
              refine ⟨_, rfl, _, rfl, d, _, rfl, g1, ?_⟩
              refine ⟨_, rfl, .inl ⟨rfl, _, SqL.of g3⟩, _, rfl, q0, _, _, rfl, rfl, g3, fin pn _ _ s6 upd_same hl6, ?_⟩
              exact goal_ _ _ _ _ _ _ _ g4 g2 g5 ⟨r ++ [yy], by simp⟩ (fun z hz => List.mem_append_left _ hz) (by simp)
      · rintro σ H' ⟨L', kvs, as, v6, v7, v8, rfl, sm, b, hax, ⟨r, rfl⟩, hc⟩
        refine ⟨_, rfl, _, rfl, iteN rfl (iteF ⟨_, rfl, _, _, rfl, rfl, ?_⟩)⟩
        refine ⟨⟨i + 1, L ++ r, kvs, as, some (.ref a), v6, v7, v8, ?_, sm, b, ?_, fun j y hj hy e he => ?_⟩, ?_⟩
        · have z : ((i + 1 : Nat) : Int) = (i : Int) + 1 := by omega
          rw [z]; rfl
        · rw [List.length_append]; omega
        · rcases Nat.lt_succ_iff_lt_or_eq.mp hj with z | z
          · have hy' : L[j]? = some y := by rw [List.getElem?_append_left (by omega)] at hy; exact hy
            exact List.mem_append_left _ (cl j y z hy' e he)
          · subst z
            rw [List.getElem?_append_left hlt, hx] at hy
            rw [← Option.some.inj hy]
            refine hc e ?_
            rw [List.length_map, ltas]
            exact he
        · have hf := b.few
          rw [List.length_append] at hf
          show nS ts - ((i : Int) + 1).toNat < nS ts - (i : Int).toNat
          omega
    · have hge : i = L.length := by
        have z : ¬ ((i : Int) < ((as.map V.ref).length : Int)) := of_decide_eq_false ec
        rw [List.length_map, b.ln] at z
        omega
      refine ⟨_, rfl, q d q0 L kvs as H' sm nd0 b fun x hx e he => ?_⟩
      obtain ⟨j, hj, ej⟩ := List.mem_iff_getElem.mp hx
      exact cl j x (by omega) (by rw [← ej]; exact List.getElem?_eq_getElem hj) e he
end
end K1
namespace K1
open PySem PySem.Spec PyProof.Rows L2
theorem reach_closed {ts : Ts} {s0 : Int} {L : List Int} (h0 : s0 ∈ L) (hc : ∀ x ∈ L, ∀ e : Int, 0 ≤ e ∧ e < (ts.length : Int) → stp ts x e ∈ L) : ∀ {x : Int}, Reach ts s0 x → x ∈ L := by
  intro x h
  induction h with
  | refl => exact h0
  | step h hd ih => exact hc _ ih _ hd
theorem lt_of_le_nodup {l : List Int} (h : l.Pairwise (· ≤ ·)) (n : l.Nodup) : l.Pairwise (· < ·) := by
  have h2 : l.Pairwise (· ≠ ·) := n
  exact (h.and h2).imp fun {a b} ⟨h1, h2⟩ => by omega
def spOrbit (K : PySem.W.Frag) (M CS : Addr) : Sp := fun vs H Q E => ∃ m ta ts v, vs = [.ref m, v] ∧ MachAt M H m ta (vts ts) ∧ Wf ts ∧ (∃ o, KV K H v o) ∧ (belowB v (nS ts : Int) = false → Rz CS "state" v H E) ∧
  (belowB v (nS ts : Int) = true → ∃ s, v = .int s ∧ ∀ (ns : List Int) p H', Same H H' → ns.Pairwise (· < ·) → (∀ x, x ∈ ns ↔ Reach ts s x) → H' p = some (.tup (vrow ns)) → Q (.ref p) H')
section
variable {P : Program} {w : World} {K : PySem.W.Frag} {mg : Str → Option Value} {base : Heap}
abbrev nOr : List Str := ["machine", "state", "ends"]
theorem scOr : FnScope nOr ["machine", "state"] (defScope sOrbit) := ⟨rfl, rfl, rfl, by decide +kernel, rfl, by decide +kernel, by decide +kernel⟩
/-- first_rows(e, ..) with its defaults -/
theorem pcF {X : Cx} {CX : CXT} {k : Nat} {f : Addr} {fd : FuncData} {sp : Sp} {E : XK} {p pos : Pos} {e : Expr} {es : List Expr} {t : TA} {ds : List Value} (D : DfF X.K X.mg f fd) (G : FnOk X.prog X.w X.K X.mg X.base CX k f fd ["machine", "states", "out", "most"] sp) (hr : Room k X.A) (hx : Passes CX X E) (ha : PA X (e :: es) t)
    (hv : Vals [.non, .non] ds) (hb : Binds X.K fd ["machine", "states", "out", "most"] ds) (hg : Gl X "first_rows" := by rfl)
    (hdb : (("first_rows" : Str) == ("__debug__" : Str)) = false := by decide) (he : starEach (e :: es) X.env = (false, eval e X.env) :: starEach es X.env := by rfl) (hpl : (backTo pos (starEach es X.env)).any (·.1) = false := by rfl) :
    PE X (.Call (.Name "first_rows" p) (e :: es) [] pos) (tCall sp [.non, .non] E t) := pe_call G hr hg D.g D.F.kp hb hv hx ha hdb he hpl
theorem ok_orbit {f fN fF CS M : Addr} {fd fdN fdF : FuncData} (D : Df K mg "orbit" sOrbit ["machine", "state"] f fd) (DN : Df K mg "need_state" sNeedS ["machine", "state"] fN fdN) (DF : DfF K mg fF fdF) (B : Bt mg)
    (GN : FnOk P w K mg base (L2.CX P w) 3 fN fdN ["machine", "state"] (spNeed M CS "state" nS)) (GF : FnOk P w K mg base CX0 1 fF fdF ["machine", "states", "out", "most"] (spFirst M)) : FnOk P w K mg base (L2.CX P w) 4 f fd ["machine", "state"] (spOrbit K M CS) := by
  refine D.F.okX scOr (fun vs H Q E h => ?_) (fun cdv A outer s H vs Q E hr h => ?_)
  · obtain ⟨m, ta, ts, v, rfl, _⟩ := h
    rfl
  · obtain ⟨m, ta, ts, v, rfl, hM, hW, ⟨o, kv⟩, q1, q2⟩ := h
    obtain ⟨ds, vd, bd⟩ := DF.b
    refine ⟨_, pss_cons (ps_expr (pc DN GN hr (pass1 (takes_of rfl rfl rfl rfl)) (pa_cons (pv 0) (pa_cons (pv 1) pa_nil))))
      (pss_one (ps_ret (pe_callTy call_tuple_of (by rfl) B.tuple PyProof.Rows.boot_tuple (pa_cons (pe_callB cr_sortedI (by rfl) B.sorted PyProof.Rows.boot_sorted (pa_cons
        (pe_lc (own := [("ends", 2)]) (g := gName 2) (tt := tYes) rfl scOr.nd (pi_keysF (pcF DF GF (hr.mono (by decide)) pass0 (pa_cons (pv 0) (pa_cons (pe_tup (pa_cons (pv 1) pa_nil)) pa_nil)) vd bd)) (blkOk_by (N := nOr) (sc := defScope sOrbit) (by decide +kernel)) (fun _ _ _ _ _ => pg_name (i := 2) scOr.nd rfl (Or.inl rfl)) (fun _ _ _ _ _ => pts_nil)
          (fun _ _ _ _ _ => pe_ix (ixTK (K := K) rfl) (pv 2) pe_int (fun _ _ => rfl))) pa_nil)) pa_nil)))), ?_⟩
    refine ⟨_, rfl, _, rfl, m, ta, ts, v, rfl, hM, ⟨K, o, kv⟩, fun e => ?_, fun e => q1 e⟩
    obtain ⟨s0, rfl, q⟩ := q2 e
    have hs : 0 ≤ s0 ∧ s0 < (nS ts : Int) := by
      have z : (decide (0 ≤ s0) && decide (s0 < (nS ts : Int))) = true := e
      simpa using z
    refine ⟨_, rfl, _, rfl, (by show 1 ≤ sizeLine; decide), fun p hp => ?_⟩
    have s1 := same_new (o := HO.tup [V.int s0]) hp
    refine ⟨m, ta, ts, s0, p, rfl, hM.same s1, hW, hs, upd_same, fun d qa L kvs as H2 s2 hd b hc => ?_⟩
    have s12 := s1.trans s2
    have hd0 : H d = none := s1.free hd
    refine ⟨d, kvs, rfl, b.hd, fun od D0 hD0 => ?_⟩
    have ndD : d ≠ D0 := fun z => by rw [← z, upd_same] at hD0; cases hD0
    have hD2 : H2 D0 = none := by rw [upd_ne ndD.symm] at hD0; exact hD0
    generalize hH3 : upd H2 d (.frz od (.dT kvs)) = H3
    have hd3 : H3 d = some (.frz od (.dT kvs)) := by rw [← hH3, upd_same]
    have s3 : Same H H3 := fun c o e => by
      rw [← hH3, upd_ne (ne_of_none e hd0)]
      exact s12 _ _ e
    have hD3 : H3 D0 = none := by rw [← hH3, upd_ne ndD.symm]; exact hD2
    refine lc_keysF (fun i H' => Same H3 H' ∧ H' D0 = some (.lst ((L.take i).map V.int))) ⟨same_new hD3, upd_same⟩ (fun i H' _ ⟨s4, _⟩ => s4 _ _ hd3) ?_ ?_
    · rintro i k v qk H' hk hqk ⟨s4, hD4⟩
      obtain ⟨x, hx, rfl⟩ : ∃ x, L[i]? = some x ∧ k = kI x := by
        have z : (kvs.map (·.1))[i]? = some k := by rw [List.getElem?_map, hk]; rfl
        rw [b.ky, List.getElem?_map] at z
        cases e : L[i]? with
        | none => rw [e] at z; cases z
        | some x => rw [e] at z; exact ⟨x, rfl, (Option.some.inj z).symm⟩
      have hlen : L.length ≤ 12 := Nat.le_trans b.few hW.s12
      refine ⟨rfl, _, rfl, qk, [.int x], 0, .int x, rfl, rfl, SqT.of hqk, atI_nat (j := 0) rfl, _, hD4, ?_, ?_, ?_⟩
      · rw [List.length_map, List.length_take, sizeLine_eq]; omega
      · intro c o e
        rw [upd_ne (ne_of_none e hD3)]
        exact s4 _ _ e
      · rw [upd_same, take_succ hx, List.map_append]; rfl
    · rintro H4 ⟨s4, hD4⟩
      have eL : L.take kvs.length = L := by rw [b.klen, List.take_length]
      rw [eL] at hD4
      refine ⟨D0, L, rfl, SqL.of hD4, fun ns' p2 hperm hpw hp2 => ?_⟩
      refine ⟨p2, _, rfl, .inl ⟨SqL.of upd_same, fun p3 hp3 => ?_⟩⟩
      refine q ns' p3 _ ((s3.trans s4).trans ((same_new hp2).trans (same_new hp3))) (lt_of_le_nodup hpw (hperm.nodup_iff.mpr b.nd)) (fun x => ?_) upd_same
      rw [hperm.mem_iff]
      exact ⟨b.rc x, reach_closed b.st hc⟩
end
end K1
/-! set(xs) of a list of whole numbers, sorted(set(xs)); a dict display with one tuple key; the keys of a dict walked and kept -/
namespace K1
open PySem PySem.Spec PyProof.Rows L2
section
variable {P : Program} {w : World} {A : Around} {E : Value → Shared → Prop} {s : Shared}
theorem call_set_lstI {l : Addr} {items : Array Value} (ns : List Int) {Q : Value → Shared → Prop} (hh : A.handled = none) (hl : s.heap.IsList l items) (hit : IntsAre items.toList ns) (hb : ns.length + 1 < scanBound)
    (h : ∀ (h' : Heap) (tk c : Nat), SetR w h' s.heap.objs.size (fun j => decide (j ∈ ns)) c → c ≤ ns.length → (∀ b o, s.heap.get? b = some o → h'.get? b = some o) → Q (.ref s.heap.objs.size) { s with heap := h', toks := tk }) :
    wpAny (model P w) A (call (.type "set") [.ref l]) Q E s := by
  have hisz : items.size = ns.length := by
    have q := IntsAre.length hit
    rw [Array.length_toList] at q
    exact q
  obtain ⟨c, tl, hmro⟩ := F.called_set.mro
  have hmade := F.called_set.made
  have hsub := F.called_set.sub
  refine wpAny_call (codeAny_of_tree ?_)
  show wpAny _ _ (callAny (.type "set") _) _ _ _
  refine wpAny_pure ⟨Code.quiet_builtin _ (by decide +kernel), codeAny_builtin F.entry_type_call ?_⟩
  rw [Around.under_plain (weight_type_call_type "set" [.ref l] []) rfl]
  have h1 := F.called_set.notType
  have h2 := F.called_set.canCreate
  have hct := F.typeCall_set_1 (.ref l)
  repeat (any_goals (first | assumption | wp_step))

  refine codeAny_mono (code_set_led1 (.ref l) (E := E) (Q₁ := fun obj s₁ => obj = .ref s.heap.objs.size ∧ s₁ = { s with heap := s.heap.push { cls := .type "set", dict := none, data := .set #[] 0 (.fresh 0 0 (!w.params.followText "set-order")) } }) ⟨rfl, rfl⟩) fun r s₁ hr => ?_
  cases r with
  | error e => exact hr
  | ok fl =>
    cases fl with
    | ret obj =>
      obtain ⟨rfl, rfl⟩ := hr
      have hS : (s.heap.push { cls := .type "set", dict := none, data := .set #[] 0 (.fresh 0 0 (!w.params.followText "set-order")) }).get? s.heap.objs.size = some { cls := .type "set", dict := none, data := .set #[] 0 (.fresh 0 0 (!w.params.followText "set-order")) } := Heap.get?_push_size _ rfl
      have hT : Shared.TypeIs { s with heap := s.heap.push { cls := .type "set", dict := none, data := .set #[] 0 (.fresh 0 0 (!w.params.followText "set-order")) } } (.ref s.heap.objs.size) "set" := ⟨_, hS, rfl⟩
      have hli := F.called_set.init.lookup
      have hbi := F.called_set.init.bind (.ref s.heap.objs.size)
      repeat (any_goals (first | assumption | wp_step))

      refine codeAny_mono (codeAny_call_builtin (R := wants (fun r s₂ => r = .none ∧ ∃ h' tk c, s₂ = { s with heap := h', toks := tk } ∧ SetR w h' s.heap.objs.size (fun j => decide (j ∈ ns)) c ∧ c ≤ ns.length ∧
          (∀ b o, s.heap.get? b = some o → h'.get? b = some o)) E) F.called_set.init.plain F.entry_set_init (check_set_init_1 hT ?_)) fun r₂ s₂ hr₂ => ?_
      · obtain ⟨ol, hol, hcl, nl, hdl⟩ := hl
        obtain ⟨ocls, odict, odata, oslots⟩ := ol
        simp only at hcl hdl
        subst hcl; subst hdl
        have hol' : (s.heap.push { cls := .type "set", dict := none, data := .set #[] 0 (.fresh 0 0 (!w.params.followText "set-order")) }).get? l = some { cls := .type "list", dict := odict, data := .seq items nl, slots := oslots } := Heap.get?_push_of_some _ hol
        have hsls := F.sub_list_set
        have hslf := F.sub_list_frozenset
        have hne : (Value.type "list" == Value.type "dict") = false := by decide
        have hl1 : (s.heap.push { cls := .type "set", dict := none, data := .set #[] 0 (.fresh 0 0 (!w.params.followText "set-order")) }).IsList l items := ⟨_, hol', rfl, nl, rfl⟩
        unfold Builtin.«set.__init__» noKeywords Builtin.Frozenset.updateFrom
        generalize hPI : pyIter = PI
        wp_walk
        subst hPI

        refine wpAny_pyIter_list hl1 ?_
        refine wpAny_bind (wpAny_runValue ?_)
        have hlS : l < s.heap.objs.size := Heap.lt_size hol
        have hh3 : A.in1.in1.in1.handled = none := by simp [hh]
        have hz1 : (s.heap.push { cls := .type "set", dict := none, data := .set #[] 0 (.fresh 0 0 (!w.params.followText "set-order")) }).objs.size = s.heap.objs.size + 1 := Heap.size_push ..
        have hneI : l ≠ (s.heap.push { cls := .type "set", dict := none, data := .set #[] 0 (.fresh 0 0 (!w.params.followText "set-order")) }).objs.size := by
          rw [Heap.size_push]; exact Nat.ne_of_lt (Nat.lt_succ_of_lt hlS)
        have hSf : s.heap.objs.size ∉ [(s.heap.push { cls := .type "set", dict := none, data := .set #[] 0 (.fresh 0 0 (!w.params.followText "set-order")) }).objs.size, l] := by
          rw [Heap.size_push]; simp only [List.mem_cons, List.mem_singleton, List.not_mem_nil, or_false, not_or]
          exact ⟨Nat.ne_of_lt (Nat.lt_succ_self _), Nat.ne_of_gt hlS⟩
        have hval : ∀ (i : Nat) (v : Value), items[i]? = some v → ∃ k t, ns[i]? = some k ∧ v = .int k t := fun i v hv => by
          have hi : i < ns.length := by rw [← hisz]; exact (Array.getElem?_eq_some_iff.mp hv).1
          obtain ⟨t, e⟩ := PyProof.Rows.IntsAre.int_at hit i v (by rw [Array.getElem?_toList]; exact hv)
          refine ⟨ns[i], t, List.getElem?_eq_getElem hi, ?_⟩
          rw [e, List.getD_eq_getElem?_getD, List.getElem?_eq_getElem hi] <;> rfl
        refine set_update_ints ((Walks.list hh3 _ l hneI items).toS) s.heap.objs.size
          hSf ns hisz hb hval (items.size - 0) 0 _ (by omega) (Nat.zero_le _)
          ⟨⟨_, Heap.get?_push_size _ rfl, rfl, rfl⟩, (hl1.push _)⟩ ?hS0 ?hR
        case hS0 =>
          have hget : ((s.heap.push { cls := .type "set", dict := none, data := .set #[] 0 (.fresh 0 0 (!w.params.followText "set-order")) }).push { cls := .type "list_iterator", data := .fields #[.ref l, .int 0 0] }).get? s.heap.objs.size
              = some { cls := .type "set", dict := none, data := .set #[] 0 (.fresh 0 0 (!w.params.followText "set-order")) } := Heap.get?_push_of_some _ hS
          exact ⟨0, Nat.le_refl 0, setR_new_at hget⟩
        case hR =>
          intro s' c' hm hc' hS'
          obtain ⟨h', g2, d', tk', os'⟩ := s'
          have eg : g2 = s.gens := hm.gens
          have ed : d' = s.drawn := hm.drawn
          have eo : os' = s.os := hm.os
          subst eg; subst ed; subst eo
          show wpAny _ _ _ _ _ _
          refine wpAny_pure ?_
          show wpAny _ _ (ret Value.none) _ _ _
          rw [hisz] at hc'
          refine wpAny_pure ⟨rfl, h', tk', c', rfl, hS', hc', fun b o e => ?_⟩
          have hb0 : b < s.heap.objs.size := Heap.lt_size e
          have hb1 : b ≠ s.heap.objs.size := Nat.ne_of_lt hb0
          have hb2 : b ≠ (s.heap.push { cls := .type "set", dict := none, data := .set #[] 0 (.fresh 0 0 (!w.params.followText "set-order")) }).objs.size := by
            rw [Heap.size_push]; exact Nat.ne_of_lt (Nat.lt_succ_of_lt hb0)
          exact hm.heap b o (by simp only [List.mem_cons, List.mem_singleton, List.not_mem_nil, or_false, not_or]; exact ⟨hb1, hb2⟩) (Heap.get?_push_of_some _ (Heap.get?_push_of_some _ e))

      · cases r₂ with
        | error e => exact hr₂
        | ok fl₂ =>
          cases fl₂ with
          | ret r =>
            obtain ⟨rfl, h', tk, c', rfl, hS', hc', hk'⟩ := hr₂
            repeat (any_goals (first | assumption | wp_step))
            exact h _ _ _ hS' hc' hk'
          | _ => exact hr₂.elim
    | _ => exact hr.elim

end
/-- set(xs), xs a list of whole numbers -/
def rSetI (K : PySem.W.Frag) (w : World) : List V → Hp → VK → Prop := fun xs H Q => ∃ (a : Addr) (ns : List Int), xs = [.ref a] ∧ SqL K H a (ns.map V.int) ∧ ns.length < 60 ∧
  ∀ p c, H p = none → c ≤ ns.length → Q (.ref p) (upd H p (SetO w p (fun j => decide (j ∈ ns)) c))
theorem cr_setI {X : Cx} (hc : X.calm = true) : CallR X (.type "set") (rSetI X.K X.w) := by
  intro pins s σ H xs us Q I r h
  obtain ⟨a, ns, rfl, hs, h60, q⟩ := h
  rw [Vals.ref1 r]
  obtain ⟨its, rv, pl, hz⟩ := I.list hs
  refine call_set_lstI ns (I.ok.hd hc) pl.isList (by simpa using rv.ints) (by unfold scanBound; omega) fun h' tk c R hcn k => ?_
  refine ⟨.ref _, upd H s.heap.objs.size (SetO X.w s.heap.objs.size (fun j => decide (j ∈ ns)) c), I.laid (t' := tk) k (Nat.le_refl _) (setO_new R), rfl, q _ c (I.hok.fresh (Nat.le_refl _)) hcn⟩
end K1
namespace K1
open PySem PySem.Spec PyProof.Rows L2
/-- a source of draws -/
def BoxO (H : Hp) (b : Addr) : Prop := ∃ x y z : Int, H b = some (.lst [.int x, .int y, .int z])
/-- all but the source stands, which is one again -/
def Bx (b : Addr) (H H' : Hp) : Prop := BoxO H' b ∧ ∀ c o, H c = some o → c ≠ b → H' c = some o
theorem Bx.refl {b : Addr} {H : Hp} (h : BoxO H b) : Bx b H H := ⟨h, fun _ _ e _ => e⟩
theorem Bx.trans {b : Addr} {H H1 H2 : Hp} (a : Bx b H H1) (c : Bx b H1 H2) : Bx b H H2 := ⟨c.1, fun d o e n => c.2 d o (a.2 d o e n) n⟩
theorem Bx.same {b : Addr} {H H1 H2 : Hp} (a : Bx b H H1) (s : Same H1 H2) : Bx b H H2 := ⟨let ⟨x, y, z, e⟩ := a.1; ⟨x, y, z, s _ _ e⟩, fun d o e n => s _ _ (a.2 d o e n)⟩
theorem BoxO.same {b : Addr} {H H' : Hp} (h : BoxO H b) (s : Same H H') : BoxO H' b := let ⟨x, y, z, e⟩ := h; ⟨x, y, z, s _ _ e⟩
theorem Same.bx {b : Addr} {H H1 H2 : Hp} (s : Same H H1) (a : Bx b H1 H2) : Bx b H H2 := ⟨a.1, fun d o e n => a.2 d o (s _ _ e) n⟩
theorem Bx.set {b : Addr} {H : Hp} {x y z : Int} : Bx b H (upd H b (.lst [.int x, .int y, .int z])) := ⟨⟨x, y, z, upd_same⟩, fun c o e n => by rw [upd_ne n]; exact e⟩
theorem Bx.free {b c : Addr} {H H' : Hp} (a : Bx b H H') (hb : c ≠ b) (h : H' c = none) : H c = none := by
  cases q : H c with
  | none => rfl
  | some o => rw [a.2 c o q hb] at h; cases h
def spTake : Sp := fun vs H Q _ => ∃ b n, vs = [.ref b, .int n] ∧ BoxO H b ∧ 1 ≤ n ∧ n < 1073741824 ∧ ∀ r H', 0 ≤ r → r < n → Bx b H H' → Q (.int r) H'
def spPick : Sp := fun vs H Q _ => ∃ (b l : Addr) (xs : List V), vs = [.ref b, .ref l] ∧ BoxO H b ∧ H l = some (.lst xs) ∧ l ≠ b ∧ 1 ≤ xs.length ∧ xs.length ≤ 1000 ∧ ∀ (i : Nat) v H', xs[i]? = some v → Bx b H H' → Q v H'
def spBox (K : PySem.W.Frag) : Sp := fun vs H Q _ => ∃ (a : Addr) (ns : List Int) (k : Int), vs = [.ref a, .int k] ∧ SqL K H a (ns.map V.int) ∧ ns.length ≤ 63 ∧ 0 ≤ k ∧ k ≤ 10 ∧ ∀ b H', Same H H' → H b = none → BoxO H' b → Q (.ref b) H'
section
variable {P : Program} {w : World} {K : PySem.W.Frag} {mg : Str → Option Value} {base : Heap}
theorem scTk : FnScope ["_law_box_here", "_law_many", "_law_digit", "_law_raw"] ["_law_box_here", "_law_many"] (defScope sTake) := ⟨rfl, rfl, rfl, by decide +kernel, rfl, by decide +kernel, by decide +kernel⟩
theorem ok_take {f : Addr} {fd : FuncData} (D : Df K mg "_law_take" sTake ["_law_box_here", "_law_many"] f fd) (B : Bt mg) : FnOk P w K mg base CX0 1 f fd ["_law_box_here", "_law_many"] spTake := by
  refine D.F.ok scTk (fun vs H Q E h => ?_) (fun cdv A outer s H vs Q E hr h => ?_)
  · obtain ⟨b, n, rfl, _⟩ := h
    rfl
  · obtain ⟨b, n, rfl, ⟨x, y, z, hb⟩, h1, h2, q⟩ := h
    refine ⟨_, pss_cons (ps_if (pt_cmpR op_gt (pe_ix ix_list (pv 0) pe_int (fun _ _ => rfl)) pe_int (nomark _))
        (pss_cons (ps_set (i := 2) scTk.nd rfl (.inl rfl) (pe_op op_mod (pe_callTy call_int1 (by rfl) B.int PyProof.Rows.boot_int (pa_cons (pe_ix ix_list (pv 0) pe_int (fun _ _ => rfl)) pa_nil)) (pv 1)))
        (pss_cons (ps_asg (pe_op op_fdivN (pe_ix ix_list (pv 0) pe_int (fun _ _ => rfl)) (pv 1)) (pg_sub (pv 0) pe_int set_list))
        (pss_one (ps_ret (pv 2))))) pss_nil)
      (pss_cons (ps_asg (pe_op op_add (pe_ix ix_list (pv 0) pe_int (fun _ _ => rfl)) pe_int) (pg_sub (pv 0) pe_int set_list))
      (pss_cons (ps_set (i := 3) scTk.nd rfl (.inl rfl) (pe_op op_mod (pe_callTy call_int1 (by rfl) B.int PyProof.Rows.boot_int (pa_cons (pe_op op_add (pe_op op_mul (pe_op op_add (pe_ix ix_list (pv 0) pe_int (fun _ _ => rfl)) (pe_op op_mul pe_int (pe_ix ix_list (pv 0) pe_int (fun _ _ => rfl)))) pe_int) pe_int) pa_nil)) pe_int))
      (pss_cons (ps_asg (pe_op op_add (pe_op op_mod (pe_callTy call_int1 (by rfl) B.int PyProof.Rows.boot_int (pa_cons (pe_op op_add (pe_op op_mul (pv 3) pe_int) pe_int) pa_nil)) pe_int) pe_int) (pg_sub (pv 0) pe_int set_list))
      (pss_one (ps_ret (pe_op op_mod (pe_callTy call_int1 (by rfl) B.int PyProof.Rows.boot_int (pa_cons (pe_op op_fdivN (pe_op op_add (pe_op op_mul (pv 3) pe_int) (pe_ix ix_list (pv 0) pe_int (fun _ _ => rfl))) pe_int) pa_nil)) (pv 1))))))), ?_⟩
    have a0 : ∀ {u v t : Int}, atI [V.int u, V.int v, V.int t] 0 = some (V.int u) := fun {u v t} => atI_nat (j := 0) rfl
    have a1 : ∀ {u v t : Int}, atI [V.int u, V.int v, V.int t] 1 = some (V.int v) := fun {u v t} => atI_nat (j := 1) rfl
    have a2 : ∀ {u v t : Int}, atI [V.int u, V.int v, V.int t] 2 = some (V.int t) := fun {u v t} => atI_nat (j := 2) rfl
    have np : 0 < n := by omega
    refine ⟨_, rfl, b, _, 0, .int x, rfl, rfl, SqL.of hb, a0, _, _, rfl, rfl, _, rfl, ifD (fun e => ?_) fun e => ?_⟩
    · refine ⟨_, rfl, b, _, 0, .int x, rfl, rfl, SqL.of hb, a0, .inl ⟨x, rfl, _, rfl, _, _, rfl, rfl, np, ?_⟩⟩
      refine ⟨_, rfl, b, _, 0, .int x, rfl, rfl, SqL.of hb, a0, _, rfl, _, _, rfl, rfl, ⟨by omega, by omega⟩, _, rfl, b, _, 0, 0, rfl, rfl, hb, rfl, ?_⟩
      exact ⟨_, rfl, q _ _ (Int.emod_nonneg _ (by omega)) (Int.emod_lt_of_pos _ np) Bx.set⟩
    · refine ⟨_, rfl, b, _, 2, .int z, rfl, rfl, SqL.of hb, a2, _, _, rfl, rfl, _, rfl, b, _, 2, 2, rfl, rfl, hb, rfl, ?_⟩
      show tSeq _ _ _ _ (upd H b (.lst [.int x, .int y, .int (z + 1)]))
      generalize hH1 : upd H b (.lst [.int x, .int y, .int (z + 1)]) = H1
      have hb1 : H1 b = some (.lst [.int x, .int y, .int (z + 1)]) := by rw [← hH1, upd_same]
      refine ⟨_, rfl, b, _, 1, .int y, rfl, rfl, SqL.of hb1, a1, _, rfl, b, _, 2, .int (z + 1), rfl, rfl, SqL.of hb1, a2, _, _, rfl, rfl, .inl ⟨by decide, by decide⟩, _, _, rfl, rfl, _, _, rfl, rfl, .inr ⟨by decide, by decide⟩, _, _, rfl, rfl, .inl ⟨_, rfl, _, _, rfl, rfl, (by decide : (0 : Int) < 2147483423), ?_⟩⟩
      refine ⟨_, rfl, _, _, rfl, rfl, .inr ⟨by decide, by decide⟩, _, _, rfl, rfl, .inl ⟨_, rfl, _, _, rfl, rfl, (by decide : (0 : Int) < 2147483477), _, _, rfl, rfl, _, rfl, b, _, 1, 1, rfl, rfl, hb1, rfl, ?_⟩⟩
      generalize hH2 : upd H1 b _ = H2
      have hb2 : ∃ y', H2 b = some (.lst [.int x, .int y', .int (z + 1)]) := ⟨_, by rw [← hH2, upd_same]; rfl⟩
      obtain ⟨y', hb2⟩ := hb2
      have bx : Bx b H H2 := ⟨⟨_, _, _, hb2⟩, fun c o e n => by rw [← hH2, upd_ne n, ← hH1, upd_ne n]; exact e⟩
      refine ⟨_, rfl, _, _, rfl, rfl, .inr ⟨by decide, by decide⟩, _, rfl, b, _, 1, .int y', rfl, rfl, SqL.of hb2, a1, _, _, rfl, rfl, _, _, rfl, rfl, ⟨by decide, by decide⟩, .inl ⟨_, rfl, _, rfl, _, _, rfl, rfl, np, ?_⟩⟩
      exact q _ _ (Int.emod_nonneg _ (by omega)) (Int.emod_lt_of_pos _ np) bx
theorem scPi : FnScope ["_law_box_here", "_law_some"] ["_law_box_here", "_law_some"] (defScope sPick) := ⟨rfl, rfl, rfl, by decide +kernel, rfl, by decide +kernel, by decide +kernel⟩
theorem ok_pick {f fT : Addr} {fd fdT : FuncData} (D : Df K mg "_law_pick" sPick ["_law_box_here", "_law_some"] f fd) (DT : Df K mg "_law_take" sTake ["_law_box_here", "_law_many"] fT fdT) (B : Bt mg) (GT : FnOk P w K mg base CX0 1 fT fdT ["_law_box_here", "_law_many"] spTake) :
    FnOk P w K mg base CX0 2 f fd ["_law_box_here", "_law_some"] spPick := by
  refine D.F.ok scPi (fun vs H Q E h => ?_) (fun cdv A outer s H vs Q E hr h => ?_)
  · obtain ⟨b, l, xs, rfl, _⟩ := h
    rfl
  · obtain ⟨b, l, xs, rfl, hb, hl, hne, h1, h2, q⟩ := h
    refine ⟨_, pss_one (ps_ret (pe_ix ix_list (pv 1) (pc DT GT hr pass0 (pa_cons (pv 0) (pa_cons (pe_callB call_len_seq (by rfl) B.len PySem.boot_len (pa_cons (pv 1) pa_nil)) pa_nil))) (fun _ _ => rfl))), ?_⟩
    refine ⟨_, rfl, _, rfl, _, rfl, l, xs, rfl, .inl (SqL.of hl), b, _, rfl, hb, by omega, by omega, fun r H' r0 r1 bx => ?_⟩
    have hi : r.toNat < xs.length := by omega
    refine ⟨l, xs, r, xs[r.toNat], rfl, rfl, SqL.of (bx.2 _ _ hl hne), at_of (j := r.toNat) (by omega) (List.getElem?_eq_getElem hi), q r.toNat _ H' (List.getElem?_eq_getElem hi) bx⟩
theorem scBx : FnScope ["_law_script", "_law_k", "_law_cell"] ["_law_script", "_law_k"] (defScope sBox) := ⟨rfl, rfl, rfl, by decide +kernel, rfl, by decide +kernel, by decide +kernel⟩
theorem ok_box {f : Addr} {fd : FuncData} (D : Df K mg "_law_box" sBox ["_law_script", "_law_k"] f fd) (B : Bt mg) : FnOk P w K mg base CX0 1 f fd ["_law_script", "_law_k"] (spBox K) := by
  refine D.F.ok scBx (fun vs H Q E h => ?_) (fun cdv A outer s H vs Q E hr h => ?_)
  · obtain ⟨a, ns, k, rfl, _⟩ := h
    rfl
  · obtain ⟨a, ns, k, rfl, hS, hl, k0, k1, q⟩ := h
    refine ⟨_, pss_cons (ps_set (i := 2) scBx.nd rfl (.inl rfl) (pe_op op_add (pe_op op_mul pe_int (pv 1)) pe_int))
      (pss_cons (ps_if (pt_cmpR op_lt (pv 1) (pe_callB call_len_seq (by rfl) B.len PySem.boot_len (pa_cons (pv 0) pa_nil)) (nomark _))
        (pss_one (ps_set (i := 2) scBx.nd rfl (.inl rfl) (pe_callB call_abs (by rfl) B.abs (by decide +kernel) (pa_cons (pe_ix ix_list (pv 0) (pv 1) (fun _ _ => rfl)) pa_nil))))
        (pss_one (ps_if (pt_cmpR op_gt (pe_callB call_len_seq (by rfl) B.len PySem.boot_len (pa_cons (pv 0) pa_nil)) pe_int (nomark _))
          (pss_one (ps_set (i := 2) scBx.nd rfl (.inl rfl) (pe_op op_add (pv 2) (pe_op op_mul (pe_op op_mod (pe_callTy call_int1 (by rfl) B.int PyProof.Rows.boot_int (pa_cons (pe_callB call_abs (by rfl) B.abs (by decide +kernel) (pa_cons (pe_ix ix_list (pv 0)
            (pe_op op_mod (pe_callTy call_int1 (by rfl) B.int PyProof.Rows.boot_int (pa_cons (pv 1) pa_nil)) (pe_callB call_len_seq (by rfl) B.len PySem.boot_len (pa_cons (pv 0) pa_nil))) (fun _ _ => rfl)) pa_nil)) pa_nil)) pe_int) pe_int)))) pss_nil)))
      (pss_one (ps_ret (pe_lst (pa_cons (pe_ix ix_list (pe_lst (pa_cons pe_int (pa_cons (pv 2) pa_nil))) (pe_callTy call_int1 (by rfl) B.int PyProof.Rows.boot_int (pa_cons (pe_cmpR op_ge (pv 2) (pe_op op_pow pe_int pe_int) (nomark _)) pa_nil)) (fun _ _ => rfl))
        (pa_cons (pe_op op_add (pe_op op_mod (pe_callTy call_int1 (by rfl) B.int PyProof.Rows.boot_int (pa_cons (pe_op op_add (pe_op op_mul (pe_op op_mod (pe_callTy call_int1 (by rfl) B.int PyProof.Rows.boot_int (pa_cons (pv 2) pa_nil)) pe_int) pe_int) (pe_op op_mul pe_int (pv 1))) pa_nil)) pe_int) pe_int)
        (pa_cons pe_int pa_nil))))))), ?_⟩
    have pk : ∀ (b : Bool) (c : Int), ∃ v : Int, atI [V.int 0, V.int c] (if b = true then 1 else 0) = some (V.int v) := fun b c => by
      cases b with
      | true => exact ⟨c, atI_nat (j := 1) rfl⟩
      | false => exact ⟨0, atI_nat (j := 0) rfl⟩
    have hget : ∀ (j : Int), 0 ≤ j → j < (ns.length : Int) → ∃ z : Int, atI (ns.map V.int) j = some (V.int z) := fun j h0 h1 => by
      have hj : j.toNat < ns.length := by omega
      exact ⟨ns[j.toNat], at_of (j := j.toNat) (by omega) (by rw [List.getElem?_map, List.getElem?_eq_getElem hj]; rfl)⟩
    have fin : ∀ (c x y : Int) (l p : Addr), H l = none → (upd H l (.lst [.int 0, .int c])) p = none → Q (.ref p) (upd (upd H l (.lst [.int 0, .int c])) p (.lst [.int x, .int y, .int 0])) := fun c x y l p hl hp =>
      q p _ ((same_new hl).trans (same_new hp)) ((same_new (o := HO.lst [.int 0, .int c]) hl).free hp) ⟨x, y, 0, upd_same⟩
    refine ⟨_, rfl, _, _, rfl, rfl, .inl ⟨by decide, by decide⟩, _, _, rfl, rfl, ?_⟩
    refine ⟨_, rfl, _, rfl, a, _, rfl, .inl (hS), _, _, rfl, rfl, _, rfl, ifD (fun e => ?_) fun e => ?_⟩
    · have e' : k < (ns.length : Int) := by
        have z := of_decide_eq_true e
        rw [List.length_map] at z
        exact z
      obtain ⟨z, hz⟩ := hget k k0 e'
      refine ⟨_, rfl, _, rfl, a, _, k, _, rfl, rfl, hS, hz, z, rfl, ?_⟩
      refine ⟨_, rfl, (by show 2 ≤ sizeLine; decide), fun l hl => ⟨_, rfl, _, _, rfl, rfl, ⟨by decide, by decide, by decide⟩, _, _, rfl, rfl, .inr ⟨_, rfl, l, _, _, .int (pk _ _).choose, rfl, rfl, SqL.of upd_same, (pk _ _).choose_spec, ?_⟩⟩⟩
      refine ⟨_, rfl, .inl ⟨_, rfl, _, _, rfl, rfl, (by decide : (0 : Int) < 2147483477), _, _, rfl, rfl, .inr ⟨by decide, by decide⟩, _, rfl, _, _, rfl, rfl, .inl ⟨by decide, by decide⟩, _, _, rfl, rfl, .inl ⟨_, rfl, _, _, rfl, rfl, (by decide : (0 : Int) < 2147483477), _, _, rfl, rfl, (by show 3 ≤ sizeLine; decide), fun p hp => ?_⟩⟩⟩
      exact fin _ _ _ l p hl hp
    · refine ⟨_, rfl, a, _, rfl, .inl hS, _, _, rfl, rfl, _, rfl, ifD (fun e => ?_) fun e => ?_⟩
      · have e' : 0 < (ns.length : Int) := by
          have z := of_decide_eq_true e
          rw [List.length_map] at z
          omega
        have em : (k % ((ns.map V.int).length : Int)) = k % (ns.length : Int) := by rw [List.length_map]
        obtain ⟨z, hz⟩ := hget (k % (ns.length : Int)) (Int.emod_nonneg _ (by omega)) (Int.emod_lt_of_pos _ e')
        refine ⟨_, rfl, _, rfl, _, rfl, .inl ⟨_, rfl, _, rfl, a, _, rfl, .inl hS, _, _, rfl, rfl, (by rw [List.length_map]; exact e'), a, _, _, _, rfl, rfl, hS, (by rw [em]; exact hz), z, rfl, .inl ⟨_, rfl, _, _, rfl, rfl, (by decide : (0 : Int) < 2147483477), _, _, rfl, rfl, .inr ⟨by decide, by decide⟩, _, _, rfl, rfl, ?_⟩⟩⟩
        refine ⟨_, rfl, (by show 2 ≤ sizeLine; decide), fun l hl => ⟨_, rfl, _, _, rfl, rfl, ⟨by decide, by decide, by decide⟩, _, _, rfl, rfl, .inr ⟨_, rfl, l, _, _, .int (pk _ _).choose, rfl, rfl, SqL.of upd_same, (pk _ _).choose_spec, ?_⟩⟩⟩
        refine ⟨_, rfl, .inl ⟨_, rfl, _, _, rfl, rfl, (by decide : (0 : Int) < 2147483477), _, _, rfl, rfl, .inr ⟨by decide, by decide⟩, _, rfl, _, _, rfl, rfl, .inl ⟨by decide, by decide⟩, _, _, rfl, rfl, .inl ⟨_, rfl, _, _, rfl, rfl, (by decide : (0 : Int) < 2147483477), _, _, rfl, rfl, (by show 3 ≤ sizeLine; decide), fun p hp => ?_⟩⟩⟩
        exact fin _ _ _ l p hl hp
      · refine ⟨_, rfl, (by show 2 ≤ sizeLine; decide), fun l hl => ⟨_, rfl, _, _, rfl, rfl, ⟨by decide, by decide, by decide⟩, _, _, rfl, rfl, .inr ⟨_, rfl, l, _, _, .int (pk _ _).choose, rfl, rfl, SqL.of upd_same, (pk _ _).choose_spec, ?_⟩⟩⟩
        refine ⟨_, rfl, .inl ⟨_, rfl, _, _, rfl, rfl, (by decide : (0 : Int) < 2147483477), _, _, rfl, rfl, .inr ⟨by decide, by decide⟩, _, rfl, _, _, rfl, rfl, .inl ⟨by decide, by decide⟩, _, _, rfl, rfl, .inl ⟨_, rfl, _, _, rfl, rfl, (by decide : (0 : Int) < 2147483477), _, _, rfl, rfl, (by show 3 ≤ sizeLine; decide), fun p hp => ?_⟩⟩⟩
        exact fin _ _ _ l p hl hp
end
end K1
/-! several clauses 'except x as n', the same n -/
namespace K1
open PySem PySem.Spec PyProof.Rows L2
/-- what the clauses wish of an exception of the body, one after the other; slot i is the name's -/
def wAll (K : PySem.W.Frag) (i : Nat) (Wout : WX) (D : Ends) : List (Value × (Addr → Value → Option Addr → TS)) → WX
  | [] => Wout
  | (c, ts) :: r => fun cls d σ H => ∃ b, PySem.W.exmOne K cls c = some b ∧ (b = true → ∀ a, H a = none → ts a cls d { nx := fun σ' H' => D.nx (σ'.set i none) H', rt := D.rt, bk := fun σ' H' => D.bk (σ'.set i none) H', ct := fun σ' H' => D.ct (σ'.set i none) H' } (σ.set i (some (.ref a))) H) ∧
      (b = false → wAll K i Wout D r cls d σ H)
inductive HdsA (X : Cx) (n : Str) : List ExceptHandler → List (Value × (Addr → Value → Option Addr → TS)) → Prop
  | nil : HdsA X n [] []
  | cons {x : Str} {c : Value} {ts : Addr → Value → Option Addr → TS} {b₀ : Stmt} {suite : List Stmt} {np pos' : Pos} {hds : List ExceptHandler} {l : List (Value × (Addr → Value → Option Addr → TS))} (hc : Names X x c)
      (hsu : ∀ (a : Addr) (oe : Obj) (cls : Value) (d : Option Addr) (pn : List (Addr × Obj)), Zc cls d oe → (∃ vs, oe.data = .fields vs) → PSs (X.suite a ((a, oe) :: pn)) (b₀ :: suite) (ts a cls d)) (r : HdsA X n hds l) :
      HdsA X n (.ExceptHandler (some (.Name x np)) (some n) (b₀ :: suite) pos' :: hds) ((c, ts) :: l)
section
variable {X : Cx} {n : Str} {i : Nat} {body : List Stmt} {h₀ : ExceptHandler} {hds : List ExceptHandler} {l : List (Value × (Addr → Value → Option Addr → TS))} {pos : Pos} {tb : WX → TS} {Wout : WX}
theorem ps_try_all (hs : X.stack = X.env :: X.outer) (hf : X.env.frame = some X.env.locals) (hN : X.N.Nodup) (hi : X.N[i]? = some n) (hln : X.env.kindOf n = some .local) (tk : Takes X Wout)
    (hb : ∀ (W : WX) (pn : List (Addr × Obj)) (xe : Value → Shared → Prop), Takes (X.tr pn xe) W → PassesOwn (model X.prog X.w) X.A X.env xe → PSs (X.tr pn xe) body (tb W))
    (hh : HdsA X n (h₀ :: hds) l) : PS X (.Try body (h₀ :: hds) [] [] pos) (fun D σ H => tb (wAll X.K i Wout D l) D σ H) := by
  refine ⟨fun pins s σ H D I h => ?_⟩
  have ok := I.ok
  have hfr : X.A.frames = some (X.env :: X.outer) := by rw [ok.frames, hs]
  have hloc : Loc X.env.scope n := .inl hln
  refine wpAny_Try_except ?_
  refine wpAny_mono ((hb (wAll X.K i Wout D l) (X.pn ++ pins) (fun e s₁ => wpAny (model X.prog X.w) X.A (noteFrame e X.env) (fun _ s₂ => wpAny (model X.prog X.w) X.A (setFlight e none) (fun _ s₃ =>
    wpAny (model X.prog X.w) X.A (handleBy e X.env (h₀ :: hds)) (SP X pins D) X.xe s₃) X.xe s₂) X.xe s₁) (fun u s' xx => ?_) PassesOwn.looking).run [] s σ H D (I.toTry _) h) (fun f s1 hsp => ?_) (fun e s1 he => he)
  · -- the catch
    obtain ⟨a, B, sI, pins', σ', H', cls, d, rfl, J', nb, up, sky, na, os, ag, w⟩ := xx
    have J : Inv X pins σ' H' sI := J'.ofTry ok
    have sky' : Sky B (X.env :: X.outer) a (Zc cls d) X.env.locals s'.heap := by rw [← hs]; exact sky
    show wpAny (model X.prog X.w) X.A (noteFrame (.ref a) X.env) _ _ _
    refine Sky.land Zc.steady hfr hf sky' fun h3 fl3 up3 => ?_
    have J3 : Inv X pins σ' H' { s' with heap := h3 } := J.landed nb fl3.1 (up.trans up3) os ag
    obtain ⟨oe3, vs3, he3, hz3, hd3⟩ := fl3.there
    have notFr : ∀ {h : Heap} {o : Obj} {vs : Array Value}, h.FunFrames B (X.env :: X.outer) → h.get? a = some o → o.data = .fields vs → a ∉ frs (X.env :: X.outer) := fun {h o vs} ff e dd hm => by
      obtain ⟨_, o', e', hnf⟩ := ff.mem hm
      rw [e] at e'; cases e'
      exact hnf _ dd
    have nfr := notFr fl3.2.2.1 he3 hd3
    have nL : a ≠ X.env.locals := fun z => nfr (List.mem_filterMap.mpr ⟨X.env, List.mem_cons_self, by rw [hf, z]⟩)
    have nF : a ∉ X.fs := fun hm => by
      obtain ⟨e, he, q⟩ := List.mem_filterMap.mp hm
      exact nfr (List.mem_filterMap.mpr ⟨e, List.mem_cons_of_mem _ he, q⟩)
    have S3 := J3.suite he3 hd3 na nL nF
    have go : ∀ {hds' : List ExceptHandler} {l' : List (Value × (Addr → Value → Option Addr → TS))}, HdsA X n hds' l' → wAll X.K i Wout D l' cls d σ' H' →
        wpAny (model X.prog X.w) X.A (handleBy (.ref a) X.env hds') (SP X pins D) X.xe { s' with heap := h3 } := by
      intro hds' l' hk
      induction hk with
      | nil =>
        intro w
        refine wpAny_handleBy_nil ?_
        obtain ⟨k1, k2, k3, oe, vs, T, oT, ts', he, hz, hd, h1, hr⟩ := id fl3
        unfold PySem.passOn
        refine wpAny_bind (wpAny_field he hd h1 ?_)
        rw [if_neg (show ¬ ((Value.ref T == Value.none) = true) from by simp)]
        have fin : wpAny (model X.prog X.w) X.A (setFlight (.ref a) X.env.frame) (fun _ s4 => wpAny (model X.prog X.w) X.A (throw (.ref a) : Sem Flow) (SP X pins D) X.xe s4) X.xe { s' with heap := h3 } := by
          rw [hf]
          refine HandSPX.setFlight_upZ fl3 fun h4 hh4 up4 => wpAny_throw (tk _ _ ?_)
          exact ⟨a, B, sI, pins, σ', H', cls, d, rfl, J, nb, (up.trans up3).trans up4, .inr (.inr (by rw [hs]; exact hh4)), na, os, ag, w⟩
        first
          | exact wpAny_bind (wpAny_pure (wpAny_bind fin))
          | exact wpAny_bind fin
      | @cons x c ts b₀ suite np pos' hds2 l2 hc hsu r ih =>
        intro w
        obtain ⟨b, hb1, hyes, hno⟩ := w
        refine wpAny_handleBy_cons (codeAny_handlers_test ?_) (by intro q; cases q)
        have LT : PySem.W.Looks (model X.prog X.w) h3 (typeOf (.ref a)) cls := fun A Q E s k q => wpAny_typeOf_ref (k _ _ he3) (by rw [hz3.1]; exact q)
        have LM := PySem.W.exm_one (M := model X.prog X.w) (J3.kIn) LT hb1
        have test : ∀ {Q : Value → Shared → Prop} {E : Value → Shared → Prop}, Q c { s' with heap := h3 } → wpAny (model X.prog X.w) (X.A.mark (some (.ref a))) (eval (.Name x np) X.env) Q E { s' with heap := h3 } := fun {Q E} q => by
          obtain ⟨hg, hdbg, hm | ⟨hm, hv, hnn⟩⟩ := hc
          · exact ld_glob (X := X.suite a ((a, oe3) :: (X.pn ++ pins))) S3 hg hm q hdbg
          · exact ld_blt (X := X.suite a ((a, oe3) :: (X.pn ++ pins))) S3 hg hm hv q hnn hdbg
        refine test (LM.here ?_)
        cases b with
        | true =>
          refine codeAny_handlers_suite_as ?_
          refine HandSPX.lands_againZ fl3 fun h4 fl4 up4 => ?_
          have J4 : Inv X pins σ' H' { s' with heap := h4 } := J.landed nb fl4.1 ((up.trans up3).trans up4) os ag
          obtain ⟨oe4, vs4, he4, hz4, hd4⟩ := fl4.there
          have S4 := J4.suite he4 hd4 na nL nF
          refine store_ok (X := X.suite a ((a, oe4) :: (X.pn ++ pins))) (v := .ref a) S4 hN hi hloc rfl (fun s5 S5 => ?_) (.inr hln)
          refine wpAny_mono ((hsu a oe4 cls d (X.pn ++ pins) hz4 ⟨_, hd4⟩).run [] s5 _ H' _ S5 (hyes rfl a na)) (fun f s6 hsp => ?_) (fun _ _ z => False.elim z)
          have end_ : ∀ {σ6 : L2.St} {H6 : Hp} {Q : Shared → Prop}, Inv (X.suite a ((a, oe4) :: (X.pn ++ pins))) [] σ6 H6 s6 → (∀ s7, Inv X pins (σ6.set i none) H6 s7 → Q s7) →
              wpAny (model X.prog X.w) X.A (do bindName X.env n .none; unbindBehindTheSuite X.env n pos') (fun _ s7 => Q s7) X.xe s6 := fun {σ6 H6 Q} S6 hq => gone_ok (S6.unsuite ok) hN hi hln hq
          cases f with
          | next =>
            obtain ⟨σ6, H6, S6, q6⟩ := hsp
            exact end_ S6 fun s7 J7 => ⟨_, _, J7, q6⟩
          | brk =>
            obtain ⟨σ6, H6, S6, q6⟩ := hsp
            exact end_ S6 fun s7 J7 => ⟨_, _, J7, q6⟩
          | cont =>
            obtain ⟨σ6, H6, S6, q6⟩ := hsp
            exact end_ S6 fun s7 J7 => ⟨_, _, J7, q6⟩
          | ret u =>
            obtain ⟨v6, σ6, H6, S6, r6, q6⟩ := hsp
            exact end_ S6 fun s7 J7 => ⟨_, _, _, J7, r6, q6⟩
        | false =>
          show wpAny _ X.A (handleBy (.ref a) X.env hds2) _ _ _
          exact ih (hno rfl)
    exact go hh w
  · cases f with
    | next =>
      obtain ⟨σ', H', J', q⟩ := hsp
      exact wpAny_execs_nil ⟨σ', H', J'.ofTry ok, q⟩
    | brk =>
      obtain ⟨σ', H', J', q⟩ := hsp
      exact ⟨σ', H', J'.ofTry ok, q⟩
    | cont =>
      obtain ⟨σ', H', J', q⟩ := hsp
      exact ⟨σ', H', J'.ofTry ok, q⟩
    | ret u =>
      obtain ⟨v, σ', H', J', r, q⟩ := hsp
      exact ⟨v, σ', H', J'.ofTry ok, r, q⟩
end
end K1
namespace K1
open PySem PySem.Spec PyProof.Rows L2
/-- a statement and what follows: what follows is told once -/
theorem seqG {t u : TS} {D : Ends} {σ : L2.St} {H : Hp} (G : L2.St → Hp → Prop) (hu : ∀ σ H, G σ H → u D σ H) (ht : (∀ σ H, G σ H → u D σ H) → t { D with nx := u D } σ H) : tSeq t u D σ H := ht hu
theorem gn {i : Nat} {x : V} {σ : L2.St} {H : Hp} {Q : L2.St → Hp → Prop} (h : Q (σ.set i (some x)) H) : gName i x σ H Q := h
theorem BoxO.ne {H : Hp} {b c : Addr} {o : HO} (hb : BoxO H b) (h : H c = some o) (ho : ∀ xs, o ≠ .lst xs) : c ≠ b := fun e => by
  obtain ⟨x, y, z, e2⟩ := hb
  rw [e, e2] at h
  exact ho _ (Option.some.inj h).symm
theorem Bx.put {b D : Addr} {H H1 : Hp} {o : HO} (a : Bx b H H1) (hD : H D = none) (hn : D ≠ b) : Bx b H (upd H1 D o) :=
  ⟨let ⟨x, y, z, e⟩ := a.1; ⟨x, y, z, by rw [upd_ne hn.symm]; exact e⟩, fun c u e n => by
    rw [upd_ne (fun z => by rw [z, hD] at e; cases e)]
    exact a.2 c u e n⟩
theorem Bx.new {b D : Addr} {H H1 : Hp} {o : HO} (a : Bx b H H1) (hD : H1 D = none) : Bx b H (upd H1 D o) := a.same (same_new hD)
theorem Bx.ne {b D : Addr} {H H1 : Hp} (a : Bx b H H1) (hD : H1 D = none) : D ≠ b := fun e => by
  obtain ⟨x, y, z, e2⟩ := a.1
  rw [e, e2] at hD
  cases hD
/-- tables in a list at p -/
def TabL (H : Hp) (p : Addr) (ts : List (List V)) : Prop := ∃ as : List Addr, H p = some (.lst (as.map V.ref)) ∧ as.length = ts.length ∧ ∀ (i : Nat) a t, as[i]? = some a → ts[i]? = some t → H a = some (.tup t)
theorem TabL.same {H H' : Hp} {ta : Addr} {ts : List (List V)} (h : TabL H ta ts) (s : Same H H') : TabL H' ta ts := let ⟨as, h1, h2, h3⟩ := h; ⟨as, s _ _ h1, h2, fun i a t e1 e2 => s _ _ (h3 i a t e1 e2)⟩
theorem TabL.bx {b : Addr} {H H' : Hp} {p : Addr} {ts : List (List V)} (h : TabL H p ts) (n : p ≠ b) (hb : BoxO H b) (a : Bx b H H') : TabL H' p ts :=
  let ⟨as, h1, h2, h3⟩ := h
  ⟨as, a.2 _ _ h1 n, h2, fun i c t e1 e2 => a.2 _ _ (h3 i c t e1 e2) (hb.ne (h3 i c t e1 e2) fun xs => by intro z; cases z)⟩
theorem TabsAt.bx {b : Addr} {H H' : Hp} {p : Addr} {ts : List (List V)} (h : TabsAt H p ts) (hb : BoxO H b) (a : Bx b H H') : TabsAt H' p ts :=
  let ⟨as, h1, h2, h3⟩ := h
  ⟨as, a.2 _ _ h1 (hb.ne h1 fun xs => by intro z; cases z), h2, fun i c t e1 e2 => a.2 _ _ (h3 i c t e1 e2) (hb.ne (h3 i c t e1 e2) fun xs => by intro z; cases z)⟩
theorem MachAt.bx {M b : Addr} {H H' : Hp} {m ta : Addr} {ts : List (List V)} (h : MachAt M H m ta ts) (hb : BoxO H b) (a : Bx b H H') : MachAt M H' m ta ts :=
  let ⟨⟨dx, t0, h0, h1⟩, h2⟩ := h
  ⟨⟨dx, t0, h0, a.2 _ _ h1 (hb.ne h1 fun xs => by intro z; cases z)⟩, h2.bx hb a⟩
abbrev sizesV : List V := [.int 2, .int 3, .int 4, .int 5, .int 6, .int 1]
abbrev kindsV : List V := [.int 1, .int 2, .int 2, .int 3]
def spTabs : Sp := fun vs H Q _ => ∃ (b ps pk : Addr), vs = [.ref b, .ref ps, .ref pk] ∧ BoxO H b ∧ H ps = some (.lst sizesV) ∧ H pk = some (.lst kindsV) ∧ ps ≠ b ∧ pk ≠ b ∧
  ∀ p ts H', Bx b H H' → H p = none → p ≠ b → TabL H' p (vts ts) → Wf ts → nS ts ≤ 6 → ts.length ≤ 4 → Q (.ref p) H'
/-- the row that a comprehension makes: i ints below m so far -/
def Rg (b D : Addr) (H1 : Hp) (m : Int) (i : Nat) (H' : Hp) : Prop := ∃ ns : List Int, ns.length = i ∧ (∀ x ∈ ns, 0 ≤ x ∧ x < m) ∧ Bx b H1 H' ∧ H' D = some (.lst (vrow ns))
theorem Rg.nil {b D : Addr} {H1 : Hp} {m : Int} (hb : BoxO H1 b) (hD : H1 D = none) : Rg b D H1 m 0 (upd H1 D (.lst [])) := ⟨[], rfl, fun x hx => absurd hx (by simp), (Bx.refl hb).new hD, upd_same⟩
theorem Rg.box {b D : Addr} {H1 H' : Hp} {m : Int} {i : Nat} (g : Rg b D H1 m i H') : BoxO H' b := let ⟨_, _, _, a, _⟩ := g; a.1
theorem Rg.put {b D : Addr} {H1 H' H2 : Hp} {m x : Int} {i : Nat} (g : Rg b D H1 m i H') (hb : BoxO H1 b) (hD : H1 D = none) (a : Bx b H' H2) (hx : 0 ≤ x ∧ x < m) (hi : i < 1000) : ∃ acc, H2 D = some (.lst acc) ∧ acc.length < sizeLine ∧ Rg b D H1 m (i + 1) (upd H2 D (.lst (acc ++ [.int x]))) := by
  obtain ⟨ns, h1, h2, h3, h4⟩ := g
  have nD : D ≠ b := (Bx.refl hb).ne hD
  refine ⟨vrow ns, a.2 _ _ h4 nD, by rw [vrow, List.length_map, h1, sizeLine_eq]; omega, ns ++ [x], by rw [List.length_append, h1]; rfl, fun y hy => ?_, (h3.trans a).put hD nD, by rw [upd_same]; simp only [vrow, List.map_append]; rfl⟩
  rcases List.mem_append.mp hy with z | z
  · exact h2 y z
  · rw [List.mem_singleton.mp z]; exact hx
section
variable {P : Program} {w : World} {K : PySem.W.Frag} {mg : Str → Option Value} {base : Heap}
abbrev nTb : List Str := ["_law_box_here", "_law_sizes", "_law_kinds", "_law_many", "_law_found", "_law_deed", "_law_style", "_law_by", "_law_table", "_law_state"]
theorem scTb : FnScope nTb ["_law_box_here", "_law_sizes", "_law_kinds"] (defScope sTabs) := ⟨rfl, rfl, rfl, by decide +kernel, rfl, by decide +kernel, by decide +kernel⟩
theorem ok_tabs {f fT fP : Addr} {fd fdT fdP : FuncData} (D : Df K mg "_law_tables" sTabs ["_law_box_here", "_law_sizes", "_law_kinds"] f fd) (DT : Df K mg "_law_take" sTake ["_law_box_here", "_law_many"] fT fdT) (DP : Df K mg "_law_pick" sPick ["_law_box_here", "_law_some"] fP fdP) (B : Bt mg)
    (GT : FnOk P w K mg base CX0 1 fT fdT ["_law_box_here", "_law_many"] spTake) (GP : FnOk P w K mg base CX0 2 fP fdP ["_law_box_here", "_law_some"] spPick) :
    FnOk P w K mg base CX0 3 f fd ["_law_box_here", "_law_sizes", "_law_kinds"] spTabs := by
  refine D.F.ok scTb (fun vs H Q E h => ?_) (fun cdv A outer s H vs Q E hr h => ?_)
  · obtain ⟨b, ps, pk, rfl, _⟩ := h
    rfl
  · obtain ⟨b, ps, pk, rfl, hb, hps, hpk, nps, npk, q⟩ := h
    have hr1 := hr.mono (show 1 ≤ 2 by decide)
    refine ⟨_, pss_cons (ps_asg (pe_tup (pa_cons (pc DP GP hr pass0 (pa_cons (pv 0) (pa_cons (pv 1) pa_nil))) (pa_cons (pe_lst pa_nil) pa_nil))) (pg_tup rfl (pgs_cons (pg_name (i := 3) scTb.nd rfl (.inr rfl)) (pgs_cons (pg_name (i := 4) scTb.nd rfl (.inl rfl)) pgs_nil))))
      (pss_cons (ps_for PassesOwn.never rfl (pi_range1 (by rfl) B.range (pa_cons (pc DP GP hr pass0 (pa_cons (pv 0) (pa_cons (pv 2) pa_nil))) pa_nil)) (pg_name (i := 5) scTb.nd rfl (.inl rfl))
        (pss_cons (ps_asg (pe_tup (pa_cons (pc DT GT hr1 pass0 (pa_cons (pv 0) (pa_cons pe_int pa_nil))) (pa_cons (pc DT GT hr1 pass0 (pa_cons (pv 0) (pa_cons (pv 3) pa_nil))) pa_nil))) (pg_tup rfl (pgs_cons (pg_name (i := 6) scTb.nd rfl (.inl rfl)) (pgs_cons (pg_name (i := 7) scTb.nd rfl (.inr rfl)) pgs_nil))))
        (pss_cons (ps_setLc (i := 8) (own := [("_law_state", 9)]) (g := gName 9) (tt := tYes) rfl scTb.nd rfl rfl (sw_true rfl rfl rfl rfl) (pi_range1 (by rfl) B.range (pa_cons (pv 3) pa_nil)) (blkOk_by (N := nTb) (sc := defScope sTabs) (by decide +kernel)) (fun _ _ _ _ _ => pg_name (i := 9) scTb.nd rfl (Or.inl rfl)) (fun _ _ _ _ _ => pts_nil)
            (fun _ _ _ _ _ => pc DT GT hr1 pass0 (pa_cons (pv 0) (pa_cons (pv 3) pa_nil))))
        (pss_cons (ps_if (pt_cmpR op_eq (pv 6) pe_int (nomark _)) (pss_one
            (ps_setLc (i := 8) (own := [("_law_state", 9)]) (g := gName 9) (tt := tYes) rfl scTb.nd rfl rfl (sw_true rfl rfl rfl rfl) (pi_range1 (by rfl) B.range (pa_cons (pv 3) pa_nil)) (blkOk_by (N := nTb) (sc := defScope sTabs) (by decide +kernel)) (fun _ _ _ _ _ => pg_name (i := 9) scTb.nd rfl (Or.inl rfl)) (fun _ _ _ _ _ => pts_nil)
              (fun _ _ _ _ _ => pe_op op_mod (pe_callTy call_int1 (by rfl) B.int PyProof.Rows.boot_int (pa_cons (pe_op op_add (pv 9) (pv 7)) pa_nil)) (pv 3)))) pss_nil)
        (pss_cons (ps_if (pt_cmpR op_eq (pv 6) pe_int (nomark _)) (pss_one
            (ps_setLc (i := 8) (own := [("_law_state", 9)]) (g := gName 9) (tt := tYes) rfl scTb.nd rfl rfl (sw_true rfl rfl rfl rfl) (pi_range1 (by rfl) B.range (pa_cons (pv 3) pa_nil)) (blkOk_by (N := nTb) (sc := defScope sTabs) (by decide +kernel)) (fun _ _ _ _ _ => pg_name (i := 9) scTb.nd rfl (Or.inl rfl)) (fun _ _ _ _ _ => pts_nil)
              (fun _ _ _ _ _ => pe_callB (call_min2 rfl) (by rfl) B.min (by decide +kernel) (pa_cons (pe_op op_sub (pv 3) pe_int) (pa_cons (pe_op op_add (pv 9) pe_int) pa_nil))))) pss_nil)
        (pss_cons (ps_if (pt_cmpR op_eq (pv 6) pe_int (nomark _)) (pss_one
            (ps_set (i := 8) scTb.nd rfl (.inl rfl) (pe_op op_rep (pe_lst (pa_cons (pv 7) pa_nil)) (pv 3)))) pss_nil)
        (pss_cons (ps_if (pt_cmpR op_eq (pv 6) pe_int (nomark _)) (pss_one
            (ps_setLc (i := 8) (own := [("_law_state", 9)]) (g := gName 9) (tt := tYes) rfl scTb.nd rfl rfl (sw_true rfl rfl rfl rfl) (pi_range1 (by rfl) B.range (pa_cons (pv 3) pa_nil)) (blkOk_by (N := nTb) (sc := defScope sTabs) (by decide +kernel)) (fun _ _ _ _ _ => pg_name (i := 9) scTb.nd rfl (Or.inl rfl)) (fun _ _ _ _ _ => pts_nil)
              (fun _ _ _ _ _ => pe_callB (call_max2 rfl) (by rfl) B.max (by decide +kernel) (pa_cons (pv 9) (pa_cons (pv 7) pa_nil))))) pss_nil)
        (pss_one (ps_expr (pe_bm PySem.F.plainAttrs_list PySem.F.slot_list_append PySem.F.type_list_append mt_append (pv 4) (pa_cons (pe_callTy call_tuple_of (by rfl) B.tuple PyProof.Rows.boot_tuple (pa_cons (pv 8) pa_nil)) pa_nil)))))))))))
      (pss_one (ps_ret (pv 4)))), ?_⟩
    refine ⟨_, rfl, _, rfl, b, ps, sizesV, rfl, hb, hps, nps, by decide, by decide, fun i v H1 hv bx1 => ?_⟩
    obtain ⟨m, rfl, hm0, hm5⟩ : ∃ m : Int, v = .int m ∧ 1 ≤ m ∧ m ≤ 6 := by
      match i, hv with
      | 0, hv => exact ⟨2, (Option.some.inj hv).symm, by decide, by decide⟩
      | 1, hv => exact ⟨3, (Option.some.inj hv).symm, by decide, by decide⟩
      | 2, hv => exact ⟨4, (Option.some.inj hv).symm, by decide, by decide⟩
      | 3, hv => exact ⟨5, (Option.some.inj hv).symm, by decide, by decide⟩
      | 4, hv => exact ⟨6, (Option.some.inj hv).symm, by decide, by decide⟩
      | 5, hv => exact ⟨1, (Option.some.inj hv).symm, by decide, by decide⟩
      | i + 6, hv => cases hv
    refine ⟨(by show 0 ≤ sizeLine; decide), fun p hp1 => ?_⟩
    have npb : p ≠ b := bx1.ne hp1
    have hp : H p = none := bx1.free npb hp1
    have bx2 : Bx b H (upd H1 p (.lst [])) := bx1.new hp1
    refine ⟨(by show 2 ≤ sizeLine; decide), fun T hT => ?_⟩
    have bx3 : Bx b H (upd (upd H1 p (.lst [])) T (.tup [.int m, .ref p])) := bx2.new hT
    have nTp : p ≠ T := fun z => by rw [← z, upd_same] at hT; cases hT
    refine ⟨T, _, rfl, SqT.of upd_same, rfl, _, _, rfl, _, _, rfl, rfl, ?_⟩
    have hp3 : upd (upd H1 p (.lst [])) T (.tup [.int m, .ref p]) p = some (.lst []) := by rw [upd_ne nTp, upd_same]
    generalize upd (upd H1 p (.lst [])) T (.tup [.int m, .ref p]) = H3 at bx3 hp3 ⊢
    refine ⟨_, rfl, _, rfl, b, pk, kindsV, rfl, bx3.1, bx3.2 _ _ hpk npk, npk, by decide, by decide, fun i2 v H4 hv bx4 => ?_⟩
    obtain ⟨n, rfl, hn0, hn4⟩ : ∃ n : Int, v = .int n ∧ 1 ≤ n ∧ n ≤ 4 := by
      match i2, hv with
      | 0, hv => exact ⟨1, (Option.some.inj hv).symm, by decide, by decide⟩
      | 1, hv => exact ⟨2, (Option.some.inj hv).symm, by decide, by decide⟩
      | 2, hv => exact ⟨2, (Option.some.inj hv).symm, by decide, by decide⟩
      | 3, hv => exact ⟨3, (Option.some.inj hv).symm, by decide, by decide⟩
      | i + 4, hv => cases hv
    refine ⟨n, rfl, by omega, by omega, for_range (fun i σ H' => ∃ (ts : Ts) (v5 v6 v7 v8 : Option V), σ = [some (.ref b), some (.ref ps), some (.ref pk), some (.int m), some (.ref p), v5, v6, v7, v8, none] ∧ Bx b H H' ∧ TabL H' p (vts ts) ∧ ts.length = i ∧ ∀ t ∈ ts, t.length = m.toNat ∧ ∀ x ∈ t, 0 ≤ x ∧ x < m)
      ⟨[], none, none, none, none, rfl, bx3.trans bx4, ⟨[], bx4.2 _ _ hp3 npb, rfl, fun i a t h => by cases h⟩, rfl, fun t ht => absurd ht (by simp)⟩ ?_ ?_⟩
    · rintro i σ H5 hi ⟨ts, v5, v6, v7, v8, rfl, bx5, tl, hl5, hr5⟩
      have hbx := bx5.1
      refine ⟨_, rfl, b, 6, rfl, hbx, by decide, by decide, fun st H6 st0 st1 bx6 => ?_⟩
      refine ⟨_, rfl, _, rfl, b, m, rfl, bx6.1, by omega, by omega, fun y H7 y0 y1 bx7 => ?_⟩
      refine ⟨(by show 2 ≤ sizeLine; decide), fun T hT => ?_⟩
      refine ⟨T, _, rfl, SqT.of upd_same, rfl, _, _, rfl, _, _, rfl, rfl, ?_⟩
      have bx8 : Bx b H5 (upd H7 T (.tup [.int st, .int y])) := (bx6.trans bx7).new hT
      generalize upd H7 T (.tup [.int st, .int y]) = H8 at bx8 ⊢
      have hm : ((m.toNat : Nat) : Int) = m := by omega
      -- the first row
      refine ⟨_, rfl, m, rfl, by omega, by omega, fun D0 hD0 => lc_range (Rg b D0 H8 m) (Rg.nil bx8.1 hD0) ?_ ?_⟩
      · rintro i H9 hi9 g
        refine ⟨rfl, _, rfl, _, rfl, b, m, rfl, ?_, by omega, by omega, fun r H10 r0 r1 bx10 => g.put bx8.1 hD0 bx10 ⟨r0, r1⟩ (by omega)⟩
        obtain ⟨_, _, _, a, _⟩ := g
        exact a.1
      · rintro H9 g9
        obtain ⟨ns, hn1, hn2, bx9, hD9⟩ := g9
        have good0 : ∀ (D : Addr) (ns : List Int) (H' : Hp), Bx b H5 H' → H' D = some (.lst (vrow ns)) → ns.length = m.toNat → (∀ x ∈ ns, 0 ≤ x ∧ x < m) →
          (fun (σ : L2.St) H' => ∃ (D : Addr) (ns : List Int), σ = [some (.ref b), some (.ref ps), some (.ref pk), some (.int m), some (.ref p), some (.int (0 + (i : Int))), some (.int st), some (.int y), some (.ref D), none] ∧ Bx b H5 H' ∧ H' D = some (.lst (vrow ns)) ∧ ns.length = m.toNat ∧ ∀ x ∈ ns, 0 ≤ x ∧ x < m) [some (.ref b), some (.ref ps), some (.ref pk), some (.int m), some (.ref p), some (.int (0 + (i : Int))), some (.int st), some (.int y), some (.ref D), none] H' :=
          fun D ns H' h1 h2 h3 h4 => ⟨D, ns, rfl, h1, h2, h3, h4⟩
        generalize hG : (fun (σ : L2.St) H' => ∃ (D : Addr) (ns : List Int), σ = [some (.ref b), some (.ref ps), some (.ref pk), some (.int m), some (.ref p), some (.int (0 + (i : Int))), some (.int st), some (.int y), some (.ref D), none] ∧ Bx b H5 H' ∧ H' D = some (.lst (vrow ns)) ∧ ns.length = m.toNat ∧ ∀ x ∈ ns, 0 ≤ x ∧ x < m) = G at good0
        have bx9' : Bx b H5 H9 := bx8.trans bx9
        refine gn ?_
        dsimp only
        refine seqG G (fun σ H10 g => ?_) (fun k => ?_)
        · rw [← hG] at g
          obtain ⟨Dx, nx, rfl, bxx, hDx, lx, rx⟩ := g
          refine seqG G (fun σ H10 g => ?_) (fun k => ?_)
          · rw [← hG] at g
            obtain ⟨Dx, nx, rfl, bxx, hDx, lx, rx⟩ := g
            refine seqG G (fun σ H10 g => ?_) (fun k => ?_)
            · rw [← hG] at g
              obtain ⟨Dx, nx, rfl, bxx, hDx, lx, rx⟩ := g
              refine seqG G (fun σ H10 g => ?_) (fun k => ?_)
              · rw [← hG] at g
                obtain ⟨Dx, nx, rfl, bxx, hDx, lx, rx⟩ := g
                obtain ⟨as, t1, t2, t3⟩ := tl.bx npb hbx bxx
                refine ⟨_, rfl, .inl ⟨rfl, _, SqL.of t1⟩, _, rfl, Dx, _, rfl, .inl ⟨SqL.of hDx, fun l hl => ?_⟩⟩
                have sl := same_new (o := HO.tup (vrow nx)) hl
                have las : as.length = ts.length := by rw [t2, vts, List.length_map]
                refine ⟨p, _, _, rfl, rfl, sl _ _ t1, by rw [List.length_map, las, sizeLine_eq]; omega, ts ++ [nx], _, _, _, _, rfl, ?_, ⟨as ++ [l], ?_, ?_, ?_⟩, ?_, ?_⟩
                · exact ((bx5.trans bxx).new hl).put hp npb
                · rw [upd_same]; simp only [List.map_append]; rfl
                · simp only [vts, List.length_append, List.length_map, las]; rfl
                · intro j a t e1 e2
                  have hne : ∀ (c : Addr) (u : List V), H10 c = some (.tup u) → c ≠ p := fun c u e z => by rw [z, t1] at e; cases e
                  simp only [vts, List.map_append] at e2
                  by_cases hj : j < as.length
                  · rw [List.getElem?_append_left hj] at e1
                    rw [List.getElem?_append_left (by rw [List.length_map, ← las]; exact hj)] at e2
                    have z := t3 j a t e1 e2
                    rw [upd_ne (hne a t z)]
                    exact sl _ _ z
                  · have ej : j = as.length := by
                      have := (List.getElem?_eq_some_iff.mp e1).1
                      rw [List.length_append] at this
                      simp only [List.length_cons, List.length_nil] at this
                      omega
                    rw [ej, List.getElem?_append_right (Nat.le_refl _), Nat.sub_self] at e1
                    rw [ej, List.getElem?_append_right (by rw [List.length_map, las]; omega), List.length_map, las, Nat.sub_self] at e2
                    obtain rfl : l = a := Option.some.inj e1
                    obtain rfl : vrow nx = t := Option.some.inj e2
                    rw [upd_ne (fun z => by rw [z, t1] at hl; cases hl), upd_same]
                · rw [List.length_append, hl5]; rfl
                · intro t ht
                  rcases List.mem_append.mp ht with z | z
                  · exact hr5 t z
                  · rw [List.mem_singleton.mp z]; exact ⟨lx, rx⟩
              · refine ⟨_, rfl, rfl, _, rfl, ifD (fun e => ?_) fun e => k _ _ (good0 Dx nx _ bxx hDx lx rx)⟩
                refine ⟨_, rfl, m, rfl, by omega, by omega, fun D1 hD1 => lc_range (Rg b D1 _ m) (Rg.nil bxx.1 hD1) ?_ ?_⟩
                · rintro j Hj hj g
                  exact ⟨rfl, _, rfl, _, rfl, _, _, rfl, g.put bxx.1 hD1 (Bx.refl g.box) (by split <;> omega) (by omega)⟩
                · rintro Hj ⟨ms, k1, k2, bxj, hDj⟩
                  exact k _ _ (good0 D1 ms _ (bxx.trans bxj) hDj k1 k2)
            · refine ⟨_, rfl, rfl, _, rfl, ifD (fun e => ?_) fun e => k _ _ (good0 Dx nx _ bxx hDx lx rx)⟩
              refine ⟨_, rfl, (by show 1 ≤ sizeLine; decide), fun l hl => ⟨_, rfl, l, m, [V.int y], rfl, rfl, upd_same, by omega, by omega, (by show 1 * m.toNat ≤ sizeLine; rw [sizeLine_eq]; omega), fun p2 hp2 => ?_⟩⟩
              refine k _ _ (good0 p2 (List.replicate m.toNat y) _ ((bxx.new hl).new hp2) ?_ (by simp) fun x hx => ?_)
              · rw [upd_same, vrow, List.map_replicate]
                congr 2
                generalize m.toNat = c
                induction c with
                | zero => rfl
                | succ c ih => rw [List.replicate_succ, List.flatten_cons, ih]; rfl
              · rw [(List.mem_replicate.mp hx).2]; exact ⟨y0, y1⟩
          · refine ⟨_, rfl, rfl, _, rfl, ifD (fun e => ?_) fun e => k _ _ (good0 Dx nx _ bxx hDx lx rx)⟩
            refine ⟨_, rfl, m, rfl, by omega, by omega, fun D1 hD1 => lc_range (Rg b D1 _ m) (Rg.nil bxx.1 hD1) ?_ ?_⟩
            · rintro j Hj hj g
              exact ⟨rfl, _, rfl, _, _, rfl, rfl, _, rfl, _, _, rfl, rfl, _, _, rfl, g.put bxx.1 hD1 (Bx.refl g.box) (by split <;> omega) (by omega)⟩
            · rintro Hj ⟨ms, k1, k2, bxj, hDj⟩
              exact k _ _ (good0 D1 ms _ (bxx.trans bxj) hDj k1 k2)
        · refine ⟨_, rfl, rfl, _, rfl, ifD (fun e => ?_) fun e => k _ _ (good0 D0 ns _ bx9' hD9 hn1 hn2)⟩
          refine ⟨_, rfl, m, rfl, by omega, by omega, fun D1 hD1 => lc_range (Rg b D1 _ m) (Rg.nil bx9'.1 hD1) ?_ ?_⟩
          · rintro j Hj hj g
            exact ⟨rfl, _, rfl, _, rfl, _, _, rfl, rfl, .inl ⟨_, rfl, _, rfl, _, _, rfl, rfl, by omega, g.put bx9'.1 hD1 (Bx.refl g.box) ⟨Int.emod_nonneg _ (by omega), Int.emod_lt_of_pos _ (by omega)⟩ (by omega)⟩⟩
          · rintro Hj ⟨ms, k1, k2, bxj, hDj⟩
            exact k _ _ (good0 D1 ms _ (bx9'.trans bxj) hDj k1 k2)
    · rintro σ H5 ⟨ts, v5, v6, v7, v8, rfl, bx5, tl, hl, hr5⟩
      have h1 : 1 ≤ ts.length := by omega
      have e0 : nS ts = m.toNat := by
        cases ts with
        | nil => exact absurd h1 (by simp)
        | cons t r => exact (hr5 t List.mem_cons_self).1
      refine ⟨_, rfl, q p ts H5 bx5 hp npb tl ⟨h1, by omega, by omega, by omega, fun t ht => ⟨by rw [e0]; exact (hr5 t ht).1, fun x hx => by have := (hr5 t ht).2 x hx; omega⟩⟩ (by omega) (by omega)⟩
end
end K1
namespace K1
open PySem PySem.Spec PyProof.Rows L2
def spRun : Sp := fun vs H Q _ => ∃ (p r : Addr) (s : Int) (ts : Ts) (row : List Int), vs = [.ref p, .int s, .ref r] ∧ TabL H p (vts ts) ∧ Wf ts ∧ (0 ≤ s ∧ s < (nS ts : Int)) ∧ H r = some (.tup (vrow row)) ∧ (∀ d ∈ row, 0 ≤ d ∧ d < (ts.length : Int)) ∧ row.length ≤ 1000 ∧
  ∀ l ns H', Same H H' → H' l = some (.lst (ns ++ [.int (run ts s row)])) → Q (.ref l) H'
def spLog : Sp := fun vs H Q _ => ∃ (b p : Addr) (most : Int) (ts : Ts), vs = [.ref b, .ref p, .int most] ∧ BoxO H b ∧ TabL H p (vts ts) ∧ p ≠ b ∧ 1 ≤ ts.length ∧ ts.length ≤ 8 ∧ 0 ≤ most ∧ most ≤ 100 ∧
  ∀ r row H', Bx b H H' → H r = none → H' r = some (.tup (vrow row)) → (∀ d ∈ row, 0 ≤ d ∧ d < (ts.length : Int)) → (row.length : Int) ≤ most → Q (.ref r) H'
def rLen (K : PySem.W.Frag) : List V → Hp → VK → Prop := fun xs H Q => ∃ p ys, xs = [.ref p] ∧ (SqL K H p ys ∨ SqT K H p ys) ∧ Q (.int (ys.length : Nat)) H
theorem clen {X : Cx} {K : PySem.W.Frag} (h : X.K = K) : CallR X (.builtin "len") (rLen K) := by
  subst h
  exact call_len_seq
section
variable {P : Program} {w : World} {K : PySem.W.Frag} {mg : Str → Option Value} {base : Heap}
abbrev nRu : List Str := ["_law_tables_here", "_law_start", "_law_log_here", "_law_found", "_law_deed"]
theorem scRu : FnScope nRu ["_law_tables_here", "_law_start", "_law_log_here"] (defScope sRun) := ⟨rfl, rfl, rfl, by decide +kernel, rfl, by decide +kernel, by decide +kernel⟩
theorem ok_run {f : Addr} {fd : FuncData} (D : Df K mg "_law_run" sRun ["_law_tables_here", "_law_start", "_law_log_here"] f fd) : FnOk P w K mg base CX0 1 f fd ["_law_tables_here", "_law_start", "_law_log_here"] spRun := by
  refine D.F.ok scRu (fun vs H Q E h => ?_) (fun cdv A outer s H vs Q E hr h => ?_)
  · obtain ⟨p, r, s, ts, row, rfl, _⟩ := h
    rfl
  · obtain ⟨p, r, s0, ts, row, rfl, tl, hW, hs, hr0, hd, hl, q⟩ := h
    refine ⟨_, pss_cons (ps_set (i := 3) scRu.nd rfl (.inl rfl) (pe_lst (pa_cons (pv 1) pa_nil)))
      (pss_cons (ps_for PassesOwn.never rfl (pi_tup (pv 2)) (pg_name (i := 4) scRu.nd rfl (.inl rfl))
        (pss_one (ps_expr (pe_bm PySem.F.plainAttrs_list PySem.F.slot_list_append PySem.F.type_list_append mt_append (pv 3) (pa_cons (pe_ix ix_tup (pe_ix ix_list (pv 0) (pv 4) (fun _ _ => rfl)) (pe_ix ix_list (pv 3) (pe_un un_neg pe_int) (fun _ _ => rfl)) (fun _ _ => rfl)) pa_nil)))))
      (pss_one (ps_ret (pv 3)))), ?_⟩
    refine ⟨_, rfl, (by show 1 ≤ sizeLine; decide), fun l hl0 => ?_⟩
    have sm0 := same_new (o := HO.lst [.int s0]) hl0
    refine ⟨_, rfl, r, rfl, ⟨_, SqT.of (sm0 _ _ hr0)⟩, for_tup (K := K) (a := r) (xs := vrow row) (fun i σ H' => ∃ (v4 : Option V) (ns : List V), σ = [some (.ref p), some (.int s0), some (.ref r), some (.ref l), v4] ∧ Same H H' ∧ ns.length = i ∧ H' l = some (.lst (ns ++ [.int (run ts s0 (row.take i))])))
      ⟨none, [], rfl, sm0, rfl, upd_same⟩ (fun i σ H' _ ⟨_, _, _, sm, _⟩ => SqT.of (sm _ _ hr0)) ?_ ?_⟩
    · rintro i x σ H' hx ⟨v4, ns, rfl, sm, hn, hL⟩
      obtain ⟨d, hdx, rfl⟩ : ∃ d, row[i]? = some d ∧ x = V.int d := by
        rw [vrow, List.getElem?_map] at hx
        cases e : row[i]? with
        | none => rw [e] at hx; cases hx
        | some d => rw [e] at hx; exact ⟨d, rfl, (Option.some.inj hx).symm⟩
      have hdr := hd d (List.mem_of_getElem? hdx)
      have hi : i < row.length := (List.getElem?_eq_some_iff.mp hdx).1
      have hst := hW.run (row.take i) s0 (fun e he => hd e (List.mem_of_mem_take he)) hs
      obtain ⟨t, ht, h2, h3⟩ := hW.at_ hdr hst
      obtain ⟨as, a1, a2, a3⟩ := tl
      have htv : (vts ts)[d.toNat]? = some (vrow t) := by rw [vts, List.getElem?_map, ht]; rfl
      have hlen : d.toNat < as.length := by rw [a2]; exact (List.getElem?_eq_some_iff.mp htv).1
      obtain ⟨a, ha⟩ : ∃ a, as[d.toNat]? = some a := ⟨as[d.toNat], List.getElem?_eq_getElem hlen⟩
      have hA := a3 _ a _ ha htv
      have nl : ∀ c o, H c = some o → c ≠ l := fun c o e z => by rw [z, hl0] at e; cases e
      refine ⟨_, rfl, .inl ⟨rfl, _, SqL.of hL⟩, _, rfl, _, rfl, p, _, d, .ref a, rfl, rfl, SqL.of (sm _ _ a1), at_of (j := d.toNat) (by omega) (by rw [List.getElem?_map, ha]; rfl), ?_⟩
      refine ⟨_, rfl, 1, rfl, l, _, -1, _, rfl, rfl, SqL.of hL, atI_last _ _, a, vrow t, run ts s0 (row.take i), .int (stp ts (run ts s0 (row.take i)) d), rfl, rfl, SqT.of (sm _ _ hA), at_of (j := (run ts s0 (row.take i)).toNat) (by omega) (by rw [vrow, List.getElem?_map, h2]; rfl), ?_⟩
      refine ⟨l, _, _, rfl, rfl, hL, by rw [List.length_append, hn, sizeLine_eq]; simp only [List.length_cons, List.length_nil]; omega, _, ns ++ [.int (run ts s0 (row.take i))], rfl, fun c o e => by rw [upd_ne (nl c o e)]; exact sm _ _ e, by rw [List.length_append, hn]; rfl, ?_⟩
      rw [upd_same, take_succ hdx, run_snoc]
    · rintro σ H' ⟨v4, ns, rfl, sm, hn, hL⟩
      refine ⟨_, rfl, q l ns H' sm ?_⟩
      rw [hL, vrow, List.length_map, List.take_length]
abbrev nLo : List Str := ["_law_box_here", "_law_tables_here", "_law_most", "_law_deed"]
theorem scLo : FnScope nLo ["_law_box_here", "_law_tables_here", "_law_most"] (defScope sLog) := ⟨rfl, rfl, rfl, by decide +kernel, rfl, by decide +kernel, by decide +kernel⟩
theorem ok_log {f fT : Addr} {fd fdT : FuncData} (D : Df K mg "_law_log" sLog ["_law_box_here", "_law_tables_here", "_law_most"] f fd) (DT : Df K mg "_law_take" sTake ["_law_box_here", "_law_many"] fT fdT) (B : Bt mg)
    (GT : FnOk P w K mg base CX0 1 fT fdT ["_law_box_here", "_law_many"] spTake) : FnOk P w K mg base CX0 2 f fd ["_law_box_here", "_law_tables_here", "_law_most"] spLog := by
  refine D.F.ok scLo (fun vs H Q E h => ?_) (fun cdv A outer s H vs Q E hr h => ?_)
  · obtain ⟨b, p, most, ts, rfl, _⟩ := h
    rfl
  · obtain ⟨b, p, most, ts, rfl, hb, tl, npb, h1, h8, m0, m1, q⟩ := h
    refine ⟨_, pss_one (ps_ret (pe_callTy call_tuple_of (by rfl) B.tuple PyProof.Rows.boot_tuple (pa_cons
      (pe_lc (own := [("_law_deed", 3)]) (g := gName 3) (tt := tYes) rfl scLo.nd (pi_range1 (by rfl) B.range (pa_cons (pc DT GT hr pass0 (pa_cons (pv 0) (pa_cons (pe_op op_add (pv 2) pe_int) pa_nil))) pa_nil)) (blkOk_by (N := nLo) (sc := defScope sLog) (by decide +kernel)) (fun _ _ _ _ _ => pg_name (i := 3) scLo.nd rfl (Or.inl rfl)) (fun _ _ _ _ _ => pts_nil)
        (fun _ _ _ _ _ => pc DT GT hr pass0 (pa_cons (pv 0) (pa_cons (pe_callB (clen (K := K) rfl) (by rfl) B.len PySem.boot_len (pa_cons (pv 1) pa_nil)) pa_nil)))) pa_nil))), ?_⟩
    obtain ⟨as, a1, a2, a3⟩ := id tl
    have las : as.length = ts.length := by rw [a2, vts, List.length_map]
    refine ⟨_, rfl, _, rfl, _, _, rfl, rfl, b, _, rfl, hb, by omega, by omega, fun r H1 r0 r1 bx1 => ?_⟩
    refine ⟨r, rfl, by omega, by omega, fun D0 hD0 => lc_range (Rg b D0 H1 (ts.length : Int)) (Rg.nil bx1.1 hD0) ?_ ?_⟩
    · rintro j Hj hj g
      have bxj : Bx b H1 Hj := let ⟨_, _, _, a, _⟩ := g; a
      refine ⟨rfl, _, rfl, _, rfl, p, _, rfl, .inl (SqL.of (bxj.2 _ _ (bx1.2 _ _ a1 npb) npb)), b, _, rfl, g.box, by rw [List.length_map, las]; omega, by rw [List.length_map, las]; omega, fun x H2 x0 x1 bx2 => g.put bx1.1 hD0 bx2 ⟨x0, ?_⟩ (by omega)⟩
      rw [List.length_map, las] at x1
      exact x1
    · rintro Hj ⟨ms, k1, k2, bxj, hDj⟩
      refine ⟨D0, _, rfl, .inl ⟨SqL.of hDj, fun t ht => ?_⟩⟩
      have bx3 : Bx b H (upd Hj t (.tup (vrow ms))) := (bx1.trans bxj).new ht
      refine q t ms _ bx3 ((bx1.trans bxj).free ((bx1.trans bxj).ne ht) ht) upd_same k2 (by omega)
end
end K1
namespace K1
open PySem PySem.Spec PyProof.Rows L2
/-- at x the deeds a, b don't commute -/
def Bad (ts : Ts) (x a b : Int) : Prop := stp ts (stp ts x a) b ≠ stp ts (stp ts x b) a
instance {ts : Ts} {x a b : Int} : Decidable (Bad ts x a b) := inferInstanceAs (Decidable (_ ≠ _))
def In8 (ts : Ts) (d : Int) : Prop := 0 ≤ d ∧ d < (ts.length : Int)
/-- the first three of ns, a deed, a deed, at which deeds don't commute -/
def PaperIs (ts : Ts) (ns : List Int) : Option (Int × Int × Int) → Prop
  | none => ∀ x ∈ ns, ∀ a b, In8 ts a → In8 ts b → ¬ Bad ts x a b
  | some (x, a, b) => ∃ i : Nat, ns[i]? = some x ∧ In8 ts a ∧ In8 ts b ∧ Bad ts x a b ∧ (∀ (j : Nat) y, j < i → ns[j]? = some y → ∀ c d, In8 ts c → In8 ts d → ¬ Bad ts y c d) ∧ (∀ c d, In8 ts c → In8 ts d → c < a → ¬ Bad ts x c d) ∧ ∀ d, In8 ts d → d < b → ¬ Bad ts x a d
theorem paper_one {ts : Ts} {ns : List Int} : ∀ {r s : Option (Int × Int × Int)}, PaperIs ts ns r → PaperIs ts ns s → r = s
  | none, none, _, _ => rfl
  | none, some (x, a, b), h, ⟨i, h1, h2, h3, h4, _⟩ => absurd h4 (h x (List.mem_of_getElem? h1) a b h2 h3)
  | some (x, a, b), none, ⟨i, h1, h2, h3, h4, _⟩, h => absurd h4 (h x (List.mem_of_getElem? h1) a b h2 h3)
  | some (x, a, b), some (x', a', b'), ⟨i, h1, h2, h3, h4, h5, h6, h7⟩, ⟨i', k1, k2, k3, k4, k5, k6, k7⟩ => by
    have ei : i = i' := by
      rcases Nat.lt_trichotomy i i' with z | z | z
      · exact absurd h4 (k5 i x z h1 a b h2 h3)
      · exact z
      · exact absurd k4 (h5 i' x' z k1 a' b' k2 k3)
    subst ei
    have ex : x = x' := Option.some.inj (h1.symm.trans k1)
    subst ex
    have ea : a = a' := by
      rcases Int.lt_trichotomy a a' with z | z | z
      · exact absurd h4 (k6 a b h2 h3 z)
      · exact z
      · exact absurd k4 (h6 a' b' k2 k3 z)
    subst ea
    have eb : b = b' := by
      rcases Int.lt_trichotomy b b' with z | z | z
      · exact absurd h4 (k7 b h3 z)
      · exact z
      · exact absurd k4 (h7 b' k3 z)
    rw [eb]
/-- a paper as a value -/
def PapV (H : Hp) (v : V) : Option (Int × Int × Int) → Prop
  | none => v = .non
  | some (x, a, b) => ∃ p, v = .ref p ∧ H p = some (.tup [.int x, .int a, .int b])
def spCPaper (K : PySem.W.Frag) (M CS : Addr) : Sp := fun vs H Q E => ∃ m ta ts v, vs = [.ref m, v] ∧ MachAt M H m ta (vts ts) ∧ Wf ts ∧ (∃ o, KV K H v o) ∧ (belowB v (nS ts : Int) = false → Rz CS "state" v H E) ∧
  (belowB v (nS ts : Int) = true → ∃ s, v = .int s ∧ ∀ (ns : List Int) r u H', Same H H' → ns.Pairwise (· < ·) → (∀ x, x ∈ ns ↔ Reach ts s x) → PaperIs ts ns r → PapV H' u r → Q u H')
section
variable {P : Program} {w : World} {K : PySem.W.Frag} {mg : Str → Option Value} {base : Heap}
abbrev nCP : List Str := ["machine", "state", "at", "one", "other"]
theorem scCP : FnScope nCP ["machine", "state"] (defScope sCPaper) := ⟨rfl, rfl, rfl, by decide +kernel, rfl, by decide +kernel, by decide +kernel⟩
theorem ok_cpaper {f fO fM CS M : Addr} {fd fdO fdM : FuncData} (D : Df K mg "commuting_paper" sCPaper ["machine", "state"] f fd) (DO : Df K mg "orbit" sOrbit ["machine", "state"] fO fdO) (DM : Df K mg "moved" sMoved ["machine", "state", "row"] fM fdM) (B : Bt mg) (T : McT K mg M)
    (GO : FnOk P w K mg base (L2.CX P w) 4 fO fdO ["machine", "state"] (spOrbit K M CS)) (GM : FnOk P w K mg base CX0 1 fM fdM ["machine", "state", "row"] (spMoved M)) : FnOk P w K mg base (L2.CX P w) 5 f fd ["machine", "state"] (spCPaper K M CS) := by
  refine D.F.okX scCP (fun vs H Q E h => ?_) (fun cdv A outer s H vs Q E hr h => ?_)
  · obtain ⟨m, ta, ts, v, rfl, _⟩ := h
    rfl
  · obtain ⟨m, ta, ts, v, rfl, hM, hW, ⟨o, kv⟩, q1, q2⟩ := h
    have r1 := hr.mono (show 1 ≤ 4 by decide)
    refine ⟨_, pss_cons (ps_for (passes_of rfl) rfl (pi_tup (pc DO GO hr (pass1 (takes_of rfl rfl rfl rfl)) (pa_cons (pv 0) (pa_cons (pv 1) pa_nil)))) (pg_name (i := 2) scCP.nd rfl (.inl rfl))
        (pss_one (ps_for (passes_of rfl) rfl (pi_range1 (by rfl) B.range (pa_cons (pe_fld (pv 0) rfl) pa_nil)) (pg_name (i := 3) scCP.nd rfl (.inl rfl))
          (pss_one (ps_for (passes_of rfl) rfl (pi_range1 (by rfl) B.range (pa_cons (pe_fld (pv 0) rfl) pa_nil)) (pg_name (i := 4) scCP.nd rfl (.inl rfl))
            (pss_one (ps_if (pt_cmpR op_ne (pc DM GM r1 pass0 (pa_cons (pv 0) (pa_cons (pv 2) (pa_cons (pe_tup (pa_cons (pv 3) (pa_cons (pv 4) pa_nil))) pa_nil)))) (pc DM GM r1 pass0 (pa_cons (pv 0) (pa_cons (pv 2) (pa_cons (pe_tup (pa_cons (pv 4) (pa_cons (pv 3) pa_nil))) pa_nil)))) (nomark _))
              (pss_one (ps_ret (pe_tup (pa_cons (pv 2) (pa_cons (pv 3) (pa_cons (pv 4) pa_nil)))))) pss_nil)))))))
      (pss_one (ps_ret pe_non)), ?_⟩
    refine ⟨_, rfl, _, rfl, m, ta, ts, v, rfl, hM, hW, ⟨o, kv⟩, q1, fun e => ?_⟩
    obtain ⟨st, rfl, q⟩ := q2 e
    refine ⟨st, rfl, fun ns p H1 s1 asc mem hp => ?_⟩
    have hst : 0 ≤ st ∧ st < (nS ts : Int) := by
      have z : (decide (0 ≤ st) && decide (st < (nS ts : Int))) = true := e
      simpa using z
    have Q' := fun r u H' s h1 h2 => q ns r u H' s asc mem h1 h2
    refine ⟨p, rfl, ⟨_, SqT.of hp⟩, for_tup (K := K) (a := p) (xs := vrow ns) (fun i σ H' => ∃ v2 v3 v4, σ = [some (.ref m), some (.int st), v2, v3, v4] ∧ Same H1 H' ∧ ∀ (j : Nat) y, j < i → ns[j]? = some y → ∀ a b, In8 ts a → In8 ts b → ¬ Bad ts y a b) ⟨none, none, none, rfl, fun _ _ e => e, fun j y hj => absurd hj (Nat.not_lt_zero _)⟩ (fun i σ H' _ ⟨_, _, _, _, s, _⟩ => SqT.of (s _ _ hp)) ?_ ?_⟩
    · rintro i x σ H2 hx ⟨v2, v3, v4, rfl, s2, no⟩
      obtain ⟨z, hz, rfl⟩ : ∃ z, ns[i]? = some z ∧ x = V.int z := by
        rw [vrow, List.getElem?_map] at hx
        cases e : ns[i]? with
        | none => rw [e] at hx; cases hx
        | some z => rw [e] at hx; exact ⟨z, rfl, (Option.some.inj hx).symm⟩
      have hzr := ((mem z).mp (List.mem_of_getElem? hz)).rng hW hst
      obtain ⟨dx, hf⟩ := (hM.same (s1.trans s2)).fs
      refine ⟨_, rfl, m, M, dx, _, _, rfl, hf, T.cl, T.nD, mf_d _ _ _, (ts.length : Int), rfl, by have := hW.t8; omega, by have := hW.t8; omega, for_range (fun k σ H' => ∃ v3 v4, σ = [some (.ref m), some (.int st), some (.int z), v3, v4] ∧ Same H1 H' ∧ ∀ a b, In8 ts a → In8 ts b → a < (k : Int) → ¬ Bad ts z a b) ⟨_, _, rfl, s2, fun a b ha _ hk => by have := ha.1; omega⟩ ?_ ?_⟩
      · rintro k σ H3 hk ⟨v3, v4, rfl, s3, no2⟩
        have hk8 : In8 ts (0 + (k : Int)) := ⟨by omega, by omega⟩
        obtain ⟨dx, hf⟩ := (hM.same (s1.trans s3)).fs
        refine ⟨_, rfl, m, M, dx, _, _, rfl, hf, T.cl, T.nD, mf_d _ _ _, (ts.length : Int), rfl, by have := hW.t8; omega, by have := hW.t8; omega, for_range (fun l σ H' => ∃ v4, σ = [some (.ref m), some (.int st), some (.int z), some (.int (0 + (k : Int))), v4] ∧ Same H1 H' ∧ ∀ b, In8 ts b → b < (l : Int) → ¬ Bad ts z (0 + (k : Int)) b) ⟨_, rfl, s3, fun b hb hl => by have := hb.1; omega⟩ ?_ ?_⟩
        · rintro l σ H4 hl ⟨v4, rfl, s4, no3⟩
          have hl8 : In8 ts (0 + (l : Int)) := ⟨by omega, by omega⟩
          have hM4 := hM.same (s1.trans s4)
          have rows : ∀ a b : Int, In8 ts a → In8 ts b → ∀ d ∈ [a, b], 0 ≤ d ∧ d < (ts.length : Int) := fun a b ha hb d hd => by
            simp only [List.mem_cons, List.mem_nil_iff, or_false] at hd
            rcases hd with rfl | rfl
            · exact ha
            · exact hb
          refine ⟨_, rfl, _, rfl, _, rfl, _, rfl, (by show 2 ≤ sizeLine; decide), fun p1 hp1 => ⟨m, ta, ts, z, p1, [0 + (k : Int), 0 + (l : Int)], rfl, hM4.same (same_new hp1), hW, hzr, upd_same, rows _ _ hk8 hl8, ?_⟩⟩
          have s5 := s4.trans (same_new (o := HO.tup [.int (0 + (k : Int)), .int (0 + (l : Int))]) hp1)
          refine ⟨_, rfl, _, rfl, _, rfl, _, rfl, (by show 2 ≤ sizeLine; decide), fun p2 hp2 => ⟨m, ta, ts, z, p2, [0 + (l : Int), 0 + (k : Int)], rfl, (hM.same (s1.trans s5)).same (same_new hp2), hW, hzr, upd_same, rows _ _ hl8 hk8, rfl, _, rfl, ifD (fun e => ?_) fun e => ?_⟩⟩
          · have hb : Bad ts z (0 + (k : Int)) (0 + (l : Int)) := fun w => by
              rw [Bool.not_eq_true', decide_eq_false_iff_not] at e
              exact e (congrArg V.int w)
            refine ⟨_, rfl, _, rfl, _, rfl, (by show 3 ≤ sizeLine; decide), fun p3 hp3 => ?_⟩
            have s6 := s1.trans ((s5.trans (same_new (o := HO.tup [.int (0 + (l : Int)), .int (0 + (k : Int))]) hp2)).trans (same_new (o := HO.tup [.int z, .int (0 + (k : Int)), .int (0 + (l : Int))]) hp3))
            exact Q' (some (z, 0 + (k : Int), 0 + (l : Int))) _ _ s6 ⟨i, hz, hk8, hl8, hb, no, fun c d hc hd hlt => no2 c d hc hd (by omega), fun d hd hlt => no3 d hd (by omega)⟩ ⟨p3, rfl, upd_same⟩
          · have hb : ¬ Bad ts z (0 + (k : Int)) (0 + (l : Int)) := fun w => by
              rw [Bool.not_eq_false', decide_eq_true_iff] at e
              injection e with e
              exact w e
            refine ⟨_, rfl, s5.trans (same_new hp2), fun b hb8 hlt => ?_⟩
            by_cases z2 : b = 0 + (l : Int)
            · rw [z2]; exact hb
            · exact no3 b hb8 (by omega)
        · rintro σ H4 ⟨v4, rfl, s4, no3⟩
          refine ⟨_, _, rfl, s4, fun a b ha hb hlt => ?_⟩
          by_cases z2 : a = 0 + (k : Int)
          · rw [z2]; exact no3 b hb (by have := hb.2; simp only [Int.toNat_natCast]; exact this)
          · exact no2 a b ha hb (by omega)
      · rintro σ H3 ⟨v3, v4, rfl, s3, no2⟩
        refine ⟨_, _, _, rfl, s3, fun j y hj hy a b ha hb => ?_⟩
        by_cases z2 : j = i
        · subst z2
          obtain rfl : z = y := Option.some.inj (hz.symm.trans hy)
          exact no2 a b ha hb (by have := ha.2; simp only [Int.toNat_natCast]; exact this)
        · exact no j y (by omega) hy a b ha hb
    · rintro σ H2 ⟨v2, v3, v4, rfl, s2, no⟩
      refine Q' none _ _ (s1.trans s2) (fun x hx a b ha hb => ?_) rfl
      obtain ⟨j, hj, ej⟩ := List.mem_iff_getElem.mp hx
      exact no j x (by rw [vrow, List.length_map]; exact hj) (by rw [← ej]; exact List.getElem?_eq_getElem hj) a b ha hb
end
end K1
namespace K1
open PySem PySem.Spec PyProof.Rows L2
abbrev sUInit : Stmt := inClass (top 5) 0
abbrev uF (x y z : V) : List (Str × V) := [("other", z), ("one", y), ("state", x)]
def spUInit (K : PySem.W.Frag) (C : Addr) : Sp := fun vs H Q _ => ∃ a x y z, vs = [.ref a, x, y, z] ∧ OexC K C ∧ H a = some (exo a C none) ∧
  ∀ d H', (∀ c o, H c = some o → c ≠ a → H' c = some o) → H d = none → d ≠ a → H' a = some (exo a C (some d)) → H' d = some (exd d (uF x y z)) → Q .non H'
section
variable {P : Program} {w : World} {K : PySem.W.Frag} {mg : Str → Option Value} {base : Heap}
theorem scUI : FnScope ["self", "state", "one", "other"] ["self", "state", "one", "other"] (defScope sUInit) := ⟨rfl, rfl, rfl, by decide +kernel, rfl, by decide +kernel, by decide +kernel⟩
structure UnC (K : PySem.W.Frag) (mg : Str → Option Value) (C : Addr) : Prop where
  x : OexC K C
  n1 : PySem.W.findIn K (.ref C) "state" = some none
  n2 : PySem.W.findIn K (.ref C) "one" = some none
  n3 : PySem.W.findIn K (.ref C) "other" = some none
  f : XfC K C
  g : mg "Uncommuting" = some (.ref C)
theorem ok_uinit {f C : Addr} {fd : FuncData} (F : Fun K "__init__" "Uncommuting.__init__" sUInit f fd) (U : UnC K mg C) : FnOk P w K mg base CX0 1 f fd ["self", "state", "one", "other"] (spUInit K C) := by
  refine F.ok scUI (fun vs H Q E h => ?_) (fun cdv A outer s H vs Q E hr h => ?_)
  · obtain ⟨a, x, y, z, rfl, _⟩ := h
    rfl
  · obtain ⟨a, x, y, z, rfl, hx, ha, q⟩ := h
    refine ⟨_, pss_cons (ps_ost (pv 0) (pv 1)) (pss_cons (ps_ost (pv 0) (pv 2)) (pss_one (ps_ost (pv 0) (pv 3)))), ?_⟩
    refine ⟨_, rfl, _, rfl, a, C, rfl, hx, U.n1, .inl ⟨ha, fun d hd ne => ?_⟩⟩
    refine ⟨_, rfl, _, rfl, a, C, rfl, hx, U.n2, .inr ⟨d, _, upd_same, by rw [upd_ne ne, upd_same], by show 1 ≤ 900; decide, ?_⟩⟩
    refine ⟨_, rfl, _, rfl, a, C, rfl, hx, U.n3, .inr ⟨d, _, by rw [upd_ne ne.symm, upd_same], upd_same, by show 2 ≤ 900; decide, ?_⟩⟩
    refine q d _ (fun c o e n => ?_) hd ne (by rw [upd_ne ne.symm, upd_ne ne.symm, upd_same]) upd_same
    have ncd := ne_of_none e hd
    rw [upd_ne ncd, upd_ne ncd, upd_ne n, upd_ne ncd]
    exact e
/-- the error Uncommuting, its fields -/
def RzU (CU : Addr) (x a b : Int) (H : Hp) (E : XK) : Prop := ∀ d H', Same H H' → H d = none → H' d = some (.xd (uF (.int x) (.int a) (.int b))) → E (.ref CU) (some d) H'
def spNeedC (K : PySem.W.Frag) (M CS CU : Addr) : Sp := fun vs H Q E => ∃ m ta ts v, vs = [.ref m, v] ∧ MachAt M H m ta (vts ts) ∧ Wf ts ∧ (∃ o, KV K H v o) ∧ (belowB v (nS ts : Int) = false → Rz CS "state" v H E) ∧
  (belowB v (nS ts : Int) = true → ∃ s, v = .int s ∧ ∀ (ns : List Int) r H', Same H H' → ns.Pairwise (· < ·) → (∀ x, x ∈ ns ↔ Reach ts s x) → PaperIs ts ns r → (r = none → Q (.ref m) H') ∧ ∀ x a b, r = some (x, a, b) → RzU CU x a b H' E)
abbrev nNC : List Str := ["machine", "state", "paper", "at", "one", "other"]
theorem scNC : FnScope nNC ["machine", "state"] (defScope sNeedC) := ⟨rfl, rfl, rfl, by decide +kernel, rfl, by decide +kernel, by decide +kernel⟩
theorem ok_needC {f fC fI CS CU M : Addr} {fd fdC fdI : FuncData} (D : Df K mg "need_commuting" sNeedC ["machine", "state"] f fd) (DC : Df K mg "commuting_paper" sCPaper ["machine", "state"] fC fdC) (U : UnC K mg CU)
    (iC : PySem.W.findIn K (.ref CU) "__init__" = some (some (.ref fI))) (tI : PySem.W.typeIn K (.ref fI) = some (.type "function")) (bI : Binds K fdI ["self", "state", "one", "other"] [])
    (GI : FnOk P w K mg base CX0 1 fI fdI ["self", "state", "one", "other"] (spUInit K CU)) (GC : FnOk P w K mg base (L2.CX P w) 5 fC fdC ["machine", "state"] (spCPaper K M CS)) : FnOk P w K mg base (L2.CX P w) 6 f fd ["machine", "state"] (spNeedC K M CS CU) := by
  refine D.F.okX scNC (fun vs H Q E h => ?_) (fun cdv A outer s H vs Q E hr h => ?_)
  · obtain ⟨m, ta, ts, v, rfl, _⟩ := h
    rfl
  · obtain ⟨m, ta, ts, v, rfl, hM, hW, ⟨o, kv⟩, q1, q2⟩ := h
    refine ⟨_, pss_cons (ps_set (i := 2) scNC.nd rfl (.inl rfl) (pc DC GC hr (pass1 (takes_of rfl rfl rfl rfl)) (pa_cons (pv 0) (pa_cons (pv 1) pa_nil))))
      (pss_cons (ps_if (pt_cmpR op_notN (pv 2) pe_non (nomark _)) (pss_cons (ps_asg (pv 2) (pg_tup rfl (pgs_cons (pg_name (i := 3) scNC.nd rfl (.inl rfl)) (pgs_cons (pg_name (i := 4) scNC.nd rfl (.inl rfl)) (pgs_cons (pg_name (i := 5) scNC.nd rfl (.inl rfl)) pgs_nil)))))
          (pss_one (ps_raise rfl (takes_of rfl rfl rfl rfl) (pmk_oex (CX := CX0) U.x iC tI GI (hr.mono (show 2 ≤ 5 by decide)) bI .nil (fun _ _ _ _ _ _ _ h => h.elim) (by rfl) U.g (pa_cons (pv 3) (pa_cons (pv 4) (pa_cons (pv 5) pa_nil))))))) pss_nil)
      (pss_one (ps_ret (pv 0)))), ?_⟩
    refine ⟨_, rfl, _, rfl, m, ta, ts, v, rfl, hM, hW, ⟨o, kv⟩, q1, fun e => ?_⟩
    obtain ⟨st, rfl, q⟩ := q2 e
    refine ⟨st, rfl, fun ns r u H1 s1 asc mem pap pv => ?_⟩
    obtain ⟨qn, qs⟩ := q ns r H1 s1 asc mem pap
    cases r with
    | none =>
      obtain rfl : u = .non := pv
      refine ⟨_, rfl, rfl, _, rfl, iteF ⟨_, rfl, qn rfl⟩⟩
    | some t =>
      obtain ⟨x, a, b⟩ := t
      obtain ⟨p, rfl, hp⟩ := pv
      refine ⟨_, rfl, rfl, _, rfl, iteT ⟨_, rfl, p, _, rfl, SqT.of hp, rfl, _, _, rfl, _, _, rfl, _, _, rfl, rfl, ?_⟩⟩
      refine ⟨_, rfl, _, rfl, _, rfl, by show 3 ≤ 1000; decide, fun ea hea => ⟨ea, .int x, .int a, .int b, rfl, U.x, upd_same, fun d H2 k2 hd ne hea2 hd2 => ⟨rfl, d, _, hea2, hd2, ?_, ?_⟩⟩⟩
      · rw [upd_ne ne] at hd; exact hd
      · refine qs x a b rfl d _ (fun c o e => ?_) (by rw [upd_ne ne] at hd; exact hd) upd_same
        have nce := ne_of_none e hea
        have ncd : c ≠ d := fun z => by rw [z] at e; rw [upd_ne ne, e] at hd; cases hd
        rw [upd_ne ncd]
        unfold L2.del
        rw [if_neg nce]
        exact k2 c o (by rw [upd_ne nce]; exact e) nce
end
end K1
namespace K1
open PySem PySem.Spec PyProof.Rows L2
section
variable {κ : Type} [DecidableEq κ]
theorem valV_mem {k : κ} {v : V} : ∀ {kvs : List (κ × V)}, (kvs.map (·.1)).Nodup → (k, v) ∈ kvs → valV kvs k = some v
  | [], _, h => by cases h
  | (k', v') :: r, nd, h => by
    obtain ⟨n1, n2⟩ := List.nodup_cons.mp nd
    unfold valV
    rcases List.mem_cons.mp h with e | e
    · cases e
      rw [List.find?_cons_of_pos (by simp)]; rfl
    · have ne : k' ≠ k := fun z => n1 (by rw [z]; exact List.mem_map.mpr ⟨(k, v), e, rfl⟩)
      rw [List.find?_cons_of_neg (by simpa using ne)]
      exact valV_mem n2 e
theorem valV_no {k : κ} {kvs : List (κ × V)} (h : ∀ p ∈ kvs, p.1 ≠ k) : valV kvs k = none := by
  unfold valV
  rw [List.find?_eq_none.mpr fun p hp => by simpa using h p hp]; rfl
theorem putK_no {k : κ} {v : V} {kvs : List (κ × V)} (h : ∀ p ∈ kvs, p.1 ≠ k) : putK kvs k v = kvs ++ [(k, v)] := by
  unfold putK
  rw [if_neg]
  intro z
  obtain ⟨p, hp, e⟩ := List.any_eq_true.mp z
  exact h p hp (of_decide_eq_true e)
end
/-- where a row leads, done again and again -/
def trail (ts : Ts) (row : List Int) (s : Int) : Nat → Int
  | 0 => s
  | j + 1 => run ts (trail ts row s j) row
theorem trail_rng {ts : Ts} {row : List Int} {s : Int} (w : Wf ts) (hd : ∀ d ∈ row, 0 ≤ d ∧ d < (ts.length : Int)) (hs : 0 ≤ s ∧ s < (nS ts : Int)) : ∀ j, 0 ≤ trail ts row s j ∧ trail ts row s j < (nS ts : Int)
  | 0 => hs
  | j + 1 => w.run row _ hd (trail_rng w hd hs j)
def Fresh (T : Nat → Int) (n : Nat) : Prop := ∀ a b, a < b → b < n → T a ≠ T b
def PowIs (T : Nat → Int) (i p : Nat) : Prop := 0 < p ∧ T (i + p) = T i ∧ Fresh T (i + p)
def kvT (T : Nat → Int) (j : Nat) : List (Key × V) := (List.range j).map fun i => (Sum.inl (T i), V.int ((i : Nat) : Int))
theorem kvT_keys (T : Nat → Int) (j : Nat) : (kvT T j).map (·.1) = (List.range j).map fun i => (Sum.inl (T i) : Key) := by
  unfold kvT
  rw [List.map_map]; rfl
theorem kvT_nodup {T : Nat → Int} {j : Nat} (h : Fresh T j) : ((kvT T j).map (·.1)).Nodup := by
  rw [kvT_keys]
  have hp : (List.range j).Pairwise (fun a b => a < b ∧ b < j) := by
    rw [List.pairwise_iff_getElem]
    intro a b ha hb hab
    rw [List.getElem_range, List.getElem_range]
    rw [List.length_range] at hb
    exact ⟨hab, hb⟩
  refine List.pairwise_map.mpr (hp.imp fun {a b} ⟨h1, h2⟩ e => ?_)
  injection e with e
  exact h a b h1 h2 e
theorem kvT_at {T : Nat → Int} {j i : Nat} (h : Fresh T j) (hi : i < j) : valV (kvT T j) (Sum.inl (T i)) = some (.int ((i : Nat) : Int)) :=
  valV_mem (kvT_nodup h) (List.mem_map.mpr ⟨i, List.mem_range.mpr hi, rfl⟩)
theorem kvT_no {T : Nat → Int} {j : Nat} {x : Int} (h : ∀ i, i < j → T i ≠ x) : ∀ p ∈ kvT T j, p.1 ≠ (Sum.inl x : Key) := fun p hp e => by
  obtain ⟨i, hi, rfl⟩ := List.mem_map.mp hp
  injection e with e
  exact h i (List.mem_range.mp hi) e
theorem kvT_succ {T : Nat → Int} {j : Nat} (h : ∀ i, i < j → T i ≠ T j) : putK (kvT T j) (Sum.inl (T j)) (.int ((j : Nat) : Int)) = kvT T (j + 1) := by
  rw [putK_no (kvT_no h)]
  unfold kvT
  rw [List.range_succ, List.map_append]; rfl
theorem fresh_few {T : Nat → Int} {n m : Nat} (h : Fresh T n) (hr : ∀ i, 0 ≤ T i ∧ T i < (m : Int)) : n ≤ m := by
  have nd : ((List.range n).map T).Nodup := by
    have hp : (List.range n).Pairwise (fun a b => a < b ∧ b < n) := by
      rw [List.pairwise_iff_getElem]
      intro a b ha hb hab
      rw [List.getElem_range, List.getElem_range]
      rw [List.length_range] at hb
      exact ⟨hab, hb⟩
    exact List.pairwise_map.mpr (hp.imp fun {a b} ⟨h1, h2⟩ e => h a b h1 h2 e)
  have := nodup_le m _ nd fun x hx => by
    obtain ⟨i, _, rfl⟩ := List.mem_map.mp hx
    exact hr i
  rwa [List.length_map, List.length_range] at this
theorem kvT_len (T : Nat → Int) (j : Nat) : (kvT T j).length = j := by
  unfold kvT
  rw [List.length_map, List.length_range]
def meas (n : Nat) (d : Addr) : L2.St → Hp → Nat := fun _ H => match H d with | some (.dK kvs) => n + 1 - kvs.length | _ => 0
theorem meas_at {n : Nat} {d : Addr} {σ : L2.St} {H : Hp} {kvs : List (Key × V)} (h : H d = some (.dK kvs)) : meas n d σ H = n + 1 - kvs.length := by
  unfold meas
  rw [h]
def spPower (K : PySem.W.Frag) (M CS CR : Addr) : Sp := fun vs H Q E => ∃ m ta ts v rv, vs = [.ref m, v, rv] ∧ MachAt M H m ta (vts ts) ∧ Wf ts ∧ (∃ o, KV K H v o) ∧ (belowB v (nS ts : Int) = false → Rz CS "state" v H E) ∧
  (belowB v (nS ts : Int) = true → ∃ s r, v = .int s ∧ Rw K H rv r ∧ (rowF r (ts.length : Int) ≠ .non → Rz CR "at" (rowF r (ts.length : Int)) H E) ∧ (rowF r (ts.length : Int) = .non → ∃ row, r = some (vrow row) ∧ (∀ d ∈ row, 0 ≤ d ∧ d < (ts.length : Int)) ∧
    ∀ (i p : Nat) a H', Same H H' → PowIs (trail ts row s) i p → H' a = some (.tup [.int (i : Int), .int (p : Int)]) → Q (.ref a) H'))
section
variable {P : Program} {w : World} {K : PySem.W.Frag} {mg : Str → Option Value} {base : Heap}
abbrev nPw : List Str := ["machine", "state", "row", "deeds", "times"]
theorem scPw : FnScope nPw ["machine", "state", "row"] (defScope sPower) := ⟨rfl, rfl, rfl, by decide +kernel, rfl, by decide +kernel, by decide +kernel⟩
theorem ok_power {f fN fR fM CS CR M : Addr} {fd fdN fdR fdM : FuncData} (D : Df K mg "power_of" sPower ["machine", "state", "row"] f fd) (DN : Df K mg "need_state" sNeedS ["machine", "state"] fN fdN) (DR : Df K mg "check_row" sRow ["machine", "value"] fR fdR) (DM : Df K mg "moved" sMoved ["machine", "state", "row"] fM fdM) (B : Bt mg)
    (GN : FnOk P w K mg base (L2.CX P w) 3 fN fdN ["machine", "state"] (spNeed M CS "state" nS)) (GR : FnOk P w K mg base (L2.CX P w) 5 fR fdR ["machine", "value"] (spRow K M CR)) (GM : FnOk P w K mg base CX0 1 fM fdM ["machine", "state", "row"] (spMoved M)) :
    FnOk P w K mg base (L2.CX P w) 6 f fd ["machine", "state", "row"] (spPower K M CS CR) := by
  refine D.F.okX scPw (fun vs H Q E h => ?_) (fun cdv A outer s H vs Q E hr h => ?_)
  · obtain ⟨m, ta, ts, v, rv, rfl, _⟩ := h
    rfl
  · obtain ⟨m, ta, ts, v, rv, rfl, hM, hW, ⟨o, kv⟩, q1, q2⟩ := h
    have hu := hu_of hr
    refine ⟨_, pss_cons (ps_expr (pc DN GN (hr.mono (by decide)) (pass1 (takes_of rfl rfl rfl rfl)) (pa_cons (pv 0) (pa_cons (pv 1) pa_nil))))
      (pss_cons (ps_set (i := 3) scPw.nd rfl (.inl rfl) (pc DR GR hr (pass1 (takes_of rfl rfl rfl rfl)) (pa_cons (pv 0) (pa_cons (pv 2) pa_nil))))
      (pss_cons (ps_set (i := 4) scPw.nd rfl (.inl rfl) pe_dnewK)
      (pss_cons (ps_while (passes_of rfl) (pt_cmp (pc_dnotin hu (pv 1) (pv 4)))
        (pss_cons (ps_dput hu (pv 4) (pv 1) (pe_callB call_lenD (by rfl) B.len PySem.boot_len (pa_cons (pv 4) pa_nil)) rfl)
        (pss_one (ps_set (i := 1) scPw.nd rfl (.inl rfl) (pc DM GM (hr.mono (by decide)) pass0 (pa_cons (pv 0) (pa_cons (pv 1) (pa_cons (pv 3) pa_nil))))))))
      (pss_one (ps_ret (pe_tup (pa_cons (pe_dget hu (pv 4) (pv 1) (fun _ _ => rfl)) (pa_cons (pe_op op_sub (pe_callB call_lenD (by rfl) B.len PySem.boot_len (pa_cons (pv 4) pa_nil)) (pe_dget hu (pv 4) (pv 1) (fun _ _ => rfl))) pa_nil)))))))), ?_⟩
    refine ⟨_, rfl, _, rfl, m, ta, ts, v, rfl, hM, ⟨K, o, kv⟩, fun e => ?_, fun e => q1 e⟩
    obtain ⟨st, r, rfl, hrw, qr, q⟩ := q2 e
    have hst : 0 ≤ st ∧ st < (nS ts : Int) := by
      have z : (decide (0 ≤ st) && decide (st < (nS ts : Int))) = true := e
      simpa using z
    refine ⟨_, rfl, _, rfl, m, ta, ts, rv, r, rfl, hM, hrw, fun hne => qr hne, fun hn xs ex p H1 s1 hp => ?_⟩
    obtain ⟨row, rfl, hrow, q⟩ := q hn
    obtain rfl := Option.some.inj ex
    intro d hd
    have s2 : Same H (upd H1 d (.dK [])) := s1.trans (same_new hd)
    have nd : H d = none := s1.free hd
    refine while_by (fun σ H' => ∃ j : Nat, σ = [some (.ref m), some (.int (trail ts row st j)), some rv, some (.ref p), some (.ref d)] ∧ Same H H' ∧ H' p = some (.tup (vrow row)) ∧ H' d = some (.dK (kvT (trail ts row st) j)) ∧ Fresh (trail ts row st) j)
      (meas (nS ts) d) ⟨0, rfl, s2, (same_new hd) _ _ hp, upd_same, fun a b _ hb => absurd hb (Nat.not_lt_zero _)⟩ ?_
      (fun σ H Q Q' hQ ⟨v, h1, v2, h2, a, o, h3, h4, k, h5, h6⟩ => ⟨v, h1, v2, h2, a, o, h3, h4, k, h5, hQ _ _ h6⟩)
    rintro σ H2 ⟨j, rfl, s3, hp3, hd3, fr⟩
    refine ⟨_, rfl, _, rfl, d, _, rfl, DGet.k (k := Sum.inl (trail ts row st j)) hd3, _, rfl, ?_⟩
    have hjm : j ≤ nS ts := fresh_few fr (trail_rng hW hrow hst)
    have hm12 := hW.s12
    cases ev : valV (kvT (trail ts row st) j) (Sum.inl (trail ts row st j)) with
    | none =>
      refine iteT ?_
      have hno : ∀ i, i < j → trail ts row st i ≠ trail ts row st j := fun i hi z => by
        have := kvT_at fr hi
        rw [z, ev] at this
        cases this
      refine ⟨_, rfl, d, _, rfl, hd3, _, rfl, _, rfl, d, _, rfl, DPut.k (k := Sum.inl (trail ts row st j)) hd3 (by rw [kvT_len, sizeLine_eq]; omega), ?_⟩
      have npd : p ≠ d := ne_of hp3 hd3 (by intro z; cases z)
      refine ⟨_, rfl, _, rfl, _, rfl, m, ta, ts, trail ts row st j, p, row, rfl, ?_, hW, trail_rng hW hrow hst j, by rw [upd_ne npd]; exact hp3, hrow, ?_⟩
      · refine hM.same fun c o e => ?_
        rw [upd_ne (ne_of_none e nd)]
        exact s3 _ _ e
      · have hfr : Fresh (trail ts row st) (j + 1) := fun a b hab hb => by
          by_cases z : b = j
          · rw [z]; exact hno a (by omega)
          · exact fr a b hab (by omega)
        refine ⟨⟨j + 1, rfl, fun c o e => ?_, by rw [upd_ne npd]; exact hp3, ?_, hfr⟩, ?_⟩
        · rw [upd_ne (ne_of_none e nd)]
          exact s3 _ _ e
        · rw [upd_same, kvT_len, kvT_succ hno]
        · have e1 : (upd H2 d (.dK (putK (kvT (trail ts row st) j) (Sum.inl (trail ts row st j)) (.int ((kvT (trail ts row st) j).length : Nat))))) d = some (.dK (kvT (trail ts row st) (j + 1))) := by
            rw [upd_same, kvT_len, kvT_succ hno]
          have hj1 : j + 1 ≤ nS ts := fresh_few hfr (trail_rng hW hrow hst)
          rw [meas_at e1, meas_at hd3, kvT_len, kvT_len]
          omega
    | some u =>
      refine iteF ?_
      obtain ⟨i, hi, ei⟩ : ∃ i, i < j ∧ trail ts row st i = trail ts row st j := by
        refine Classical.byContradiction fun z => ?_
        have := valV_no (kvT_no (T := trail ts row st) (j := j) (x := trail ts row st j) fun i hi e => z ⟨i, hi, e⟩)
        rw [ev] at this
        cases this
      have eg : valV (kvT (trail ts row st) j) (Sum.inl (trail ts row st j)) = some (.int ((i : Nat) : Int)) := by
        rw [← ei]; exact kvT_at fr hi
      have g : DGet H2 d (.int (trail ts row st j)) (some (.int ((i : Nat) : Int))) := by
        have z := DGet.k (k := Sum.inl (trail ts row st j)) hd3
        rw [eg] at z
        exact z
      refine ⟨_, rfl, _, rfl, d, _, rfl, g, _, rfl, d, _, rfl, hd3, _, rfl, _, rfl, d, _, rfl, g, _, _, rfl, rfl, (by show 2 ≤ sizeLine; decide), fun a ha => ?_⟩
      rw [kvT_len]
      have ep : ((j : Nat) : Int) - ((i : Nat) : Int) = ((j - i : Nat) : Int) := by omega
      refine q i (j - i) a _ (s3.trans (same_new ha)) ⟨by omega, ?_, ?_⟩ (by rw [upd_same]; show some (HO.tup [V.int ((i : Nat) : Int), V.int (((j : Nat) : Int) - ((i : Nat) : Int))]) = _; rw [ep])
      · rw [show i + (j - i) = j by omega, ei]
      · rw [show i + (j - i) = j by omega]; exact fr
end
end K1
namespace K1
open PySem PySem.Spec PyProof.Rows L2
/-! ### what the law finds step by step, and the orbit -/
theorem sub_len {α : Type} [DecidableEq α] : ∀ {a b : List α}, a.Nodup → (∀ x ∈ a, x ∈ b) → a.length ≤ b.length
  | [], _, _, _ => Nat.zero_le _
  | x :: a, b, nd, h => by
    obtain ⟨nx, na⟩ := List.nodup_cons.mp nd
    have hx : x ∈ b := h x List.mem_cons_self
    have ih := sub_len (b := b.erase x) na fun y hy => by
      have : y ≠ x := fun e => nx (e ▸ hy)
      exact (List.mem_erase_of_ne this).mpr (h y (List.mem_cons_of_mem _ hy))
    rw [List.length_erase_of_mem hx] at ih
    have : 0 < b.length := List.length_pos_of_mem hx
    simp only [List.length_cons]
    omega
theorem asc_nodup {l : List Int} (h : l.Pairwise (· < ·)) : l.Nodup := h.imp fun {a b} h => by intro e; omega
theorem asc_eq : ∀ {a b : List Int}, a.Pairwise (· < ·) → b.Pairwise (· < ·) → (∀ x, x ∈ a ↔ x ∈ b) → a = b
  | [], [], _, _, _ => rfl
  | [], y :: b, _, _, h => absurd ((h y).mpr List.mem_cons_self) (by simp)
  | x :: a, [], _, _, h => absurd ((h x).mp List.mem_cons_self) (by simp)
  | x :: a, y :: b, ha, hb, h => by
    obtain ⟨ax, ha'⟩ := List.pairwise_cons.mp ha
    obtain ⟨bx, hb'⟩ := List.pairwise_cons.mp hb
    have e : x = y := by
      rcases List.mem_cons.mp ((h x).mp List.mem_cons_self) with z | z
      · exact z
      · rcases List.mem_cons.mp ((h y).mpr List.mem_cons_self) with z' | z'
        · exact z'.symm
        · have := ax y z'
          have := bx x z
          omega
    subst e
    refine congrArg (List.cons x) (asc_eq ha' hb' fun z => ⟨fun hz => ?_, fun hz => ?_⟩)
    · rcases List.mem_cons.mp ((h z).mp (List.mem_cons_of_mem _ hz)) with e | e
      · have := ax z hz; omega
      · exact e
    · rcases List.mem_cons.mp ((h z).mpr (List.mem_cons_of_mem _ hz)) with e | e
      · have := bx z hz; omega
      · exact e
def Cl (ts : Ts) (F : List Int) : Prop := ∀ x ∈ F, ∀ d : Int, 0 ≤ d ∧ d < (ts.length : Int) → stp ts x d ∈ F
/-- the states found by j rounds -/
structure Fd (ts : Ts) (s : Int) (F : List Int) : Prop where
  asc : F.Pairwise (· < ·)
  st : s ∈ F
  rc : ∀ x ∈ F, Reach ts s x
theorem Fd.few {ts : Ts} (w : Wf ts) {s : Int} {F : List Int} (hs : 0 ≤ s ∧ s < (nS ts : Int)) (h : Fd ts s F) : F.length ≤ nS ts := nodup_le _ _ (asc_nodup h.asc) fun x hx => (h.rc x hx).rng w hs
theorem Fd.done {ts : Ts} {s : Int} {F ns : List Int} (h : Fd ts s F) (c : Cl ts F) (h1 : ns.Pairwise (· < ·)) (h2 : ∀ x, x ∈ ns ↔ Reach ts s x) : ns = F := asc_eq h1 h.asc fun x => by
  rw [h2]
  exact ⟨reach_closed h.st c, h.rc x⟩
/-- a round: F before, L after the first i tables -/
structure Rd (ts : Ts) (s : Int) (F : List Int) (i : Nat) (L : List Int) : Prop where
  fd : Fd ts s L
  sub : ∀ x ∈ F, x ∈ L
  im : ∀ x ∈ F, ∀ d : Int, 0 ≤ d ∧ d < (i : Int) → stp ts x d ∈ L
  cl : Cl ts F → ∀ x ∈ L, x ∈ F
theorem Rd.nil {ts : Ts} {s : Int} {F : List Int} (h : Fd ts s F) : Rd ts s F 0 F := ⟨h, fun _ h => h, fun _ _ d hd => by omega, fun _ _ h => h⟩
theorem Rd.next {ts : Ts} {s : Int} {F L L' : List Int} {i : Nat} (h : Rd ts s F i L) (hi : i < ts.length) (a : L'.Pairwise (· < ·)) (hm : ∀ x, x ∈ L' ↔ x ∈ L ∨ ∃ y ∈ L, x = stp ts y (i : Int)) : Rd ts s F (i + 1) L' := by
  refine ⟨⟨a, (hm s).mpr (.inl h.fd.st), fun x hx => ?_⟩, fun x hx => (hm x).mpr (.inl (h.sub x hx)), fun x hx d hd => (hm _).mpr ?_, fun c x hx => ?_⟩
  · rcases (hm x).mp hx with z | ⟨y, hy, rfl⟩
    · exact h.fd.rc x z
    · exact .step (h.fd.rc y hy) (by omega)
  · by_cases e : d = (i : Int)
    · rw [e]; exact .inr ⟨x, h.sub x hx, rfl⟩
    · exact .inl (h.im x hx d (by omega))
  · rcases (hm x).mp hx with z | ⟨y, hy, rfl⟩
    · exact h.cl c x z
    · exact c y (h.cl c y hy) _ (by omega)
theorem Rd.round {ts : Ts} {s : Int} {F L : List Int} {j : Nat} (h0 : Fd ts s F) (h : Rd ts s F ts.length L) (hF : Cl ts F ∨ j + 1 ≤ F.length) : Cl ts L ∨ j + 2 ≤ L.length := by
  by_cases c : Cl ts F
  · exact .inl fun x hx d hd => h.sub _ (c x (h.cl c x hx) d hd)
  · have hj := hF.resolve_left c
    refine .inr ?_
    unfold Cl at c
    simp only [Classical.not_forall] at c
    obtain ⟨x, hx, d, hd, hn⟩ := c
    have h1 : stp ts x d ∈ L := h.im x hx d hd
    have := sub_len (a := stp ts x d :: F) (b := L) (List.nodup_cons.mpr ⟨hn, asc_nodup h0.asc⟩) fun y hy => by
      rcases List.mem_cons.mp hy with e | e
      · rw [e]; exact h1
      · exact h.sub y e
    simp only [List.length_cons] at this
    omega
def spLOrbit : Sp := fun vs H Q _ => ∃ (p : Addr) (s : Int) (ts : Ts), vs = [.ref p, .int s] ∧ TabL H p (vts ts) ∧ Wf ts ∧ (0 ≤ s ∧ s < (nS ts : Int)) ∧ ∀ (ns : List Int) l H', Same H H' → H l = none → ns.Pairwise (· < ·) → (∀ x, x ∈ ns ↔ Reach ts s x) → H' l = some (.lst (vrow ns)) → Q (.ref l) H'
def spPaper : Sp := fun vs H Q _ => ∃ (p l : Addr) (ts : Ts) (ns : List Int), vs = [.ref p, .ref l] ∧ TabL H p (vts ts) ∧ Wf ts ∧ H l = some (.lst (vrow ns)) ∧ (∀ x ∈ ns, 0 ≤ x ∧ x < (nS ts : Int)) ∧ ∀ r u H', Same H H' → PaperIs ts ns r → PapV H' u r → Q u H'
section
variable {P : Program} {w : World} {K : PySem.W.Frag} {mg : Str → Option Value} {base : Heap}
abbrev nLO : List Str := ["_law_tables_here", "_law_state", "_law_table", "_law_found", "_law_turn", "_law_here"]
theorem scLO : FnScope nLO ["_law_tables_here", "_law_state"] (defScope sLOrbit) := ⟨rfl, rfl, rfl, by decide +kernel, rfl, by decide +kernel, by decide +kernel⟩
theorem ok_lorbit {f : Addr} {fd : FuncData} (D : Df K mg "_law_orbit" sLOrbit ["_law_tables_here", "_law_state"] f fd) (B : Bt mg) : FnOk P w K mg base CX0 1 f fd ["_law_tables_here", "_law_state"] spLOrbit := by
  refine D.F.ok scLO (fun vs H Q E h => ?_) (fun cdv A outer s H vs Q E hr h => ?_)
  · obtain ⟨p, s, ts, rfl, _⟩ := h
    rfl
  · obtain ⟨p, st, ts, rfl, tl, hW, hst, q⟩ := h
    refine ⟨_, pss_cons (ps_set (i := 3) scLO.nd rfl (.inl rfl) (pe_lst (pa_cons (pv 1) pa_nil)))
      (pss_cons (ps_for PassesOwn.never rfl (pi_range1 (by rfl) B.range (pa_cons (pe_callB call_len_seq (by rfl) B.len PySem.boot_len (pa_cons (pe_ix ix_list (pv 0) pe_int (fun _ _ => rfl)) pa_nil)) pa_nil)) (pg_name (i := 4) scLO.nd rfl (.inl rfl))
          (pss_one (ps_for PassesOwn.never rfl (pi_list (pv 0)) (pg_name (i := 2) scLO.nd rfl (.inr rfl))
            (pss_one (ps_set (i := 3) scLO.nd rfl (.inl rfl) (pe_callB (cr_sortedSet rfl) (by rfl) B.sorted PyProof.Rows.boot_sorted (pa_cons (pe_callTy (cr_setI rfl) (by rfl) B.set (by decide +kernel) (pa_cons (pe_op op_cat (pv 3)
              (pe_lc (own := [("_law_here", 5)]) (g := gName 5) (tt := tYes) rfl scLO.nd (pi_list (pv 3)) (blkOk_by (N := nLO) (sc := defScope sLOrbit) (by decide +kernel)) (fun _ _ _ _ _ => pg_name (i := 5) scLO.nd rfl (Or.inl rfl)) (fun _ _ _ _ _ => pts_nil)
                (fun _ _ _ _ _ => pe_ix (ixTK (K := K) rfl) (pv 2) (pv 5) (fun _ _ => rfl)))) pa_nil)) pa_nil)))))))
      (pss_one (ps_ret (pv 3)))), ?_⟩
    obtain ⟨t0, et0⟩ : ∃ t0, ts[0]? = some t0 := ⟨ts[0]'(by have := hW.t1; omega), List.getElem?_eq_getElem _⟩
    have ht0 : (vrow t0).length = nS ts := by rw [vrow, List.length_map]; exact (hW.row t0 (List.mem_of_getElem? et0)).1
    have hm12 := hW.s12
    refine ⟨_, rfl, (by show 1 ≤ sizeLine; decide), fun fl hfl => ?_⟩
    have sF := same_new (o := HO.lst [V.int st]) hfl
    have tl8 := tl.same sF
    have hfl8 : (upd H fl (.lst [.int st])) fl = some (.lst ([st].map V.int)) := upd_same
    obtain ⟨as, h1, h2, h3⟩ := id tl8
    have las : as.length = ts.length := by rw [h2, vts, List.length_map]
    have ha0 : as[0]? = some (as[0]'(by have := hW.t1; omega)) := List.getElem?_eq_getElem _
    have hta0 := h3 0 _ (vrow t0) ha0 (by rw [vts, List.getElem?_map, et0]; rfl)
    have fd0 : Fd ts st [st] := ⟨List.pairwise_singleton _ _, List.mem_singleton.mpr rfl, fun x hx => by rw [List.mem_singleton.mp hx]; exact .refl⟩
    generalize hH8 : upd H fl (.lst [.int st]) = H8 at sF tl8 hfl8 h1 h3 hta0 ⊢
    have fresh : ∀ c : Addr, H8 c = none → H c = none := fun c h => sF.free h
    refine ⟨_, rfl, p, _, 0, .ref _, rfl, rfl, SqL.of h1, at_of (j := 0) rfl (by rw [List.getElem?_map, ha0]; rfl), _, _, rfl, .inr (SqT.of hta0), ?_⟩
    rw [ht0]
    refine ⟨(nS ts : Int), rfl, by omega, by omega, for_range (fun j σ H' => ∃ (fa : Addr) (F : List Int) (w2 w12 : Option V), σ = [some (.ref p), some (.int st), w2, some (.ref fa), w12, none] ∧ Same H8 H' ∧ H fa = none ∧ H' fa = some (.lst (F.map V.int)) ∧ Fd ts st F ∧ (Cl ts F ∨ j + 1 ≤ F.length))
      ⟨fl, [st], none, none, rfl, fun _ _ e => e, hfl, hfl8, fd0, .inr (Nat.le_refl _)⟩ ?_ ?_⟩
    · rintro j σ H9 hj ⟨fa, F, w2, w12, rfl, s9, nfa, hfa, fdF, hF⟩
      refine ⟨_, rfl, p, rfl, ⟨_, SqL.of (s9 _ _ h1)⟩, for_list (K := K) (a := p) (xs := as.map V.ref) (fun i σ H' => ∃ (fa : Addr) (L : List Int) (w2 : Option V), σ = [some (.ref p), some (.int st), w2, some (.ref fa), some (.int (0 + (j : Int))), none] ∧ Same H8 H' ∧ H fa = none ∧ H' fa = some (.lst (L.map V.int)) ∧ Rd ts st F i L)
        ⟨fa, F, w2, rfl, s9, nfa, hfa, .nil fdF⟩ (fun i σ H' _ ⟨_, _, _, _, s, _⟩ => SqL.of (s _ _ h1)) ?_ ?_⟩
      · rintro i x σ H10 hx ⟨fb, L, w2', rfl, s10, nfb, hfb, rd⟩
        have hi : i < as.length := by have := (List.getElem?_eq_some_iff.mp hx).1; rw [List.length_map] at this; exact this
        have hx' : x = V.ref as[i] := by
          rw [List.getElem?_map, List.getElem?_eq_getElem hi] at hx
          exact (Option.some.inj hx).symm
        subst hx'
        obtain ⟨t, et⟩ : ∃ t, ts[i]? = some t := ⟨ts[i]'(by omega), List.getElem?_eq_getElem _⟩
        have hta := s10 _ _ (h3 i as[i] (vrow t) (List.getElem?_eq_getElem hi) (by rw [vts, List.getElem?_map, et]; rfl))
        have hL5 : L.length ≤ 12 := Nat.le_trans (rd.fd.few hW hst) hm12
        refine ⟨_, rfl, _, rfl, fb, rfl, ⟨_, SqL.of hfb⟩, fun D0 hD0 => lc_list (K := K) (a := fb) (xs := L.map V.int) (fun k H' => Same H10 H' ∧ H' D0 = some (.lst (((L.take k).map fun y => stp ts y (i : Int)).map V.int))) ⟨same_new hD0, upd_same⟩ (fun k H' _ ⟨s, _⟩ => SqL.of (s _ _ hfb)) ?_ ?_⟩
        · rintro k y H11 hy ⟨s11, hD⟩
          obtain ⟨z, hz, rfl⟩ : ∃ z, L[k]? = some z ∧ y = V.int z := by
            rw [List.getElem?_map] at hy
            cases e : L[k]? with
            | none => rw [e] at hy; cases hy
            | some z => rw [e] at hy; exact ⟨z, rfl, (Option.some.inj hy).symm⟩
          have hzr := (rd.fd.rc z (List.mem_of_getElem? hz)).rng hW hst
          obtain ⟨t', e1, e2, _⟩ := hW.at_ (d := (i : Int)) (by omega) hzr
          obtain rfl : t = t' := by
            have e1' : ts[i]? = some t' := by simpa using e1
            rw [et] at e1'
            exact Option.some.inj e1'
          refine ⟨rfl, _, rfl, _, rfl, as[i], _, z, .int (stp ts z (i : Int)), rfl, rfl, SqT.of (s11 _ _ hta), at_of (j := z.toNat) (by omega) (by rw [vrow, List.getElem?_map, e2]; rfl), _, hD, by rw [List.length_map, List.length_map, List.length_take, sizeLine_eq]; omega, ?_, ?_⟩
          · intro c o e
            rw [upd_ne (ne_of_none e hD0)]
            exact s11 _ _ e
          · rw [upd_same, take_succ hz, List.map_append, List.map_append]; rfl
        · rintro H11 ⟨s11, hD⟩
          rw [List.length_map, List.take_length] at hD
          refine ⟨fb, D0, _, _, rfl, rfl, s11 _ _ hfb, hD, by rw [List.length_map, List.length_map, List.length_map, sizeLine_eq]; omega, fun c1 hc1 => ?_⟩
          refine ⟨c1, L ++ L.map (fun y => stp ts y (i : Int)), rfl, SqL.of (by rw [upd_same, List.map_append]), by rw [List.length_append, List.length_map]; omega, fun s1 c hs1 hc => ?_⟩
          refine ⟨s1, _, c, rfl, upd_same, by rw [List.length_append, List.length_map] at hc; omega, fun ns p3 asc mem len hp3 => ?_⟩
          have sAll := s10.trans (s11.trans ((same_new hc1).trans (same_new (o := SetO w s1 (fun j => decide (j ∈ L ++ L.map (fun y => stp ts y (i : Int)))) c) hs1)))
          refine ⟨p3, ns, _, rfl, sAll.trans (same_new hp3), fresh _ (sAll.free hp3), upd_same, rd.next (by omega) asc fun x => ?_⟩
          rw [mem, decide_eq_true_iff, List.mem_append, List.mem_map]
          constructor
          · rintro (z | ⟨y, hy, e⟩)
            · exact .inl z
            · exact .inr ⟨y, hy, e.symm⟩
          · rintro (z | ⟨y, hy, e⟩)
            · exact .inl z
            · exact .inr ⟨y, hy, e.symm⟩
      · rintro σ H10 ⟨fb, L, w2', rfl, s10, nfb, hfb, rd⟩
        rw [List.length_map, las] at rd
        exact ⟨fb, L, w2', _, rfl, s10, nfb, hfb, rd.fd, Rd.round fdF rd hF⟩
    · rintro σ H9 ⟨fa, F, w2, w12, rfl, s9, nfa, hfa, fdF, hF⟩
      have hcl : Cl ts F := hF.resolve_right fun z => by
        have := fdF.few hW hst
        simp only [Int.toNat_natCast] at z
        omega
      exact ⟨_, rfl, q F fa H9 (sF.trans s9) nfa fdF.asc (fun x => ⟨fdF.rc x, reach_closed fdF.st hcl⟩) hfa⟩
abbrev nPp : List Str := ["_law_tables_here", "_law_some", "_law_state", "_law_one", "_law_other"]
theorem scPp : FnScope nPp ["_law_tables_here", "_law_some"] (defScope sPaper) := ⟨rfl, rfl, rfl, by decide +kernel, rfl, by decide +kernel, by decide +kernel⟩
end
end K1
namespace K1
open PySem PySem.Spec PyProof.Rows L2
section
variable {P : Program} {w : World} {K : PySem.W.Frag} {mg : Str → Option Value} {base : Heap}
theorem ok_paper {f : Addr} {fd : FuncData} (D : Df K mg "_law_paper" sPaper ["_law_tables_here", "_law_some"] f fd) (B : Bt mg) : FnOk P w K mg base CX0 1 f fd ["_law_tables_here", "_law_some"] spPaper := by
  refine D.F.ok scPp (fun vs H Q E h => ?_) (fun cdv A outer s H vs Q E hr h => ?_)
  · obtain ⟨p, l, ts, ns, rfl, _⟩ := h
    rfl
  · obtain ⟨p, l, ts, ns, rfl, tl, hW, hl, hr0, q⟩ := h
    refine ⟨_, pss_cons (ps_for PassesOwn.never rfl (pi_list (pv 1)) (pg_name (i := 2) scPp.nd rfl (.inl rfl))
        (pss_one (ps_for PassesOwn.never rfl (pi_range1 (by rfl) B.range (pa_cons (pe_callB call_len_seq (by rfl) B.len PySem.boot_len (pa_cons (pv 0) pa_nil)) pa_nil)) (pg_name (i := 3) scPp.nd rfl (.inl rfl))
          (pss_one (ps_for PassesOwn.never rfl (pi_range1 (by rfl) B.range (pa_cons (pe_callB call_len_seq (by rfl) B.len PySem.boot_len (pa_cons (pv 0) pa_nil)) pa_nil)) (pg_name (i := 4) scPp.nd rfl (.inl rfl))
            (pss_one (ps_if (pt_cmpR op_ne (pe_ix ix_tup (pe_ix ix_list (pv 0) (pv 4) (fun _ _ => rfl)) (pe_ix ix_tup (pe_ix ix_list (pv 0) (pv 3) (fun _ _ => rfl)) (pv 2) (fun _ _ => rfl)) (fun _ _ => rfl))
                (pe_ix ix_tup (pe_ix ix_list (pv 0) (pv 3) (fun _ _ => rfl)) (pe_ix ix_tup (pe_ix ix_list (pv 0) (pv 4) (fun _ _ => rfl)) (pv 2) (fun _ _ => rfl)) (fun _ _ => rfl)) (nomark _))
              (pss_one (ps_ret (pe_tup (pa_cons (pv 2) (pa_cons (pv 3) (pa_cons (pv 4) pa_nil)))))) pss_nil)))))))
      (pss_one (ps_ret pe_non)), ?_⟩
    obtain ⟨as, h1, h2, h3⟩ := id tl
    have las : as.length = ts.length := by rw [h2, vts, List.length_map]
    have h8 := hW.t8
    -- one look at a table
    have look : ∀ (x : Int) (j : Nat), (0 ≤ x ∧ x < (nS ts : Int)) → j < ts.length → ∃ (a : Addr) (t : List Int), as[j]? = some a ∧ H a = some (.tup (vrow t)) ∧ (vrow t)[x.toNat]? = some (.int (stp ts x (j : Int))) ∧ (0 ≤ stp ts x (j : Int) ∧ stp ts x (j : Int) < (nS ts : Int)) := fun x j hx hj => by
      obtain ⟨t, e1, e2, e3⟩ := hW.at_ (d := (j : Int)) (by omega) hx
      have e1' : ts[j]? = some t := by simpa using e1
      have hja : j < as.length := by omega
      exact ⟨as[j], t, List.getElem?_eq_getElem hja, h3 j _ _ (List.getElem?_eq_getElem hja) (by rw [vts, List.getElem?_map, e1']; rfl), by rw [vrow, List.getElem?_map, e2]; rfl, e3⟩
    have lenE : ((as.map V.ref).length : Int) = (ts.length : Int) := by rw [List.length_map, las]
    refine ⟨_, rfl, l, rfl, ⟨_, SqL.of hl⟩, for_list (K := K) (a := l) (xs := vrow ns) (fun i σ H' => ∃ v2 v3 v4, σ = [some (.ref p), some (.ref l), v2, v3, v4] ∧ H' = H ∧ ∀ (j : Nat) y, j < i → ns[j]? = some y → ∀ a b, In8 ts a → In8 ts b → ¬ Bad ts y a b) ⟨none, none, none, rfl, rfl, fun j y hj => absurd hj (Nat.not_lt_zero _)⟩ (fun i σ H' _ ⟨_, _, _, _, e, _⟩ => SqL.of (by rw [e]; exact hl)) ?_ ?_⟩
    · rintro i x σ H2 hx ⟨v2, v3, v4, rfl, rfl, no⟩
      obtain ⟨z, hz, rfl⟩ : ∃ z, ns[i]? = some z ∧ x = V.int z := by
        rw [vrow, List.getElem?_map] at hx
        cases e : ns[i]? with
        | none => rw [e] at hx; cases hx
        | some z => rw [e] at hx; exact ⟨z, rfl, (Option.some.inj hx).symm⟩
      have hzr := hr0 z (List.mem_of_getElem? hz)
      refine ⟨_, rfl, p, _, rfl, .inl (SqL.of h1), (ts.length : Int), by rw [lenE], by omega, by omega, for_range (fun k σ H' => ∃ v3 v4, σ = [some (.ref p), some (.ref l), some (.int z), v3, v4] ∧ H' = H2 ∧ ∀ a b, In8 ts a → In8 ts b → a < (k : Int) → ¬ Bad ts z a b) ⟨_, _, rfl, rfl, fun a b ha _ hk => by have := ha.1; omega⟩ ?_ ?_⟩
      · rintro k σ H3 hk ⟨v3, v4, rfl, rfl, no2⟩
        have hk8 : In8 ts (0 + (k : Int)) := ⟨by omega, by omega⟩
        refine ⟨_, rfl, p, _, rfl, .inl (SqL.of h1), (ts.length : Int), by rw [lenE], by omega, by omega, for_range (fun m σ H' => ∃ v4, σ = [some (.ref p), some (.ref l), some (.int z), some (.int (0 + (k : Int))), v4] ∧ H' = H3 ∧ ∀ b, In8 ts b → b < (m : Int) → ¬ Bad ts z (0 + (k : Int)) b) ⟨_, rfl, rfl, fun b hb hm => by have := hb.1; omega⟩ ?_ ?_⟩
        · rintro m σ H4 hm ⟨v4, rfl, rfl, no3⟩
          have hm8 : In8 ts (0 + (m : Int)) := ⟨by omega, by omega⟩
          obtain ⟨a1, t1, x1, x2, x3, x4⟩ := look z k hzr (by omega)
          obtain ⟨b1, u1, y1, y2, y3, y4⟩ := look z m hzr (by omega)
          obtain ⟨a2, t2, w1, w2, w3, w4⟩ := look (stp ts z (k : Int)) m x4 (by omega)
          obtain ⟨b2, u2, z1, z2, z3, z4⟩ := look (stp ts z (m : Int)) k y4 (by omega)
          have k0 : (0 : Int) + (k : Int) = (k : Int) := by omega
          have m0 : (0 : Int) + (m : Int) = (m : Int) := by omega
          have ixl : ∀ (j : Nat) a, as[j]? = some a → atI (as.map V.ref) (0 + (j : Int)) = some (V.ref a) := fun j a e => at_of (j := j) (by omega) (by rw [List.getElem?_map, e]; rfl)
          refine ⟨_, rfl, _, rfl, p, _, _, _, rfl, rfl, SqL.of h1, ixl m a2 w1, ?_⟩
          refine ⟨_, rfl, _, rfl, p, _, _, _, rfl, rfl, SqL.of h1, ixl k a1 x1, _, rfl, a1, _, z, _, rfl, rfl, SqT.of x2, at_of (j := z.toNat) (by omega) x3, a2, _, _, _, rfl, rfl, SqT.of w2, at_of (j := (stp ts z (k : Int)).toNat) (by omega) w3, ?_⟩
          refine ⟨_, rfl, _, rfl, p, _, _, _, rfl, rfl, SqL.of h1, ixl k b2 z1, ?_⟩
          refine ⟨_, rfl, _, rfl, p, _, _, _, rfl, rfl, SqL.of h1, ixl m b1 y1, _, rfl, b1, _, z, _, rfl, rfl, SqT.of y2, at_of (j := z.toNat) (by omega) y3, b2, _, _, _, rfl, rfl, SqT.of z2, at_of (j := (stp ts z (m : Int)).toNat) (by omega) z3, rfl, _, rfl, ifD (fun e => ?_) fun e => ?_⟩
          · have hb : Bad ts z (0 + (k : Int)) (0 + (m : Int)) := fun w => by
              rw [k0, m0] at w
              rw [Bool.not_eq_true', decide_eq_false_iff_not] at e
              exact e (congrArg V.int w)
            refine ⟨_, rfl, _, rfl, _, rfl, (by show 3 ≤ sizeLine; decide), fun p3 hp3 => ?_⟩
            exact q (some (z, 0 + (k : Int), 0 + (m : Int))) _ _ (same_new hp3) ⟨i, hz, hk8, hm8, hb, no, fun c d hc hd hlt => no2 c d hc hd (by omega), fun d hd hlt => no3 d hd (by omega)⟩ ⟨p3, rfl, upd_same⟩
          · have hb : ¬ Bad ts z (0 + (k : Int)) (0 + (m : Int)) := fun w => by
              rw [k0, m0] at w
              rw [Bool.not_eq_false', decide_eq_true_iff] at e
              injection e with e
              exact w e
            refine ⟨_, rfl, rfl, fun b hb8 hlt => ?_⟩
            by_cases z2' : b = 0 + (m : Int)
            · rw [z2']; exact hb
            · exact no3 b hb8 (by omega)
        · rintro σ H4 ⟨v4, rfl, rfl, no3⟩
          refine ⟨_, _, rfl, rfl, fun a b ha hb hlt => ?_⟩
          by_cases z2 : a = 0 + (k : Int)
          · rw [z2]; exact no3 b hb (by have := hb.2; simp only [Int.toNat_natCast]; exact this)
          · exact no2 a b ha hb (by omega)
      · rintro σ H3 ⟨v3, v4, rfl, rfl, no2⟩
        refine ⟨_, _, _, rfl, rfl, fun j y hj hy a b ha hb => ?_⟩
        by_cases z2 : j = i
        · subst z2
          obtain rfl : z = y := Option.some.inj (hz.symm.trans hy)
          exact no2 a b ha hb (by have := ha.2; simp only [Int.toNat_natCast]; exact this)
        · exact no j y (by omega) hy a b ha hb
    · rintro σ H2 ⟨v2, v3, v4, rfl, rfl, no⟩
      refine q none _ _ (fun _ _ e => e) (fun x hx a b ha hb => ?_) rfl
      obtain ⟨j, hj, ej⟩ := List.mem_iff_getElem.mp hx
      exact no j x (by rw [vrow, List.length_map]; exact hj) (by rw [← ej]; exact List.getElem?_eq_getElem hj) a b ha hb
end
end K1
namespace K1
open PySem PySem.Spec PyProof.Rows L2
theorem neDk {X : Cx} {K : PySem.W.Frag} (h : X.K = K) (hu : X.A.units + 64 < cLine) : OpR X (compareOp .NotEq) (rNeD K) := by
  subst h
  exact op_neD hu
theorem ixLK {X : Cx} {K : PySem.W.Frag} (h : X.K = K) : IxR X (rIxL K) := by
  subst h
  exact ix_list
theorem iteF' {c : Bool} {A B : Prop} (h : c = false) (b : B) : if c = true then A else B := by
  rw [h]
  exact iteF b
theorem iteT' {c : Bool} {A B : Prop} (h : c = true) (a : A) : if c = true then A else B := by
  rw [h]
  exact iteT a
theorem pow_ex {T : Nat → Int} {m : Nat} (hr : ∀ i, 0 ≤ T i ∧ T i < (m : Int)) : ∃ i p, PowIs T i p ∧ i + p ≤ m := by
  have key : ∀ k, k ≤ m + 1 → (Fresh T k) ∨ ∃ n, n < k ∧ Fresh T n ∧ ¬ Fresh T (n + 1) := by
    intro k
    induction k with
    | zero => intro _; exact .inl fun a b _ hb => absurd hb (Nat.not_lt_zero _)
    | succ k ih =>
      intro hk
      rcases ih (by omega) with h | ⟨n, h1, h2, h3⟩
      · by_cases z : Fresh T (k + 1)
        · exact .inl z
        · exact .inr ⟨k, by omega, h, z⟩
      · exact .inr ⟨n, by omega, h2, h3⟩
  rcases key (m + 1) (Nat.le_refl _) with h | ⟨n, hn, h2, h3⟩
  · have := fresh_few h hr; omega
  · unfold Fresh at h3
    simp only [Classical.not_forall] at h3
    obtain ⟨a, b, hab, hb, e⟩ := h3
    have e' : T a = T b := Classical.byContradiction e
    have hbn : b = n := by
      refine Classical.byContradiction fun z => ?_
      exact h2 a b hab (by omega) e'
    subst hbn
    exact ⟨a, b - a, ⟨by omega, by rw [show a + (b - a) = b by omega, e'], by rw [show a + (b - a) = b by omega]; exact h2⟩, by omega⟩
theorem pow_per {g : Int → Int} {T : Nat → Int} (hT : ∀ j, T (j + 1) = g (T j)) {i p : Nat} (h : PowIs T i p) : ∀ t, T (i + p + t) = T (i + t)
  | 0 => h.2.1
  | t + 1 => by
    show T ((i + p + t) + 1) = T ((i + t) + 1)
    rw [hT, hT, pow_per hT h t]
theorem pow_low {g : Int → Int} {T : Nat → Int} (hT : ∀ j, T (j + 1) = g (T j)) {i p : Nat} (h : PowIs T i p) : ∀ k, i ≤ k → ∃ k', i ≤ k' ∧ k' < i + p ∧ T k = T k' := by
  intro k
  induction k using Nat.strongRecOn with
  | _ k ih =>
    intro hk
    by_cases z : k < i + p
    · exact ⟨k, hk, z, rfl⟩
    · obtain ⟨k', h1, h2, h3⟩ := ih (k - p) (by have := h.1; omega) (by omega)
      refine ⟨k', h1, h2, ?_⟩
      have := pow_per hT h (k - p - i)
      rw [show i + p + (k - p - i) = k by omega, show i + (k - p - i) = k - p by omega] at this
      rw [this, h3]
theorem pow_ne {g : Int → Int} {T : Nat → Int} (hT : ∀ j, T (j + 1) = g (T j)) {i p j k : Nat} (h : PowIs T i p) (hj : j < i) (hk : j < k) : T j ≠ T k := by
  by_cases z : k < i + p
  · exact h.2.2 j k hk z
  · obtain ⟨k', h1, h2, h3⟩ := pow_low hT h k (by omega)
    rw [h3]
    exact h.2.2 j k' (by omega) h2
theorem pow_one {g : Int → Int} {T : Nat → Int} (hT : ∀ j, T (j + 1) = g (T j)) {i p i' p' : Nat} (h : PowIs T i p) (h' : PowIs T i' p') : i = i' ∧ p = p' := by
  have e : i = i' := by
    rcases Nat.lt_trichotomy i i' with z | z | z
    · exact absurd h.2.1.symm (pow_ne hT h' z (by have := h.1; omega))
    · exact z
    · exact absurd h'.2.1.symm (pow_ne hT h z (by have := h'.1; omega))
  subst e
  refine ⟨rfl, ?_⟩
  rcases Nat.lt_trichotomy p p' with z | z | z
  · exact absurd h.2.1.symm (h'.2.2 i (i + p) (by have := h.1; omega) (by omega))
  · exact z
  · exact absurd h'.2.1.symm (h.2.2 i (i + p') (by have := h'.1; omega) (by omega))
def ag (T : Nat → Int) (j k : Nat) : List Nat := (List.range k).filter fun t => decide (T j = T (j + (t + 1)))
theorem ag_succ (T : Nat → Int) (j k : Nat) : ag T j (k + 1) = ag T j k ++ (if T j = T (j + (k + 1)) then [k] else []) := by
  unfold ag
  rw [List.range_succ, List.filter_append, List.filter_cons, List.filter_nil]
  by_cases z : T j = T (j + (k + 1))
  · rw [if_pos z, if_pos (decide_eq_true z)]
  · rw [if_neg z, if_neg (by rw [decide_eq_false z]; decide)]
theorem ag_len (T : Nat → Int) (j k : Nat) : (ag T j k).length ≤ k := by
  have := List.length_filter_le (fun t => decide (T j = T (j + (t + 1)))) (List.range k)
  rwa [List.length_range] at this
theorem ag_none {g : Int → Int} {T : Nat → Int} (hT : ∀ j, T (j + 1) = g (T j)) {i p j : Nat} (h : PowIs T i p) (hj : j < i) (k : Nat) : ag T j k = [] := by
  unfold ag
  rw [List.filter_eq_nil_iff]
  intro t _ e
  exact pow_ne hT h hj (by omega) (of_decide_eq_true e)
theorem ag_some {T : Nat → Int} {i p k : Nat} (h : PowIs T i p) (hk : p ≤ k) : ∃ r, ag T i k = (p - 1) :: r := by
  have h0 := h.1
  have split : ∀ k, p ≤ k → ∃ r, ag T i k = (p - 1) :: r := by
    intro k
    induction k with
    | zero => intro z; omega
    | succ k ih =>
      intro hk
      by_cases z : p = k + 1
      · have e0 : ag T i k = [] := by
          unfold ag
          rw [List.filter_eq_nil_iff]
          intro t ht e
          have := List.mem_range.mp ht
          exact h.2.2 i (i + (t + 1)) (by omega) (by omega) (of_decide_eq_true e)
        rw [ag_succ, e0, if_pos (by rw [← z]; exact h.2.1.symm)]
        exact ⟨[], by rw [show p - 1 = k by omega]; rfl⟩
      · obtain ⟨r, e⟩ := ih (by omega)
        rw [ag_succ, e]
        exact ⟨_, rfl⟩
  exact split k hk
def spLPow : Sp := fun vs H Q _ => ∃ (p r : Addr) (s : Int) (ts : Ts) (row : List Int), vs = [.ref p, .int s, .ref r] ∧ TabL H p (vts ts) ∧ Wf ts ∧ (0 ≤ s ∧ s < (nS ts : Int)) ∧ H r = some (.tup (vrow row)) ∧ (∀ d ∈ row, 0 ≤ d ∧ d < (ts.length : Int)) ∧ row.length ≤ 1000 ∧
  ∀ (i q : Nat) a H', Same H H' → PowIs (trail ts row s) i q → H' a = some (.tup [.int (i : Int), .int (q : Int)]) → Q (.ref a) H'
section
variable {P : Program} {w : World} {K : PySem.W.Frag} {mg : Str → Option Value} {base : Heap}
abbrev nLP : List Str := ["_law_tables_here", "_law_state", "_law_row", "_law_trail", "_law_turn", "_law_index", "_law_again", "_law_period"]
theorem scLP : FnScope nLP ["_law_tables_here", "_law_state", "_law_row"] (defScope sLPower) := ⟨rfl, rfl, rfl, by decide +kernel, rfl, by decide +kernel, by decide +kernel⟩
def trV (T : Nat → Int) (k : Nat) : List V := (List.range k).map fun i => V.int (T i)
theorem trV_succ (T : Nat → Int) (k : Nat) : trV T (k + 1) = trV T k ++ [.int (T k)] := by
  unfold trV
  rw [List.range_succ, List.map_append]; rfl
theorem trV_at {T : Nat → Int} {k i : Nat} (h : i < k) : (trV T k)[i]? = some (.int (T i)) := by
  unfold trV
  rw [List.getElem?_map, List.getElem?_range h]; rfl
theorem trV_len (T : Nat → Int) (k : Nat) : (trV T k).length = k := by
  unfold trV
  rw [List.length_map, List.length_range]
theorem ok_lpow {f fU : Addr} {fd fdU : FuncData} (D : Df K mg "_law_power" sLPower ["_law_tables_here", "_law_state", "_law_row"] f fd) (DU : Df K mg "_law_run" sRun ["_law_tables_here", "_law_start", "_law_log_here"] fU fdU) (B : Bt mg)
    (GU : FnOk P w K mg base CX0 1 fU fdU ["_law_tables_here", "_law_start", "_law_log_here"] spRun) : FnOk P w K mg base CX0 2 f fd ["_law_tables_here", "_law_state", "_law_row"] spLPow := by
  refine D.F.ok scLP (fun vs H Q E h => ?_) (fun cdv A outer s H vs Q E hr h => ?_)
  · obtain ⟨p, r, s, ts, row, rfl, _⟩ := h
    rfl
  · obtain ⟨p, r, st, ts, row, rfl, tl, hW, hst, hr0, hrow, hrl, q⟩ := h
    refine ⟨_, pss_cons (ps_set (i := 3) scLP.nd rfl (.inr rfl) (pe_lst (pa_cons (pv 1) pa_nil)))
      (pss_cons (ps_for PassesOwn.never rfl (pi_range1 (by rfl) B.range (pa_cons pe_int pa_nil)) (pg_name (i := 4) scLP.nd rfl (.inl rfl))
        (pss_one (ps_expr (pe_bm PySem.F.plainAttrs_list PySem.F.slot_list_append PySem.F.type_list_append mt_append (pv 3) (pa_cons (pe_ix ix_list (pc DU GU hr pass0 (pa_cons (pv 0) (pa_cons (pe_ix ix_list (pv 3) (pe_un un_neg pe_int) (fun _ _ => rfl)) (pa_cons (pv 2) pa_nil)))) (pe_un un_neg pe_int) (fun _ _ => rfl)) pa_nil)))))
      (pss_cons (ps_for PassesOwn.never rfl (pi_range1 (by rfl) B.range (pa_cons pe_int pa_nil)) (pg_name (i := 5) scLP.nd rfl (.inr rfl))
        (pss_cons (ps_setLc (i := 6) (own := [("_law_period", 7)]) (g := gName 7) rfl scLP.nd rfl rfl (sw_true rfl rfl rfl rfl) (pi_range2 (by rfl) B.range (pa_cons pe_int (pa_cons pe_int pa_nil))) (blkOk_by (N := nLP) (sc := defScope sLPower) (by decide +kernel)) (fun _ _ _ _ _ => pg_name (i := 7) scLP.nd rfl (Or.inl rfl))
            (fun _ _ _ _ _ => pts_one (pt_cmpR op_eq (pe_ix (ixLK (K := K) rfl) (pv 3) (pv 5) (fun _ _ => rfl)) (pe_ix (ixLK (K := K) rfl) (pv 3) (pe_op op_add (pv 5) (pv 7)) (fun _ _ => rfl)) (nomark _))) (fun _ _ _ _ _ => pv 7))
        (pss_one (ps_if (pt_cmpR (neDk (K := K) rfl hr.units) (pv 6) (pe_lst pa_nil) (nomark _)) (pss_one (ps_ret (pe_tup (pa_cons (pv 5) (pa_cons (pe_ix ix_list (pv 6) pe_int (fun _ _ => rfl)) pa_nil))))) pss_nil))))
      (pss_one (ps_ret pe_non)))), ?_⟩
    have hT : ∀ j, trail ts row st (j + 1) = (fun x => run ts x row) (trail ts row st j) := fun _ => rfl
    have hm12 := hW.s12
    obtain ⟨i0, p0, hpow, hip⟩ := pow_ex (trail_rng hW hrow hst)
    have hp0 := hpow.1
    refine ⟨_, rfl, (by show 1 ≤ sizeLine; decide), fun l hl0 => ?_⟩
    have sm0 := same_new (o := HO.lst [V.int st]) hl0
    have nl : ∀ c o, H c = some o → c ≠ l := fun c o e z => by rw [z, hl0] at e; cases e
    refine ⟨30, rfl, by decide, by decide, for_range (fun k σ H' => ∃ v4, σ = [some (.ref p), some (.int st), some (.ref r), some (.ref l), v4, none, none, none] ∧ Same H H' ∧ H' l = some (.lst (trV (trail ts row st) (k + 1)))) ⟨none, rfl, sm0, upd_same⟩ ?_ ?_⟩
    · rintro k σ H1 hk ⟨v4, rfl, s1, hL⟩
      have hk30 : k < 30 := hk
      have hL' := hL
      rw [trV_succ] at hL
      refine ⟨_, rfl, .inl ⟨rfl, _, SqL.of hL⟩, _, rfl, _, rfl, 1, rfl, l, _, -1, _, rfl, rfl, SqL.of hL, atI_last _ _, _, rfl, p, r, trail ts row st k, ts, row, rfl, tl.same s1, hW, trail_rng hW hrow hst k, s1 _ _ hr0, hrow, hrl, fun l2 ns H3 s3 hl2 => ?_⟩
      refine ⟨1, rfl, l2, _, -1, _, rfl, rfl, SqL.of hl2, atI_last _ _, l, _, _, rfl, rfl, s3 _ _ hL', by rw [trV_len, sizeLine_eq]; omega, _, rfl, fun c o e => ?_, ?_⟩
      · rw [upd_ne (nl c o e)]
        exact s3 _ _ (s1 _ _ e)
      · rw [upd_same, trV_succ (trail ts row st) (k + 1)]; rfl
    · rintro σ H1 ⟨v4, rfl, s1, hL⟩
      have hL : H1 l = some (.lst (trV (trail ts row st) 31)) := hL
      refine ⟨15, rfl, by decide, by decide, for_range (fun j σ H' => ∃ v5 v6, σ = [some (.ref p), some (.int st), some (.ref r), some (.ref l), v4, v5, v6, none] ∧ Same H1 H' ∧ j ≤ i0) ⟨none, none, rfl, fun _ _ e => e, Nat.zero_le _⟩ ?_ ?_⟩
      · rintro j σ H2 hj ⟨v5, v6, rfl, s2, hji⟩
        have hj15 : j < 15 := hj
        have hL2 := s2 _ _ hL
        refine ⟨1, 15, rfl, ⟨by decide, by decide, by decide, by decide⟩, fun D0 hD0 => lc_range (fun k H' => Same H2 H' ∧ H' D0 = some (.lst ((ag (trail ts row st) j k).map fun (t : Nat) => V.int (1 + (t : Int))))) ⟨same_new hD0, upd_same⟩ ?_ ?_⟩
        · rintro k H3 hk ⟨s3, hD⟩
          have hk14 : k < 14 := hk
          have hL3 := s3 _ _ hL2
          have e1 : atI (trV (trail ts row st) 31) (0 + (j : Int)) = some (.int (trail ts row st j)) := at_of (j := j) (by omega) (trV_at (by omega))
          have e2 : atI (trV (trail ts row st) 31) (0 + (j : Int) + (1 + (k : Int))) = some (.int (trail ts row st (j + (k + 1)))) := at_of (j := j + (k + 1)) (by omega) (trV_at (by omega))
          refine ⟨rfl, _, rfl, _, rfl, l, _, _, _, rfl, rfl, SqL.of hL3, e1, _, rfl, _, rfl, _, rfl, _, _, rfl, rfl, l, _, _, _, rfl, rfl, SqL.of hL3, e2, rfl, _, rfl, ifD (fun e => ?_) fun e => ?_⟩
          · have ee : trail ts row st j = trail ts row st (j + (k + 1)) := by
              have z := of_decide_eq_true e
              injection z
            refine ⟨_, rfl, _, hD, by rw [List.length_map, sizeLine_eq]; have := ag_len (trail ts row st) j k; omega, fun c o e => ?_, ?_⟩
            · rw [upd_ne (ne_of_none e hD0)]
              exact s3 _ _ e
            · rw [upd_same, ag_succ, if_pos ee, List.map_append]; rfl
          · have ee : ¬ trail ts row st j = trail ts row st (j + (k + 1)) := fun z => of_decide_eq_false e (by rw [z])
            refine ⟨s3, ?_⟩
            rw [hD, ag_succ, if_neg ee, List.append_nil]
        · rintro H3 ⟨s3, hD⟩
          have hD : H3 D0 = some (.lst ((ag (trail ts row st) j 14).map fun (t : Nat) => V.int (1 + (t : Int)))) := hD
          by_cases hlt : j < i0
          · rw [ag_none (g := fun x => run ts x row) hT hpow hlt] at hD
            refine ⟨_, rfl, (by show 0 ≤ sizeLine; decide), fun z hz => ⟨.list [], .list [], .lst (SqL.of ((same_new hz) _ _ hD)) .nil, .lst (SqL.of upd_same) .nil, by decide +kernel, by decide +kernel, _, rfl, iteF' (by decide +kernel) ?_⟩⟩
            exact ⟨_, _, rfl, s2.trans (s3.trans (same_new hz)), by omega⟩
          · have ej : j = i0 := by omega
            obtain ⟨rr, er⟩ := ag_some (k := 14) hpow (by omega)
            rw [ej, er] at hD
            have hD' : H3 D0 = some (.lst (vrow (((p0 - 1) :: rr).map fun (t : Nat) => (1 + (t : Int))))) := by
              rw [hD, vrow, List.map_map]; rfl
            have hb : ∀ t ∈ (p0 - 1) :: rr, t < 14 := fun t ht => by
              rw [← er] at ht
              exact List.mem_range.mp (List.mem_filter.mp ht).1
            have pl : Pl (.list (dI (((p0 - 1) :: rr).map fun (t : Nat) => (1 + (t : Int))))) 1 ((((p0 - 1) :: rr).map fun (t : Nat) => (1 + (t : Int))).length * 65) := Pl.list (pla_ints _ fun i hi => by
              obtain ⟨t, ht, rfl⟩ := List.mem_map.mp hi
              have := hb t ht
              omega)
            refine ⟨_, rfl, (by show 0 ≤ sizeLine; decide), fun z hz => ⟨_, .list [], .lst (SqL.of ((same_new hz) _ _ hD')) (dp_ints _), .lst (SqL.of upd_same) .nil, pl.shaped (by decide), by decide +kernel, _, rfl, iteT' (by rfl) ?_⟩⟩
            refine ⟨_, rfl, _, rfl, D0, _, 0, .int (1 + ((p0 - 1 : Nat) : Int)), rfl, rfl, SqL.of ((same_new hz) _ _ hD'), atI_nat (j := 0) rfl, (by show 2 ≤ sizeLine; decide), fun a ha => ?_⟩
            refine q i0 p0 a _ (s1.trans (s2.trans (s3.trans ((same_new (o := HO.lst []) hz).trans (same_new ha))))) hpow ?_
            rw [upd_same, ej, show (0 : Int) + (i0 : Int) = (i0 : Int) by omega, show 1 + ((p0 - 1 : Nat) : Int) = (p0 : Int) by omega]
      · rintro σ H2 ⟨v5, v6, rfl, s2, hji⟩
        have : (15 : Int).toNat ≤ i0 := hji
        have : 15 ≤ i0 := this
        omega
end
end K1
namespace K1
open PySem PySem.Spec PyProof.Rows L2
/-! ### xs[i::k] -/
def stepI (n : Nat) (lo st : Option Int) : List Nat := sliceRange (sliceBounds lo none st n).1 (sliceBounds lo none st n).2.1 (sliceBounds lo none st n).2.2
def stepV (xs : List V) (lo st : Option Int) : List V := (stepI xs.length lo st).filterMap (xs[·]?)
theorem vals_pick {xs : List V} {us : List Value} (r : Vals xs us) : ∀ is : List Nat, Vals (is.filterMap (xs[·]?)) (is.filterMap (us[·]?))
  | [] => .nil
  | i :: is => by
    rw [List.filterMap_cons, List.filterMap_cons]
    cases e : xs[i]? with
    | none =>
      have e2 : us[i]? = none := by
        rw [List.getElem?_eq_none_iff, ← r.length]
        exact List.getElem?_eq_none_iff.mp e
      rw [e2]
      exact vals_pick r is
    | some x =>
      obtain ⟨u, hu, ru⟩ := r.get e
      rw [hu]
      exact .cons ru (vals_pick r is)
def tStep (K : PySem.W.Frag) (te : TE) (tl ts : TO) : TE := fun σ H Q => te σ H fun x H1 => tl σ H1 fun l H2 => ts σ H2 fun k H3 => ∃ a xs, x = .ref a ∧ SqL K H3 a xs ∧ k ≠ some 0 ∧ (stepV xs l k).length ≤ sizeLine ∧ ∀ p, H3 p = none → Q (.ref p) (upd H3 p (.lst (stepV xs l k)))
theorem pe_stepL {X : Cx} {e : Expr} {lo st : Option Expr} {te : TE} {tl ts : TO} {p3 pos : Pos} (he : PE X e te) (hl : PO X lo tl) (hs : PO X st ts)
    (ht : ∀ (v sl : Value), subscriptTail e (.Slice lo none st p3) v sl = subscriptTail e (.Slice lo none st p3) v sl := by intros; rfl)
    (hop : ∀ (a b : Addr), ∃ ops, subscripted (.Slice lo none st p3) false (.ref a) (.ref b) = operate ops (getItem (.ref a) (.ref b)) := by intro a b; exact ⟨_, by with_unfolding_all rfl⟩) :
    PE X (.Subscript e (.Slice lo none st p3) pos) (tStep X.K te tl ts) := by
  refine ⟨fun pins s σ H Q I h => ?_⟩
  refine Subscript_ (thn (he.run pins s σ H _ I h) fun v s1 ⟨x, H1, I1, r1, q1⟩ => ?_)
  refine wpAny_Slice (thn (hl.run pins s1 σ H1 _ I1 q1) fun vl s2 ⟨l, H2, I2, pl, q2⟩ => ?_)
  refine thn (po_none.run pins s2 σ H2 (fun o H3 => o = none ∧ H3 = H2) I2 ⟨rfl, rfl⟩) fun vu s3 ⟨u, H3, I3, pu, eu, e3⟩ => ?_
  subst eu e3
  refine thn (hs.run pins s3 σ H3 _ I3 q2) fun vs s4 ⟨k, H4, I4, ps, a, xs, ex, hx, k0, hz4, q⟩ => ?_
  subst ex
  cases r1
  have I5 : Inv X pins σ H4 { s4 with heap := s4.heap.push { cls := .type "slice", data := .fields #[vl, vu, vs] } } := I4.kept (t' := s4.toks) fun b ob q => Heap.get?_push_of_some _ q
  obtain ⟨its, r, ht, hz⟩ := I5.list hx
  have hlen := r.length
  show wpAny (model X.prog X.w) X.A (subscriptTail e (.Slice lo none st p3) (.ref a) (.ref s4.heap.objs.size)) (EP X pins σ Q) X.xe { s4 with heap := s4.heap.push { cls := .type "slice", data := .fields #[vl, vu, vs] } }
  obtain ⟨ops, hop⟩ := hop a s4.heap.objs.size
  refine tail_any (ops := ops) ht.isList.typeIs (PySem.slot_list_getitem.lookup) ?_ hop
  refine wpAny_getItem_list_slice ht.isList (Heap.IsSliceOf.new _ vl vu vs) pl pu ps k0 ?_ (by rw [List.size_toArray]; omega)
  have e1 : slicePick its.toArray l none k = ((stepI xs.length l k).filterMap (its[·]?)).toArray := by
    unfold slicePick stepI
    rw [List.size_toArray, ← hlen]
    have ef : (fun i : Nat => its.toArray[i]?) = fun i => its[i]? := by
      funext i
      simp
    rw [ef]
  rw [e1]
  refine ⟨.ref _, _, I5.laid (t' := s4.toks) (o := .lst (stepV xs l k)) (fun b ob q => Heap.get?_push_of_some _ q) (Nat.le_refl _) ?_, rfl, q _ (I5.hok.fresh (Nat.le_refl _))⟩
  exact ⟨hz4, _, 0, vals_pick r _, Heap.get?_push_size _ rfl⟩
theorem step_01 (x y z : V) : stepV [x, y, z] (some 0) (some 1) = [x, y, z] := by
  show (stepI 3 (some 0) (some 1)).filterMap _ = _
  rw [show stepI 3 (some 0) (some 1) = [0, 1, 2] by decide +kernel]; rfl
theorem step_02 (x y z : V) : stepV [x, y, z] (some 0) (some 2) = [x, z] := by
  show (stepI 3 (some 0) (some 2)).filterMap _ = _
  rw [show stepI 3 (some 0) (some 2) = [0, 2] by decide +kernel]; rfl
theorem step_11 (x y z : V) : stepV [x, y, z] (some 1) (some 1) = [y, z] := by
  show (stepI 3 (some 1) (some 1)).filterMap _ = _
  rw [show stepI 3 (some 1) (some 1) = [1, 2] by decide +kernel]; rfl
theorem step_12 (x y z : V) : stepV [x, y, z] (some 1) (some 2) = [y] := by
  show (stepI 3 (some 1) (some 2)).filterMap _ = _
  rw [show stepI 3 (some 1) (some 2) = [1] by decide +kernel]; rfl
end K1
namespace K1
open PySem PySem.Spec PyProof.Rows L2
def spComm : Sp := fun vs H Q _ => ∃ (b : Addr), vs = [.ref b] ∧ BoxO H b ∧ ∀ p ts H', Bx b H H' → H p = none → p ≠ b → TabL H' p (vts ts) → Wf ts → nS ts ≤ 6 → ts.length ≤ 4 → Q (.ref p) H'
abbrev rA : List Int := [1, 0, 3, 2, 5, 4]
abbrev rB : List Int := [2, 3, 4, 5, 4, 5]
abbrev rC : List Int := [2, 3, 4, 5, 0, 1]
theorem wf6 {rs : Ts} (h : rs ∈ [[rA, rB], [rA, rC], [rB, rC], [rB]]) : Wf rs ∧ nS rs ≤ 6 ∧ rs.length ≤ 4 := by
  simp only [List.mem_cons, List.mem_nil_iff, or_false] at h
  rcases h with rfl | rfl | rfl | rfl <;> exact ⟨⟨by decide, by decide, by decide, by decide, by decide⟩, by decide, by decide⟩
theorem Bx.tup' {b c : Addr} {H H' : Hp} {xs : List V} (x : Bx b H H') (hb : BoxO H b) (h : H c = some (.tup xs)) : H' c = some (.tup xs) := x.2 _ _ h (hb.ne h fun xs => by intro z; cases z)
theorem tabL_snoc {H : Hp} {p l : Addr} {as : List Addr} {rs : Ts} {t : List Int} (h1 : H p = some (.lst (as.map V.ref))) (h2 : as.length = (vts rs).length) (h3 : ∀ (i : Nat) a t, as[i]? = some a → (vts rs)[i]? = some t → H a = some (.tup t)) (hl : H l = none) :
    TabL (upd (upd H l (.tup (vrow t))) p (.lst (as.map V.ref ++ [.ref l]))) p (vts (rs ++ [t])) := by
  have las : as.length = rs.length := by rw [h2, vts, List.length_map]
  have sl := same_new (o := HO.tup (vrow t)) hl
  refine ⟨as ++ [l], by rw [upd_same, List.map_append]; rfl, by simp only [vts, List.length_append, List.length_map, las]; rfl, ?_⟩
  intro j a u e1 e2
  have hne : ∀ (c : Addr) (u : List V), H c = some (.tup u) → c ≠ p := fun c u e z => by rw [z, h1] at e; cases e
  simp only [vts, List.map_append] at e2
  by_cases hj : j < as.length
  · rw [List.getElem?_append_left hj] at e1
    rw [List.getElem?_append_left (by rw [List.length_map, ← las]; exact hj)] at e2
    have z := h3 j a u e1 e2
    rw [upd_ne (hne a u z)]
    exact sl _ _ z
  · have ej : j = as.length := by
      have := (List.getElem?_eq_some_iff.mp e1).1
      rw [List.length_append] at this
      simp only [List.length_cons, List.length_nil] at this
      omega
    rw [ej, List.getElem?_append_right (Nat.le_refl _), Nat.sub_self] at e1
    rw [ej, List.getElem?_append_right (by rw [List.length_map, las]; omega), List.length_map, las, Nat.sub_self] at e2
    obtain rfl : l = a := Option.some.inj e1
    obtain rfl : vrow t = u := Option.some.inj e2
    rw [upd_ne (fun z => by rw [z, h1] at hl; cases hl), upd_same]
section
variable {P : Program} {w : World} {K : PySem.W.Frag} {mg : Str → Option Value} {base : Heap}
abbrev nCm : List Str := ["_law_box_here", "_law_style", "_law_many", "_law_table", "_law_found", "_law_deed", "_law_here", "_law_turn", "_law_stop", "_law_adds", "_law_state", "_law_add"]
theorem scCm : FnScope nCm ["_law_box_here"] (defScope sComm) := ⟨rfl, rfl, rfl, by decide +kernel, rfl, by decide +kernel, by decide +kernel⟩
theorem ok_comm {f fT : Addr} {fd fdT : FuncData} (D : Df K mg "_law_commuting" sComm ["_law_box_here"] f fd) (DT : Df K mg "_law_take" sTake ["_law_box_here", "_law_many"] fT fdT) (B : Bt mg)
    (GT : FnOk P w K mg base CX0 1 fT fdT ["_law_box_here", "_law_many"] spTake) : FnOk P w K mg base CX0 2 f fd ["_law_box_here"] spComm := by
  refine D.F.ok scCm (fun vs H Q E h => ?_) (fun cdv A outer s H vs Q E hr h => ?_)
  · obtain ⟨b, rfl, _⟩ := h
    rfl
  · obtain ⟨b, rfl, hb, q⟩ := h
    refine ⟨_, pss_cons (ps_asg (pe_tup (pa_cons (pc DT GT hr pass0 (pa_cons (pv 0) (pa_cons pe_int pa_nil))) (pa_cons (pe_op op_add pe_int (pc DT GT hr pass0 (pa_cons (pv 0) (pa_cons pe_int pa_nil)))) pa_nil))) (pg_tup rfl (pgs_cons (pg_name (i := 1) scCm.nd rfl (.inl rfl)) (pgs_cons (pg_name (i := 2) scCm.nd rfl (.inr rfl)) pgs_nil))))
      (pss_cons (ps_if (pt_cmpR op_eq (pv 1) pe_int (nomark _))
        (pss_cons (ps_asg (pe_tup (pa_cons (pe_lc (own := [("_law_state", 10)]) (g := gName 10) (tt := tYes) rfl scCm.nd (pi_range1 (by rfl) B.range (pa_cons (pv 2) pa_nil)) (blkOk_by (N := nCm) (sc := defScope sComm) (by decide +kernel)) (fun _ _ _ _ _ => pg_name (i := 10) scCm.nd rfl (Or.inl rfl)) (fun _ _ _ _ _ => pts_nil) (fun _ _ _ _ _ => pc DT GT hr pass0 (pa_cons (pv 0) (pa_cons (pv 2) pa_nil)))) (pa_cons (pe_lst pa_nil) pa_nil)))
            (pg_tup rfl (pgs_cons (pg_name (i := 3) scCm.nd rfl (.inr rfl)) (pgs_cons (pg_name (i := 4) scCm.nd rfl (.inl rfl)) pgs_nil))))
        (pss_cons (ps_for PassesOwn.never rfl (pi_range1 (by rfl) B.range (pa_cons (pe_op op_add pe_int (pc DT GT hr pass0 (pa_cons (pv 0) (pa_cons pe_int pa_nil)))) pa_nil)) (pg_name (i := 5) scCm.nd rfl (.inl rfl))
          (pss_cons (ps_set (i := 6) scCm.nd rfl (.inl rfl) (pe_listRg rfl (by rfl) B.list (prg_1 (by rfl) B.range (pv 2))))
          (pss_cons (ps_for PassesOwn.never rfl (pi_range1 (by rfl) B.range (pa_cons (pc DT GT hr pass0 (pa_cons (pv 0) (pa_cons pe_int pa_nil))) pa_nil)) (pg_name (i := 7) scCm.nd rfl (.inl rfl))
            (pss_one (ps_setLc (i := 6) (own := [("_law_state", 10)]) (g := gName 10) (tt := tYes) rfl scCm.nd rfl rfl (sw_true rfl rfl rfl rfl) (pi_list (pv 6)) (blkOk_by (N := nCm) (sc := defScope sComm) (by decide +kernel)) (fun _ _ _ _ _ => pg_name (i := 10) scCm.nd rfl (Or.inl rfl)) (fun _ _ _ _ _ => pts_nil) (fun _ _ _ _ _ => pe_ix (ixLK (K := K) rfl) (pv 3) (pv 10) (fun _ _ => rfl)))))
          (pss_one (ps_expr (pe_bm PySem.F.plainAttrs_list PySem.F.slot_list_append PySem.F.type_list_append mt_append (pv 4) (pa_cons (pe_callTy call_tuple_of (by rfl) B.tuple PyProof.Rows.boot_tuple (pa_cons (pv 6) pa_nil)) pa_nil)))))))
        (pss_one (ps_ret (pv 4))))) pss_nil)
      (pss_cons (ps_if (pt_cmpR op_eq (pv 1) pe_int (nomark _))
        (pss_cons (ps_set (i := 8) scCm.nd rfl (.inr rfl) (pe_cmpR op_eq (pc DT GT hr pass0 (pa_cons (pv 0) (pa_cons pe_int pa_nil))) pe_int (nomark _)))
        (pss_cons (ps_setLc (i := 9) (own := [("_law_deed", 5)]) (g := gName 5) (tt := tYes) rfl scCm.nd rfl rfl (sw_true rfl rfl rfl rfl) (pi_range1 (by rfl) B.range (pa_cons (pe_op op_add pe_int (pc DT GT hr pass0 (pa_cons (pv 0) (pa_cons pe_int pa_nil)))) pa_nil)) (blkOk_by (N := nCm) (sc := defScope sComm) (by decide +kernel)) (fun _ _ _ _ _ => pg_name (i := 5) scCm.nd rfl (Or.inl rfl)) (fun _ _ _ _ _ => pts_nil) (fun _ _ _ _ _ => pc DT GT hr pass0 (pa_cons (pv 0) (pa_cons (pv 2) pa_nil))))
        (pss_one (ps_ret (pe_lc (own := [("_law_add", 11)]) (g := gName 11) (tt := tYes) rfl scCm.nd (pi_list (pv 9)) (blkOk_by (N := nCm) (sc := defScope sComm) (by decide +kernel)) (fun _ _ _ _ _ => pg_name (i := 11) scCm.nd rfl (Or.inr rfl)) (fun _ _ _ _ _ => pts_nil)
          (fun _ _ _ _ _ => pe_callTy (ctup (K := K) rfl) (by rfl) B.tuple PyProof.Rows.boot_tuple (pa_cons (pe_lc (own := [("_law_state", 10)]) (g := gName 10) (tt := tYes) rfl scCm.nd (pi_range1 (by rfl) B.range (pa_cons (pv 2) pa_nil)) (blkOk_by (by rfl)) (fun _ _ _ _ _ => pg_name (i := 10) scCm.nd rfl (Or.inl rfl)) (fun _ _ _ _ _ => pts_nil)
            (fun _ _ _ _ _ => pe_ifExp (pt_val (pv 8)) (pe_callB (call_min2 rfl) (by rfl) B.min (by decide +kernel) (pa_cons (pe_op op_sub (pv 2) pe_int) (pa_cons (pe_op op_add (pv 10) (pv 11)) pa_nil))) (pe_op op_mod (pe_callTy call_int1 (by rfl) B.int PyProof.Rows.boot_int (pa_cons (pe_op op_add (pv 10) (pv 11)) pa_nil)) (pv 2)))) pa_nil)))))) ) pss_nil)
      (pss_one (ps_ret (pe_slice sl_list (pe_stepL (pe_lst (pa_cons (pe_tup (pa_cons pe_int (pa_cons pe_int (pa_cons pe_int (pa_cons pe_int (pa_cons pe_int (pa_cons pe_int pa_nil))))))) (pa_cons (pe_tup (pa_cons pe_int (pa_cons pe_int (pa_cons pe_int (pa_cons pe_int (pa_cons pe_int (pa_cons pe_int pa_nil))))))) (pa_cons (pe_tup (pa_cons pe_int (pa_cons pe_int (pa_cons pe_int (pa_cons pe_int (pa_cons pe_int (pa_cons pe_int pa_nil))))))) pa_nil))))
          (po_some (pc DT GT hr pass0 (pa_cons (pv 0) (pa_cons pe_int pa_nil)))) (po_some (pe_op op_add pe_int (pc DT GT hr pass0 (pa_cons (pv 0) (pa_cons pe_int pa_nil)))))) po_none (po_some pe_int)))))), ?_⟩
    refine ⟨_, rfl, b, 3, rfl, hb, by decide, by decide, fun st H1 st0 st1 bx1 => ?_⟩
    refine ⟨_, rfl, b, 5, rfl, bx1.1, by decide, by decide, fun y H2 y0 y1 bx2 => ⟨_, _, rfl, rfl, (by show 2 ≤ sizeLine; decide), fun T hT => ⟨T, _, rfl, SqT.of upd_same, rfl, _, _, rfl, _, _, rfl, rfl, ?_⟩⟩⟩
    have bx3 := (bx1.trans bx2).new (o := HO.tup [.int st, .int (2 + y)]) hT
    generalize upd H2 T (.tup [.int st, .int (2 + y)]) = H3 at bx3 ⊢
    have m2 : 2 ≤ 2 + y := by omega
    have m6 : 2 + y ≤ 6 := by omega
    have wf : ∀ rs : Ts, 1 ≤ rs.length → rs.length ≤ 4 → (∀ t ∈ rs, t.length = (2 + y).toNat ∧ ∀ x ∈ t, 0 ≤ x ∧ x < (2 + y)) → Wf rs ∧ nS rs ≤ 6 := fun rs h1 h4 hr5 => by
      have e0 : nS rs = (2 + y).toNat := by
        cases rs with
        | nil => exact absurd h1 (by simp)
        | cons t r => exact (hr5 t List.mem_cons_self).1
      exact ⟨⟨h1, by omega, by omega, by omega, fun t ht => ⟨by rw [e0]; exact (hr5 t ht).1, fun x hx => by have := (hr5 t ht).2 x hx; omega⟩⟩, by omega⟩
    refine ⟨_, rfl, rfl, _, rfl, ifD (fun e => ?_) fun e => ?_⟩
    · -- one table again and again
      refine ⟨_, rfl, (2 + y), rfl, by omega, by omega, fun D0 hD0 => lc_range (Rg b D0 H3 (2 + y)) (Rg.nil bx3.1 hD0) ?_ ?_⟩
      · rintro i H9 hi9 g
        exact ⟨rfl, _, rfl, _, rfl, b, (2 + y), rfl, g.box, by omega, by omega, fun r H10 r0 r1 bx10 => g.put bx3.1 hD0 bx10 ⟨r0, r1⟩ (by omega)⟩
      · rintro H4 ⟨tb, t1, t2, bx4, hD4⟩
        have nD : D0 ≠ b := bx3.ne hD0
        refine ⟨(by show 0 ≤ sizeLine; decide), fun p hp => ⟨(by show 2 ≤ sizeLine; decide), fun T2 hT2 => ⟨T2, _, rfl, SqT.of upd_same, rfl, _, _, rfl, _, _, rfl, rfl, ?_⟩⟩⟩
        have bx5 := ((bx3.trans bx4).new (o := HO.lst []) hp).new (o := HO.tup [.ref D0, .ref p]) hT2
        have npb : p ≠ b := (bx3.trans bx4).ne hp
        have npH : H p = none := (bx3.trans bx4).free npb hp
        have ndp : D0 ≠ p := fun z => by rw [z, hp] at hD4; cases hD4
        have hp5 := (same_new (o := HO.tup [.ref D0, .ref p]) hT2) _ _ (upd_same : (upd H4 p (.lst [])) p = some (.lst []))
        have hD5 := (same_new (o := HO.tup [.ref D0, .ref p]) hT2) _ _ ((same_new (o := HO.lst []) hp) _ _ hD4)
        generalize upd (upd H4 p (.lst [])) T2 (.tup [.ref D0, .ref p]) = H5 at bx5 hp5 hD5 ⊢
        refine ⟨_, rfl, b, 3, rfl, bx5.1, by decide, by decide, fun n H6 n0 n1 bx6 => ⟨_, _, rfl, rfl, 1 + n, rfl, by omega, by omega, ?_⟩⟩
        have hD6 := bx6.2 _ _ hD5 nD
        refine for_range (fun i σ H' => ∃ (rs : Ts) (v5 v6 v7 : Option V), σ = [some (.ref b), some (.int st), some (.int (2 + y)), some (.ref D0), some (.ref p), v5, v6, v7, none, none, none, none] ∧ Bx b H H' ∧ H' D0 = some (.lst (vrow tb)) ∧ TabL H' p (vts rs) ∧ rs.length = i ∧ ∀ t ∈ rs, t.length = (2 + y).toNat ∧ ∀ x ∈ t, 0 ≤ x ∧ x < (2 + y))
          ⟨[], none, none, none, rfl, bx5.trans bx6, hD6, ⟨[], bx6.2 _ _ hp5 npb, rfl, fun i a t h => by cases h⟩, rfl, fun t ht => absurd ht (by simp)⟩ ?_ ?_
        · rintro i σ H7 hi ⟨rs, v5, v6, v7, rfl, bx7, hD7, tl, hl5, hr5⟩
          refine ⟨_, rfl, (2 + y), rfl, .of_le (by omega) (by omega) (by omega) (by omega), fun h0 hh0 => ?_⟩
          have hrg : rgV 0 (2 + y) = vrow ((List.range (2 + y).toNat).map fun i : Nat => (i : Int)) := by
            unfold rgV vrow
            rw [List.map_map, Int.sub_zero]
            exact List.map_congr_left fun i _ => by show V.int (0 + (i : Int)) = _; rw [Int.zero_add]; rfl
          have nhb : h0 ≠ b := bx7.ne hh0
          have bx8 := bx7.new (o := HO.lst (rgV 0 (2 + y))) hh0
          have s8 := same_new (o := HO.lst (rgV 0 (2 + y))) hh0
          have hh8 : (upd H7 h0 (.lst (rgV 0 (2 + y)))) h0 = some (.lst (vrow ((List.range (2 + y).toNat).map fun i : Nat => (i : Int)))) := by rw [upd_same, hrg]
          have hr8 : ∀ x ∈ (List.range (2 + y).toNat).map fun i : Nat => (i : Int), 0 ≤ x ∧ x < (2 + y) := fun x hx => by
            obtain ⟨i, hi, rfl⟩ := List.mem_map.mp hx
            have := List.mem_range.mp hi
            omega
          have hl8 : ((List.range (2 + y).toNat).map fun i : Nat => (i : Int)).length = (2 + y).toNat := by rw [List.length_map, List.length_range]
          have hD8 := s8 _ _ hD7
          have tl8 := tl.same s8
          generalize upd H7 h0 (.lst (rgV 0 (2 + y))) = H8 at bx8 s8 hh8 hD8 tl8 ⊢
          refine ⟨_, rfl, b, 4, rfl, bx8.1, by decide, by decide, fun u H9 u0 u1 bx9 => ⟨u, rfl, by omega, by omega, ?_⟩⟩
          refine for_range (fun k σ H' => ∃ (hs : List Int) (h1 : Addr) (v7 : Option V), σ = [some (.ref b), some (.int st), some (.int (2 + y)), some (.ref D0), some (.ref p), some (.int (0 + (i : Int))), some (.ref h1), v7, none, none, none, none] ∧ Bx b H8 H' ∧ H' h1 = some (.lst (vrow hs)) ∧ hs.length = (2 + y).toNat ∧ ∀ x ∈ hs, 0 ≤ x ∧ x < (2 + y))
            ⟨_, h0, _, rfl, bx9, bx9.2 _ _ hh8 nhb, hl8, hr8⟩ ?_ ?_
          · rintro k σ H10 hk ⟨hs, h1, v7, rfl, bx10, hh1, hl1, hr1⟩
            refine ⟨_, rfl, h1, rfl, ⟨_, SqL.of hh1⟩, fun D1 hD1 => lc_list (K := K) (a := h1) (xs := vrow hs) (fun i H' => Rg b D1 H10 (2 + y) i H' ∧ Same H10 H') ⟨Rg.nil bx10.1 hD1, same_new hD1⟩ (fun i H' _ ⟨_, s⟩ => SqL.of (s _ _ hh1)) ?_ ?_⟩
            · rintro j x H11 hx ⟨g, s11⟩
              obtain ⟨z, hz, rfl⟩ : ∃ z, hs[j]? = some z ∧ x = V.int z := by
                rw [vrow, List.getElem?_map] at hx
                cases e : hs[j]? with
                | none => rw [e] at hx; cases hx
                | some z => rw [e] at hx; exact ⟨z, rfl, (Option.some.inj hx).symm⟩
              have hzr := hr1 z (List.mem_of_getElem? hz)
              have hjl : j < hs.length := (List.getElem?_eq_some_iff.mp hz).1
              have hzt : z.toNat < tb.length := by omega
              obtain ⟨w', hw'⟩ : ∃ w', tb[z.toNat]? = some w' := ⟨_, List.getElem?_eq_getElem hzt⟩
              have hD11 := s11 _ _ (bx10.2 _ _ hD8 nD)
              refine ⟨rfl, _, rfl, _, rfl, D0, _, z, .int w', rfl, rfl, SqL.of hD11, at_of (j := z.toNat) (by omega) (by rw [vrow, List.getElem?_map, hw']; rfl), ?_⟩
              obtain ⟨acc, a1, a2, a3⟩ := g.put bx10.1 hD1 (Bx.refl g.box) (t2 w' (List.mem_of_getElem? hw')) (by omega)
              refine ⟨acc, a1, a2, a3, fun c o e => ?_⟩
              rw [upd_ne (ne_of_none e hD1)]
              exact s11 _ _ e
            · rintro H11 ⟨⟨ms, k1, k2, bx11, hD11⟩, s11⟩
              exact ⟨ms, D1, _, rfl, bx10.trans bx11, hD11, by rw [k1, vrow, List.length_map, hl1], k2⟩
          · rintro σ H10 ⟨hs, h1, v7, rfl, bx10, hh1, hl1, hr1⟩
            have bxF := bx8.trans bx10
            obtain ⟨as, a1, a2, a3⟩ := tl8.bx npb bx8.1 bx10
            refine ⟨_, rfl, .inl ⟨rfl, _, SqL.of a1⟩, _, rfl, h1, _, rfl, .inl ⟨SqL.of hh1, fun l hl => ?_⟩⟩
            have las : as.length = rs.length := by rw [a2, vts, List.length_map]
            refine ⟨p, _, _, rfl, rfl, (same_new hl) _ _ a1, by rw [List.length_map, las, sizeLine_eq]; omega, rs ++ [hs], _, _, _, rfl, (bxF.new hl).put npH npb, ?_, tabL_snoc a1 a2 a3 hl, by rw [List.length_append, hl5]; rfl, ?_⟩
            · rw [upd_ne ndp]
              exact (same_new hl) _ _ (bx10.2 _ _ hD8 nD)
            · intro t ht
              rcases List.mem_append.mp ht with z | z
              · exact hr5 t z
              · rw [List.mem_singleton.mp z]; exact ⟨hl1, hr1⟩
        · rintro σ H7 ⟨rs, v5, v6, v7, rfl, bx7, hD7, tl, hl5, hr5⟩
          obtain ⟨w1, w2⟩ := wf rs (by omega) (by omega) hr5
          exact ⟨_, rfl, q p rs H7 bx7 npH npb tl w1 w2 (by omega)⟩
    · refine ⟨_, rfl, rfl, _, rfl, ifD (fun e => ?_) fun e => ?_⟩
      · -- sums
        refine ⟨_, rfl, b, 2, rfl, bx3.1, by decide, by decide, fun sp H4 _ _ bx4 => ⟨rfl, ?_⟩⟩
        have bx34 := bx3.trans bx4
        refine ⟨_, rfl, b, 3, rfl, bx4.1, by decide, by decide, fun n H5 n0 n1 bx5 => ⟨_, _, rfl, rfl, 1 + n, rfl, by omega, by omega, fun D0 hD0 => lc_range (Rg b D0 H5 (2 + y)) (Rg.nil bx5.1 hD0) ?_ ?_⟩⟩
        · rintro i H9 hi9 g
          exact ⟨rfl, _, rfl, _, rfl, b, (2 + y), rfl, g.box, by omega, by omega, fun r H10 r0 r1 bx10 => g.put bx5.1 hD0 bx10 ⟨r0, r1⟩ (by omega)⟩
        · rintro H6 ⟨ns, t1, t2, bx6, hD6⟩
          have bxA := (bx34.trans bx5).trans bx6
          refine ⟨_, rfl, D0, rfl, ⟨_, SqL.of hD6⟩, fun D1 hD1 => lc_list (K := K) (a := D0) (xs := vrow ns) (fun i H' => ∃ rs : Ts, Same H6 H' ∧ TabL H' D1 (vts rs) ∧ rs.length = i ∧ ∀ t ∈ rs, t.length = (2 + y).toNat ∧ ∀ x ∈ t, 0 ≤ x ∧ x < 2 + y)
            ⟨[], same_new hD1, ⟨[], upd_same, rfl, fun i a t h => by cases h⟩, rfl, fun t ht => absurd ht (by simp)⟩ (fun i H' _ ⟨_, s, _⟩ => SqL.of (s _ _ hD6)) ?_ ?_⟩
          · rintro i x H7 hx ⟨rs, s7, tl, hl5, hr5⟩
            obtain ⟨z, hz, rfl⟩ : ∃ z, ns[i]? = some z ∧ x = V.int z := by
              rw [vrow, List.getElem?_map] at hx
              cases e : ns[i]? with
              | none => rw [e] at hx; cases hx
              | some z => rw [e] at hx; exact ⟨z, rfl, (Option.some.inj hx).symm⟩
            have hzr := t2 z (List.mem_of_getElem? hz)
            have hil : i < ns.length := (List.getElem?_eq_some_iff.mp hz).1
            have bx7 := bx6.1.same s7
            refine ⟨rfl, _, rfl, (2 + y), rfl, by omega, by omega, fun D2 hD2 => lc_range (fun k H' => Rg b D2 H7 (2 + y) k H' ∧ Same H7 H') ⟨Rg.nil bx7 hD2, same_new hD2⟩ ?_ ?_⟩
            · rintro k H8 hk ⟨g, s8⟩
              have fin : ∀ u : Int, 0 ≤ u ∧ u < 2 + y → ∃ acc, H8 D2 = some (.lst acc) ∧ acc.length < sizeLine ∧ Rg b D2 H7 (2 + y) (k + 1) (upd H8 D2 (.lst (acc ++ [.int u]))) ∧ Same H7 (upd H8 D2 (.lst (acc ++ [.int u]))) := fun u hu => by
                obtain ⟨acc, a1, a2, a3⟩ := g.put bx7 hD2 (Bx.refl g.box) hu (by omega)
                refine ⟨acc, a1, a2, a3, fun c o e => ?_⟩
                rw [upd_ne (ne_of_none e hD2)]
                exact s8 _ _ e
              refine ⟨rfl, _, rfl, _, rfl, ifD (fun e => ?_) fun e => ?_⟩
              · exact ⟨_, rfl, _, _, rfl, rfl, _, rfl, _, rfl, _, _, rfl, rfl, _, _, rfl, fin _ (by split <;> omega)⟩
              · exact ⟨_, rfl, _, rfl, _, _, rfl, rfl, .inl ⟨_, rfl, _, rfl, _, _, rfl, rfl, by omega, fin _ ⟨Int.emod_nonneg _ (by omega), Int.emod_lt_of_pos _ (by omega)⟩⟩⟩
            · rintro H8 ⟨⟨ms, k1, k2, bx8, hD8⟩, s8⟩
              obtain ⟨as, a1, a2, a3⟩ := tl.same s8
              have las : as.length = rs.length := by rw [a2, vts, List.length_map]
              refine ⟨D2, _, rfl, .inl ⟨SqL.of hD8, fun l hl => ⟨_, (same_new hl) _ _ a1, by rw [List.length_map, las, sizeLine_eq]; omega, rs ++ [ms], fun c o e => ?_, tabL_snoc a1 a2 a3 hl, by rw [List.length_append, hl5]; rfl, fun t ht => ?_⟩⟩⟩
              · rw [upd_ne (ne_of_none e hD1)]
                exact (same_new hl) _ _ (s8 _ _ (s7 _ _ e))
              · rcases List.mem_append.mp ht with w | w
                · exact hr5 t w
                · rw [List.mem_singleton.mp w]; exact ⟨k1, k2⟩
          · rintro H7 ⟨rs, s7, tl, hl5, hr5⟩
            rw [vrow, List.length_map] at hl5
            obtain ⟨w1, w2⟩ := wf rs (by omega) (by omega) hr5
            exact q D1 rs H7 (bxA.same s7) (bxA.free (bxA.ne hD1) hD1) (bxA.ne hD1) tl w1 w2 (by omega)
      · -- told ones
        refine ⟨(by show 6 ≤ sizeLine; decide), fun t1 ht1 => ⟨(by show 6 ≤ sizeLine; decide), fun t2 ht2 => ⟨(by show 6 ≤ sizeLine; decide), fun t3 ht3 => ⟨(by show 3 ≤ sizeLine; decide), fun l hl => ?_⟩⟩⟩⟩
        have s2 := same_new (o := HO.tup (vrow [2, 3, 4, 5, 4, 5])) ht2
        have s3 := same_new (o := HO.tup (vrow [2, 3, 4, 5, 0, 1])) ht3
        have s4 := same_new (o := HO.lst [.ref t1, .ref t2, .ref t3]) hl
        have bxA := ((((bx3.new (o := HO.tup (vrow [1, 0, 3, 2, 5, 4])) ht1).new (o := HO.tup (vrow [2, 3, 4, 5, 4, 5])) ht2).new (o := HO.tup (vrow [2, 3, 4, 5, 0, 1])) ht3).new (o := HO.lst [.ref t1, .ref t2, .ref t3]) hl)
        have nlb : l ≠ b := (((bx3.new (o := HO.tup (vrow [1, 0, 3, 2, 5, 4])) ht1).new (o := HO.tup (vrow [2, 3, 4, 5, 4, 5])) ht2).new (o := HO.tup (vrow [2, 3, 4, 5, 0, 1])) ht3).ne hl
        have g1 := s4 _ _ (s3 _ _ (s2 _ _ (upd_same : (upd H3 t1 (.tup (vrow [1, 0, 3, 2, 5, 4]))) t1 = _)))
        have g2 := s4 _ _ (s3 _ _ (upd_same : (upd (upd H3 t1 (.tup (vrow [1, 0, 3, 2, 5, 4]))) t2 (.tup (vrow [2, 3, 4, 5, 4, 5]))) t2 = _))
        have g3 := s4 _ _ (upd_same : (upd (upd (upd H3 t1 (.tup (vrow [1, 0, 3, 2, 5, 4]))) t2 (.tup (vrow [2, 3, 4, 5, 4, 5]))) t3 (.tup (vrow [2, 3, 4, 5, 0, 1]))) t3 = _)
        have gl : (upd (upd (upd (upd H3 t1 (.tup (vrow [1, 0, 3, 2, 5, 4]))) t2 (.tup (vrow [2, 3, 4, 5, 4, 5]))) t3 (.tup (vrow [2, 3, 4, 5, 0, 1]))) l (.lst [.ref t1, .ref t2, .ref t3])) l = some (.lst [.ref t1, .ref t2, .ref t3]) := upd_same
        refine ⟨_, rfl, b, 2, rfl, bxA.1, by decide, by decide, fun a H5 a0 a1 bx5 => ⟨a, rfl, _, rfl, b, 2, rfl, bx5.1, by decide, by decide, fun c H6 c0 c1 bx6 => ⟨_, _, rfl, rfl, 1 + c, rfl, l, _, rfl, SqL.of (bx6.2 _ _ (bx5.2 _ _ gl nlb) nlb), by intro z; have z' : 1 + c = 0 := Option.some.inj z; omega, ?_, fun p1 hp1 => ?_⟩⟩⟩
        · rcases (show a = 0 ∨ a = 1 by omega) with rfl | rfl <;> rcases (show c = 0 ∨ c = 1 by omega) with rfl | rfl
          · show (stepV _ (some 0) (some 1)).length ≤ _; rw [step_01]; show 3 ≤ sizeLine; decide
          · show (stepV _ (some 0) (some 2)).length ≤ _; rw [step_02]; show 2 ≤ sizeLine; decide
          · show (stepV _ (some 1) (some 1)).length ≤ _; rw [step_11]; show 2 ≤ sizeLine; decide
          · show (stepV _ (some 1) (some 2)).length ≤ _; rw [step_12]; show 1 ≤ sizeLine; decide
        · have bxB := (bxA.trans bx5).trans bx6
          have g1 := bx6.tup' bx5.1 (bx5.tup' bxA.1 g1)
          have g2 := bx6.tup' bx5.1 (bx5.tup' bxA.1 g2)
          have g3 := bx6.tup' bx5.1 (bx5.tup' bxA.1 g3)
          have fin : ∀ (as : List Addr) (rs : Ts) (o : HO) (p2 : Addr), (upd H6 p1 o) p2 = none → rs ∈ [[rA, rB], [rA, rC], [rB, rC], [rB]] → as.length = rs.length → (∀ (i : Nat) a t, as[i]? = some a → (vts rs)[i]? = some t → H6 a = some (.tup t)) → Q (.ref p2) (upd (upd H6 p1 o) p2 (.lst (as.map V.ref))) := fun as rs o p2 hp2 hrs hl hat => by
            obtain ⟨w1, w2, w3⟩ := wf6 hrs
            have bxC := bxB.new (o := o) hp1
            refine q p2 rs _ (bxC.new hp2) (bxC.free (bxC.ne hp2) hp2) (bxC.ne hp2) ⟨as, upd_same, by rw [vts, List.length_map]; exact hl, fun i a t e1 e2 => (same_new hp2) _ _ ((same_new hp1) _ _ (hat i a t e1 e2))⟩ w1 w2 w3
          have two : ∀ (x y : Addr) (r u : List Int), H6 x = some (.tup (vrow r)) → H6 y = some (.tup (vrow u)) → ∀ (i : Nat) a t, ([x, y] : List Addr)[i]? = some a → (vts [r, u])[i]? = some t → H6 a = some (.tup t) := fun x y r u hx hy i a t e1 e2 => by
            match i, e1, e2 with
            | 0, e1, e2 => cases e1; cases e2; exact hx
            | 1, e1, e2 => cases e1; cases e2; exact hy
            | i + 2, e1, _ => cases e1
          rcases (show a = 0 ∨ a = 1 by omega) with rfl | rfl <;> rcases (show c = 0 ∨ c = 1 by omega) with rfl | rfl
          · refine ⟨2, rfl, p1, [.ref t1, .ref t2, .ref t3], rfl, SqL.of (by rw [upd_same]; exact congrArg (fun l => some (HO.lst l)) (step_01 _ _ _)), fun p2 hp2 => fin [t1, t2] [rA, rB] _ p2 hp2 (by decide) rfl (two _ _ _ _ g1 g2)⟩
          · refine ⟨2, rfl, p1, [.ref t1, .ref t3], rfl, SqL.of (by rw [upd_same]; exact congrArg (fun l => some (HO.lst l)) (step_02 _ _ _)), fun p2 hp2 => fin [t1, t3] [rA, rC] _ p2 hp2 (by decide) rfl (two _ _ _ _ g1 g3)⟩
          · refine ⟨2, rfl, p1, [.ref t2, .ref t3], rfl, SqL.of (by rw [upd_same]; exact congrArg (fun l => some (HO.lst l)) (step_11 _ _ _)), fun p2 hp2 => fin [t2, t3] [rB, rC] _ p2 hp2 (by decide) rfl (two _ _ _ _ g2 g3)⟩
          · refine ⟨2, rfl, p1, [.ref t2], rfl, SqL.of (by rw [upd_same]; exact congrArg (fun l => some (HO.lst l)) (step_12 _ _ _)), fun p2 hp2 => fin [t2] [rB] _ p2 hp2 (by decide) rfl fun i a t e1 e2 => ?_⟩
            match i, e1, e2 with
            | 0, e1, e2 => cases e1; cases e2; exact g2
            | i + 1, e1, _ => cases e1
end
end K1
namespace K1
open PySem PySem.Spec PyProof.Rows L2
theorem reach_run {ts : Ts} {s : Int} : ∀ (r : List Int) (x : Int), Reach ts s x → (∀ d ∈ r, In8 ts d) → Reach ts s (run ts x r)
  | [], x, h, _ => h
  | d :: r, x, h, hd => reach_run r (stp ts x d) (.step h (hd d List.mem_cons_self)) fun e he => hd e (List.mem_cons_of_mem _ he)
theorem run_perm {ts : Ts} {s : Int} (hc : ∀ x, Reach ts s x → ∀ a b, In8 ts a → In8 ts b → ¬ Bad ts x a b) {r u : List Int} (p : r.Perm u) : (∀ d ∈ r, In8 ts d) → ∀ x, Reach ts s x → run ts x r = run ts x u := by
  induction p with
  | nil => intro _ x _; rfl
  | cons d p ih =>
    intro hd x hx
    exact ih (fun e he => hd e (List.mem_cons_of_mem _ he)) (stp ts x d) (.step hx (hd d List.mem_cons_self))
  | swap a b l =>
    intro hd x hx
    have ha := hd b List.mem_cons_self
    have hb := hd a (List.mem_cons_of_mem _ List.mem_cons_self)
    have := hc x hx b a ha hb
    unfold Bad at this
    show run ts (stp ts (stp ts x b) a) l = run ts (stp ts (stp ts x a) b) l
    rw [Classical.not_not.mp this]
  | trans p q ih1 ih2 =>
    intro hd x hx
    rw [ih1 hd x hx, ih2 (fun e he => hd e (p.mem_iff.mpr he)) x hx]
end K1
namespace K1
open PySem PySem.Spec PyProof.Rows L2
def spRunL : Sp := fun vs H Q _ => ∃ (p r : Addr) (s : Int) (ts : Ts) (row : List Int), vs = [.ref p, .int s, .ref r] ∧ TabL H p (vts ts) ∧ Wf ts ∧ (0 ≤ s ∧ s < (nS ts : Int)) ∧ H r = some (.lst (vrow row)) ∧ (∀ d ∈ row, 0 ≤ d ∧ d < (ts.length : Int)) ∧ row.length ≤ 1000 ∧
  ∀ l ns H', Same H H' → H' l = some (.lst (ns ++ [.int (run ts s row)])) → Q (.ref l) H'
section
variable {P : Program} {w : World} {K : PySem.W.Frag} {mg : Str → Option Value} {base : Heap}
theorem ok_runL {f : Addr} {fd : FuncData} (D : Df K mg "_law_run" sRun ["_law_tables_here", "_law_start", "_law_log_here"] f fd) : FnOk P w K mg base CX0 1 f fd ["_law_tables_here", "_law_start", "_law_log_here"] spRunL := by
  refine D.F.ok scRu (fun vs H Q E h => ?_) (fun cdv A outer s H vs Q E hr h => ?_)
  · obtain ⟨p, r, s, ts, row, rfl, _⟩ := h
    rfl
  · obtain ⟨p, r, s0, ts, row, rfl, tl, hW, hs, hr0, hd, hl, q⟩ := h
    refine ⟨_, pss_cons (ps_set (i := 3) scRu.nd rfl (.inl rfl) (pe_lst (pa_cons (pv 1) pa_nil)))
      (pss_cons (ps_for PassesOwn.never rfl (pi_list (pv 2)) (pg_name (i := 4) scRu.nd rfl (.inl rfl))
        (pss_one (ps_expr (pe_bm PySem.F.plainAttrs_list PySem.F.slot_list_append PySem.F.type_list_append mt_append (pv 3) (pa_cons (pe_ix ix_tup (pe_ix ix_list (pv 0) (pv 4) (fun _ _ => rfl)) (pe_ix ix_list (pv 3) (pe_un un_neg pe_int) (fun _ _ => rfl)) (fun _ _ => rfl)) pa_nil)))))
      (pss_one (ps_ret (pv 3)))), ?_⟩
    refine ⟨_, rfl, (by show 1 ≤ sizeLine; decide), fun l hl0 => ?_⟩
    have sm0 := same_new (o := HO.lst [.int s0]) hl0
    refine ⟨_, rfl, r, rfl, ⟨_, SqL.of (sm0 _ _ hr0)⟩, for_list (K := K) (a := r) (xs := vrow row) (fun i σ H' => ∃ (v4 : Option V) (ns : List V), σ = [some (.ref p), some (.int s0), some (.ref r), some (.ref l), v4] ∧ Same H H' ∧ ns.length = i ∧ H' l = some (.lst (ns ++ [.int (run ts s0 (row.take i))])))
      ⟨none, [], rfl, sm0, rfl, upd_same⟩ (fun i σ H' _ ⟨_, _, _, sm, _⟩ => SqL.of (sm _ _ hr0)) ?_ ?_⟩
    · rintro i x σ H' hx ⟨v4, ns, rfl, sm, hn, hL⟩
      obtain ⟨d, hdx, rfl⟩ : ∃ d, row[i]? = some d ∧ x = V.int d := by
        rw [vrow, List.getElem?_map] at hx
        cases e : row[i]? with
        | none => rw [e] at hx; cases hx
        | some d => rw [e] at hx; exact ⟨d, rfl, (Option.some.inj hx).symm⟩
      have hdr := hd d (List.mem_of_getElem? hdx)
      have hi : i < row.length := (List.getElem?_eq_some_iff.mp hdx).1
      have hst := hW.run (row.take i) s0 (fun e he => hd e (List.mem_of_mem_take he)) hs
      obtain ⟨t, ht, h2, h3⟩ := hW.at_ hdr hst
      obtain ⟨as, a1, a2, a3⟩ := tl
      have htv : (vts ts)[d.toNat]? = some (vrow t) := by rw [vts, List.getElem?_map, ht]; rfl
      have hlen : d.toNat < as.length := by rw [a2]; exact (List.getElem?_eq_some_iff.mp htv).1
      obtain ⟨a, ha⟩ : ∃ a, as[d.toNat]? = some a := ⟨as[d.toNat], List.getElem?_eq_getElem hlen⟩
      have hA := a3 _ a _ ha htv
      have nl : ∀ c o, H c = some o → c ≠ l := fun c o e z => by rw [z, hl0] at e; cases e
      refine ⟨_, rfl, .inl ⟨rfl, _, SqL.of hL⟩, _, rfl, _, rfl, p, _, d, .ref a, rfl, rfl, SqL.of (sm _ _ a1), at_of (j := d.toNat) (by omega) (by rw [List.getElem?_map, ha]; rfl), ?_⟩
      refine ⟨_, rfl, 1, rfl, l, _, -1, _, rfl, rfl, SqL.of hL, atI_last _ _, a, vrow t, run ts s0 (row.take i), .int (stp ts (run ts s0 (row.take i)) d), rfl, rfl, SqT.of (sm _ _ hA), at_of (j := (run ts s0 (row.take i)).toNat) (by omega) (by rw [vrow, List.getElem?_map, h2]; rfl), ?_⟩
      refine ⟨l, _, _, rfl, rfl, hL, by rw [List.length_append, hn, sizeLine_eq]; simp only [List.length_cons, List.length_nil]; omega, _, ns ++ [.int (run ts s0 (row.take i))], rfl, fun c o e => by rw [upd_ne (nl c o e)]; exact sm _ _ e, by rw [List.length_append, hn]; rfl, ?_⟩
      rw [upd_same, take_succ hdx, run_snoc]
    · rintro σ H' ⟨v4, ns, rfl, sm, hn, hL⟩
      refine ⟨_, rfl, q l ns H' sm ?_⟩
      rw [hL, vrow, List.length_map, List.take_length]
end
end K1
namespace K1
open PySem PySem.Spec PyProof.Rows L2
theorem erase_map {α β : Type} (f : α → β) : ∀ (l : List α) (i : Nat), (l.map f).eraseIdx i = (l.eraseIdx i).map f
  | [], _ => rfl
  | _ :: _, 0 => rfl
  | a :: l, i + 1 => congrArg (f a :: ·) (erase_map f l i)
theorem erase_perm {α : Type} : ∀ (l : List α) (i : Nat) (h : i < l.length), (l[i] :: l.eraseIdx i).Perm l
  | a :: l, 0, _ => List.Perm.refl _
  | a :: l, i + 1, h => (List.Perm.swap a (l[i]'(Nat.lt_of_succ_lt_succ h)) (l.eraseIdx i)).trans (.cons a (erase_perm l i (Nat.lt_of_succ_lt_succ h)))
def spShuf (M : Addr) : Sp := fun vs H Q _ => ∃ (b p m ta : Addr) (ts : Ts) (s : Int), vs = [.ref b, .ref p, .ref m, .int s] ∧ BoxO H b ∧ TabL H p (vts ts) ∧ p ≠ b ∧ Wf ts ∧ MachAt M H m ta (vts ts) ∧ (0 ≤ s ∧ s < (nS ts : Int)) ∧ (∀ x, Reach ts s x → ∀ a b, In8 ts a → In8 ts b → ¬ Bad ts x a b) ∧ ∀ H', Bx b H H' → Q (.bl true) H'
theorem rowF_ok {row : List Int} {n : Nat} (hl : row.length ≤ 10000) (h : ∀ d ∈ row, 0 ≤ d ∧ d < (n : Int)) : rowF (some (vrow row)) (n : Int) = .non := by
  unfold rowF
  rw [if_pos (by
    show (decide ((0 : Int) ≤ ((vrow row).length : Int)) && decide (((vrow row).length : Int) ≤ 10000)) = true
    rw [vrow, List.length_map, decide_eq_true (by omega), decide_eq_true (by omega)]; rfl)]
  refine fnb_all fun x hx => ?_
  obtain ⟨i, hi, rfl⟩ := List.mem_map.mp hx
  obtain ⟨h1, h2⟩ := h i hi
  show (decide (0 ≤ i) && decide (i < (n : Int))) = true
  rw [decide_eq_true h1, decide_eq_true h2]; rfl
theorem kindsR {K : PySem.W.Frag} {H : Hp} {row : List Int} : ∀ ys, some (vrow row) = some ys → Kinds K H ys := fun ys e y hy => by
  obtain rfl := Option.some.inj e
  obtain ⟨j, _, rfl⟩ := List.mem_map.mp hy
  exact ⟨_, .int j⟩
theorem belowI {i : Int} {n : Nat} (h : 0 ≤ i ∧ i < (n : Int)) : belowB (.int i) (n : Int) = true := by
  show (decide (0 ≤ i) && decide (i < (n : Int))) = true
  rw [decide_eq_true h.1, decide_eq_true h.2]; rfl
theorem seqI {i n : Nat} (h : i < n) : seqIndex? (i : Int) n = some i := (ixN_seq (by unfold ixN; rw [if_pos (by omega), if_pos (by omega)]; simp)).1
section
variable {P : Program} {w : World} {K : PySem.W.Frag} {mg : Str → Option Value} {base : Heap}
abbrev nSh : List Str := ["_law_box_here", "_law_tables_here", "_law_machine", "_law_state", "_law_row", "_law_left", "_law_other", "_law_deed"]
theorem scSh : FnScope nSh ["_law_box_here", "_law_tables_here", "_law_machine", "_law_state"] (defScope sShuf) := ⟨rfl, rfl, rfl, by decide +kernel, rfl, by decide +kernel, by decide +kernel⟩
theorem ok_shuf {f fT fL fU fE M CS CR : Addr} {fd fdT fdL fdU fdE : FuncData} (D : Df K mg "_law_shuffled_right" sShuf ["_law_box_here", "_law_tables_here", "_law_machine", "_law_state"] f fd) (DT : Df K mg "_law_take" sTake ["_law_box_here", "_law_many"] fT fdT) (DL : Df K mg "_law_log" sLog ["_law_box_here", "_law_tables_here", "_law_most"] fL fdL)
    (DU : Df K mg "_law_run" sRun ["_law_tables_here", "_law_start", "_law_log_here"] fU fdU) (DE : Df K mg "led" sLed ["machine", "state", "row"] fE fdE) (B : Bt mg) (GT : FnOk P w K mg base CX0 1 fT fdT ["_law_box_here", "_law_many"] spTake) (GL : FnOk P w K mg base CX0 2 fL fdL ["_law_box_here", "_law_tables_here", "_law_most"] spLog)
    (GU : FnOk P w K mg base CX0 1 fU fdU ["_law_tables_here", "_law_start", "_law_log_here"] spRunL) (GE : FnOk P w K mg base (L2.CX P w) 6 fE fdE ["machine", "state", "row"] (spLed K M CS CR)) : FnOk P w K mg base CX0 7 f fd ["_law_box_here", "_law_tables_here", "_law_machine", "_law_state"] (spShuf M) := by
  refine D.F.ok scSh (fun vs H Q E h => ?_) (fun cdv A outer s H vs Q E hr h => ?_)
  · obtain ⟨b, p, m, ta, ts, s, rfl, _⟩ := h
    rfl
  · obtain ⟨b, p, m, ta, ts, st, rfl, hb, tl, npb, hW, hM, hst, hc, q⟩ := h
    refine ⟨_, pss_cons (ps_par3 (i := 4) (j := 5) (l := 6) rfl scSh.nd rfl rfl rfl (by decide) (by decide) (by decide) rfl rfl rfl (pa_cons (pc DL GL (hr.mono (by decide)) pass0 (pa_cons (pv 0) (pa_cons (pv 1) (pa_cons pe_int pa_nil)))) (pa_cons (pe_lst pa_nil) (pa_cons (pe_lst pa_nil) pa_nil))) rfl)
      (pss_cons (ps_set (i := 5) scSh.nd rfl (.inl rfl) (pe_callTy call_list_of (by rfl) B.list PyProof.Rows.boot_list (pa_cons (pv 4) pa_nil)))
      (pss_cons (ps_for PassesOwn.never rfl (pi_tup (pv 4)) (pg_name (i := 7) scSh.nd rfl (.inl rfl))
        (pss_one (ps_expr (pe_bm PySem.F.plainAttrs_list PySem.F.slot_list_append PySem.F.type_list_append mt_append (pv 6) (pa_cons (pe_bm PySem.F.plainAttrs_list PySem.F.slot_list_pop PySem.F.type_list_pop mt_popAt (pv 5) (pa_cons (pc DT GT (hr.mono (by decide)) pass0 (pa_cons (pv 0) (pa_cons (pe_callB call_len_seq (by rfl) B.len PySem.boot_len (pa_cons (pv 5) pa_nil)) pa_nil))) pa_nil)) pa_nil)))))
      (pss_one (ps_ret (pe_chain op_eq op_eq (pc DE GE hr (passes_call LamX.takes0 fun _ _ _ _ h => h) (pa_cons (pv 2) (pa_cons (pv 3) (pa_cons (pv 4) pa_nil)))) (pc DE GE hr (passes_call LamX.takes0 fun _ _ _ _ h => h) (pa_cons (pv 2) (pa_cons (pv 3) (pa_cons (pv 6) pa_nil))))
        (pe_ix ix_list (pc DU GU (hr.mono (by decide)) pass0 (pa_cons (pv 1) (pa_cons (pv 3) (pa_cons (pv 6) pa_nil)))) (pe_un un_neg pe_int) (fun _ _ => rfl))))))), ?_⟩
    refine ⟨_, rfl, _, rfl, b, p, 12, ts, rfl, hb, tl, npb, hW.t1, hW.t8, by decide, by decide, fun r row H1 bx1 r0 r1 hd hl => ?_⟩
    refine ⟨(by show 0 ≤ sizeLine; decide), fun l1 hl1 => ⟨(by show 0 ≤ sizeLine; decide), fun l2 hl2 => ⟨_, _, _, rfl, ?_⟩⟩⟩
    have bx2 := bx1.new (o := .lst []) hl1
    have bx3 := bx2.new (o := .lst []) hl2
    have s2 := (same_new (o := HO.lst []) hl1).trans (same_new (o := HO.lst []) hl2)
    have hr3 := s2 _ _ r1
    have nl2 := bx2.ne hl2
    have h22 : upd (upd H1 l1 (.lst [])) l2 (.lst []) l2 = some (.lst []) := upd_same
    have hb2 : H l2 = none := bx2.free nl2 hl2
    generalize upd (upd H1 l1 (.lst [])) l2 (.lst []) = H3 at *
    refine ⟨_, rfl, r, _, rfl, .inr (SqT.of hr3), fun l3 hl3 => ?_⟩
    have bx4 := bx3.new (o := .lst (vrow row)) hl3
    have nl3 := bx3.ne hl3
    have n23 : l2 ≠ l3 := fun e => by rw [e, hl3] at h22; cases h22
    have nr3 : r ≠ l3 := fun e => by rw [e, hl3] at hr3; cases hr3
    have nr2 : r ≠ l2 := fun e => by rw [e, h22] at hr3; cases hr3
    have nrb : r ≠ b := bx3.1.ne hr3 fun xs => by intro z; cases z
    have h4r : upd H3 l3 (.lst (vrow row)) r = some (.tup (vrow row)) := by rw [upd_ne nr3]; exact hr3
    have h42 : upd H3 l3 (.lst (vrow row)) l2 = some (.lst []) := by rw [upd_ne n23]; exact h22
    have h43 : upd H3 l3 (.lst (vrow row)) l3 = some (.lst (vrow row)) := upd_same
    have hb3 : H l3 = none := bx3.free nl3 hl3
    generalize upd H3 l3 (.lst (vrow row)) = H4 at *
    refine ⟨_, rfl, r, rfl, ⟨_, SqT.of h4r⟩, for_tup (K := K) (a := r) (xs := vrow row) (fun i σ H' => ∃ (v7 : Option V) (left other : List Int), σ = [some (.ref b), some (.ref p), some (.ref m), some (.int st), some (.ref r), some (.ref l3), some (.ref l2), v7] ∧ Bx b H H' ∧ H' r = some (.tup (vrow row)) ∧ H' l3 = some (.lst (vrow left)) ∧ H' l2 = some (.lst (vrow other)) ∧ left.length + i = row.length ∧ (left ++ other).Perm row)
      ⟨none, row, [], rfl, bx4, h4r, h43, h42, rfl, by rw [List.append_nil]⟩ (fun i σ H' _ ⟨_, _, _, _, _, h, _⟩ => SqT.of h) ?_ ?_⟩
    · rintro i x σ H' hx ⟨v7, left, other, rfl, bx, kr, k3, k2, hn, pm⟩
      have hi : i < row.length := by have := (List.getElem?_eq_some_iff.mp hx).1; rw [vrow, List.length_map] at this; exact this
      refine ⟨_, rfl, .inl ⟨rfl, _, SqL.of k2⟩, _, rfl, .inl ⟨rfl, _, SqL.of k3⟩, ?_⟩
      have hll : left.length ≤ 12 := by omega
      have h0l : 0 < left.length := by omega
      refine ⟨_, rfl, _, rfl, l3, _, rfl, .inl (SqL.of k3), b, _, rfl, bx.1, by rw [vrow, List.length_map]; omega, by rw [vrow, List.length_map]; omega, fun k H5 z0 z1 bx5 => ?_⟩
      rw [vrow, List.length_map] at z1
      have hk : k.toNat < left.length := by omega
      have ek : (k.toNat : Int) = k := by omega
      have at5 : (vrow left)[k.toNat]? = some (.int left[k.toNat]) := by rw [vrow, List.getElem?_map, List.getElem?_eq_getElem hk]; rfl
      refine ⟨l3, vrow left, k, k.toNat, _, rfl, rfl, bx5.2 _ _ k3 nl3, by omega, by omega, by rw [vrow, List.length_map, ← ek]; exact seqI hk, at5, ?_⟩
      have k25 : upd H5 l3 (.lst ((vrow left).eraseIdx k.toNat)) l2 = some (.lst (vrow other)) := by rw [upd_ne n23]; exact bx5.2 _ _ k2 nl2
      have hpm := (pm.length_eq : (left ++ other).length = row.length)
      rw [List.length_append] at hpm
      refine ⟨l2, _, _, rfl, rfl, k25, by rw [vrow, List.length_map, sizeLine_eq]; omega, _, left.eraseIdx k.toNat, other ++ [left[k.toNat]], rfl, ?_, ?_, ?_, ?_, ?_, ?_⟩
      · exact (((bx.trans bx5).put hb3 nl3).put hb2 nl2)
      · rw [upd_ne nr2, upd_ne nr3]; exact bx5.2 _ _ kr nrb
      · rw [upd_ne (fun e => n23 e.symm), upd_same, vrow, vrow, erase_map]
      · rw [upd_same, vrow, vrow, List.map_append]; rfl
      · rw [List.length_eraseIdx_of_lt hk]; omega
      · rw [← List.append_assoc]
        refine (List.perm_append_singleton _ _).trans ?_
        exact ((erase_perm left k.toNat hk).append_right other).trans pm
    · rintro σ H' ⟨v7, left, other, rfl, bx, kr, k3, k2, hn, pm⟩
      obtain rfl : left = [] := List.eq_nil_of_length_eq_zero (by rw [vrow, List.length_map] at hn; omega)
      rw [List.nil_append] at pm
      have hdo : ∀ d ∈ other, In8 ts d := fun d h => hd d (pm.mem_iff.mp h)
      have hol : other.length = row.length := pm.length_eq
      have ro : run ts st other = run ts st row := run_perm hc pm hdo st .refl
      have hM4 := hM.bx hb bx
      have tl4 := tl.bx npb hb bx
      have rf := rowF_ok (n := ts.length) (row := row) (by omega) hd
      have rfo := rowF_ok (n := ts.length) (row := other) (by omega) hdo
      refine ⟨_, rfl, _, rfl, _, rfl, m, ta, ts, .int st, .ref r, rfl, hM4, hW, ⟨_, .int st⟩, fun e => (by rw [belowI hst] at e; cases e), fun _ => ⟨st, some (vrow row), rfl, ⟨.tup kr, kindsR⟩, fun hne => absurd rf hne, fun _ => ⟨row, rfl, fun H5 s5 => ?_⟩⟩⟩
      refine ⟨_, rfl, _, rfl, _, rfl, m, ta, ts, .int st, .ref l2, rfl, hM4.same s5, hW, ⟨_, .int st⟩, fun e => (by rw [belowI hst] at e; cases e), fun _ => ⟨st, some (vrow other), rfl, ⟨.lst (s5 _ _ k2), kindsR⟩, fun hne => absurd rfo hne, fun _ => ⟨other, rfl, fun H6 s6 => ?_⟩⟩⟩
      have s56 := s5.trans s6
      refine ⟨rfl, _, rfl, (if_pos (by rw [ro]; exact decide_eq_true rfl)).mpr ?_⟩
      refine ⟨_, rfl, _, rfl, _, rfl, p, l2, st, ts, other, rfl, tl4.same s56, hW, hst, s56 _ _ k2, hdo, by omega, fun l ns H7 s7 hl7 => ⟨1, rfl, l, _, -1, _, rfl, rfl, SqL.of hl7, atI_last _ _, ?_⟩⟩
      exact ⟨rfl, qbl (decide_eq_true rfl) (q H7 ((bx.same s56).same s7))⟩
end
end K1
namespace K1
open PySem PySem.Spec PyProof.Rows L2
theorem takes_len {X : Cx} {W : WX} (tk : Takes X W) : Takes X (fun cls d σ H => σ.length = X.N.length → W cls d σ H) := fun u s' ⟨a, B, sI, pins', σ', H', cls, d, e, J, nb, up, sky, na, os, ag, w⟩ =>
  tk u s' ⟨a, B, sI, pins', σ', H', cls, d, e, J, nb, up, sky, na, os, ag, w J.len⟩
/-- isinstance(e, N) in a suite, the exception's dict with any fields -/
def rIsF (K : PySem.W.Frag) (C : Addr) (cls : Value) (d : Option Addr) (a : Addr) : List V → Hp → VK → Prop := fun xs H Q => ∃ (dd N : Addr) (fs : List (Str × V)) (b : Bool), cls = .ref C ∧ d = some dd ∧ xs = [.ref a, .ref N] ∧ H dd = some (.xd fs) ∧ PySem.W.kitOne K (.ref C) (.ref N) = some b ∧ Q (.bl b) H
theorem call_isF {X : Cx} {a C : Addr} {cls : Value} {d : Option Addr} {oe : Obj} {pn : List (Addr × Obj)} (T : ExcK X.K C) (hz : Zc cls d oe) (hf : ∃ vs, oe.data = .fields vs) : CallR (X.suite a ((a, oe) :: pn)) (.builtin "isinstance") (rIsF X.K C cls d a) := by
  intro pins s σ H xs us Q I r h
  obtain ⟨dd, N, fs, b, rfl, rfl, rfl, hx, e, q⟩ := h
  obtain ⟨u1, u2, rfl, r1, r2⟩ := vals2 r
  cases r1
  cases r2
  obtain ⟨hget, _⟩ := I.pin (a, oe) (List.mem_append.mpr (.inl List.mem_cons_self))
  obtain ⟨vs, hd⟩ := hf
  have hx' : ObjOk X.prog X.w H s.heap dd (.xd fs) := I.hok dd _ hx
  obtain ⟨mA, hns, hr⟩ := hx'
  obtain ⟨od, ho, hl⟩ := lookIn_ns hns
  have J : PySem.W.InstAt s.heap a oe C (some od) := ⟨hget, hz.1, by unfold PySem.W.notCls; rw [hd] <;> rfl, by rw [hz.2]; exact ho⟩
  exact PySem.W.kia_one (PySem.W.kitx_exc T.cl T.ga T.gt T.sb T.ca T.sp T.tk T.mo) I.kIn J e (fun z => nomatch z) fun tk => ⟨.bl b, H, I.kept (t' := tk) fun _ _ z => z, rfl, q⟩
end K1
namespace K1
open PySem PySem.Spec PyProof.Rows L2
/-- what tells the three classes apart -/
structure Exm (K : PySem.W.Frag) (CU CR CS N : Addr) : Prop where
  uu : PySem.W.exmOne K (.ref CU) (.ref CU) = some true
  su : PySem.W.exmOne K (.ref CS) (.ref CU) = some false
  ss : PySem.W.exmOne K (.ref CS) (.ref CS) = some true
  ru : PySem.W.exmOne K (.ref CR) (.ref CU) = some false
  rs : PySem.W.exmOne K (.ref CR) (.ref CS) = some false
  rr : PySem.W.exmOne K (.ref CR) (.ref CR) = some true
  iu : PySem.W.kitOne K (.ref CU) (.ref N) = some true
  xu : ExcK K CU
/-- x is the text that repr gives for v -/
def RS (v : V) (x : Str) : Prop := ∀ (H : Hp) (Q : VK), Q (.str x) H → rReprS [v] H Q
/-- what the law hears of an error -/
def HE (CU CR CS : Addr) (Q : VK) : XK := fun cls d H => ∃ dd : Addr, d = some dd ∧
  ((cls = .ref CU ∧ ∃ x a b, H dd = some (.xd (uF x a b)) ∧ ∀ p t H', Same H H' → H' t = some (.tup [x, a, b]) → H' p = some (.tup [.str "not", .ref t, .bl true]) → Q (.ref p) H') ∨
   (cls = .ref CS ∧ ∃ v, H dd = some (.xd [("state", v)]) ∧ ∃ x, RS v x ∧ ∀ p H', Same H H' → H' p = some (.tup [.str "state", .str x]) → Q (.ref p) H') ∨
   (cls = .ref CR ∧ ∃ v, H dd = some (.xd [("at", v)]) ∧ ∀ p H', Same H H' → H' p = some (.tup [.str "row", v]) → Q (.ref p) H'))
def TTh (CU CR CS : Addr) : (XK → Hp → VK → Prop) → Hp → VK → Prop := fun tl H Q => tl (HE CU CR CS Q) H fun v H' => 2 ≤ sizeLine ∧ ∀ p, H' p = none → Q (.ref p) (upd H' p (.tup [.str "told", v]))
theorem scHe : FnScope ["_law_ask", "e"] ["_law_ask"] (defScope sHeard) := ⟨rfl, rfl, rfl, by decide +kernel, rfl, by decide +kernel, by decide +kernel⟩
theorem heard_gives {X : Cx} {CU CR CS N i2 i3 g : Addr} {b2 b3 : List Value} {q2 q3 : Str} {cdg : Value} {q : Str} (B : Bt X.mg) (U : UnC X.K X.mg CU) (T2 : LAt.Txt X.K X.mg "BadRow" q2 b2 CR i2)
    (T3 : LState.Txt X.K X.mg "NoState" q3 b3 CS i3) (hN : X.mg "NetError" = some (.ref N)) (ex : Exm X.K CU CR CS N)
    (g2 : X.mg "BadRow" = some (.ref CR)) (g3 : X.mg "NoState" = some (.ref CS)) :
    LamX.GivesTo X ["_law_ask", "e"] "_law_heard" (defScope sHeard) g cdg (defBody sHeard) "_law_ask" q (TTh CU CR CS) := by
  intro f c' s H Q tl act hc h
  generalize hZ : (cxOf C8.CX0 X.prog X.w X.K X.mg X.base ["_law_ask", "e"] "_law_heard" (defScope sHeard) g cdg X.A X.stack s H C8.E0) = Z at act ⊢
  subst hZ
  refine ⟨_, pss_one (ps_try_all (n := "e") (i := 1) (tb := fun W D σ H => ∃ Ech : XK, (∀ cls d (σ' : L2.St) H', σ'.length = 2 → Ech cls d H' → W cls d σ' H') ∧ σ[0]? = some (some (.ref f)) ∧ H c' = some (LamX.CodeO c' q) ∧ tl Ech H fun v H1 => 2 ≤ sizeLine ∧ ∀ p, H1 p = none → D.rt (.ref p) (upd H1 p (.tup [.str "told", v])))
      rfl rfl scHe.nd rfl rfl LamX.takes0 (fun W pn xe tk _ => ?_)
      (.cons (c := .ref CU) ⟨rfl, by decide, .inl U.g⟩ (fun a oe cls d pn hz hf => pss_one (ps_ret (pe_tup (pa_cons pe_str (pa_cons (pe_tup (pa_cons (pe_xf U.f U.n1 hz hf (pv 1)) (pa_cons (pe_xf U.f U.n2 hz hf (pv 1)) (pa_cons (pe_xf U.f U.n3 hz hf (pv 1)) pa_nil)))) (pa_cons (pe_callB (call_isF ex.xu hz hf) rfl B.isinstance (by decide +kernel) (pa_cons (pv 1) (pa_cons (pe_glob (v := .ref N) rfl hN rfl) pa_nil))) pa_nil))))))
      (.cons (c := .ref CS) ⟨rfl, by decide, .inl g3⟩ (fun a oe cls d pn hz hf => pss_one (ps_ret (pe_tup (pa_cons pe_str (pa_cons (pe_callB call_reprS rfl B.repr (by decide +kernel) (pa_cons (pe_by_LState T3 hz hf (pv 1)) pa_nil)) pa_nil)))))
      (.cons (c := .ref CR) ⟨rfl, by decide, .inl g2⟩ (fun a oe cls d pn hz hf => pss_one (ps_ret (pe_tup (pa_cons pe_str (pa_cons (pe_by_LAt T2 hz hf (pv 1)) pa_nil))))) .nil)))), ?_⟩
  · refine ⟨fun pins s' σ H' D I h' => ?_⟩
    obtain ⟨Ech, hW, h1, h2, h3⟩ := h'
    have hp := fun p1 p2 => act (fun cls d σ H => σ.length = 2 → W cls d σ H) pn xe Ech p1 p2 (takes_len tk) (fun cls d σ' H' e hl => hW cls d σ' H' hl e)
    exact (pss_one (ps_ret (pe_tup (pa_cons pe_str (pa_cons (hp _ _) pa_nil))))).run pins s' σ H' D I ⟨h1, h2, h3⟩
  · refine ⟨HE CU CR CS Q, fun cls d σ' H' hl he => ?_, rfl, hc, h⟩
    obtain ⟨dd, rfl, k⟩ := he
    obtain ⟨v0, v1, rfl⟩ : ∃ v0 v1, σ' = [v0, v1] := by
      match σ', hl with
      | [v0, v1], _ => exact ⟨v0, v1, rfl⟩
    rcases k with ⟨rfl, x, a, b, hx, k⟩ | ⟨rfl, v, hx, x, rs, k⟩ | ⟨rfl, v, hx, k⟩
    · refine ⟨true, ex.uu, fun _ e na => ?_, fun z => (by cases z)⟩
      refine ⟨_, rfl, rfl, rfl, dd, _, x, rfl, hx, rfl, _, rfl, rfl, rfl, dd, _, a, rfl, hx, rfl, _, rfl, rfl, rfl, dd, _, b, rfl, hx, rfl, (by show 3 ≤ sizeLine; decide), fun t ht => ?_⟩
      refine ⟨_, rfl, dd, N, _, true, rfl, rfl, rfl, same_new ht _ _ hx, ex.iu, (by show 3 ≤ sizeLine; decide), fun p hp => ?_⟩
      exact k p t _ ((same_new ht).trans (same_new hp)) (same_new hp _ _ upd_same) upd_same
    · refine ⟨false, ex.su, fun z => (by cases z), fun _ => ⟨true, ex.ss, fun _ a na => ?_, fun z => (by cases z)⟩⟩
      refine ⟨_, rfl, rfl, rfl, dd, v, rfl, hx, ?_⟩
      unfold tNil
      dsimp only
      refine rs _ _ ⟨(by show 2 ≤ sizeLine; decide), fun p hp => ?_⟩
      exact k p _ (same_new hp) upd_same
    · refine ⟨false, ex.ru, fun z => (by cases z), fun _ => ⟨false, ex.rs, fun z => (by cases z), fun _ => ⟨true, ex.rr, fun _ a na => ?_, fun z => (by cases z)⟩⟩⟩
      refine ⟨_, rfl, rfl, rfl, dd, v, rfl, hx, (by show 2 ≤ sizeLine; decide), fun p hp => ?_⟩
      exact k p _ (same_new hp) upd_same
end K1
namespace K1
open PySem PySem.Spec PyProof.Rows L2
/-! ### a def whose code object is known -/
structure FunC (K : PySem.W.Frag) (x qual : Str) (st : Stmt) (f : Addr) (fd : FuncData) (cdv : Value) : Prop where
  ex : ∃ (oc : Value) (od : Option Addr) (kV doc pm : Value) (an : Option Addr) (ct : Value) (osl : Array (Option Value)),
    fd = PySem.W.fnOf x qual (defArgs st) (defBody st) (defScope st) .none kV doc pm an cdv ct ∧ K.lookup f = some ⟨oc, od, .func fd, osl⟩ ∧ PySem.W.codeIn K cdv qual = true
  kp : PySem.W.keepIn K (.ref f) = true
theorem FunC.fun {K : PySem.W.Frag} {x qual : Str} {st : Stmt} {f : Addr} {fd : FuncData} {cdv : Value} (F : FunC K x qual st f fd cdv) : Fun K x qual st f fd := by
  obtain ⟨⟨oc, od, kV, doc, pm, an, ct, osl, h1, h2, h3⟩, kp⟩ := F
  exact ⟨⟨oc, od, kV, doc, pm, an, cdv, ct, osl, h1, h2, h3⟩, kp⟩
section
variable {P : Program} {w : World} {K : PySem.W.Frag} {mg : Str → Option Value} {base : Heap}
theorem FunC.ok {x qual : Str} {st : Stmt} {f : Addr} {fd : FuncData} {cdv : Value} {N ps : List Str} {k : Nat} {sp : Sp} (F : FunC K x qual st f fd cdv) (S : FnScope N ps (defScope st)) (len : ∀ vs H Q E, sp vs H Q E → vs.length = ps.length)
    (hbody : ∀ (A : Around) (outer : List Env) (s : Shared) (H : Hp) (vs : List V) (Q : VK) (E : XK), Room k (A.deeper (envOfC qual (defScope st) s.heap.objs.size f cdv)) → sp vs H Q E →
      ∃ t, PSs (cxOf CX0 P w K mg base N qual (defScope st) f cdv A outer s H E).nox (defBody st) t ∧ t { nx := fun _ H' => Q .non H', rt := Q } (start N vs) H) : FnOk P w K mg base CX0 (k + 1) f fd ps sp := by
  obtain ⟨oc, od, kV, doc, pm, an, ct, osl, rfl, lk, hcd⟩ := F.ex
  refine fn_of lk hcd S len fun A outer s H vs Q E hr hsp => ?_
  obtain ⟨t, h, q⟩ := hbody A outer s H vs Q E hr hsp
  exact ⟨t, h.nox, q⟩
end
/-! ### the law's ear -/
structure Hd (K : PySem.W.Frag) (mg : Str → Option Value) (base : Heap) (c P : Addr) (CU CR CS : Addr) : Prop where
  B : Bt mg
  df : ∃ g fd, Df K mg "_law_heard" sHeard ["_law_ask"] g fd
  u : UnC K mg CU
  t2 : ∃ q b i, LAt.Txt K mg "BadRow" q b CR i
  t3 : ∃ q b i, LState.Txt K mg "NoState" q b CS i
  ex : ∃ N, mg "NetError" = some (.ref N) ∧ Exm K CU CR CS N
  g2 : mg "BadRow" = some (.ref CR)
  g3 : mg "NoState" = some (.ref CS)
  TB : LamX.TabB base mg c P
theorem pHeard {X : Cx} {c P CU CR CS : Addr} {k : Nat} {qn : Str} {params : Arguments} {body : Expr} {scope : Scope} {t : XK → TE} {p lpos pos : Pos} (hd : Hd X.K X.mg X.base c P CU CR CS) (hr : Room (k + 2) X.A) (hcode : X.env.code = .ref c)
    (hq : X.env.qual ++ "<lambda>" = qn) (hg : Gl X "_law_heard") (L : LamX.LamS X.env.scope scope) (hdef : defaultsOf params X.env = ([], []))
    (hbind : ∀ (q : Str) (cl : List (Str × Addr)) (pm cv ctv : Value), bindArgs (PySem.W.kla_fn "<lambda>" q params body scope cl pm cv ctv) ⟨[], []⟩ = pure [])
    (hbody : ∀ (A : Around) (outer : List Env) (s : Shared) (H : Hp) (E : XK) (f c' : Addr), Room k (A.deeper (LamX.lamEnv X scope s.heap.objs.size f c')) → PE (LamX.lamCx X A outer s H E scope f c') body (t E)) :
    PE X (.Call (.Name "_law_heard" p) [.Lambda params body scope lpos] [] pos) (LamX.tLam [(P, qn)] (TTh CU CR CS) t) := by
  obtain ⟨g, fd, D⟩ := hd.df
  obtain ⟨q2, b2, i2, T2⟩ := hd.t2
  obtain ⟨q3, b3, i3, T3⟩ := hd.t3
  obtain ⟨N, hN, ex⟩ := hd.ex
  have hb := D.b
  obtain ⟨oc, od, kV, doc, pm, an, cdv, ct, osl, rfl, lk, hcd⟩ := D.F.ex
  exact LamX.pe_lamcall (a := "_law_ask") hg D.g D.F.kp lk hcd hb scHe rfl (.inl rfl) (heard_gives hd.B hd.u T2 T3 hN ex hd.g2 hd.g3) hd.TB hcode (by rw [hq]; exact List.mem_cons_self) (fun p hp _ => by rw [List.mem_singleton.mp hp, hq]) hr L hdef hbind hbody
/-! ### defs told where nothing is being shown -/
section
variable {P : Program} {w : World} {K : PySem.W.Frag} {mg : Str → Option Value} {base : Heap}
theorem okG {x qual : Str} {st : Stmt} {f : Addr} {fd : FuncData} {N ps : List Str} {k : Nat} {sp : Sp} (F : Fun K x qual st f fd) (S : FnScope N ps (defScope st)) (len : ∀ vs H Q E, sp vs H Q E → vs.length = ps.length)
    (hbody : ∀ (cdv : Value) (A : Around) (outer : List Env) (s : Shared) (H : Hp) (vs : List V) (Q : VK) (E : XK), Room k (A.deeper (envOfC qual (defScope st) s.heap.objs.size f cdv)) → (A.deeper (envOfC qual (defScope st) s.heap.objs.size f cdv)).guards = some [] → sp vs H Q E →
      ∃ t, PSs (cxOf CX0 P w K mg base N qual (defScope st) f cdv A outer s H E).nox (defBody st) t ∧ t { nx := fun _ H' => Q .non H', rt := Q } (start N vs) H) : FnG P w K mg base (k + 1) f fd ps sp := by
  obtain ⟨oc, od, kV, doc, pm, an, cdv, ct, osl, rfl, lk, hcd⟩ := F.ex
  refine ⟨len, fun A outer s H args us vs Q E hr hgd e0 hb r hsp => ?_⟩
  refine LamX.run_ofS lk hcd S hr e0 hb r (len _ _ _ _ hsp) fun hr' => ?_
  obtain ⟨t, h, q⟩ := hbody cdv A outer s H vs Q E hr' hgd hsp
  exact ⟨t, h.nox, q⟩
end
section
variable {X : Cx} {k : Nat} {f : Addr} {fd : FuncData} {ps ks : List Str} {sp : Sp} {x : Str} {st : Stmt} {p pos : Pos} {e : Expr} {es : List Expr} {kws : List Keyword} {t tk : TA}
theorem pe_callG (D : Df X.K X.mg x st ps f fd) (G : FnG X.prog X.w X.K X.mg X.base k f fd ps sp) (hr : Room k X.A) (hgd : X.A.guards = some []) (ha : PA X (e :: es) t) (hg : Gl X x := by rfl)
    (hdb : (x == ("__debug__" : Str)) = false := by decide) (he : starEach (e :: es) X.env = (false, eval e X.env) :: starEach es X.env := by rfl) (hpl : (backTo pos (starEach es X.env)).any (·.1) = false := by rfl) :
    PE X (.Call (.Name x p) (e :: es) [] pos) (fun σ H Q => t σ H fun vs H1 => sp vs H1 Q fun _ _ _ => False) := by
  refine ⟨fun pins s σ H Q I h => ?_⟩
  refine wpAny_Call_Name_kw (ld_glob I hg D.g ?_ hdb)
  refine PySem.W.callWith_K (h₀ := X.base) I.ok.mod.kin D.F.kp (thn (ha.run pos pins s σ H _ I h) fun us s1 ⟨vs, H1, I1, r, q⟩ => ⟨I1.kIn, ?_⟩) he hpl
  have hl : us.length = ps.length := by rw [← r.length]; exact G.len _ _ _ _ q
  refine wpAny_call (codeAny_mono (G.run X.A X.stack s1 H1 ⟨us, []⟩ us vs Q (fun _ _ _ => False) hr hgd I1.env0 (by
    have z := D.b s1 us I1.kIn (by rw [List.append_nil]; exact hl)
    rw [List.append_nil] at z
    exact z) r q) fun r s' hq => ?_)
  cases r with
  | error e => exact (show False from hq).elim
  | ok fl =>
    cases fl with
    | ret u => exact I1.after hq
    | next => exact False.elim hq
    | brk => exact False.elim hq
    | cont => exact False.elim hq
/-! ### f(k = v, ..), every argument by its name -/
theorem pe_callW {CX : CXT} {E : XK} {g : List Value → List Value → List Value} {gV : List V → List V → List V} (D : Df X.K X.mg x st ps f fd) (G : FnOk X.prog X.w X.K X.mg X.base CX k f fd ps sp) (hr : Room k X.A) (hb : KBn X.K fd ps 0 ks g gV) (hx : Passes CX X E) (hkw : PK X kws tk) (hg : Gl X x := by rfl)
    (hall : (backToKw pos (keywordEach kws X.env)).all (·.1.isSome) = true := by rfl) (hks : (backToKw pos (keywordEach kws X.env)).filterMap (·.1) = ks := by rfl) (hdb : (x == ("__debug__" : Str)) = false := by decide)
    (hpl : ((backTo pos (starEach [] X.env)).any (·.1) || (backToKw pos (keywordEach kws X.env)).any (·.1.isNone)) = false := by rfl) :
    PE X (.Call (.Name x p) [] kws pos) (fun σ H Q => tk σ H fun zs H1 => zs.length = ks.length ∧ sp (gV [] zs) H1 Q E) := by
  refine ⟨fun pins s σ H Q I h => ?_⟩
  refine wpAny_Call_Name_kw (ld_glob I hg D.g ?_ hdb)
  refine PySem.W.callWith_KW0 (h₀ := X.base) I.ok.mod.kin D.F.kp hall ?_ hpl
  refine thn (hkw.run pos pins s σ H _ I h) fun ws s2 ⟨zs, H2, I2, rz, l2, q2⟩ => ⟨I2.kIn, ?_⟩
  rw [hks]
  exact run_fnN (us := []) (vs := []) G hr hb hx I2 .nil rz rfl l2 q2
end
abbrev gR : List Value → List Value → List Value := fun _ ws => ws.reverse
abbrev gRV : List V → List V → List V := fun _ zs => zs.reverse
section
variable {K : PySem.W.Frag} {f : Addr} {fd : FuncData}
theorem kb_cpaper (F : Fun K "commuting_paper" "commuting_paper" sCPaper f fd) : KBn K fd ["machine", "state"] 0 ["state", "machine"] gR gRV := by
  obtain ⟨oc, od, kV, doc, pm, an, cdv, ct, osl, rfl, lk, hcd⟩ := F.ex
  refine ⟨fun s us ws _ h0 h1 => .of_eq ?_, fun _ r => r.reverse⟩
  match us, ws, h0, h1 with
  | [], [_, _], _, _ => rfl
theorem kb_needC (F : Fun K "need_commuting" "need_commuting" sNeedC f fd) : KBn K fd ["machine", "state"] 0 ["state", "machine"] gR gRV := by
  obtain ⟨oc, od, kV, doc, pm, an, cdv, ct, osl, rfl, lk, hcd⟩ := F.ex
  refine ⟨fun s us ws _ h0 h1 => .of_eq ?_, fun _ r => r.reverse⟩
  match us, ws, h0, h1 with
  | [], [_, _], _, _ => rfl
theorem kb_power (F : Fun K "power_of" "power_of" sPower f fd) : KBn K fd ["machine", "state", "row"] 0 ["row", "state", "machine"] gR gRV := by
  obtain ⟨oc, od, kV, doc, pm, an, cdv, ct, osl, rfl, lk, hcd⟩ := F.ex
  refine ⟨fun s us ws _ h0 h1 => .of_eq ?_, fun _ r => r.reverse⟩
  match us, ws, h0, h1 with
  | [], [_, _, _], _, _ => rfl
end
end K1
namespace K1
open PySem PySem.Spec PyProof.Rows L2
/-! ### x != y of instances whose class has an __eq__ of its own and object's __ne__ -/
section
variable {prog : Program} {w : World} {A : Around} {E : Value → Shared → Prop} {s : Shared} {K : PySem.W.Frag} {x C f : Addr} {ox : Obj} {od : Option Obj} {b : Value}
theorem ifBound_ne {M : Model} {args : List Value} {Q : Option Value → Shared → Prop} (X : K.In s.heap) (I : PySem.W.InstAt s.heap x ox C od) (hs : PySem.W.findIn K (.ref C) "__ne__" = some (some (.builtin "object.__ne__")))
    (h : wpAny M A (call (.builtin "object.__ne__") (.ref x :: args)) (fun v => Q (some v)) E s) : wpAny M A (callSpecialIfBound? (.ref x) "__ne__" args) Q E s := by
  simp only [callSpecialIfBound?, bindSpecialIfBound?]
  refine wpAny_holding (wpAny_bind (wpAny_bind (wpAny_bind (I.type.here ((PySem.W.looks_findIn X hs).here ?_)))))
  simp only [F.cmp_object.ne.bind]
  refine wpAny_bind (wpAny_askSetting (wpAny_ite ?_))
  have fin : wpAny M A (call (.builtin "object.__ne__") ([.ref x] ++ args) >>= fun v => pure (some v)) Q E s := wpAny_bind (wpAny_mono h (fun v s' h' => wpAny_pure h') fun _ _ h' => h')
  split
  · exact wpAny_bind (wpAny_pure (wpAny_pure fin))
  · exact wpAny_tryCatch (wpAny_bind (wpAny_pure (wpAny_pure fin)))
theorem check_ne {M : Model} {rest : List Value} {Q : Unit → Shared → Prop} (X : K.In s.heap) (I : PySem.W.InstAt s.heap x ox C od) (hm : PySem.W.mroIn K C (.type "object") = some true) (ha : argsOk "object.__ne__" ⟨.ref x :: rest, []⟩) (hq : Q () s) :
    wpAny M A (checkBuiltinCall "object.__ne__" ⟨.ref x :: rest, []⟩) Q E s := by
  have L0 := I.type (M := M)
  have L1 := PySem.W.looks_mroIn (M := M) X hm
  simp only [checkBuiltinCall, F.cmpKind_ne, F.cmpSplit_ne]
  refine wpAny_bind ?_
  unfold isInstance
  refine wpAny_bind (L0.here (L1.here ?_))
  cases hsig : Manifest.signature? "object.__ne__" with
  | none => exact wpAny_pure hq
  | some sig =>
    simp only [argsOk, hsig] at ha
    have h2 : Bind.checkArgs "object.__ne__" sig ⟨.ref x :: rest, []⟩ = pure () := ha
    show wpAny M A (Bind.checkArgs "object.__ne__" sig ⟨.ref x :: rest, []⟩) Q E _
    rw [h2]; exact wpAny_pure hq
theorem ne_K {Q : Value → Shared → Prop} (hu : A.units + 1 < cLine) (X : K.In s.heap) (I : PySem.W.InstAt s.heap x ox C od) (hb : PySem.W.Looks (model prog w) s.heap (typeOf b) (.ref C))
    (hn : PySem.W.findIn K (.ref C) "__ne__" = some (some (.builtin "object.__ne__"))) (hm : PySem.W.mroIn K C (.type "object") = some true)
    (hs : PySem.W.findIn K (.ref C) "__eq__" = some (some (.ref f))) (hf : PySem.W.isFn K (.ref f) = true)
    (h : wpAny (model prog w) A.in1 (call (.ref f) [.ref x, b]) (fun v s' => ∃ k, v = .bool k ∧ Q (.bool (!k)) s') E s) : wpAny (model prog w) A (richCompare .NotEq (.ref x) b) Q E s := by
  have entry : wpAny (model prog w) A.in1 (Builtin.«object.__ne__» ⟨[.ref x, b], []⟩) (fun r s' => ∃ k, r = .done (.ret (.bool k)) ∧ Q (.bool k) s') E s := by
    have hu1 : A.in1.units < cLine := hu
    unfold Builtin.«object.__ne__»
    repeat (first
      | with_reducible refine wpAny_cRoomFor hu1 ?_
      | (refine wpAny_bind (m := callSpecialIfBound? (.ref x) (Str.ofString "__eq__") [b])
          (PySem.W.ifBound_K X I hs hf (wpAny_mono h (fun r s' hr => by
            obtain ⟨k, rfl, hq⟩ := hr
            repeat (first | exact ⟨_, rfl, hq⟩ | exact wpAny_pure ⟨_, rfl, hq⟩ | exact wpAny_truthy_bool ⟨_, rfl, hq⟩ | (refine wpAny_bind (m := truthy (.bool _)) (wpAny_truthy_bool ?_)) | wp_step)) fun _ _ e => e)))
      | wp_step)
  have one : wpAny (model prog w) A (tryCompare (.ref x) "__ne__" b) (fun r s' => ∃ v, r = some v ∧ Q v s') E s := by
    unfold tryCompare
    refine wpAny_bind (ifBound_ne X I hn (wpAny_call (codeAny_call_builtin F.cmp_object.ne.plain F.cmpEntry_ne (check_ne X I hm (F.cmpArgs_ne _ _) (wpAny_mono entry (fun r s' hr => ?_) fun _ _ e => e)))))
    obtain ⟨k, rfl, hq⟩ := hr
    exact wpAny_pure ⟨_, rfl, hq⟩
  unfold richCompare
  simp only [oneThing_ref]
  refine wpAny_holding (wpAny_bind (wpAny_cRoomFor (Nat.lt_of_succ_lt hu) ?_))
  rw [cmpInfo_NotEq]
  dsimp only
  refine wpAny_bind (I.type.here (wpAny_bind (hb.here ?_)))
  rw [show (Value.ref C != Value.ref C) = false from by simp]
  simp only [Bool.false_eq_true, if_false]
  refine wpAny_bind (wpAny_pure ?_)
  simp only [Bool.false_eq_true, if_false]
  refine wpAny_bind (wpAny_mono one (fun r s' z => ?_) fun _ _ e => e)
  obtain ⟨v, rfl, hq⟩ := z
  exact wpAny_pure hq
end
def rNeOwn (C : Addr) (sp : Sp) : R2 := fun x y H Q => ∃ (a b dx dy : Addr) (fs gs : List (Str × V)), x = .ref a ∧ H a = some (.ins C dx fs) ∧ y = .ref b ∧ H b = some (.ins C dy gs) ∧ sp [x, y] H (fun v H' => ∃ k, v = .bl k ∧ Q (.bl (!k)) H') E0
theorem op_neOwn {X : Cx} {n : Nat} {C f : Addr} {fd : FuncData} {ps : List Str} {sp : Sp} (F : FnOk X.prog X.w X.K X.mg X.base CX0 n f fd ps sp) (hr : Room (n + 1) X.A)
    (hn : PySem.W.findIn X.K (.ref C) "__ne__" = some (some (.builtin "object.__ne__"))) (hm : PySem.W.mroIn X.K C (.type "object") = some true)
    (hs : PySem.W.findIn X.K (.ref C) "__eq__" = some (some (.ref f))) (hf : PySem.W.isFn X.K (.ref f) = true) (hb : Binds X.K fd ps []) : OpR X (compareOp .NotEq) (rNeOwn C sp) := by
  intro pins s σ H x y v u Q I rx ry hq
  obtain ⟨a, b, dx, dy, fs, gs, rfl, ha, rfl, hb', hsp⟩ := hq
  cases rx
  cases ry
  show wpAny (model X.prog X.w) X.A (richCompare .NotEq (.ref a) (.ref b)) (EP X pins σ Q) X.xe s
  obtain ⟨mA, J, _⟩ := ins_get I.hok ha
  obtain ⟨od, J, _⟩ := J.look
  obtain ⟨mB, J', _⟩ := ins_get I.hok hb'
  obtain ⟨od', J', _⟩ := J'.look
  refine ne_K (Nat.lt_of_le_of_lt (Nat.add_le_add_left (by decide : 1 ≤ 64) _) hr.units) I.kIn J J'.type hn hm hs hf ?_
  have hl := F.len _ _ _ _ hsp
  have r2 : Vals [V.ref a, V.ref b] [Value.ref a, Value.ref b] := .cons rfl (.cons rfl .nil)
  refine wpAny_call (codeAny_mono (F.run X.A.in1 X.stack s H ⟨[.ref a, .ref b], []⟩ [.ref a, .ref b] [.ref a, .ref b] _ E0 hr.in1 I.env0.in1 (by
    have := hb s [.ref a, .ref b] I.kIn (by simpa using hl)
    simpa using this) r2 hsp) fun r s' hq => ?_)
  cases r with
  | error e => exact (show False from hq).elim
  | ok fl =>
    cases fl with
    | ret w =>
      obtain ⟨z, H', I', rz, k, ez, q⟩ := I.after hq
      subst ez
      cases rz
      exact ⟨k, rfl, .bl (!k), H', I', rfl, q⟩
    | next => exact False.elim hq
    | brk => exact False.elim hq
    | cont => exact False.elim hq
end K1
namespace K1
open PySem PySem.Spec PyProof.Rows L2
/-! ### two readings of one expression, of one rule -/
theorem pe_or2 {X : Cx} {e : Expr} {t u : TE} (a : PE X e t) (b : PE X e u) : PE X e (fun σ H Q => t σ H Q ∨ u σ H Q) := ⟨fun pins s σ H Q I h => h.elim (a.run pins s σ H Q I) (b.run pins s σ H Q I)⟩
theorem op_or2 {X : Cx} {f : Value → Value → Sem Value} {r q : R2} (a : OpR X f r) (b : OpR X f q) : OpR X f (fun x y H Q => r x y H Q ∨ q x y H Q) := fun pins s σ H x y v u Q I rx ry h => h.elim (a pins s σ H x y v u Q I rx ry) (b pins s σ H x y v u Q I rx ry)
theorem call_or2 {X : Cx} {c : Value} {r q : List V → Hp → VK → Prop} (a : CallR X c r) (b : CallR X c q) : CallR X c (fun xs H Q => r xs H Q ∨ q xs H Q) := fun pins s σ H xs us Q I rv h => h.elim (a pins s σ H xs us Q I rv) (b pins s σ H xs us Q I rv)
/-! ### a lambda that captures nothing, as a value -/
def LamO (f c' : Addr) (q : Str) (params : Arguments) (body : Expr) (scope : Scope) : HO := .ext fun h => ∃ (od : Option Addr) (sl : Array (Option Value)) (pm ctv : Value), h.get? f = some (⟨.type "function", od, .func (PySem.W.kla_fn "<lambda>" q params body scope [] pm (.ref c') ctv), sl⟩ : Obj)
theorem lamO_ne {f c' : Addr} {q : Str} {params : Arguments} {body : Expr} {scope : Scope} (ps : Array Value) : LamO f c' q params body scope ≠ .tbl ps := fun z => by
  unfold LamO at z
  cases z
section
variable {X : Cx} {pins : List (Addr × Obj)} {σ : L2.St} {H : Hp} {s : Shared} {params : Arguments} {body : Expr} {scope : Scope}
theorem lamO_at {f c' : Addr} {q : Str} (hok : HOk X.prog X.w H s.heap) (e : H f = some (LamO f c' q params body scope)) : ∃ (od : Option Addr) (sl : Array (Option Value)) (pm ctv : Value), s.heap.get? f = some (⟨.type "function", od, .func (PySem.W.kla_fn "<lambda>" q params body scope [] pm (.ref c') ctv), sl⟩ : Obj) := by
  obtain ⟨z, _, _⟩ := (show ObjOk X.prog X.w H s.heap f (LamO f c' q params body scope) from hok f _ e)
  exact z
theorem inv_lam {q : Str} {c' : Addr} {pm ctv : Value} {t' : Nat} (I : Inv X pins σ H s) :
    Inv X pins σ (upd H s.heap.objs.size (LamO s.heap.objs.size c' q params body scope)) { s with heap := s.heap.push (PySem.W.kla_obj "<lambda>" q params body scope [] pm c' ctv), toks := t' } := by
  refine I.laid (a := s.heap.objs.size) (fun b u e => Heap.get?_push_of_some _ e) (Nat.le_refl _) ?_
  have e : (s.heap.push (PySem.W.kla_obj "<lambda>" q params body scope [] pm c' ctv)).get? s.heap.objs.size = some (PySem.W.kla_obj "<lambda>" q params body scope [] pm c' ctv) := Heap.get?_push_size _ rfl
  exact ⟨⟨_, _, pm, ctv, e⟩, ⟨_, e⟩, fun h1 h2 ⟨od, sl, p, t, z⟩ st => ⟨od, sl, p, t, st _ z⟩⟩
/-- it is made: its code object is new, or found in the table -/
theorem lam_make3 {T : List (Addr × Str)} {c P : Addr} {pos : Pos} {E : Value → Shared → Prop} {Q : Value → Shared → Prop} (I : Inv X pins σ H s) (TB : LamX.TabB X.base X.mg c P) (hcode : X.env.code = .ref c)
    (hm : (P, X.env.qual ++ "<lambda>") ∈ T) (hu : ∀ p ∈ T, p.1 = P → p.2 = X.env.qual ++ "<lambda>") (hT : LamX.Tabs T H) (hdef : defaultsOf params X.env = ([], [])) (hfree : ∀ y ∈ scope.names, y.2 = .free → ∃ c, X.env.cells.lookup y.1 = some c)
    (hcl : cloFrom X.env.cells scope.names [] = [])
    (h : ∀ (f c' : Addr) (H1 : Hp) (s' : Shared), Inv X pins σ H1 s' → LamX.ExtN H H1 → LamX.Tabs T H1 → H f = none → H1 f = some (LamO f c' (X.env.qual ++ "<lambda>") params body scope) → H1 c' = some (LamX.CodeO c' (X.env.qual ++ "<lambda>")) → Q (.ref f) s') :
    wpAny (model X.prog X.w) X.A (eval (.Lambda params body scope pos) X.env) Q E s := by
  obtain ⟨ps, hP, ht, ha⟩ := hT _ hm
  refine PySem.W.kla_eval hdef ?_
  have bP : s.heap.BuiltinsAt X.mg P := TB.bm.keeps I.bk
  have hP' : s.heap.get? P = some { cls := .none, data := .fields ps } := I.hok P _ hP
  cases hc : codeAmong pos ps.toList with
  | none =>
    refine PySem.W.kla_makeFunction (mg := X.mg) (c := c) (P := P) (ps := ps) (closure_ok hfree) I.ok.glob (I.mod.glob.keeps I.bk) hcode (TB.code.keeps I.bk) hP' ht hc TB.gP bP fun c' ctv h' tk hx hge hlt hrec htb => ?_
    obtain ⟨c2, oc, vs, t, e2, hoc, hd, hv⟩ := hrec
    cases e2
    have nC : H c' = none := I.hok.fresh hge
    have I1 := LamX.inv_table (t' := tk) (more := #[rawInt pos.line, rawInt pos.col, .ref c']) (h' := h') I hP (fun b o hb e => hx b o hb e) htb hge ⟨oc, vs, t, hoc, hd, hv⟩
    have hE : LamX.ExtN H (upd (upd H P (.tbl (ps ++ #[rawInt pos.line, rawInt pos.col, .ref c']))) c' (LamX.CodeO c' (X.env.qual ++ "<lambda>"))) := fun b o e n => by
      rw [upd_ne (ne_of_none e nC), upd_ne (fun z => n ps (Option.some.inj (e.symm.trans (by rw [z]; exact hP))))]
      exact e
    have eL : (ps ++ #[rawInt pos.line, rawInt pos.col, .ref c']).toList = ps.toList ++ [rawInt pos.line, rawInt pos.col, .ref c'] := by simp
    have T1 : LamX.Tabs T (upd (upd H P (.tbl (ps ++ #[rawInt pos.line, rawInt pos.col, .ref c']))) c' (LamX.CodeO c' (X.env.qual ++ "<lambda>"))) := fun p hp => by
      by_cases hb : p.1 = P
      · rw [hu p hp hb, hb]
        refine ⟨_, by rw [upd_ne (ne_of_none hP nC), upd_same], by rw [eL]; exact PySem.TriplesOk_snoc _ _ _ _ ht, fun p' cv hcv => ?_⟩
        rw [eL] at hcv
        rcases LamX.among_app _ ht hcv with z | z
        · obtain ⟨c0, e1, e2⟩ := ha p' cv z
          exact ⟨c0, e1, hE _ _ e2 LamX.codeO_ne⟩
        · exact ⟨c', z, upd_same⟩
      · obtain ⟨ps', a1, a2, a3⟩ := hT p hp
        refine ⟨ps', by rw [upd_ne (ne_of_none a1 nC), upd_ne hb]; exact a1, a2, fun p' cv hcv => ?_⟩
        obtain ⟨c0, e1, e2⟩ := a3 p' cv hcv
        exact ⟨c0, e1, hE _ _ e2 LamX.codeO_ne⟩
    have nF := I1.hok.fresh (Nat.le_refl _)
    have I2 := inv_lam (q := X.env.qual ++ "<lambda>") (c' := c') (params := params) (body := body) (scope := scope) (pm := (X.mg "__name__").getD .none) (ctv := ctv) (t' := tk) I1
    rw [hcl]
    refine h h'.objs.size c' _ _ I2 (fun b o e n => ?_) (T1.ext fun b o e => ?_) (I.hok.fresh (Nat.le_trans hge (Nat.le_of_lt hlt))) upd_same ?_
    · have e1 := hE b o e n
      exact (upd_ne (ne_of_none e1 nF)).trans e1
    · exact (upd_ne (ne_of_none e nF)).trans e
    · have e1 : (upd (upd H P (.tbl (ps ++ #[rawInt pos.line, rawInt pos.col, .ref c']))) c' (LamX.CodeO c' (X.env.qual ++ "<lambda>"))) c' = some (LamX.CodeO c' (X.env.qual ++ "<lambda>")) := upd_same
      exact (upd_ne (ne_of_none e1 nF)).trans e1
  | some cv =>
    obtain ⟨c', e, hco⟩ := ha pos cv hc
    subst e
    refine PySem.W.kla_makeFunctionHit (mg := X.mg) (c := c) (P := P) (ps := ps) (closure_ok hfree) I.ok.glob (I.mod.glob.keeps I.bk) hcode (TB.code.keeps I.bk) hP' ht hc bP fun ctv h' tk hx hsz => ?_
    have I1 : Inv X pins σ H { s with heap := h', toks := tk } := I.kept fun b o e => hx b o e
    have nF : H h'.objs.size = none := I.hok.fresh hsz
    have I2 := inv_lam (q := X.env.qual ++ "<lambda>") (c' := c') (params := params) (body := body) (scope := scope) (pm := (X.mg "__name__").getD .none) (ctv := ctv) (t' := tk) I1
    rw [hcl]
    refine h h'.objs.size c' _ _ I2 (fun b o e n => (upd_ne (ne_of_none e nF)).trans e) (hT.ext fun b o e => (upd_ne (ne_of_none e nF)).trans e) nF upd_same ((upd_ne (ne_of_none hco nF)).trans hco)
end
section
variable {X : Cx} {params : Arguments} {body : Expr} {scope : Scope}
def tLamV (T : List (Addr × Str)) (qn : Str) (params : Arguments) (body : Expr) (scope : Scope) : TE := fun _ H Q => LamX.Tabs T H ∧ ∀ (f c' : Addr) (H1 : Hp), LamX.ExtN H H1 → LamX.Tabs T H1 → H f = none → H1 f = some (LamO f c' qn params body scope) → H1 c' = some (LamX.CodeO c' qn) → Q (.ref f) H1
theorem pe_lamV {c P : Addr} {qn : Str} {pos : Pos} (TB : LamX.TabB X.base X.mg c P) (hcode : X.env.code = .ref c) (hq : X.env.qual ++ "<lambda>" = qn) (hdef : defaultsOf params X.env = ([], [])) (hfree : ∀ y ∈ scope.names, y.2 ≠ .free)
    (hcl : cloFrom X.env.cells scope.names [] = []) : PE X (.Lambda params body scope pos) (tLamV [(P, qn)] qn params body scope) := by
  subst hq
  refine ⟨fun pins s σ H Q I h => ?_⟩
  obtain ⟨hT, h⟩ := h
  exact lam_make3 I TB hcode List.mem_cons_self (fun p hp _ => by rw [List.mem_singleton.mp hp]) hT hdef (fun y hy e => absurd e (hfree y hy)) hcl fun f c' H1 s' I1 eN T1 hn hf hc => ⟨.ref f, H1, I1, rfl, h f c' H1 eN T1 hn hf hc⟩
/-- the context of its body -/
theorem run_lam {CX : CXT} {k : Nat} {f c' : Addr} {q : Str} {N ps : List Str} {tb : XK → TE} {pins : List (Addr × Obj)} {σ : L2.St} {H : Hp} {s : Shared} {Q : VK} {E : XK} {us : List Value} {vs : List V} (I : Inv X pins σ H s) (hf : H f = some (LamO f c' q params body scope)) (hc : H c' = some (LamX.CodeO c' q))
    (S : FnScope N ps scope) (hbind : ∀ (pm ctv : Value) (us : List Value), us.length = ps.length → bindArgs (PySem.W.kla_fn "<lambda>" q params body scope [] pm (.ref c') ctv) ⟨us, []⟩ = pure (ps.zip us)) (hr : Room (k + 1) X.A) (hx : Passes CX X E) (r : Vals vs us) (hl : vs.length = ps.length)
    (hbody : ∀ (A : Around) (outer : List Env) (s : Shared) (H : Hp) (E : XK), Room k (A.deeper (envOfC q scope s.heap.objs.size f (.ref c'))) → PE (cxOf CX X.prog X.w X.K X.mg X.base N q scope f (.ref c') A outer s H E) body (tb E))
    (ht : tb E (L2.start N vs) H Q) : wpAny (model X.prog X.w) X.A (call (.ref f) us) (EP X pins σ Q) X.xe s := by
  obtain ⟨od, sl, pm, ctv, ho⟩ := lamO_at I.hok hf
  obtain ⟨⟨oc, cvs, tk, hoc, hdc, hvc⟩, _, _⟩ := I.hok c' _ hc
  have hlu : us.length = ps.length := by rw [← r.length]; exact hl
  have hkind : ∀ y ∈ ps.zip us, scope.names.lookup y.1 = some .local ∨ (scope.names.lookup y.1 = some .cell ∧ ((cellsFrom (s.heap.objs.size + 1) scope.names []).lookup y.1).isSome = true) := fun ⟨n, v⟩ hy => by
    rcases S.par n (List.of_mem_zip hy).1 with q | q
    · exact .inl q
    · exact .inr ⟨q, PySem.W.cellsFrom_some _ _ _ (.inl q)⟩
  have rc : codeAny (model X.prog X.w) X.A (.call (.ref f) ⟨us, []⟩) (CR CX X.stack X.prog X.w H s Q E) s := by
    refine PySem.W.kla_callFunE hr.depth ho rfl S.co S.gen rfl ⟨c', oc, cvs, tk, rfl, hoc, hdc, hvc⟩ ?_
    rw [hbind pm ctv us hlu]
    refine wpAny_pure (wpAny_newFunctionEnv_cells S.kind hkind fun env he s1 x => ?_)
    subst he
    refine ⟨I.nolimit.keeps x.toInCall.keep, ?_⟩
    have J : Inv (cxOf CX X.prog X.w X.K X.mg X.base N q scope f (.ref c') X.A X.stack s H E) [] (L2.start N vs) H s1 := inv_start S hr.hd I.env0 hl r x
    refine PySem.W.kla_codeExpr (wpAny_mono ((hbody _ _ s H E (hr.deeper _)).run [] s1 (L2.start N vs) H Q J ht) (fun v s' hq => ?_) fun e s' hq => hq)
    obtain ⟨w', H', J', rv, q⟩ := hq
    exact ⟨w', H', J'.os, J'.bare, J'.base, J'.hok, rv, q⟩
  refine wpAny_call (codeAny_mono rc fun r s' hq => ?_)
  cases r with
  | error e => exact hx pins σ H s e s' I hq
  | ok fl =>
    cases fl with
    | ret u => exact I.after hq
    | next => exact False.elim hq
    | brk => exact False.elim hq
    | cont => exact False.elim hq
/-- x(e, ..), x a slot that holds it -/
theorem pe_callLam {CX : CXT} {k i : Nat} {q x : Str} {N ps : List Str} {tb : XK → TE} {E : XK} {p pos : Pos} {e : Expr} {es : List Expr} {t : TA} (S : FnScope N ps scope) (hbind : ∀ (pm cv ctv : Value) (us : List Value), us.length = ps.length → bindArgs (PySem.W.kla_fn "<lambda>" q params body scope [] pm cv ctv) ⟨us, []⟩ = pure (ps.zip us))
    (hr : Room (k + 1) X.A) (hx : Passes CX X E) (hN : X.N[i]? = some x) (hv : Vis X.env.scope x) (ha : PA X (e :: es) t)
    (hbody : ∀ (f c' : Addr) (A : Around) (outer : List Env) (s : Shared) (H : Hp) (E : XK), Room k (A.deeper (envOfC q scope s.heap.objs.size f (.ref c'))) → PE (cxOf CX X.prog X.w X.K X.mg X.base N q scope f (.ref c') A outer s H E) body (tb E))
    (hd : (x == ("__debug__" : Str)) = false := by decide) (hcd : (x == ("__classdict__" : Str)) = false := by decide)
    (he : starEach (e :: es) X.env = (false, eval e X.env) :: starEach es X.env := by rfl) (hpl : (backTo pos (starEach es X.env)).any (·.1) = false := by rfl) :
    PE X (.Call (.Name x p) (e :: es) [] pos) (fun σ H Q => ∃ f c', σ[i]? = some (some (.ref f)) ∧ H f = some (LamO f c' q params body scope) ∧ t σ H fun vs H1 => vs.length = ps.length ∧ H1 f = some (LamO f c' q params body scope) ∧ H1 c' = some (LamX.CodeO c' q) ∧ tb E (L2.start N vs) H1 Q) := by
  refine ⟨fun pins s σ H Q I h => ?_⟩
  obtain ⟨f, c', hs, hf, ht⟩ := h
  refine wpAny_Call_Name_kw (thn ((pe_var (pos := p) hN hv hd hcd).run pins s σ H (fun v H1 => v = .ref f ∧ H1 = H) I ⟨.ref f, hs, rfl, rfl⟩) fun u s1 ⟨v, H1, I1, r1, q1⟩ => ?_)
  obtain ⟨ev, eH⟩ := q1
  subst ev
  rw [eH] at I1
  obtain rfl : u = Value.ref f := r1
  have fnA : ∀ {σ' H' s'}, Inv X pins σ' H' s' → H' f = some (LamO f c' q params body scope) → PySem.W.FnAt f s'.heap := fun {σ' H' s'} I' e => by
    obtain ⟨od, sl, pm, ctv, ho⟩ := lamO_at I'.hok e
    exact ⟨_, od, _, sl, ho⟩
  refine PySem.W.callWith_F (first := []) (fnA I1 hf) (thn (ha.run pos pins s1 σ H _ I1 ht) fun us s2 ⟨vs, H2, I2, r, hl, h1, h2, hb⟩ => ⟨fnA I2 h1, ?_⟩) he hpl
  show wpAny _ _ (call (.ref f) us) _ _ _
  exact run_lam I2 h1 h2 S (fun pm ctv us hl => hbind pm _ ctv us hl) hr hx r hl (hbody f c') hb
end
end K1
namespace K1
open PySem PySem.Spec PyProof.Rows L2
/-! ### rules with the fragment told -/
theorem neD {X : Cx} {K : PySem.W.Frag} (h : X.K = K) (hu : X.A.units + 64 < cLine) : OpR X (compareOp .NotEq) (rNeD K) := by
  subst h
  exact op_neD hu
theorem eqD {X : Cx} {K : PySem.W.Frag} (h : X.K = K) (hu : X.A.units + 64 < cLine) : OpR X (compareOp .Eq) (rEqD K) := by
  subst h
  exact op_eqD hu
def rList (K : PySem.W.Frag) : List V → Hp → VK → Prop := fun xs H Q => ∃ p ys, xs = [.ref p] ∧ (SqL K H p ys ∨ SqT K H p ys) ∧ ∀ l, H l = none → Q (.ref l) (upd H l (.lst ys))
theorem clist {X : Cx} {K : PySem.W.Frag} (h : X.K = K) : CallR X (.type "list") (rList K) := by
  subst h
  exact call_list_of
theorem slL {X : Cx} {K : PySem.W.Frag} (h : X.K = K) : SlR X (rSlL K) := by
  subst h
  exact sl_list
theorem piL {X : Cx} {K : PySem.W.Frag} {tg l : Expr} {tl : TE} (h : X.K = K) (hl : PE X l tl) : PI X tg l (iList K tl) := by
  subst h
  exact pi_list hl
theorem cut_to {xs : List V} {k : Nat} (h : k ≤ xs.length) : cutV xs none (some (k : Int)) = xs.take k := by
  unfold cutV
  rw [HT.sIx_nat, HT.sIx_none, Nat.min_eq_left h]; rfl
theorem cut_from {xs : List V} {k : Nat} (h : k ≤ xs.length) : cutV xs (some (k : Int)) none = xs.drop k := by
  unfold cutV
  rw [HT.sIx_nat, HT.sIx_none, Nat.min_eq_left h, ← List.length_drop, List.take_length]
/-! ### what stays behind a heard call: all but the source and the tables of code -/
section
variable {b : Addr} {T : List (Addr × Str)} {H H1 H2 : Hp}
def Rl (b : Addr) (T : List (Addr × Str)) (H H' : Hp) : Prop := BoxO H' b ∧ LamX.Tabs T H' ∧ ∀ c o, H c = some o → c ≠ b → (∀ ps, o ≠ .tbl ps) → H' c = some o
theorem Rl.refl (hb : BoxO H b) (t : LamX.Tabs T H) : Rl b T H H := ⟨hb, t, fun _ _ e _ _ => e⟩
theorem Rl.trans (a : Rl b T H H1) (c : Rl b T H1 H2) : Rl b T H H2 := ⟨c.1, c.2.1, fun d o e n1 n2 => c.2.2 d o (a.2.2 d o e n1 n2) n1 n2⟩
theorem Rl.same (a : Rl b T H H1) (s : Same H1 H2) : Rl b T H H2 := ⟨a.1.same s, a.2.1.ext s, fun c o e n1 n2 => s _ _ (a.2.2 c o e n1 n2)⟩
theorem Rl.new {p : Addr} {o : HO} (a : Rl b T H H1) (hp : H1 p = none) : Rl b T H (upd H1 p o) := a.same (same_new hp)
theorem tabs_bx (t : LamX.Tabs T H1) (hb : BoxO H1 b) (x : Bx b H1 H2) : LamX.Tabs T H2 := fun p hp => by
  obtain ⟨ps, h1, h2, h3⟩ := t p hp
  refine ⟨ps, x.2 _ _ h1 (hb.ne h1 fun xs => by intro z; cases z), h2, fun pos cv hc => ?_⟩
  obtain ⟨c, e1, e2⟩ := h3 pos cv hc
  exact ⟨c, e1, x.2 _ _ e2 (hb.ne e2 fun xs => by intro z; unfold LamX.CodeO at z; cases z)⟩
theorem Rl.bx (a : Rl b T H H1) (x : Bx b H1 H2) : Rl b T H H2 := ⟨x.1, tabs_bx a.2.1 a.1 x, fun c o e n1 n2 => x.2 _ _ (a.2.2 c o e n1 n2) n1⟩
theorem BoxO.ext (h : BoxO H1 b) (e : LamX.ExtN H1 H2) : BoxO H2 b := let ⟨x, y, z, q⟩ := h; ⟨x, y, z, e _ _ q (fun ps z => by cases z)⟩
theorem Rl.ext (a : Rl b T H H1) (e : LamX.ExtN H1 H2) (t : LamX.Tabs T H2) : Rl b T H H2 := ⟨a.1.ext e, t, fun c o q n1 n2 => e _ _ (a.2.2 c o q n1 n2) n2⟩
theorem Rl.tup {c : Addr} {xs : List V} (a : Rl b T H H1) (hb : BoxO H b) (h : H c = some (.tup xs)) : H1 c = some (.tup xs) := a.2.2 _ _ h (hb.ne h fun xs => by intro z; cases z) (fun ps z => by cases z)
theorem Rl.lst {c : Addr} {xs : List V} (a : Rl b T H H1) (n : c ≠ b) (h : H c = some (.lst xs)) : H1 c = some (.lst xs) := a.2.2 _ _ h n (fun ps z => by cases z)
theorem Rl.tabL {p : Addr} {ts : List (List V)} (a : Rl b T H H1) (hb : BoxO H b) (n : p ≠ b) (h : TabL H p ts) : TabL H1 p ts :=
  let ⟨as, h1, h2, h3⟩ := h
  ⟨as, a.lst n h1, h2, fun i c t e1 e2 => a.tup hb (h3 i c t e1 e2)⟩
theorem Rl.mach {M m ta : Addr} {ts : List (List V)} (a : Rl b T H H1) (hb : BoxO H b) (h : MachAt M H m ta ts) : MachAt M H1 m ta ts :=
  let ⟨⟨dx, t0, h0, h1⟩, as, k1, k2, k3⟩ := h
  ⟨⟨dx, t0, h0, a.2.2 _ _ h1 (hb.ne h1 fun xs => by intro z; cases z) (fun ps z => by cases z)⟩, as, a.tup hb k1, k2, fun i c t e1 e2 => a.tup hb (k3 i c t e1 e2)⟩
theorem BoxO.nn {p : Addr} (h : BoxO H b) (hp : H p = none) : p ≠ b := (Bx.refl h).ne hp
end
/-! ### what the ear tells, compared -/
theorem ear {K : PySem.W.Frag} {Q : VK} {p p2 : Addr} {H : Hp} {vs : List V} {ds : List PyData} (h1 : H p = some (.tup vs)) (h2 : H p2 = some (.tup vs)) (hd : DpAll K H vs ds) (lay : PyData.canLay0 (.tuple ds) = true) (sh : SeqAt.shaped (.tuple ds) = true) (q : Q (.bl false) H) : rNeD K (.ref p) (.ref p2) H Q :=
  ⟨_, _, .tup (SqT.of h1) hd, .tup (SqT.of h2) hd, sh, sh, qbl (by rw [SeqAt.eqv_refl _ lay]; rfl) q⟩
theorem lay3 {x : Str} (hx : PyData.strOk x = true) (i : Int) (b : Bool) : PyData.canLay0 (.tuple [.str x, .int i, .bool b]) = true := by simp only [PyData.canLay0, PyData.canLayAll0, Bool.and_self, hx]
theorem sh3 {x : Str} (hx : PyData.strOk x = true) (i : Int) (b : Bool) : SeqAt.shaped (.tuple [.str x, .int i, .bool b]) = true := by
  unfold SeqAt.shaped
  rw [lay3 hx]
  simp only [PyData.depth, PyData.depthAll]
  exact (by decide : (true && decide (max 0 (max 0 (max 0 0)) + 1 ≤ 64)) = true)
theorem lay2 {x y : Str} (hx : PyData.strOk x = true) (hy : PyData.strOk y = true) : PyData.canLay0 (.tuple [.str x, .str y]) = true := by simp only [PyData.canLay0, PyData.canLayAll0, Bool.and_self, hx, hy]
theorem sh2 {x y : Str} (hx : PyData.strOk x = true) (hy : PyData.strOk y = true) : SeqAt.shaped (.tuple [.str x, .str y]) = true := by
  unfold SeqAt.shaped
  rw [lay2 hx hy]
  simp only [PyData.depth, PyData.depthAll]
  exact (by decide : (true && decide (max 0 (max 0 0) + 1 ≤ 64)) = true)
theorem ear3 {K : PySem.W.Frag} {Q : VK} {p p2 : Addr} {H : Hp} {x : Str} {i : Int} {b : Bool} (hx : PyData.strOk x = true) (h1 : H p = some (.tup [.str x, .int i, .bl b])) (h2 : H p2 = some (.tup [.str x, .int i, .bl b])) (q : Q (.bl false) H) : rNeD K (.ref p) (.ref p2) H Q :=
  ear h1 h2 (.cons (.str x) (.cons (.int i) (.cons (.bl b) .nil))) (lay3 hx i b) (sh3 hx i b) q
theorem ear2 {K : PySem.W.Frag} {Q : VK} {p p2 : Addr} {H : Hp} {x y : Str} (hx : PyData.strOk x = true) (hy : PyData.strOk y = true) (h1 : H p = some (.tup [.str x, .str y])) (h2 : H p2 = some (.tup [.str x, .str y])) (q : Q (.bl false) H) : rNeD K (.ref p) (.ref p2) H Q :=
  ear h1 h2 (.cons (.str x) (.cons (.str y) .nil)) (lay2 hx hy) (sh2 hx hy) q
/-- no state, no deed, as a text too -/
def OdS (lim : Int) (v : V) : Prop := belowB v lim = false ∧ (∀ (K : PySem.W.Frag) (H : Hp), KV K H v none) ∧ ∃ x, PyData.strOk x = true ∧ RS v x
theorem tx_ok : ∀ i : Fin 13, PyData.strOk (Str.ofString (toString ((i : Nat) : Int))) = true := by decide +kernel
theorem tx_lim {lim : Int} (h0 : 0 ≤ lim) (h1 : lim ≤ 12) : PyData.strOk (Str.ofString (toString lim)) = true := by
  have z := tx_ok ⟨lim.toNat, by omega⟩
  have e : ((lim.toNat : Nat) : Int) = lim := by omega
  simp only [e] at z
  exact z
theorem odS_of {lim : Int} {v : V} (h0 : 0 ≤ lim) (h1 : lim ≤ 12) (h : v ∈ [V.int lim, .int (-1), .bl true, .non, .str "0"]) : OdS lim v := by
  have si : ∀ i : Int, i.natAbs ≤ 1000 → PyData.strOk (Str.ofString (toString i)) = true → ∃ x, PyData.strOk x = true ∧ RS (.int i) x := fun i hi ok => ⟨toString i, ok, fun H Q q => ⟨_, rfl, .inr (.inr (.inl ⟨i, rfl, by
    by_cases z : i.natAbs = 0
    · rw [z]; decide
    · have : i.natAbs.log2 < 10 := (Nat.log2_lt z).mpr (by omega)
      omega, q⟩))⟩⟩
  simp only [List.mem_cons, List.mem_nil_iff, or_false] at h
  rcases h with rfl | rfl | rfl | rfl | rfl
  · exact ⟨by show (decide (0 ≤ lim) && decide (lim < lim)) = false; rw [decide_eq_false (show ¬ lim < lim by omega), Bool.and_false], fun K H => .int _, si _ (by omega) (tx_lim h0 h1)⟩
  · exact ⟨rfl, fun K H => .int _, si _ (by decide) (by decide +kernel)⟩
  · exact ⟨rfl, fun K H => .bl _, "True", by decide +kernel, fun H Q q => ⟨_, rfl, .inr (.inl ⟨true, rfl, q⟩)⟩⟩
  · exact ⟨rfl, fun K H => .non, "None", by decide +kernel, fun H Q q => ⟨_, rfl, .inl ⟨rfl, q⟩⟩⟩
  · exact ⟨rfl, fun K H => .str _, reprText "0", by decide +kernel, fun H Q q => ⟨_, rfl, .inr (.inr (.inr ⟨"0", rfl, by decide +kernel, q⟩))⟩⟩
/-! ### tables handed to Machine -/
theorem TabL.mv {K : PySem.W.Frag} {H : Hp} {p : Addr} {ts : Ts} (h : TabL H p (vts ts)) : Mv K H (.ref p) (some ((vts ts).map some)) := by
  obtain ⟨as, h1, h2, h3⟩ := h
  refine .yes (xs := as.map V.ref) (.lst h1) ⟨by rw [List.length_map, List.length_map, h2], fun i x r e1 e2 => ?_⟩
  rw [List.getElem?_map] at e1 e2
  cases ea : as[i]? with
  | none => rw [ea] at e1; cases e1
  | some a =>
    cases et : (vts ts)[i]? with
    | none => rw [et] at e2; cases e2
    | some t =>
      rw [ea] at e1
      rw [et] at e2
      obtain rfl : V.ref a = x := Option.some.inj e1
      obtain rfl : some t = r := Option.some.inj e2
      refine ⟨.tup (h3 i a t ea et), fun ys e y hy => ?_⟩
      obtain rfl : t = ys := Option.some.inj e
      rw [vts, List.getElem?_map] at et
      cases e3 : ts[i]? with
      | none => rw [e3] at et; cases et
      | some t' =>
        rw [e3] at et
        obtain rfl : vrow t' = t := Option.some.inj et
        obtain ⟨j, _, rfl⟩ := List.mem_map.mp hy
        exact ⟨_, .int j⟩
theorem isTab_row {t : List Int} {n : Nat} (hl : t.length = n) (h : ∀ i ∈ t, 0 ≤ i ∧ i < (n : Int)) : isTab (some (vrow t)) (n : Int) = true := by
  show (seqB (some (vrow t)) (n : Int) (n : Int) && decide (fnb (vrow t) (n : Int) = V.non)) = true
  have e1 : seqB (some (vrow t)) (n : Int) (n : Int) = true := by
    show (decide ((n : Int) ≤ ((vrow t).length : Int)) && decide (((vrow t).length : Int) ≤ (n : Int))) = true
    rw [vrow, List.length_map, hl]
    simp
  rw [e1, fnb_all fun x hx => ?_]; rfl
  obtain ⟨i, hi, rfl⟩ := List.mem_map.mp hx
  obtain ⟨h1, h2⟩ := h i hi
  show (decide (0 ≤ i) && decide (i < (n : Int))) = true
  rw [decide_eq_true h1, decide_eq_true h2]; rfl
theorem chk_wf {ts : Ts} (w : Wf ts) : chkAt (some ((vts ts).map some)) = none := by
  have h1 := w.t1; have h8 := w.t8; have s1 := w.s1; have s12 := w.s12
  have e0 : ((vts ts).map some)[0]? = some (some (vrow ts[0])) := by
    rw [vts, List.map_map, List.getElem?_map, List.getElem?_eq_getElem (by omega)]; rfl
  have el : (vrow ts[0]).length = nS ts := by
    rw [vrow, List.length_map]
    exact (w.row _ (List.getElem_mem _)).1
  show (if ((vts ts).map some).length < 1 ∨ 8 < ((vts ts).map some).length then some (-1) else _) = _
  rw [if_neg (by simp only [vts, List.length_map]; omega), e0]
  show (if (vrow ts[0]).length < 1 ∨ 12 < (vrow ts[0]).length then some 0 else _) = _
  rw [if_neg (by omega), find_none fun j y _ hy => ?_]; rfl
  rw [vts, List.map_map, List.getElem?_map] at hy
  cases e : ts[j]? with
  | none => rw [e] at hy; cases hy
  | some t =>
    rw [e] at hy
    obtain rfl : some (vrow t) = y := Option.some.inj hy
    obtain ⟨r1, r2⟩ := w.row t (List.mem_of_getElem? e)
    rw [el, isTab_row r1 r2]; rfl
theorem mkS {H H' : Hp} {m dx : Addr} {o1 o2 : HO} (hm : H m = none) (hd : H dx = none) (k : ∀ b u, (upd (upd H dx o1) m o2) b = some u → b ≠ m → H' b = some u) : Same H H' := fun c o e =>
  k c o (by rw [upd_ne (ne_of_none e hm), upd_ne (ne_of_none e hd)]; exact e) (ne_of_none e hm)
theorem TabL.row {H : Hp} {p : Addr} {ts : Ts} (h : TabL H p (vts ts)) {i : Nat} {t : List Int} (e : ts[i]? = some t) : ∃ (as : List Addr) (a : Addr), H p = some (.lst (as.map V.ref)) ∧ as.length = ts.length ∧ as[i]? = some a ∧ H a = some (.tup (vrow t)) := by
  obtain ⟨as, h1, h2, h3⟩ := h
  have la : as.length = ts.length := by rw [h2, vts, List.length_map]
  have hi : i < as.length := by rw [la]; exact (List.getElem?_eq_some_iff.mp e).1
  exact ⟨as, as[i], h1, la, List.getElem?_eq_getElem hi, h3 i _ _ (List.getElem?_eq_getElem hi) (by rw [vts, List.getElem?_map, e]; rfl)⟩
theorem map_some : ∀ {a b : List (List V)}, a.map some = b.map some → a = b
  | [], [], _ => rfl
  | [], _ :: _, h => by cases h
  | _ :: _, [], h => by cases h
  | x :: a, y :: b, h => by
    rw [List.map_cons, List.map_cons] at h
    injection h with h1 h2
    rw [Option.some.inj h1, map_some h2]
theorem neV {x : V} {Q : VK} {H : Hp} (hs : scal x x = true) (q : Q (.bl false) H) : rNe x x H Q := ⟨hs, qbl (by rw [decide_eq_true rfl]; rfl) q⟩
theorem log_sm {i : Int} (h0 : 0 ≤ i) (h1 : i ≤ 1000) : i.natAbs.log2 < 1920 := by
  by_cases z : i.natAbs = 0
  · rw [z]; decide
  · have : i.natAbs.log2 < 10 := (Nat.log2_lt z).mpr (by omega)
    omega
theorem reprI {i : Int} {H : Hp} {Q : VK} (h0 : 0 ≤ i) (h1 : i ≤ 1000) (q : Q (.str (toString i)) H) : rReprS [.int i] H Q := ⟨_, rfl, .inr (.inr (.inl ⟨i, rfl, log_sm h0 h1, q⟩))⟩
theorem pl_row {t : List Int} {n : Nat} (hl : t.length ≤ 1000) (h : ∀ i ∈ t, 0 ≤ i ∧ i < (n : Int)) (hn : n ≤ 1000) : Pl (.tuple (dI t)) 1 65000 :=
  (Pl.tuple (pla_ints t fun i hi => by have := h i hi; omega)).mono (Nat.le_refl _) (by have : t.length * 65 ≤ 1000 * 65 := Nat.mul_le_mul_right _ hl; omega)
theorem reprP {K : PySem.W.Frag} {p : Addr} {d : PyData} {n w : Nat} {H : Hp} {Q : VK} (hd : Dp K H (.ref p) d) (pl : Pl d n w) (hn : n ≤ 40) (hw : w ≤ 100000) (q : Q (.str d.shown) H) : rRepr K [.ref p] H Q := ⟨p, d, rfl, hd, pl.sh, pl.nd, Nat.le_trans pl.dp hn, pl.short hw, q⟩
theorem eqP {K : PySem.W.Frag} {p p2 : Addr} {d : PyData} {n w : Nat} {H : Hp} {Q : VK} (h1 : Dp K H (.ref p) d) (h2 : Dp K H (.ref p2) d) (pl : Pl d n w) (hn : n ≤ 40) (q : Q (.bl false) H) : rNeD K (.ref p) (.ref p2) H Q :=
  ⟨d, d, h1, h2, pl.shaped hn, pl.shaped hn, qbl (by rw [SeqAt.eqv_refl _ pl.lay]; rfl) q⟩
/-- nothing leaves -/
theorem passF {X : Cx} : Passes (L2.CX X.prog X.w) X (fun _ _ _ => False) := passes_call LamX.takes0 fun _ _ _ _ h => h
theorem nilP {σ : L2.St} {H : Hp} {Q : List V → Hp → Prop} (h : Q [] H) : tNil σ H Q := h
theorem cP {v : V} {σ : L2.St} {H : Hp} {Q : VK} (h : Q v H) : tC v σ H Q := h
theorem earI {K : PySem.W.Frag} {Q : VK} {p p2 : Addr} {H : Hp} {i j : Int} (h1 : H p = some (.tup [.int i, .int j])) (h2 : H p2 = some (.tup [.int i, .int j])) (q : Q (.bl false) H) : rNeD K (.ref p) (.ref p2) H Q :=
  ear h1 h2 (.cons (.int i) (.cons (.int j) .nil)) (by simp only [PyData.canLay0, PyData.canLayAll0, Bool.and_self]) (by
    unfold SeqAt.shaped
    rw [show PyData.canLay0 (.tuple [.int i, .int j]) = true by simp only [PyData.canLay0, PyData.canLayAll0, Bool.and_self]]
    simp only [PyData.depth, PyData.depthAll]
    exact (by decide : (true && decide (max 0 (max 0 0) + 1 ≤ 64)) = true)) q
theorem st_row : PyData.strOk "row" = true := by decide +kernel
theorem st_sta : PyData.strOk "state" = true := by decide +kernel
theorem st_not : PyData.strOk "not" = true := by decide +kernel
/-! ### what the ear hears -/
section
variable {CU CR CS : Addr} {Q : VK} {H : Hp} {v : V} {x : Str}
theorem heU {x a b : Int} (k : ∀ p t H', Same H H' → H' t = some (.tup [.int x, .int a, .int b]) → H' p = some (.tup [.str "not", .ref t, .bl true]) → Q (.ref p) H') : RzU CU x a b H (HE CU CR CS Q) := fun d H' sm hd hx => ⟨d, rfl, .inl ⟨rfl, _, _, _, hx, fun p t H'' s2 ht hp => k p t H'' (sm.trans s2) ht hp⟩⟩
theorem heS (rs : RS v x) (k : ∀ p H', Same H H' → H' p = some (.tup [.str "state", .str x]) → Q (.ref p) H') : Rz CS "state" v H (HE CU CR CS Q) := fun d H' sm hd hx => ⟨d, rfl, .inr (.inl ⟨rfl, v, hx, x, rs, fun p H'' s2 hp => k p H'' (sm.trans s2) hp⟩)⟩
theorem heR (k : ∀ p H', Same H H' → H' p = some (.tup [.str "row", v]) → Q (.ref p) H') : Rz CR "at" v H (HE CU CR CS Q) := fun d H' sm hd hx => ⟨d, rfl, .inr (.inr ⟨rfl, v, hx, fun p H'' s2 hp => k p H'' (sm.trans s2) hp⟩)⟩
end
theorem earN {K : PySem.W.Frag} {Q : VK} {p p2 t t2 : Addr} {H : Hp} {x a b : Int} (h1 : H p = some (.tup [.str "not", .ref t, .bl true])) (ht : H t = some (.tup [.int x, .int a, .int b])) (h2 : H p2 = some (.tup [.str "not", .ref t2, .bl true])) (ht2 : H t2 = some (.tup [.int x, .int a, .int b])) (q : Q (.bl false) H) : rNeD K (.ref p) (.ref p2) H Q := by
  have lay : PyData.canLay0 (.tuple [.str "not", .tuple (dI [x, a, b]), .bool true]) = true := by
    simp only [PyData.canLay0, PyData.canLayAll0, dI, List.map, Bool.and_self, st_not]
  have sh : SeqAt.shaped (.tuple [.str "not", .tuple (dI [x, a, b]), .bool true]) = true := by
    unfold SeqAt.shaped
    rw [lay]
    simp only [PyData.depth, PyData.depthAll, dI, List.map]
    decide
  exact ⟨_, _, .tup (SqT.of h1) (.cons (.str _) (.cons (dp_tup (t := [x, a, b]) ht) (.cons (.bl true) .nil))), .tup (SqT.of h2) (.cons (.str _) (.cons (dp_tup (t := [x, a, b]) ht2) (.cons (.bl true) .nil))), sh, sh, qbl (by rw [SeqAt.eqv_refl _ lay]; rfl) q⟩
theorem earSI {K : PySem.W.Frag} {Q : VK} {p p2 : Addr} {H : Hp} {x : Str} {i : Int} (hx : PyData.strOk x = true) (h1 : H p = some (.tup [.str x, .int i])) (h2 : H p2 = some (.tup [.str x, .int i])) (q : Q (.bl false) H) : rNeD K (.ref p) (.ref p2) H Q := by
  have lay : PyData.canLay0 (.tuple [.str x, .int i]) = true := by simp only [PyData.canLay0, PyData.canLayAll0, Bool.and_self, hx]
  have sh : SeqAt.shaped (.tuple [.str x, .int i]) = true := by
    unfold SeqAt.shaped
    rw [lay]
    simp only [PyData.depth, PyData.depthAll]
    exact (by decide : (true && decide (max 0 (max 0 0) + 1 ≤ 64)) = true)
  exact ear h1 h2 (.cons (.str x) (.cons (.int i) .nil)) lay sh q
theorem earIE {K : PySem.W.Frag} {Q : VK} {p p2 : Addr} {H : Hp} {i j : Int} (h1 : H p = some (.tup [.int i, .int j])) (h2 : H p2 = some (.tup [.int i, .int j])) (q : Q (.bl true) H) : rEqD K (.ref p) (.ref p2) H Q := by
  have lay : PyData.canLay0 (.tuple [.int i, .int j]) = true := by simp only [PyData.canLay0, PyData.canLayAll0, Bool.and_self]
  have sh : SeqAt.shaped (.tuple [.int i, .int j]) = true := by
    unfold SeqAt.shaped
    rw [lay]
    simp only [PyData.depth, PyData.depthAll]
    exact (by decide : (true && decide (max 0 (max 0 0) + 1 ≤ 64)) = true)
  exact ⟨_, _, .tup (SqT.of h1) (.cons (.int i) (.cons (.int j) .nil)), .tup (SqT.of h2) (.cons (.int i) (.cons (.int j) .nil)), sh, sh, qbl (SeqAt.eqv_refl _ lay) q⟩
/-! ### papers shown and compared -/
theorem PapV.same {H H' : Hp} {u : V} {r : Option (Int × Int × Int)} (h : PapV H u r) (s : Same H H') : PapV H' u r := by
  match r, h with
  | none, h => exact h
  | some (x, a, b), ⟨p, e, hp⟩ => exact ⟨p, e, s _ _ hp⟩
theorem PapV.rl {b : Addr} {T : List (Addr × Str)} {H H' : Hp} {u : V} {r : Option (Int × Int × Int)} (h : PapV H u r) (hb : BoxO H b) (s : Rl b T H H') : PapV H' u r := by
  match r, h with
  | none, h => exact h
  | some (x, a, b), ⟨p, e, hp⟩ => exact ⟨p, e, s.tup hb hp⟩
def Sm3 : Option (Int × Int × Int) → Prop
  | none => True
  | some (x, a, b) => ∀ i ∈ [x, a, b], 0 ≤ i ∧ i < ((1000 : Nat) : Int)
def txP : Option (Int × Int × Int) → Str
  | none => "None"
  | some (x, a, b) => (PyData.tuple (dI [x, a, b])).shown
theorem pap_repr {K : PySem.W.Frag} {H : Hp} {u : V} {r : Option (Int × Int × Int)} {Q : VK} (h : PapV H u r) (hs : Sm3 r) (q : Q (.str (txP r)) H) : rReprS [u] H Q ∨ rRepr K [u] H Q := by
  match r, h, hs, q with
  | none, h, _, q =>
    cases h
    exact .inl ⟨_, rfl, .inl ⟨rfl, q⟩⟩
  | some (x, a, b), ⟨p, e, hp⟩, hs, q =>
    subst e
    exact .inr (reprP (dp_tup (t := [x, a, b]) hp) (pl_row (n := 1000) (by show 3 ≤ 1000; decide) hs (Nat.le_refl _)) (by decide) (by decide) q)
theorem pap_ne {K : PySem.W.Frag} {H : Hp} {u u2 : V} {r : Option (Int × Int × Int)} {Q : VK} (h : PapV H u r) (h2 : PapV H u2 r) (hs : Sm3 r) (q : Q (.bl false) H) : rNe u u2 H Q ∨ rNeD K u u2 H Q := by
  match r, h, h2, hs with
  | none, h, h2, _ =>
    cases h
    cases h2
    exact .inl (neV rfl q)
  | some (x, a, b), ⟨p, e, hp⟩, ⟨p2, e2, hp2⟩, hs =>
    subst e
    subst e2
    exact .inr (eqP (dp_tup (t := [x, a, b]) hp) (dp_tup (t := [x, a, b]) hp2) (pl_row (n := 1000) (by show 3 ≤ 1000; decide) hs (Nat.le_refl _)) (by decide) q)
end K1
namespace K1
open PySem PySem.Spec PyProof.Rows L2
abbrev nLa : List Str := ["_law_script", "_law_k", "_law_box_here", "_law_many", "_law_due", "_law_told", "_law_row", "_law_machine", "_law_odd", "_law_state", "_law_tables_here", "_law_work"]
theorem scLa : FnScope nLa ["_law_script"] (defScope sLaw) := ⟨rfl, rfl, rfl, by decide +kernel, rfl, by decide +kernel, by decide +kernel⟩
def qNo : Str := (envOfC "law" (defScope sLaw) 0 0 Value.none).qual ++ "<lambda>"
def bodyOf : Stmt → List Stmt | .For _ _ b _ _ => b | _ => []
abbrev sOuter : List Stmt := bodyOf ((defBody sLaw).getD 0 (.Pass ⟨0, 0, 0, 0⟩))
abbrev sTurn : List Stmt := bodyOf (sOuter.getD 3 (.Pass ⟨0, 0, 0, 0⟩))
/-- the defs that the law calls, by their promises -/
structure Dn (P : Program) (w : World) (K : PySem.W.Frag) (mg : Str → Option Value) (base : Heap) (M CU CR CS : Addr) : Prop where
  B : Bt mg
  T : McT K mg M
  pick : ∃ f fd, Df K mg "_law_pick" sPick ["_law_box_here", "_law_some"] f fd ∧ FnOk P w K mg base CX0 2 f fd ["_law_box_here", "_law_some"] spPick
  take : ∃ f fd, Df K mg "_law_take" sTake ["_law_box_here", "_law_many"] f fd ∧ FnOk P w K mg base CX0 1 f fd ["_law_box_here", "_law_many"] spTake
  log : ∃ f fd, Df K mg "_law_log" sLog ["_law_box_here", "_law_tables_here", "_law_most"] f fd ∧ FnOk P w K mg base CX0 2 f fd ["_law_box_here", "_law_tables_here", "_law_most"] spLog
  paper : ∃ f fd, Df K mg "_law_paper" sPaper ["_law_tables_here", "_law_some"] f fd ∧ FnOk P w K mg base CX0 1 f fd ["_law_tables_here", "_law_some"] spPaper
  orb : ∃ f fd, Df K mg "_law_orbit" sLOrbit ["_law_tables_here", "_law_state"] f fd ∧ FnOk P w K mg base CX0 1 f fd ["_law_tables_here", "_law_state"] spLOrbit
  pow : ∃ f fd, Df K mg "_law_power" sLPower ["_law_tables_here", "_law_state", "_law_row"] f fd ∧ FnOk P w K mg base CX0 2 f fd ["_law_tables_here", "_law_state", "_law_row"] spLPow
  shuf : ∃ f fd, Df K mg "_law_shuffled_right" sShuf ["_law_box_here", "_law_tables_here", "_law_machine", "_law_state"] f fd ∧ FnOk P w K mg base CX0 7 f fd ["_law_box_here", "_law_tables_here", "_law_machine", "_law_state"] (spShuf M)
  cpaper : ∃ f fd, Df K mg "commuting_paper" sCPaper ["machine", "state"] f fd ∧ FnOk P w K mg base (L2.CX P w) 5 f fd ["machine", "state"] (spCPaper K M CS)
  needC : ∃ f fd, Df K mg "need_commuting" sNeedC ["machine", "state"] f fd ∧ FnOk P w K mg base (L2.CX P w) 6 f fd ["machine", "state"] (spNeedC K M CS CU)
  power : ∃ f fd, Df K mg "power_of" sPower ["machine", "state", "row"] f fd ∧ FnOk P w K mg base (L2.CX P w) 6 f fd ["machine", "state", "row"] (spPower K M CS CR)
  eq : ∃ f fd, PySem.W.findIn K (.ref M) "__eq__" = some (some (.ref f)) ∧ PySem.W.isFn K (.ref f) = true ∧ Binds K fd ["self", "other"] [] ∧ FnOk P w K mg base CX0 1 f fd ["self", "other"] (spMEq M)
  ne : PySem.W.findIn K (.ref M) "__ne__" = some (some (.builtin "object.__ne__"))
theorem nxP {D : Ends} {σ : L2.St} {H : Hp} (h : D.nx σ H) : tNext D σ H := h
/-- what was told: the machine, or the paper -/
def TdV (H : Hp) (p m : Addr) : Option (Int × Int × Int) → Prop
  | none => H p = some (.tup [.str "told", .ref m])
  | some (x, a, b) => ∃ t, H t = some (.tup [.int x, .int a, .int b]) ∧ H p = some (.tup [.str "not", .ref t, .bl true])
section
variable {P : Program} {w : World} {K : PySem.W.Frag} {mg : Str → Option Value} {base : Heap}
theorem law_turn {f M CU CR CS c Pt : Addr} {A : Around} {outer : List Env} {s : Shared} {H₀ : Hp} {E : XK} (hr : Room 10 (A.deeper (envOfC "law" (defScope sLaw) s.heap.objs.size f (.ref c)))) (hgd : (A.deeper (envOfC "law" (defScope sLaw) s.heap.objs.size f (.ref c))).guards = some []) (hd : Hd K mg base c Pt CU CR CS) (dn : Dn P w K mg base M CU CR CS) :
    ∃ t, PSs (cxOf CX0 P w K mg base nLa "law" (defScope sLaw) f (.ref c) A outer s H₀ E).nox sTurn t ∧
      ∀ (D : Ends) (H : Hp) (b p m ta : Addr) (ts : Ts) (st : Int) (v0 v1 v4 v5 v6 v8 v11 : Option V), BoxO H b → LamX.Tabs [(Pt, qNo)] H → TabL H p (vts ts) → p ≠ b → Wf ts → nS ts ≤ 6 → ts.length ≤ 4 → MachAt M H m ta (vts ts) → (0 ≤ st ∧ st < (nS ts : Int)) →
        (∀ H' w4 w5 w6, Rl b [(Pt, qNo)] H H' → D.nx [v0, v1, some (.ref b), some (.int (nS ts : Int)), w4, w5, w6, some (.ref m), v8, some (.int st), some (.ref p), v11] H') →
        t D [v0, v1, some (.ref b), some (.int (nS ts : Int)), v4, v5, v6, some (.ref m), v8, some (.int st), some (.ref p), v11] H := by
  have B := dn.B
  have TM := dn.T
  obtain ⟨fL, fdL, DL, GL⟩ := dn.log
  obtain ⟨fP, fdP, DP, GP⟩ := dn.paper
  obtain ⟨fO, fdO, DO, GO⟩ := dn.orb
  obtain ⟨fV, fdV, DV, GV⟩ := dn.pow
  obtain ⟨fS, fdS, DS, GS⟩ := dn.shuf
  obtain ⟨fC, fdC, DC, GC⟩ := dn.cpaper
  obtain ⟨fN, fdN, DN, GN⟩ := dn.needC
  obtain ⟨fW, fdW, DW, GW⟩ := dn.power
  obtain ⟨fQ, fdQ, Q1, Q2, Q3, Q4⟩ := dn.eq
  have hu : (A.deeper (envOfC "law" (defScope sLaw) s.heap.objs.size f (.ref c))).units + 64 < cLine := hr.units
  have r1 := hr.mono (show 1 ≤ 10 by decide)
  have r2 := hr.mono (show 2 ≤ 10 by decide)
  have r5 := hr.mono (show 5 ≤ 10 by decide)
  have r6 := hr.mono (show 6 ≤ 10 by decide)
  have r7 := hr.mono (show 7 ≤ 10 by decide)
  refine ⟨_, pss_cons (ps_set (i := 4) scLa.nd rfl (.inl rfl) (pc DP GP r1 pass0 (pa_cons (pv 10) (pa_cons (pc DO GO r1 pass0 (pa_cons (pv 10) (pa_cons (pv 9) pa_nil))) pa_nil))))
    (pss_cons (ps_if (PW.pt (pw_or (pt_cmpR op_ne (pe_callB (call_or2 call_reprS (call_repr hgd hu)) (by rfl) B.repr (by decide +kernel) (pa_cons (pc DC GC r5 passF (pa_cons (pv 7) (pa_cons (pv 9) pa_nil))) pa_nil)) (pe_callB (call_or2 call_reprS (call_repr hgd hu)) (by rfl) B.repr (by decide +kernel) (pa_cons (pv 4) pa_nil)) (nomark _))
        (pw_or1 (pt_cmpR (op_or2 op_ne (neD (K := K) rfl hu)) (pe_callW DC GC r5 (kb_cpaper DC.F) passF (pk_cons (pv 9) (pk_cons (pv 7) pk_nil))) (pv 4) (nomark _))))) (pss_one (ps_ret pe_bl)) pss_nil)
    (pss_cons (ps_set (i := 5) scLa.nd rfl (.inl rfl) (pHeard (qn := qNo) hd hr rfl rfl rfl (LamX.lamS_by (by rfl)) rfl (fun _ _ _ _ _ => rfl) (fun A outer s H E f c' hr2 => pe_callW DN GN (hr2.mono (show 6 ≤ 8 by decide)) (kb_needC DN.F) (pass1 (E := E) (takes_of rfl rfl rfl rfl)) (pk_cons (pv 9) (pk_cons (pv 7) pk_nil)))))
    (pss_cons (ps_if (PW.pt (pw_or (PW.pt (pw_and (pt_cmp (pc_isN (pv 4))) (pw_and1 (PW.pt (pw_or (pt_cmpR op_ne (pe_ix (ixTK (K := K) rfl) (pv 5) pe_int (fun _ _ => rfl)) pe_str (nomark _)) (pw_or1 (pt_cmpR (op_neOwn Q4 r2 dn.ne TM.mo Q1 Q2 Q3) (pe_ix (ixTK (K := K) rfl) (pv 5) pe_int (fun _ _ => rfl)) (pv 7) (nomark _))))))))
        (pw_or1 (PW.pt (pw_and (pt_cmp (pc_notN (pv 4))) (pw_and1 (pt_cmpR (neD (K := K) rfl hu) (pv 5) (pe_tup (pa_cons pe_str (pa_cons (pv 4) (pa_cons pe_bl pa_nil)))) (nomark _)))))))) (pss_one (ps_ret pe_bl)) pss_nil)
    (pss_cons (ps_if (PW.pt (pw_and (pt_cmp (pc_isN (pv 4))) (pw_and1 (pt_not (pt_val (pc DS GS r7 pass0 (pa_cons (pv 2) (pa_cons (pv 10) (pa_cons (pv 7) (pa_cons (pv 9) pa_nil)))))))))) (pss_one (ps_ret pe_bl)) pss_nil)
    (pss_cons (ps_set (i := 6) scLa.nd rfl (.inl rfl) (pc DL GL r2 pass0 (pa_cons (pv 2) (pa_cons (pv 10) (pa_cons pe_int pa_nil)))))
    (pss_cons (ps_if (pt_cmpR op_ne (pe_callB (call_repr hgd hu) (by rfl) B.repr (by decide +kernel) (pa_cons (pc DW GW r6 passF (pa_cons (pv 7) (pa_cons (pv 9) (pa_cons (pv 6) pa_nil)))) pa_nil)) (pe_callB (call_repr hgd hu) (by rfl) B.repr (by decide +kernel) (pa_cons (pc DV GV r2 pass0 (pa_cons (pv 10) (pa_cons (pv 9) (pa_cons (pv 6) pa_nil)))) pa_nil)) (nomark _)) (pss_one (ps_ret pe_bl)) pss_nil)
    (pss_one (ps_if (pt_cmpR (neD (K := K) rfl hu) (pe_callW DW GW r6 (kb_power DW.F) passF (pk_cons (pe_callTy call_list_of (by rfl) B.list PyProof.Rows.boot_list (pa_cons (pv 6) pa_nil)) (pk_cons (pv 9) (pk_cons (pv 7) pk_nil)))) (pc DW GW r6 passF (pa_cons (pv 7) (pa_cons (pv 9) (pa_cons (pv 6) pa_nil)))) (nomark _)) (pss_one (ps_ret pe_bl)) pss_nil)))))))), fun D H b p m ta ts st v0 v1 v4 v5 v6 v8 v11 hb hT tl npb hW hn6 hl4 hM hst q => ?_⟩
  have RK : Rl b [(Pt, qNo)] H H := Rl.refl hb hT
  have nb : belowB (.int st) (nS ts : Int) = false → False := fun e => by rw [belowI hst] at e; cases e
  -- the paper
  refine ⟨_, rfl, _, rfl, _, rfl, p, st, ts, rfl, tl, hW, hst, fun ns l H1 s1 hl asc mem hl1 => ?_⟩
  have hrg : ∀ x ∈ ns, 0 ≤ x ∧ x < (nS ts : Int) := fun x hx => ((mem x).mp hx).rng hW hst
  refine ⟨p, l, ts, ns, rfl, tl.same s1, hW, hl1, hrg, fun r u H2 s2 hpi hpv => ?_⟩
  have sm3 : Sm3 r := by
    match r, hpi with
    | none, _ => exact True.intro
    | some (x, a, b'), ⟨i, hi, ha, hb', _⟩ =>
      have hx := hrg x (List.mem_of_getElem? hi)
      intro j hj
      simp only [List.mem_cons, List.mem_nil_iff, or_false] at hj
      rcases hj with rfl | rfl | rfl
      · exact ⟨hx.1, by have := hx.2; omega⟩
      · exact ⟨ha.1, by have := ha.2; omega⟩
      · exact ⟨hb'.1, by have := hb'.2; omega⟩
  replace RK := (RK.same s1).same s2
  have hM2 := RK.mach hb hM
  -- the program's paper, twice
  refine ⟨_, rfl, _, rfl, m, ta, ts, .int st, rfl, hM2, hW, ⟨_, .int st⟩, fun e => (nb e).elim, fun _ => ⟨st, rfl, fun ns3 r3 u3 H3 s3 asc3 mem3 hpi3 hpv3 => ?_⟩⟩
  obtain rfl : ns3 = ns := asc_eq asc3 asc fun x => (mem3 x).trans (mem x).symm
  obtain rfl : r3 = r := paper_one hpi3 hpi
  refine nilP (pap_repr hpv3 sm3 ⟨_, rfl, nilP (pap_repr (hpv.same s3) sm3 (neV rfl ⟨_, rfl, iteF ?_⟩))⟩)
  replace RK := RK.same s3
  refine ⟨_, rfl, _, rfl, rfl, m, ta, ts, .int st, rfl, hM2.same s3, hW, ⟨_, .int st⟩, fun e => (nb e).elim, fun _ => ⟨st, rfl, fun ns4 r4 u4 H4 s4 asc4 mem4 hpi4 hpv4 => ?_⟩⟩
  obtain rfl : ns4 = ns3 := asc_eq asc4 asc fun x => (mem4 x).trans (mem x).symm
  obtain rfl : r4 = r3 := paper_one hpi4 hpi
  have hpvH := (hpv.same s3).same s4
  refine ⟨_, rfl, pap_ne hpv4 hpvH sm3 ⟨_, rfl, iteF (nxP ?_)⟩⟩
  dsimp only
  replace RK := RK.same s4
  have hM4 := RK.mach hb hM
  clear hpv4 hpi4 hpv3 hpi3 hpv s4 s3 s2 s1 hM2
  -- what is told
  refine seqG (fun σ H' => ∃ p5 : Addr, σ = [v0, v1, some (.ref b), some (.int (nS ts : Int)), some u, some (.ref p5), v6, some (.ref m), v8, some (.int st), some (.ref p), v11] ∧ Rl b [(Pt, qNo)] H H' ∧ TdV H' p5 m r4 ∧ PapV H' u r4) ?_ (fun k => ?_)
  · rintro σ H5 ⟨p5, rfl, R5, htd, hpv5⟩
    have hM5 := R5.mach hb hM
    have tl5 := R5.tabL hb npb tl
    refine seqG (fun σ H' => σ = [v0, v1, some (.ref b), some (.int (nS ts : Int)), some u, some (.ref p5), v6, some (.ref m), v8, some (.int st), some (.ref p), v11] ∧ Rl b [(Pt, qNo)] H H' ∧ PapV H' u r4) ?_ (fun k => ?_)
    · rintro σ H6 ⟨rfl, R6, hpv6⟩
      have hM6 := R6.mach hb hM
      have tl6 := R6.tabL hb npb tl
      refine seqG (fun σ H' => σ = [v0, v1, some (.ref b), some (.int (nS ts : Int)), some u, some (.ref p5), v6, some (.ref m), v8, some (.int st), some (.ref p), v11] ∧ Rl b [(Pt, qNo)] H H') ?_ (fun k => ?_)
      · rintro σ H7 ⟨rfl, R7⟩
        have hM7 := R7.mach hb hM
        have tl7 := R7.tabL hb npb tl
        -- a row and its powers
        refine ⟨_, rfl, _, rfl, b, p, 4, ts, rfl, R7.1, tl7, npb, hW.t1, hW.t8, by decide, by decide, fun r row H8 bx8 _ hr8 hrow hrl => ?_⟩
        have R8 := R7.bx bx8
        have hM8 := hM7.bx R7.1 bx8
        have tl8 := tl7.bx npb R7.1 bx8
        have rf := rowF_ok (n := ts.length) (row := row) (by omega) hrow
        refine ⟨_, rfl, _, rfl, _, rfl, m, ta, ts, .int st, .ref r, rfl, hM8, hW, ⟨_, .int st⟩, fun e => (nb e).elim, fun _ => ⟨st, some (vrow row), rfl, ⟨.tup hr8, kindsR⟩, fun hne => absurd rf hne, fun _ => ⟨row, rfl, hrow, fun i q1 a H9 s9 pw ha => ?_⟩⟩⟩
        have few := fresh_few pw.2.2 (fun j => trail_rng hW hrow hst j)
        have pl2 : Pl (.tuple (dI [(i : Int), (q1 : Int)])) 1 65000 := pl_row (n := 1000) (by show 2 ≤ 1000; decide) (fun j hj => by
          simp only [List.mem_cons, List.mem_nil_iff, or_false] at hj
          rcases hj with rfl | rfl <;> omega) (Nat.le_refl _)
        refine nilP (reprP (dp_tup (t := [(i : Int), (q1 : Int)]) ha) pl2 (by decide) (by decide) ⟨_, rfl, _, rfl, _, rfl, p, r, st, ts, row, rfl, tl8.same s9, hW, hst, s9 _ _ hr8, hrow, by omega, fun i2 q2 a2 H10 s10 pw2 ha2 => ?_⟩)
        obtain ⟨rfl, rfl⟩ := pow_one (g := fun x => run ts x row) (fun j => rfl) pw pw2
        refine nilP (reprP (dp_tup (t := [(i : Int), (q1 : Int)]) ha2) pl2 (by decide) (by decide) (neV rfl ⟨_, rfl, iteF ?_⟩))
        have s8 := s9.trans s10
        refine ⟨_, rfl, r, _, rfl, .inr (SqT.of (s8 _ _ hr8)), fun l1 hl1 => ⟨_, rfl, _, rfl, rfl, m, ta, ts, .int st, .ref l1, rfl, (hM8.same s8).same (same_new hl1), hW, ⟨_, .int st⟩, fun e => (nb e).elim, fun _ => ⟨st, some (vrow row), rfl, ⟨.lst upd_same, kindsR⟩, fun hne => absurd rf hne, fun _ => ⟨row, rfl, hrow, fun i3 q3 a3 H11 s11 pw3 ha3 => ?_⟩⟩⟩⟩
        obtain ⟨rfl, rfl⟩ := pow_one (g := fun x => run ts x row) (fun j => rfl) pw pw3
        have s81 := (s8.trans (same_new (o := HO.lst (vrow row)) hl1)).trans s11
        refine ⟨_, rfl, _, rfl, _, rfl, m, ta, ts, .int st, .ref r, rfl, hM8.same s81, hW, ⟨_, .int st⟩, fun e => (nb e).elim, fun _ => ⟨st, some (vrow row), rfl, ⟨.tup (s81 _ _ hr8), kindsR⟩, fun hne => absurd rf hne, fun _ => ⟨row, rfl, hrow, fun i4 q4 a4 H12 s12 pw4 ha4 => ?_⟩⟩⟩
        obtain ⟨rfl, rfl⟩ := pow_one (g := fun x => run ts x row) (fun j => rfl) pw pw4
        refine earI (s12 _ _ ha3) ha4 ⟨_, rfl, iteF ?_⟩
        exact q _ _ _ _ ((R8.same s81).same s12)
      · -- any two rows with the same deeds
        match r4, hpi, hpv6 with
        | none, hpi, hpv6 =>
          cases hpv6
          refine ⟨_, rfl, _, rfl, iteE rfl ⟨_, rfl, _, rfl, _, rfl, _, rfl, b, p, m, ta, ts, st, rfl, R6.1, tl6, npb, hW, hM6, hst, fun x hx => hpi x ((mem x).mpr hx), fun H' bx => ⟨true, rfl, iteF ?_⟩⟩⟩
          exact k _ _ ⟨rfl, R6.bx bx⟩
        | some (x, a, b'), _, ⟨pd, e, _⟩ =>
          subst e
          exact ⟨_, rfl, _, rfl, iteN rfl (iteF (k _ _ ⟨rfl, R6⟩))⟩
    · match r4, htd, hpv5 with
      | none, htd, hpv5 =>
        cases hpv5
        obtain ⟨dx, hf⟩ := hM5.fs
        refine ⟨_, rfl, _, rfl, iteE rfl ⟨_, rfl, p5, _, 0, _, rfl, rfl, SqT.of htd, atI_nat (j := 0) rfl, cP (neV rfl ⟨_, rfl, iteF ?_⟩)⟩⟩
        refine ⟨_, rfl, p5, _, 1, _, rfl, rfl, SqT.of htd, atI_nat (j := 1) rfl, _, rfl, m, m, dx, dx, _, _, rfl, hf, rfl, hf, m, ta, ts, _, rfl, hM5, hW.few, .inl ⟨m, ta, rfl, hM5, true, rfl, _, rfl, iteF ?_⟩⟩
        refine ⟨_, rfl, _, rfl, iteN rfl (iteF (k _ _ ⟨rfl, R5, rfl⟩))⟩
      | some (x, a, b'), ⟨t, ht, hp5⟩, ⟨pd, e, hpd⟩ =>
        subst e
        refine ⟨_, rfl, _, rfl, iteN rfl (iteF ⟨_, rfl, _, rfl, iteE rfl ⟨_, rfl, _, rfl, (by show 3 ≤ sizeLine; decide), fun p2 hp2 => ?_⟩⟩)⟩
        have s2 := same_new (o := HO.tup [.str "not", .ref pd, .bl true]) hp2
        refine earN (s2 _ _ hp5) (s2 _ _ ht) upd_same (s2 _ _ hpd) ⟨_, rfl, iteF ?_⟩
        exact k _ _ ⟨rfl, R5.same s2, pd, rfl, s2 _ _ hpd⟩
  · refine ⟨RK.2.1, fun G1 eN t1 => ?_⟩
    have RG := RK.ext eN t1
    have RM : Rl b [(Pt, qNo)] H4 G1 := (Rl.refl RK.1 RK.2.1).ext eN t1
    have hpvG := hpvH.rl RK.1 RM
    refine ⟨_, rfl, _, rfl, rfl, m, ta, ts, .int st, rfl, RG.mach hb hM, hW, ⟨_, .int st⟩, fun e => (nb e).elim, fun _ => ⟨st, rfl, fun ns5 r5 H5 s5 asc5 mem5 hpi5 => ?_⟩⟩
    obtain rfl : ns5 = ns4 := asc_eq asc5 asc fun x => (mem5 x).trans (mem x).symm
    obtain rfl : r5 = r4 := paper_one hpi5 hpi
    refine ⟨fun e => ?_, fun x a b' e => heU fun p' t H6 s6 ht hp' => ?_⟩
    · subst e
      refine ⟨(by show 2 ≤ sizeLine; decide), fun p5 hp5 => ?_⟩
      exact k _ _ ⟨p5, rfl, (RG.same s5).new hp5, upd_same, (hpvG.same s5).same (same_new hp5)⟩
    · subst e
      exact k _ _ ⟨p', rfl, (RG.same s5).same s6, ⟨t, ht, hp'⟩, (hpvG.same s5).same s6⟩
end
end K1
namespace K1
open PySem PySem.Spec PyProof.Rows L2
/-! ### the lambda in the tuple -/
def itOf : Stmt → Expr | .For _ it _ _ _ => it | _ => .Name "" ⟨0, 0, 0, 0⟩
def el2 : Expr → Expr | .Tuple es _ _ => es.getD 2 (.Name "" ⟨0, 0, 0, 0⟩) | e => e
def lamP : Expr → Arguments | .Lambda a _ _ _ => a | _ => defArgs sLaw
def lamB : Expr → Expr | .Lambda _ b _ _ => b | e => e
def lamSc : Expr → Scope | .Lambda _ _ s _ => s | _ => defScope sLaw
abbrev eLam : Expr := el2 (itOf (sOuter.getD 5 (.Pass ⟨0, 0, 0, 0⟩)))
abbrev nLm : List Str := ["_law_machine", "_law_state"]
theorem scLm : FnScope nLm nLm (lamSc eLam) := ⟨rfl, rfl, rfl, by decide +kernel, rfl, by decide +kernel, by decide +kernel⟩
theorem lamNoFree : ∀ y ∈ (lamSc eLam).names, y.2 ≠ .free := by decide +kernel
theorem lamBind (q : Str) (pm cv ctv : Value) (us : List Value) (hl : us.length = nLm.length) : bindArgs (PySem.W.kla_fn "<lambda>" q (lamP eLam) (lamB eLam) (lamSc eLam) [] pm cv ctv) ⟨us, []⟩ = pure (nLm.zip us) :=
  match us, hl with | [_, _], _ => rfl
abbrev LamH (f c' : Addr) : HO := LamO f c' qNo (lamP eLam) (lamB eLam) (lamSc eLam)
theorem lamH_ne {f c' : Addr} (ps : Array Value) : LamH f c' ≠ .tbl ps := lamO_ne ps
theorem rowF_two {n : Nat} (h : 1 ≤ n) (h8 : n ≤ 8) : rowF (some (vrow [0, (n : Int)])) (n : Int) = .int 1 := by
  unfold rowF
  rw [if_pos (by rfl)]
  refine fnb_at (i := 1) (x := .int (n : Int)) rfl ?_ fun j y hj e => ?_
  · show (decide (0 ≤ (n : Int)) && decide ((n : Int) < (n : Int))) = false
    rw [decide_eq_false (show ¬ (n : Int) < (n : Int) by omega), Bool.and_false]
  · obtain rfl : j = 0 := by omega
    obtain rfl : V.int 0 = y := Option.some.inj e
    show (decide ((0 : Int) ≤ 0) && decide ((0 : Int) < (n : Int))) = true
    rw [decide_eq_true (by omega), decide_eq_true (by omega)]; rfl
section
variable {P : Program} {w : World} {K : PySem.W.Frag} {mg : Str → Option Value} {base : Heap}
theorem law_rest {f M CU CR CS c Pt : Addr} {A : Around} {outer : List Env} {s : Shared} {H₀ : Hp} {E : XK} (hr : Room 10 (A.deeper (envOfC "law" (defScope sLaw) s.heap.objs.size f (.ref c)))) (hd : Hd K mg base c Pt CU CR CS) (dn : Dn P w K mg base M CU CR CS) :
    ∃ t, PSs (cxOf CX0 P w K mg base nLa "law" (defScope sLaw) f (.ref c) A outer s H₀ E).nox (sOuter.drop 4) t ∧
      ∀ (D : Ends) (H : Hp) (b p m ta : Addr) (ts : Ts) (v0 v1 v4 v5 v6 v8 v9 v11 : Option V), BoxO H b → LamX.Tabs [(Pt, qNo)] H → TabL H p (vts ts) → p ≠ b → Wf ts → nS ts ≤ 6 → ts.length ≤ 4 → MachAt M H m ta (vts ts) →
        (∀ H' w8 w11, Rl b [(Pt, qNo)] H H' → D.nx [v0, v1, some (.ref b), some (.int (nS ts : Int)), v4, v5, v6, some (.ref m), w8, v9, some (.ref p), w11] H') →
        t D [v0, v1, some (.ref b), some (.int (nS ts : Int)), v4, v5, v6, some (.ref m), v8, v9, some (.ref p), v11] H := by
  have B := dn.B
  have TM := dn.T
  obtain ⟨fK, fdK, DK, GK⟩ := dn.pick
  obtain ⟨fC, fdC, DC, GC⟩ := dn.cpaper
  obtain ⟨fN, fdN, DN, GN⟩ := dn.needC
  obtain ⟨fW, fdW, DW, GW⟩ := dn.power
  have hu : (A.deeper (envOfC "law" (defScope sLaw) s.heap.objs.size f (.ref c))).units + 64 < cLine := hr.units
  have r2 := hr.mono (show 2 ≤ 10 by decide)
  refine ⟨_, pss_cons (ps_set (i := 8) scLa.nd rfl (.inr rfl) (pc DK GK r2 pass0 (pa_cons (pv 2) (pa_cons (pe_lst (pa_cons (pv 3) (pa_cons (pe_op op_sub pe_int pe_int) (pa_cons pe_bl (pa_cons pe_non (pa_cons pe_str pa_nil)))))) pa_nil))))
    (pss_cons (ps_for PassesOwn.never rfl (pi_tup (pe_tup (pa_cons (pe_glob (v := .ref fC) rfl DC.g rfl) (pa_cons (pe_glob (v := .ref fN) rfl DN.g rfl) (pa_cons (pe_lamV (qn := qNo) hd.TB rfl rfl rfl lamNoFree rfl) pa_nil))))) (pg_name (i := 11) scLa.nd rfl (.inr rfl))
      (pss_one (ps_if (pt_cmpR (neD (K := K) rfl hu) (pHeard (qn := qNo) hd hr rfl rfl rfl (LamX.lamS_by (by rfl)) rfl (fun _ _ _ _ _ => rfl) (fun A outer s H E f c' hr2 =>
          pe_or2 (pe_or2 (pe_callL (i := 11) GC (hr2.mono (show 5 ≤ 8 by decide)) rfl (.inr (.inr rfl)) DC.F.kp DC.b .nil (pass1 (E := E) (takes_of rfl rfl rfl rfl)) (pa_cons (pv 7) (pa_cons (pv 8) pa_nil)))
            (pe_callL (i := 11) GN (hr2.mono (show 6 ≤ 8 by decide)) rfl (.inr (.inr rfl)) DN.F.kp DN.b .nil (pass1 (E := E) (takes_of rfl rfl rfl rfl)) (pa_cons (pv 7) (pa_cons (pv 8) pa_nil))))
            (pe_callLam (CX := L2.CX P w) (k := 7) (i := 11) (q := qNo) (N := nLm) (ps := nLm) (params := lamP eLam) (body := lamB eLam) (scope := lamSc eLam) scLm (lamBind qNo) hr2 (pass1 (E := E) (takes_of rfl rfl rfl rfl)) rfl (.inr (.inr rfl)) (pa_cons (pv 7) (pa_cons (pv 8) pa_nil))
              (fun f c' A outer s H E hr3 => pc DW GW (hr3.mono (show 6 ≤ 7 by decide)) (pass1 (E := E) (takes_of rfl rfl rfl rfl)) (pa_cons (pv 0) (pa_cons (pv 1) (pa_cons pe_non pa_nil)))))))
        (pe_tup (pa_cons pe_str (pa_cons (pe_callB call_reprS (by rfl) B.repr (by decide +kernel) (pa_cons (pv 8) pa_nil)) pa_nil))) (nomark _)) (pss_one (ps_ret pe_bl)) pss_nil)))
    (pss_one (ps_if (pt_cmpR (neD (K := K) rfl hu) (pHeard (qn := qNo) hd hr rfl rfl rfl (LamX.lamS_by (by rfl)) rfl (fun _ _ _ _ _ => rfl) (fun A outer s H E f c' hr2 => pc DW GW (hr2.mono (show 6 ≤ 8 by decide)) (pass1 (E := E) (takes_of rfl rfl rfl rfl)) (pa_cons (pv 7) (pa_cons pe_int (pa_cons (pe_lst (pa_cons pe_int (pa_cons (pe_callB (clen (K := K) rfl) (by rfl) B.len PySem.boot_len (pa_cons (pv 10) pa_nil)) pa_nil))) pa_nil)))))
        (pe_tup (pa_cons pe_str (pa_cons pe_int pa_nil))) (nomark _)) (pss_one (ps_ret pe_bl)) pss_nil))), fun D H b p m ta ts v0 v1 v4 v5 v6 v8 v9 v11 hb hT tl npb hW hn6 hl4 hM q => ?_⟩
  have RK : Rl b [(Pt, qNo)] H H := Rl.refl hb hT
  -- what is no state
  refine ⟨_, rfl, _, rfl, _, _, rfl, rfl, (by show 5 ≤ sizeLine; decide), fun l hl => ⟨b, l, _, rfl, (RK.new hl).1, upd_same, RK.1.nn hl, (by decide : 1 ≤ 5), (by decide : 5 ≤ 1000), fun i vo H1 hvo bx1 => ?_⟩⟩
  have odo : OdS (nS ts : Int) vo := odS_of (by omega) (by omega) (List.mem_of_getElem? hvo)
  obtain ⟨xo, sxo, rso⟩ := odo.2.2
  have R1 := (RK.new (o := HO.lst [.int (nS ts : Int), .int (0 - 1), .bl true, .non, .str "0"]) hl).bx bx1
  -- the three works
  refine ⟨R1.2.1, fun fL cL H2 eN t2 hn2 hf2 hc2 => ⟨(by show 3 ≤ sizeLine; decide), fun tp htp => ⟨tp, rfl, ⟨_, SqT.of upd_same⟩, ?_⟩⟩⟩
  have R2 := (R1.ext eN t2).new (o := HO.tup [.ref fC, .ref fN, .ref fL]) htp
  have nfL : fL ≠ b := R1.1.nn hn2
  have hf3 := (same_new (o := HO.tup [.ref fC, .ref fN, .ref fL]) htp) _ _ hf2
  have hc3 := (same_new (o := HO.tup [.ref fC, .ref fN, .ref fL]) htp) _ _ hc2
  have htp3 : (upd H2 tp (.tup [V.ref fC, .ref fN, .ref fL])) tp = some (.tup [.ref fC, .ref fN, .ref fL]) := upd_same
  have ncL : cL ≠ b := (R1.ext eN t2).1.ne hc2 fun xs => by intro z; unfold LamX.CodeO at z; cases z
  generalize upd H2 tp (.tup [V.ref fC, .ref fN, .ref fL]) = H3 at R2 hf3 hc3 htp3 ⊢
  refine for_tup (K := K) (a := tp) (xs := [V.ref fC, .ref fN, .ref fL]) (fun _ σ H' => ∃ w11, σ = [v0, v1, some (.ref b), some (.int (nS ts : Int)), v4, v5, v6, some (.ref m), some vo, v9, some (.ref p), w11] ∧ Rl b [(Pt, qNo)] H3 H') ⟨v11, rfl, Rl.refl R2.1 R2.2.1⟩ (fun i σ H' _ ⟨_, _, rl⟩ => SqT.of (rl.tup R2.1 htp3)) ?_ ?_
  · rintro i x σ H' hx ⟨w11, rfl, rl⟩
    refine ⟨rl.2.1, fun G1 eN' t1 => ?_⟩
    have rl1 := rl.ext eN' t1
    have hMG := (R2.trans rl1).mach hb hM
    have done : ∀ p' G2, Same G1 G2 → G2 p' = some (.tup [.str "state", .str xo]) → ∀ (Z : VK), (∀ H'', Rl b [(Pt, qNo)] H3 H'' → Z (.bl false) H'') → 2 ≤ sizeLine ∧ ∀ p2, G2 p2 = none → rNeD K (.ref p') (.ref p2) (upd G2 p2 (.tup [.str "state", .str xo])) Z := fun p' G2 sm hp' Z k =>
      ⟨(by show 2 ≤ sizeLine; decide), fun p2 hp2 => ear2 st_sta sxo ((same_new hp2) _ _ hp') upd_same (k _ ((rl1.same sm).new hp2))⟩
    match i, hx with
    | 0, hx =>
      cases hx
      refine .inl (.inl ⟨rfl, _, rfl, _, rfl, m, ta, ts, vo, rfl, hMG, hW, ⟨_, odo.2.1 K _⟩, fun _ => heS rso fun p' G2 sm hp' => ⟨_, rfl, nilP (rso _ _ (done p' G2 sm hp' _ fun H'' r => ⟨_, rfl, iteF ⟨_, rfl, r⟩⟩))⟩, fun e => (by rw [odo.1] at e; cases e)⟩)
    | 1, hx =>
      cases hx
      refine .inl (.inr ⟨rfl, _, rfl, _, rfl, m, ta, ts, vo, rfl, hMG, hW, ⟨_, odo.2.1 K _⟩, fun _ => heS rso fun p' G2 sm hp' => ⟨_, rfl, nilP (rso _ _ (done p' G2 sm hp' _ fun H'' r => ⟨_, rfl, iteF ⟨_, rfl, r⟩⟩))⟩, fun e => (by rw [odo.1] at e; cases e)⟩)
    | 2, hx =>
      cases hx
      have hfG : G1 fL = some (LamH fL cL) := rl1.2.2 _ _ hf3 nfL lamH_ne
      have hcG : G1 cL = some (LamX.CodeO cL qNo) := rl1.2.2 _ _ hc3 ncL LamX.codeO_ne
      refine .inr ⟨fL, cL, rfl, hfG, _, rfl, _, rfl, rfl, hfG, hcG, _, rfl, _, rfl, m, ta, ts, vo, _, rfl, hMG, hW, ⟨_, odo.2.1 K _⟩, fun _ => heS rso fun p' G2 sm hp' => ⟨_, rfl, nilP (rso _ _ (done p' G2 sm hp' _ fun H'' r => ⟨_, rfl, iteF ⟨_, rfl, r⟩⟩))⟩, fun e => (by rw [odo.1] at e; cases e)⟩
    | i + 3, hx => cases hx
  · rintro σ H4 ⟨w11, rfl, rl⟩
    have R4 := R2.trans rl
    -- a row with a deed that is none
    refine ⟨R4.2.1, fun G1 eN' t1 => ?_⟩
    have RG := R4.ext eN' t1
    obtain ⟨as, h1, h2, h3⟩ := RG.tabL hb npb tl
    have las : as.length = ts.length := by rw [h2, vts, List.length_map]
    have el : ((as.map V.ref).length : Int) = (ts.length : Int) := by rw [List.length_map, las]
    refine ⟨_, rfl, _, rfl, p, _, rfl, .inl (SqL.of h1), (by show 2 ≤ sizeLine; decide), fun l2 hl2 => ?_⟩
    have s2 := same_new (o := HO.lst [.int 0, .int ((as.map V.ref).length : Nat)]) hl2
    have rf := rowF_two hW.t1 hW.t8
    refine ⟨m, ta, ts, .int 0, .ref l2, rfl, (RG.mach hb hM).same s2, hW, ⟨_, .int 0⟩, fun e => (by have := hW.s1; rw [belowI (n := nS ts) (by omega)] at e; cases e), fun _ => ⟨0, some (vrow [0, (ts.length : Int)]), rfl, ⟨.lst (by rw [upd_same, el]; rfl), kindsR⟩, fun _ => heR fun p' G2 sm hp' => ?_, fun e => (by rw [rf] at e; cases e)⟩⟩
    rw [rf] at hp'
    refine ⟨(by show 2 ≤ sizeLine; decide), fun p2 hp2 => earSI st_row ((same_new hp2) _ _ hp') upd_same ⟨_, rfl, iteF ?_⟩⟩
    exact q _ _ _ (((RG.same s2).same sm).new hp2)
end
end K1
namespace K1
open PySem PySem.Spec PyProof.Rows L2
theorem sqL_rl {K : PySem.W.Frag} {H H1 H2 : Hp} {a b : Addr} {T : List (Addr × Str)} {xs : List V} (h : SqL K H a xs) (hb : H b = none) (s : Same H H1) (r : Rl b T H1 H2) : SqL K H2 a xs := by
  rcases h with (h | ⟨ob, h⟩) | h
  · exact .inl (.inl (r.2.2 _ _ (s _ _ h) (ne_of_none h hb) fun ps z => by cases z))
  · exact .inl (.inr ⟨ob, r.2.2 _ _ (s _ _ h) (ne_of_none h hb) fun ps z => by cases z⟩)
  · exact .inr h
def spLaw (K : PySem.W.Frag) (T : List (Addr × Str)) : Sp := fun vs H Q _ => ∃ (a : Addr) (ns : List Int), vs = [.ref a] ∧ SqL K H a (ns.map V.int) ∧ ns.length ≤ 63 ∧ LamX.Tabs T H ∧ ∀ H', Q (.bl true) H'
theorem wf1 : Wf [[0]] := ⟨by decide, by decide, by decide, by decide, by decide⟩
section
variable {P : Program} {w : World} {K : PySem.W.Frag} {mg : Str → Option Value} {base : Heap}
theorem FunC.okG {x qual : Str} {st : Stmt} {f : Addr} {fd : FuncData} {cdv : Value} {N ps : List Str} {k : Nat} {sp : Sp} (F : FunC K x qual st f fd cdv) (S : FnScope N ps (defScope st)) (len : ∀ vs H Q E, sp vs H Q E → vs.length = ps.length)
    (hbody : ∀ (A : Around) (outer : List Env) (s : Shared) (H : Hp) (vs : List V) (Q : VK) (E : XK), Room k (A.deeper (envOfC qual (defScope st) s.heap.objs.size f cdv)) → (A.deeper (envOfC qual (defScope st) s.heap.objs.size f cdv)).guards = some [] → sp vs H Q E →
      ∃ t, PSs (cxOf CX0 P w K mg base N qual (defScope st) f cdv A outer s H E).nox (defBody st) t ∧ t { nx := fun _ H' => Q .non H', rt := Q } (start N vs) H) : FnG P w K mg base (k + 1) f fd ps sp := by
  obtain ⟨oc, od, kV, doc, pm, an, ct, osl, rfl, lk, hcd⟩ := F.ex
  refine ⟨len, fun A outer s H args us vs Q E hr hgd e0 hb r hsp => ?_⟩
  refine LamX.run_ofS lk hcd S hr e0 hb r (len _ _ _ _ hsp) fun hr' => ?_
  obtain ⟨t, h, q⟩ := hbody A outer s H vs Q E hr' hgd hsp
  exact ⟨t, h.nox, q⟩
theorem ok_law {f fB fM fA fI M CM CU CR CS c Pt : Addr} {fd fdB fdM fdA fdI : FuncData} (F : FunC K "law" "law" sLaw f fd (.ref c)) (DB : Df K mg "_law_box" sBox ["_law_script", "_law_k"] fB fdB) (DM : Df K mg "_law_commuting" sComm ["_law_box_here"] fM fdM) (DA : Df K mg "_law_tables" sTabs ["_law_box_here", "_law_sizes", "_law_kinds"] fA fdA)
    (MI : Mk K M fI) (BI : Binds K fdI ["self", "tables"] []) (GB : FnOk P w K mg base CX0 1 fB fdB ["_law_script", "_law_k"] (spBox K)) (GM : FnOk P w K mg base CX0 2 fM fdM ["_law_box_here"] spComm) (GA : FnOk P w K mg base CX0 3 fA fdA ["_law_box_here", "_law_sizes", "_law_kinds"] spTabs)
    (GI : FnOk P w K mg base (L2.CX P w) 6 fI fdI ["self", "tables"] (spMInit K CM M)) (hd : Hd K mg base c Pt CU CR CS) (dn : Dn P w K mg base M CU CR CS) : FnG P w K mg base 11 f fd ["_law_script"] (spLaw K [(Pt, qNo)]) := by
  refine F.okG scLa (fun vs H Q E h => ?_) (fun A outer s H vs Q E hr hgd h => ?_)
  · obtain ⟨a, ns, rfl, _⟩ := h
    rfl
  · obtain ⟨a, ns, rfl, hS, hn, hT, q⟩ := h
    have B := dn.B
    have TM := dn.T
    obtain ⟨fT, fdT, DT, GT⟩ := dn.take
    obtain ⟨fW, fdW, DW, GW⟩ := dn.power
    have hu : (A.deeper (envOfC "law" (defScope sLaw) s.heap.objs.size f (.ref c))).units + 64 < cLine := hr.units
    have r1 := hr.mono (show 1 ≤ 10 by decide)
    have r2 := hr.mono (show 2 ≤ 10 by decide)
    have r3 := hr.mono (show 3 ≤ 10 by decide)
    have r6 := hr.mono (show 6 ≤ 10 by decide)
    have r7 := hr.mono (show 7 ≤ 10 by decide)
    obtain ⟨tt, htt, qt⟩ := law_turn (P := P) (w := w) (outer := outer) (H₀ := H) (E := E) hr hgd hd dn
    obtain ⟨tr, htr, qr⟩ := law_rest (P := P) (w := w) (outer := outer) (H₀ := H) (E := E) hr hd dn
    refine ⟨_, pss_cons (ps_for PassesOwn.never rfl (pi_range1 (by rfl) B.range (pa_cons pe_int pa_nil)) (pg_name (i := 1) scLa.nd rfl (.inl rfl))
        (pss_cons (ps_set (i := 2) scLa.nd rfl (.inl rfl) (pc DB GB r1 pass0 (pa_cons (pv 0) (pa_cons (pv 1) pa_nil))))
        (pss_cons (ps_set (i := 10) scLa.nd rfl (.inr rfl) (pe_ifExp (pt_cmpR op_eq (pc DT GT r1 pass0 (pa_cons (pv 2) (pa_cons pe_int pa_nil))) pe_int (nomark _)) (pc DM GM r2 pass0 (pa_cons (pv 2) pa_nil))
          (pc DA GA r3 pass0 (pa_cons (pv 2) (pa_cons (pe_lst (pa_cons pe_int (pa_cons pe_int (pa_cons pe_int (pa_cons pe_int (pa_cons pe_int (pa_cons pe_int pa_nil))))))) (pa_cons (pe_lst (pa_cons pe_int (pa_cons pe_int (pa_cons pe_int (pa_cons pe_int pa_nil))))) pa_nil))))))
        (pss_cons (ps_asg (pe_tup (pa_cons (pe_make MI GI r7 rfl TM.g BI .nil passF (pa_cons (pv 10) pa_nil)) (pa_cons (pe_callB (clen (K := K) rfl) (by rfl) B.len PySem.boot_len (pa_cons (pe_ix (ixLK (K := K) rfl) (pv 10) pe_int (fun _ _ => rfl)) pa_nil)) pa_nil))) (pg_tup rfl (pgs_cons (pg_name (i := 7) scLa.nd rfl (.inr rfl)) (pgs_cons (pg_name (i := 3) scLa.nd rfl (.inl rfl)) pgs_nil))))
        (pss_cons (ps_for PassesOwn.never rfl (pi_range1 (by rfl) B.range (pa_cons (pv 3) pa_nil)) (pg_name (i := 9) scLa.nd rfl (.inr rfl)) htt) htr)))))
      (pss_one (ps_ret (pe_cmpR (eqD (K := K) rfl hu) (pc DW GW r6 passF (pa_cons (pe_make MI GI r7 rfl TM.g BI .nil passF (pa_cons (pe_lst (pa_cons (pe_lst (pa_cons pe_int pa_nil)) pa_nil)) pa_nil)) (pa_cons pe_int (pa_cons (pe_tup pa_nil) pa_nil)))) (pe_tup (pa_cons pe_int (pa_cons pe_int pa_nil))) (nomark _)))), ?_⟩
    refine ⟨2, rfl, by decide, by decide, for_range (fun _ σ H' => ∃ (v1 v2 v3 v4 v5 v6 v7 v8 v9 v10 v11 : Option V), σ = [some (.ref a), v1, v2, v3, v4, v5, v6, v7, v8, v9, v10, v11] ∧ SqL K H' a (ns.map V.int) ∧ LamX.Tabs [(Pt, qNo)] H') ⟨none, none, none, none, none, none, none, none, none, none, none, rfl, hS, hT⟩ ?_ ?_⟩
    · rintro i σ H1 hi ⟨v1, v2, v3, v4, v5, v6, v7, v8, v9, v10, v11, rfl, hS1, hT1⟩
      refine ⟨_, rfl, _, rfl, a, ns, _, rfl, hS1, hn, by omega, by omega, fun b H2 s2 nb bo => ?_⟩
      have hT2 := hT1.ext s2
      have R2 : Rl b [(Pt, qNo)] H2 H2 := Rl.refl bo hT2
      refine gn ?_
      dsimp only
      refine seqG (fun σ H' => ∃ (p : Addr) (ts : Ts), σ = [some (.ref a), some (.int (0 + (i : Int))), some (.ref b), v3, v4, v5, v6, v7, v8, v9, some (.ref p), v11] ∧ Rl b [(Pt, qNo)] H2 H' ∧ TabL H' p (vts ts) ∧ p ≠ b ∧ Wf ts ∧ nS ts ≤ 6 ∧ ts.length ≤ 4) ?_ (fun k => ?_)
      · rintro σ H4 ⟨p, ts, rfl, R4, tl, npb, hW, hn6, hl4⟩
        refine ⟨_, rfl, fun m dx hm hdx ne => ?_⟩
        have s0 : Same H4 (upd (upd H4 dx (.own m)) m (.ins M dx [])) := (same_new hdx).trans (same_new (by rw [upd_ne ne.symm]; exact hm))
        refine ⟨m, dx, _, _, rfl, upd_same, (tl.same s0).mv, fun z hz => (by rw [chk_wf hW] at hz; cases hz), fun _ ts' ets ta H5 k5 hM => ⟨rfl, ?_⟩⟩
        obtain rfl : vts ts = ts' := map_some (Option.some.inj ets)
        have s5 := mkS hm hdx k5
        have tl5 := tl.same s5
        obtain ⟨t0, et0⟩ : ∃ t0, ts[0]? = some t0 := ⟨ts[0]'(by have := hW.t1; omega), List.getElem?_eq_getElem _⟩
        obtain ⟨as, a0, h1, h2, h3, h4⟩ := tl5.row et0
        have l0 : ((vrow t0).length : Int) = (nS ts : Int) := by
          unfold nS
          rw [et0, vrow, List.length_map]; rfl
        refine ⟨_, rfl, p, _, 0, .ref a0, rfl, rfl, SqL.of h1, atI_nat (j := 0) (by rw [List.getElem?_map, h3]; rfl), a0, _, rfl, .inr (SqT.of h4), (by show 2 ≤ sizeLine; decide), fun T1 hT1' => ?_⟩
        refine ⟨T1, _, rfl, SqT.of upd_same, rfl, _, _, rfl, _, _, rfl, rfl, ?_⟩
        have R6 := (R4.same s5).new (o := HO.tup [.ref m, .int ((vrow t0).length : Nat)]) hT1'
        have hM6 := hM.same (same_new (o := HO.tup [.ref m, .int ((vrow t0).length : Nat)]) hT1')
        have tl6 := tl5.same (same_new (o := HO.tup [.ref m, .int ((vrow t0).length : Nat)]) hT1')
        generalize upd H5 T1 (.tup [.ref m, .int ((vrow t0).length : Nat)]) = H6 at R6 hM6 tl6 ⊢
        rw [l0]
        have hb6 := R6.1
        refine ⟨_, rfl, (nS ts : Int), rfl, by omega, by omega, for_range (fun _ σ H' => ∃ (w4 w5 w6 w9 : Option V), σ = [some (.ref a), some (.int (0 + (i : Int))), some (.ref b), some (.int (nS ts : Int)), w4, w5, w6, some (.ref m), v8, w9, some (.ref p), v11] ∧ Rl b [(Pt, qNo)] H6 H') ⟨v4, v5, v6, v9, rfl, Rl.refl R6.1 R6.2.1⟩ ?_ ?_⟩
        · rintro j σ H7 hj ⟨w4, w5, w6, w9, rfl, r⟩
          exact qt _ H7 b p m ta ts (0 + (j : Int)) _ _ _ _ _ _ _ r.1 r.2.1 (r.tabL hb6 npb tl6) npb hW hn6 hl4 (r.mach hb6 hM6) ⟨by omega, by omega⟩ fun H'' x y z r2 => ⟨x, y, z, _, rfl, r.trans r2⟩
        · rintro σ H7 ⟨w4, w5, w6, w9, rfl, r⟩
          exact qr _ H7 b p m ta ts _ _ _ _ _ _ _ _ r.1 r.2.1 (r.tabL hb6 npb tl6) npb hW hn6 hl4 (r.mach hb6 hM6) fun H'' w8 w11 r2 => ⟨_, _, _, _, _, _, _, _, _, _, _, rfl, sqL_rl hS1 nb s2 (R6.trans (r.trans r2)), r2.2.1⟩
      · refine ⟨_, rfl, b, 2, rfl, bo, by decide, by decide, fun r H3 r0 r1' bx3 => ?_⟩
        have R3 := R2.bx bx3
        refine ⟨rfl, _, rfl, ifD (fun e => ?_) fun e => ?_⟩
        · refine ⟨_, rfl, b, rfl, R3.1, fun p ts H4 bx4 _ npb tl hW hn6 hl4 => ?_⟩
          exact k _ _ ⟨p, ts, rfl, R3.bx bx4, tl, npb, hW, hn6, hl4⟩
        · refine ⟨_, rfl, (by show 6 ≤ sizeLine; decide), fun l1 hl1 => ⟨(by show 4 ≤ sizeLine; decide), fun l2 hl2 => ?_⟩⟩
          have R4 := R3.new (o := HO.lst sizesV) hl1
          have R5 := R4.new (o := HO.lst kindsV) hl2
          refine ⟨b, l1, l2, rfl, R5.1, (same_new hl2) _ _ upd_same, upd_same, R3.1.nn hl1, R4.1.nn hl2, fun p ts H5 bx5 _ npb tl hW hn6 hl4 => ?_⟩
          exact k _ _ ⟨p, ts, rfl, R5.bx bx5, tl, npb, hW, hn6, hl4⟩
    · rintro σ H1 ⟨v1, v2, v3, v4, v5, v6, v7, v8, v9, v10, v11, rfl, hS1, hT1⟩
      refine ⟨(by show 1 ≤ sizeLine; decide), fun l1 hl1 => ⟨(by show 1 ≤ sizeLine; decide), fun l2 hl2 => fun m dx hm hdx ne => ?_⟩⟩
      have h1 : (upd (upd H1 l1 (.lst [.int 0])) l2 (.lst [.ref l1])) l1 = some (.lst [.int 0]) := (same_new hl2) _ _ upd_same
      have h2 : (upd (upd H1 l1 (.lst [.int 0])) l2 (.lst [.ref l1])) l2 = some (.lst [.ref l1]) := upd_same
      generalize upd (upd H1 l1 (.lst [.int 0])) l2 (.lst [.ref l1]) = H2 at h1 h2 hm hdx ⊢
      have s0 : Same H2 (upd (upd H2 dx (.own m)) m (.ins M dx [])) := (same_new hdx).trans (same_new (by rw [upd_ne ne.symm]; exact hm))
      have mv : Mv K (upd (upd H2 dx (.own m)) m (.ins M dx [])) (.ref l2) (some ((vts [[0]]).map some)) := by
        refine .yes (xs := [V.ref l1]) (.lst (s0 _ _ h2)) ⟨rfl, fun i x r e1 e2 => ?_⟩
        match i, e1, e2 with
        | 0, e1, e2 =>
          obtain rfl : V.ref l1 = x := Option.some.inj e1
          obtain rfl : some (vrow [0]) = r := Option.some.inj e2
          exact ⟨.lst (s0 _ _ h1), kindsR⟩
        | i + 1, e1, _ => cases e1
      refine ⟨m, dx, _, _, rfl, upd_same, mv, fun z hz => (by rw [chk_wf wf1] at hz; cases hz), fun _ ts' ets ta H3 k3 hM => ⟨rfl, ?_⟩⟩
      obtain rfl : vts [[0]] = ts' := map_some (Option.some.inj ets)
      refine ⟨(by show 0 ≤ sizeLine; decide), fun t ht => ?_⟩
      refine ⟨m, ta, [[0]], .int 0, .ref t, rfl, hM.same (same_new ht), wf1, ⟨_, .int 0⟩, fun e => (by cases e), fun _ => ⟨0, some (vrow []), rfl, ⟨.tup upd_same, kindsR⟩, fun hne => absurd (rowF_ok (row := []) (n := 1) (by decide) (fun d hd => absurd hd (by simp))) hne, fun _ => ⟨[], rfl, fun d hd => absurd hd (by simp), fun i q1 a1 H4 s4 pw ha => ?_⟩⟩⟩
      have pw0 : PowIs (trail [[0]] [] 0) 0 1 := ⟨by decide, rfl, fun a b h1 h2 => by omega⟩
      obtain ⟨rfl, rfl⟩ := pow_one (g := fun x => run [[0]] x []) (fun j => rfl) pw pw0
      exact ⟨(by show 2 ≤ sizeLine; decide), fun q2 hq2 => earIE ((same_new hq2) _ _ ha) upd_same (q _)⟩
end
end K1
namespace K1
open PySem PySem.Spec PyProof.Rows L2
/-- the caller's call of a law that is told where nothing is being shown; one table of code objects stands by -/
theorem call_law {P : Program} {w : World} {K : PySem.W.Frag} {mg mb : Str → Option Value} {k : Nat} {fa a c Pt : Addr} {fd : FuncData} {x : Str} {sp : Sp} {s : Shared} {vs : List Value} {ns : List Int}
    (KX : K.In s.heap) (hmg : s.heap.Ns mainGlobals mg) (hmb : s.heap.Ns builtinsNs mb) (hbb : ∀ x : Str, x ≠ "__name__" → mb x = bootBuiltins x) (hlim : s.heap.NoLimit) (hg : s.gens = #[])
    (hT : s.heap.get? Pt = some { cls := .none, data := .fields #[] }) (nT : K.lookup Pt = none) (hC : PySem.W.CodeHd s.heap c Pt)
    (hbm : ∃ (bm : Addr) (ob : Obj), mg "__builtins__" = some (.ref bm) ∧ bm ≠ builtinsNs ∧ s.heap.get? bm = some ob ∧ ob.cls = .type "module" ∧ ob.dict = some builtinsNs ∧ ob.data = .plain)
    (ha : s.heap.get? a = some { cls := .type "list", data := .seq vs.toArray }) (hi : IntsAre vs ns) (hl : ns.length ≤ sizeLine) (hr : Room k callerA)
    (F : ∀ base : Heap, K.In base → base.Ns mainGlobals mg → LamX.TabB base mg c Pt → FnG P w K mg base k fa fd [x] sp) (hbind : ∀ (s : Shared) (u : Value), BindsTo s fd ⟨[u], []⟩ [(x, u)])
    (hsp : ∀ H : Hp, H Pt = some (.tbl #[]) → SqL K H a (ns.map V.int) → sp [.ref a] H (fun v _ => v = .bl true) fun _ _ _ => False) :
    codeAny (model P w) callerA (.call (.ref fa) ⟨[.ref a], []⟩) (fun r s' => r = .ok (.ret (.bool true)) ∧ OldK s.heap s'.heap ∧ s'.os = s.os ∧ AllBare s'.gens) s := by
  have nPa : Pt ≠ a := fun z => by
    rw [z, ha] at hT
    cases Option.some.inj hT
  -- told of any way to follow the script
  have told : ∀ H : Hp, H Pt = some (.tbl #[]) → (∀ b, b ≠ Pt → H b = none ∨ (b = a ∧ K.lookup a = none ∧ ∃ o xs, H a = some (.frz o (.lst xs)))) → SqL K H a (ns.map V.int) → HOk P w H s.heap →
      codeAny (model P w) callerA (.call (.ref fa) ⟨[.ref a], []⟩) (fun r s' => r = .ok (.ret (.bool true)) ∧ OldK s.heap s'.heap ∧ s'.os = s.os ∧ AllBare s'.gens) s := by
    intro H hP hO hS hok
    have out : ∀ {b : Addr} {o : Obj}, s.heap.get? b = some o → b ≠ Pt → b ≠ a → (hidT s.heap H).get? b = some o := fun {b o} e n1 n2 => hidT_get e ((hO b n1).resolve_right fun z => n2 z.1)
    have neD : ∀ {b : Addr} {o : Obj}, s.heap.get? b = some o → (∀ v n, o.data ≠ .seq v n) → (o.data ≠ .fields #[]) → b ≠ Pt ∧ b ≠ a := fun {b o} e h1 h2 => ⟨fun z => by
      rw [z, hT] at e
      cases Option.some.inj e
      exact h2 rfl, fun z => by
      rw [z, ha] at e
      cases Option.some.inj e
      exact h1 _ _ rfl⟩
    have ns_ : ∀ {b : Addr} {m : Str → Option Value}, s.heap.Ns b m → (hidT s.heap H).Ns b m := fun {b m} ⟨o, es, ep, e, d, r⟩ => by
      have n := neD e (fun v n z => by rw [d] at z; cases z) (fun z => by rw [d] at z; cases z)
      exact ⟨o, es, ep, out e n.1 n.2, d, r⟩
    have kin : K.In (hidT s.heap H) := fun b o e => by
      refine hidT_get (KX b o e) ?_
      by_cases z : b = Pt
      · rw [z, nT] at e; cases e
      · refine (hO b z).resolve_right fun ⟨z1, z2, _⟩ => ?_
        rw [z1, z2] at e
        cases e
    have hM : L2.Mod K mg (hidT s.heap H) := ⟨kin, ns_ hmg, ⟨mb, ns_ hmb, hbb⟩, let ⟨mc, h1, h2⟩ := hlim; ⟨mc, ns_ h1, h2⟩⟩
    have TB : LamX.TabB (hidT s.heap H) mg c Pt := by
      refine ⟨?_, ?_, fun z => ?_⟩
      · obtain ⟨o, us, file, tf, flags, tg, inF, text, tt, e, e2, e3, r⟩ := hC
        have n := neD e (fun v n z => by rw [e3] at z; cases z) (fun z => by
          rw [e3] at z
          cases z
          have := r.1
          simp at this)
        exact ⟨o, us, file, tf, flags, tg, inF, text, tt, out e n.1 n.2, e2, e3, r⟩
      · obtain ⟨bm, ob, b1, b2, b3, b4, b5, b6⟩ := hbm
        have n := neD b3 (fun v n z => by rw [b6] at z; cases z) (fun z => by rw [b6] at z; cases z)
        refine ⟨bm, ob, b1, b2, fun z => ?_, n.1, out b3 n.1 n.2, b4, b5, b6⟩
        obtain ⟨o, es, ep, e, d, _⟩ := hmg
        rw [z, e] at b3
        cases Option.some.inj b3
        rw [d] at b6
        cases b6
      · obtain ⟨o, es, ep, e, d, _⟩ := hmg
        rw [z, hT] at e
        cases Option.some.inj e
        cases d
    have e0 : Env0 P w K mg (hidT s.heap H) callerA [] s H := ⟨rfl, hM, fun b o e => of_hidT e, Nat.le_of_eq (hidT_size _ _), trivial, fun b hb => absurd (show b ∈ ([] : List Addr) from hb) (by simp), hok, .of_eq hg⟩
    refine codeAny_mono ((F _ kin (ns_ hmg) TB).run callerA [] s H ⟨[.ref a], []⟩ [.ref a] [.ref a] _ _ hr rfl e0 (hbind s (.ref a)) (.cons rfl .nil) (hsp H hP hS)) fun r s' h => ?_
    cases r with
    | error e => exact (show False from h).elim
    | ok fl =>
      cases fl with
      | next => exact False.elim h
      | brk => exact False.elim h
      | cont => exact False.elim h
      | ret u =>
        obtain ⟨v, H', os, bare, un, hok', r', q⟩ := h
        obtain rfl : v = V.bl true := q
        obtain rfl : u = Value.bool true := r'
        obtain ⟨more, hm⟩ := un.tbls Pt #[] hP
        have hm' : s'.heap.get? Pt = some { cls := .none, data := .fields more } := by
          have z := hok' Pt _ hm
          rw [Array.empty_append] at z
          exact z
        have rest : ∀ b o, b ≠ Pt → s.heap.get? b = some o → s'.heap.get? b = some o := fun b o n e => by
          rcases hO b n with z | ⟨z, _, ob, xs, hf⟩
          · exact un.keep b o e z (fun w => absurd (show b ∈ ([] : List Addr) from w) (by simp)) (by simp)
          · rw [z] at e ⊢
            have e1 := (hok a _ hf).1
            rw [e] at e1
            rw [Option.some.inj e1]
            exact (hok' a _ (un.frzs a ob _ hf)).1
        refine ⟨rfl, ⟨fun b o e => ?_, fun b o e => ?_⟩, os, bare⟩
        · by_cases z : b = Pt
          · rw [z] at e ⊢
            rw [hT] at e
            cases Option.some.inj e
            exact .inr (.inl ⟨(hC.tab hT).isCodeTable, rfl, #[], more, rfl, by rw [Array.empty_append]; exact hm'⟩)
          · exact .inl (rest b o z e)
        · by_cases z : b = Pt
          · rw [z]; exact ⟨_, hm'⟩
          · exact ⟨o, rest b o z e⟩
  have rv := vals_ints hi
  cases hk : K.lookup a with
  | some o =>
    have e := KX a o hk
    rw [ha] at e
    cases Option.some.inj e
    refine told (fun b => if b = Pt then some (.tbl #[]) else none) (if_pos rfl) (fun b n => .inl (if_neg n)) (.inr ⟨_, vs.toArray, _, hk, rfl, rfl, rfl, by rw [List.size_toArray, hi.length]; exact hl, by simpa using rv⟩) fun b u z => ?_
    by_cases n : b = Pt
    · have z' : some (HO.tbl #[]) = some u := (if_pos n).symm.trans z
      cases z'
      rw [n]
      exact hT
    · have z' : (none : Option HO) = some u := (if_neg n).symm.trans z
      cases z'
  | none =>
    refine told (fun b => if b = Pt then some (.tbl #[]) else if b = a then some (.frz { cls := .type "list", data := .seq vs.toArray } (.lst (ns.map V.int))) else none) (if_pos rfl) (fun b n => ?_) (.inl (.inr ⟨_, (if_neg nPa.symm).trans (if_pos rfl)⟩)) fun b u z => ?_
    · by_cases n2 : b = a
      · exact .inr ⟨n2, hk, _, _, (if_neg nPa.symm).trans (if_pos rfl)⟩
      · exact .inl ((if_neg n).trans (if_neg n2))
    · by_cases n : b = Pt
      · have z' : some (HO.tbl #[]) = some u := (if_pos n).symm.trans z
        cases z'
        rw [n]
        exact hT
      · by_cases n2 : b = a
        · have z' := ((if_neg n).trans (if_pos n2)).symm.trans z
          cases z'
          rw [n2]
          exact ⟨ha, by rw [List.length_map]; exact hl, vs, _, rv, ha⟩
        · have z' := ((if_neg n).trans (if_neg n2)).symm.trans z
          cases z'
end K1
namespace K1
open PySem PySem.Spec PyProof.Rows L2
/-- what the top has left -/
structure Tp (K : PySem.W.Frag) (mg : Str → Option Value) (M CM CR CS CU c Pt fa : Addr) (fd : FuncData) : Prop where
  B : Bt mg
  ct : Ct mg
  whole : ∃ f fd, Df K mg "is_whole" sWhole ["value"] f fd
  below : ∃ f fd, Df K mg "is_below" sBelow ["value", "limit"] f fd
  seq : ∃ f fd, Df K mg "is_sequence" sSeq ["value", "least", "most"] f fd
  fnb : ∃ f fd, Df K mg "first_not_below" sFnb ["items", "limit"] f fd
  istab : ∃ f fd, Df K mg "is_table" sIsTab ["value", "states"] f fd
  chk : ∃ f fd, Df K mg "checked_tables" sChk ["value"] f fd
  needS : ∃ f fd, Df K mg "need_state" sNeedS ["machine", "state"] f fd
  fault : ∃ f fd, Df K mg "row_fault" sFault ["machine", "value"] f fd
  row : ∃ f fd, Df K mg "check_row" sRow ["machine", "value"] f fd
  moved : ∃ f fd, Df K mg "moved" sMoved ["machine", "state", "row"] f fd
  led : ∃ f fd, Df K mg "led" sLed ["machine", "state", "row"] f fd
  first : ∃ f fd, DfF K mg f fd
  orbit : ∃ f fd, Df K mg "orbit" sOrbit ["machine", "state"] f fd
  cpaper : ∃ f fd, Df K mg "commuting_paper" sCPaper ["machine", "state"] f fd
  needC : ∃ f fd, Df K mg "need_commuting" sNeedC ["machine", "state"] f fd
  power : ∃ f fd, Df K mg "power_of" sPower ["machine", "state", "row"] f fd
  box : ∃ f fd, Df K mg "_law_box" sBox ["_law_script", "_law_k"] f fd
  take : ∃ f fd, Df K mg "_law_take" sTake ["_law_box_here", "_law_many"] f fd
  pick : ∃ f fd, Df K mg "_law_pick" sPick ["_law_box_here", "_law_some"] f fd
  tabs : ∃ f fd, Df K mg "_law_tables" sTabs ["_law_box_here", "_law_sizes", "_law_kinds"] f fd
  run : ∃ f fd, Df K mg "_law_run" sRun ["_law_tables_here", "_law_start", "_law_log_here"] f fd
  log : ∃ f fd, Df K mg "_law_log" sLog ["_law_box_here", "_law_tables_here", "_law_most"] f fd
  comm : ∃ f fd, Df K mg "_law_commuting" sComm ["_law_box_here"] f fd
  paper : ∃ f fd, Df K mg "_law_paper" sPaper ["_law_tables_here", "_law_some"] f fd
  lorb : ∃ f fd, Df K mg "_law_orbit" sLOrbit ["_law_tables_here", "_law_state"] f fd
  heard : ∃ f fd, Df K mg "_law_heard" sHeard ["_law_ask"] f fd
  lpow : ∃ f fd, Df K mg "_law_power" sLPower ["_law_tables_here", "_law_state", "_law_row"] f fd
  shuf : ∃ f fd, Df K mg "_law_shuffled_right" sShuf ["_law_box_here", "_law_tables_here", "_law_machine", "_law_state"] f fd
  law : FunC K "law" "law" sLaw fa fd (.ref c)
  lawb : ∀ (s : Shared) (u : Value), BindsTo s fd ⟨[u], []⟩ [("_law_script", u)]
  init : ∃ f fd, Fun K "__init__" "Machine.__init__" sMInit f fd ∧ Mk K M f ∧ Binds K fd ["self", "tables"] []
  eq : ∃ f fd, Fun K "__eq__" "Machine.__eq__" sMEq f fd ∧ PySem.W.findIn K (.ref M) "__eq__" = some (some (.ref f)) ∧ PySem.W.isFn K (.ref f) = true ∧ Binds K fd ["self", "other"] []
  ne : PySem.W.findIn K (.ref M) "__ne__" = some (some (.builtin "object.__ne__"))
  T : McT K mg M
  I : McI K M
  t1 : ∃ q b i, LAt.Txt K mg "BadMachine" q b CM i
  t2 : ∃ q b i, LAt.Txt K mg "BadRow" q b CR i
  t3 : ∃ q b i, LState.Txt K mg "NoState" q b CS i
  u : UnC K mg CU
  ui : ∃ f fd, Fun K "__init__" "Uncommuting.__init__" sUInit f fd ∧ PySem.W.findIn K (.ref CU) "__init__" = some (some (.ref f)) ∧ PySem.W.typeIn K (.ref f) = some (.type "function") ∧ Binds K fd ["self", "state", "one", "other"] []
  ex : ∃ N, mg "NetError" = some (.ref N) ∧ Exm K CU CR CS N
  tab : PySem.W.tabIn K "law" = some (c, Pt)
  nP : K.lookup Pt = Option.none
section
variable {P : Program} {w : World} {K : PySem.W.Frag} {mg : Str → Option Value} {base : Heap}
theorem asm {M CM CR CS CU c Pt fa : Addr} {fd : FuncData} (t : Tp K mg M CM CR CS CU c Pt fa fd) (TB : LamX.TabB base mg c Pt) : FnG P w K mg base 11 fa fd ["_law_script"] (spLaw K [(Pt, qNo)]) := by
  have B := t.B
  have ct := t.ct
  have T := t.T
  obtain ⟨_, _, dWhole⟩ := t.whole
  obtain ⟨_, _, dBelow⟩ := t.below
  obtain ⟨_, _, dSeq⟩ := t.seq
  obtain ⟨_, _, dFnb⟩ := t.fnb
  obtain ⟨_, _, dIsTab⟩ := t.istab
  obtain ⟨_, _, dChk⟩ := t.chk
  obtain ⟨_, _, dNeedS⟩ := t.needS
  obtain ⟨_, _, dFault⟩ := t.fault
  obtain ⟨_, _, dRow⟩ := t.row
  obtain ⟨_, _, dMoved⟩ := t.moved
  obtain ⟨_, _, dLed⟩ := t.led
  obtain ⟨_, _, dFirst⟩ := t.first
  obtain ⟨_, _, dOrbit⟩ := t.orbit
  obtain ⟨_, _, dCPaper⟩ := t.cpaper
  obtain ⟨_, _, dNeedC⟩ := t.needC
  obtain ⟨_, _, dPower⟩ := t.power
  obtain ⟨_, _, dBox⟩ := t.box
  obtain ⟨_, _, dTake⟩ := t.take
  obtain ⟨_, _, dPick⟩ := t.pick
  obtain ⟨_, _, dTabs⟩ := t.tabs
  obtain ⟨_, _, dRun⟩ := t.run
  obtain ⟨_, _, dLog⟩ := t.log
  obtain ⟨_, _, dComm⟩ := t.comm
  obtain ⟨_, _, dPaper⟩ := t.paper
  obtain ⟨_, _, dLorb⟩ := t.lorb
  obtain ⟨_, _, dLpow⟩ := t.lpow
  obtain ⟨_, _, dShuf⟩ := t.shuf
  obtain ⟨_, _, fInit, mk, bInit⟩ := t.init
  obtain ⟨_, _, fEq, e1, e2, bEq⟩ := t.eq
  obtain ⟨_, _, fUi, iC, tI, bUi⟩ := t.ui
  obtain ⟨_, _, _, x1⟩ := id t.t1
  obtain ⟨_, _, _, x2⟩ := id t.t2
  obtain ⟨_, _, _, x3⟩ := id t.t3
  have gWhole := ok_whole (P := P) (w := w) (base := base) dWhole B
  have gBelow := ok_below (P := P) (w := w) (base := base) dBelow dWhole B
  have gSeq := ok_seq (P := P) (w := w) (base := base) dSeq B
  have gFnb := ok_fnb (P := P) (w := w) (base := base) dFnb dBelow B gBelow
  have gIsTab := ok_istab (P := P) (w := w) (base := base) dIsTab dSeq dFnb gSeq gFnb
  have gChk := ok_chk (P := P) (w := w) (base := base) dChk dSeq dIsTab B ct x1 gSeq gIsTab
  have gInit := ok_minit (P := P) (w := w) (base := base) fInit dChk B T gChk
  have gEq := ok_meq (P := P) (w := w) (base := base) fEq B T t.I
  have gNeedS := ok_needS (P := P) (w := w) (base := base) dNeedS dBelow T x3 gBelow
  have gFault := ok_fault (P := P) (w := w) (base := base) dFault dSeq dFnb ct T gSeq gFnb
  have gRow := ok_row (P := P) (w := w) (base := base) dRow dFault B x2 gFault
  have gMoved := ok_moved (P := P) (w := w) (base := base) dMoved T
  have gLed := ok_led (P := P) (w := w) (base := base) dLed dNeedS dMoved dRow gNeedS gMoved gRow
  have gFirst := ok_first (P := P) (w := w) (base := base) dFirst B T
  have gOrbit := ok_orbit (P := P) (w := w) (base := base) dOrbit dNeedS dFirst B gNeedS gFirst
  have gCPaper := ok_cpaper (P := P) (w := w) (base := base) dCPaper dOrbit dMoved B T gOrbit gMoved
  have gUi := ok_uinit (P := P) (w := w) (base := base) fUi t.u
  have gNeedC := ok_needC (P := P) (w := w) (base := base) dNeedC dCPaper t.u iC tI bUi gUi gCPaper
  have gPower := ok_power (P := P) (w := w) (base := base) dPower dNeedS dRow dMoved B gNeedS gRow gMoved
  have gTake := ok_take (P := P) (w := w) (base := base) dTake B
  have gPick := ok_pick (P := P) (w := w) (base := base) dPick dTake B gTake
  have gBox := ok_box (P := P) (w := w) (base := base) dBox B
  have gTabs := ok_tabs (P := P) (w := w) (base := base) dTabs dTake dPick B gTake gPick
  have gRun := ok_run (P := P) (w := w) (base := base) dRun
  have gRunL := ok_runL (P := P) (w := w) (base := base) dRun
  have gLog := ok_log (P := P) (w := w) (base := base) dLog dTake B gTake
  have gComm := ok_comm (P := P) (w := w) (base := base) dComm dTake B gTake
  have gPaper := ok_paper (P := P) (w := w) (base := base) dPaper B
  have gLorb := ok_lorbit (P := P) (w := w) (base := base) dLorb B
  have gLpow := ok_lpow (P := P) (w := w) (base := base) dLpow dRun B gRun
  have gShuf := ok_shuf (P := P) (w := w) (base := base) dShuf dTake dLog dRun dLed B gTake gLog gRunL gLed
  have hd : Hd K mg base c Pt CU CR CS := ⟨B, t.heard, t.u, t.t2, t.t3, t.ex, x2.gC, x3.gC, TB⟩
  have dn : Dn P w K mg base M CU CR CS := ⟨B, T, ⟨_, _, dPick, gPick⟩, ⟨_, _, dTake, gTake⟩, ⟨_, _, dLog, gLog⟩, ⟨_, _, dPaper, gPaper⟩, ⟨_, _, dLorb, gLorb⟩, ⟨_, _, dLpow, gLpow⟩, ⟨_, _, dShuf, gShuf⟩, ⟨_, _, dCPaper, gCPaper⟩, ⟨_, _, dNeedC, gNeedC⟩, ⟨_, _, dPower, gPower⟩, ⟨_, _, e1, e2, bEq, gEq⟩, t.ne⟩
  exact ok_law t.law dBox dComm dTabs mk bInit gBox gComm gTabs gInit hd dn
end
/-- the end: from what the top has left -/
theorem walkK {l : PySem.W.OpenLaw} {q : Program} {loose : List Str} {XP : (Str → Option Value) → Heap → Prop} {YP : World → Heap → Prop} {d : DefRec} {K : Params → PySem.W.Frag} (hn : l.most = some 63) (hdf : d.params.defaults = []) (hY : ∀ (w : World) (h : Heap), YP w h → (K w.params).In h)
    (hr : ∃ d', (recsOf q).find? (fun e => e.name == ("law" : Str)) = some d')
    (F : ∀ (w : World) (mg : Str → Option Value) (fa : Addr) (h : Heap), (K w.params).In h → h.Ns mainGlobals mg → mg d.name = some (.ref fa) → ∃ (M CM CR CS CU c Pt : Addr) (fd : FuncData), Tp (K w.params) mg M CM CR CS CU c Pt fa fd) :
    PySem.W.WalkO q loose XP YP l.row.toRowW d [] (fun f vs => PySem.call f vs) := by
  refine Att.attach_callB hn hdf fun w s₀ s₁ mg mb fa o pm cd doc a vs ns G Y ho hd hcd hmg hobj hints hlen hbits hg => ?_
  have KX := hY w _ Y
  obtain ⟨M, CM, CR, CS, CU, c, Pt, fd, t⟩ := F w mg fa _ KX G.T.g hmg
  obtain ⟨d', hr⟩ := hr
  obtain ⟨C, hT⟩ := PySem.W.tab_of G.T KX hr t.tab
  exact call_law (k := 11) (x := "_law_script") (sp := spLaw (K w.params) [(Pt, qNo)]) KX G.T.g G.T.b G.T.builtins G.T.nolimit hg hT t.nP C G.T.bmain hobj hints (Nat.le_trans hlen (by decide)) ⟨rfl, by decide, by decide⟩ (fun base _ _ TB => asm t TB) t.lawb
    fun H hP hS => ⟨a, ns, rfl, hS, hlen, fun p hp => by rw [List.mem_singleton.mp hp]; exact .nil hP, fun _ => rfl⟩
end K1
namespace K1
open PySem PySem.Spec PyProof.Rows L2
section
variable {K : PySem.W.Frag} {h : Heap} {mg : Str → Option Value} {x qual : Str} {st : Stmt} {ps : List Str} {f C : Addr} {oc kV doc pm cdv ct : Value} {od an : Option Addr} {osl : Array (Option Value)}
theorem df_of (X : K.In h) (G : h.Ns mainGlobals mg) (a : PySem.W.nsIn K mainGlobals x = some (some (.ref f))) (l : K.lookup f = some ⟨oc, od, .func (PySem.W.fnOf x x (defArgs st) (defBody st) (defScope st) .none kV doc pm an cdv ct), osl⟩)
    (c : PySem.W.codeIn K cdv x = true) (k : PySem.W.keepIn K (.ref f) = true)
    (b : ∀ (kV doc pm : Value) (an : Option Addr) (cdv ct : Value) (us : List Value), us.length = ps.length → bindArgs (PySem.W.fnOf x x (defArgs st) (defBody st) (defScope st) .none kV doc pm an cdv ct) ⟨us, []⟩ = pure (ps.zip us)) : ∃ f fd, Df K mg x st ps f fd :=
  ⟨f, _, ⟨fun_mk l c k, PySem.W.mg_of X G a, (fun_mk l c k).binds b⟩⟩
theorem dfc_of {cc : Addr} (X : K.In h) (G : h.Ns mainGlobals mg) (a : PySem.W.nsIn K mainGlobals x = some (some (.ref f))) (l : K.lookup f = some ⟨oc, od, .func (PySem.W.fnOf x x (defArgs st) (defBody st) (defScope st) .none kV doc pm an (.ref cc) ct), osl⟩)
    (c : PySem.W.codeIn K (.ref cc) x = true) (k : PySem.W.keepIn K (.ref f) = true)
    (b : ∀ (kV doc pm : Value) (an : Option Addr) (cdv ct : Value) (us : List Value), us.length = ps.length → bindArgs (PySem.W.fnOf x x (defArgs st) (defBody st) (defScope st) .none kV doc pm an cdv ct) ⟨us, []⟩ = pure (ps.zip us)) : ∃ f fd, Df K mg x st ps f fd ∧ FunC K x x st f fd (.ref cc) :=
  ⟨f, _, ⟨fun_mk l c k, PySem.W.mg_of X G a, (fun_mk l c k).binds b⟩, ⟨oc, od, kV, doc, pm, an, ct, osl, rfl, l, c⟩, k⟩
theorem dfF_of {T : Addr} {o1 : Value} {o2 : Option Addr} {n : Nat} {o4 : Array (Option Value)} (X : K.In h) (G : h.Ns mainGlobals mg) (a : PySem.W.nsIn K mainGlobals "first_rows" = some (some (.ref f)))
    (l : K.lookup f = some ⟨oc, od, .func (PySem.W.fnOf "first_rows" "first_rows" (defArgs sFirst) (defBody sFirst) (defScope sFirst) (.ref T) kV doc pm an cdv ct), osl⟩)
    (c : PySem.W.codeIn K cdv "first_rows" = true) (k : PySem.W.keepIn K (.ref f) = true) (lT : K.lookup T = some ⟨o1, o2, .seq #[.none, .none] n, o4⟩) : ∃ f fd, DfF K mg f fd :=
  ⟨f, _, ⟨⟨⟨oc, od, .ref T, kV, doc, pm, an, cdv, ct, osl, rfl, l, c, .inr ⟨by simp, T, _, [.none, .none], n, rfl, lT, rfl, .cons rfl (.cons rfl .nil)⟩, .inl rfl⟩, k⟩, PySem.W.mg_of X G a⟩⟩
theorem law_of {fa cc : Addr} (X : K.In h) (G : h.Ns mainGlobals mg) (e : mg "law" = some (.ref fa)) (a : PySem.W.nsIn K mainGlobals "law" = some (some (.ref f))) (l : K.lookup f = some ⟨oc, od, .func (PySem.W.fnOf "law" "law" (defArgs sLaw) (defBody sLaw) (defScope sLaw) .none kV doc pm an (.ref cc) ct), osl⟩)
    (c : PySem.W.codeIn K (.ref cc) "law" = true) (k : PySem.W.keepIn K (.ref f) = true) : ∃ fd, FunC K "law" "law" sLaw fa fd (.ref cc) ∧ ∀ (s : Shared) (u : Value), BindsTo s fd ⟨[u], []⟩ [("_law_script", u)] := by
  have z := e.symm.trans (PySem.W.mg_of X G a)
  cases Option.some.inj z
  exact ⟨_, ⟨⟨oc, od, kV, doc, pm, an, ct, osl, rfl, l, c⟩, k⟩, fun s u => .of_eq rfl⟩
theorem init_of {M : Addr} (a : PySem.W.findIn K (.ref M) "__init__" = some (some (.ref f))) (i : PySem.W.isFn K (.ref f) = true) (m : PySem.W.makesIn K M = true) (kM : PySem.W.keepIn K (.ref M) = true)
    (l : K.lookup f = some ⟨oc, od, .func (PySem.W.fnOf "__init__" "Machine.__init__" (defArgs sMInit) (defBody sMInit) (defScope sMInit) .none kV doc pm an cdv ct), osl⟩) (c : PySem.W.codeIn K cdv "Machine.__init__" = true) (k : PySem.W.keepIn K (.ref f) = true) :
    ∃ f fd, Fun K "__init__" "Machine.__init__" sMInit f fd ∧ Mk K M f ∧ Binds K fd ["self", "tables"] [] :=
  ⟨f, _, fun_mk l c k, ⟨m, a, i, kM⟩, (fun_mk l c k).binds fun _ _ _ _ _ _ us hl => match us, hl with | [_, _], _ => rfl⟩
theorem eq_of {M : Addr} (a : PySem.W.findIn K (.ref M) "__eq__" = some (some (.ref f))) (i : PySem.W.isFn K (.ref f) = true)
    (l : K.lookup f = some ⟨oc, od, .func (PySem.W.fnOf "__eq__" "Machine.__eq__" (defArgs sMEq) (defBody sMEq) (defScope sMEq) .none kV doc pm an cdv ct), osl⟩) (c : PySem.W.codeIn K cdv "Machine.__eq__" = true) (k : PySem.W.keepIn K (.ref f) = true) :
    ∃ f fd, Fun K "__eq__" "Machine.__eq__" sMEq f fd ∧ PySem.W.findIn K (.ref M) "__eq__" = some (some (.ref f)) ∧ PySem.W.isFn K (.ref f) = true ∧ Binds K fd ["self", "other"] [] :=
  ⟨f, _, fun_mk l c k, a, i, (fun_mk l c k).binds fun _ _ _ _ _ _ us hl => match us, hl with | [_, _], _ => rfl⟩
theorem ui_of {CU : Addr} (a : PySem.W.findIn K (.ref CU) "__init__" = some (some (.ref f))) (i : PySem.W.typeIn K (.ref f) = some (.type "function"))
    (l : K.lookup f = some ⟨oc, od, .func (PySem.W.fnOf "__init__" "Uncommuting.__init__" (defArgs sUInit) (defBody sUInit) (defScope sUInit) .none kV doc pm an cdv ct), osl⟩) (c : PySem.W.codeIn K cdv "Uncommuting.__init__" = true) (k : PySem.W.keepIn K (.ref f) = true) :
    ∃ f fd, Fun K "__init__" "Uncommuting.__init__" sUInit f fd ∧ PySem.W.findIn K (.ref CU) "__init__" = some (some (.ref f)) ∧ PySem.W.typeIn K (.ref f) = some (.type "function") ∧ Binds K fd ["self", "state", "one", "other"] [] :=
  ⟨f, _, fun_mk l c k, a, i, (fun_mk l c k).binds fun _ _ _ _ _ _ us hl => match us, hl with | [_, _, _, _], _ => rfl⟩
end
section
variable {K : PySem.W.Frag} {h : Heap} {mg : Str → Option Value} {cn ql nm q : Str} {C N0 N fI : Addr} {bs sub : List Value} {sn : List Str} {ab : Bool} {col : Option Bool} {dd : Option Addr} {k0 k1 k2 k3 k5 : Option Value} {oc doc pm cdv ct : Value} {od an : Option Addr} {osl : Array (Option Value)} {p1 p2 q1 q2 q3 q4 : Pos}
theorem at_of_ (X : K.In h) (G : h.Ns mainGlobals mg) (a : PySem.W.nsIn K mainGlobals cn = some (some (.ref C))) (xl : K.lookup C = some (excClassObj nm q C N bs (.ref N0 :: veT) true sn sub ab col dd k0 k1 k2 k3 k5 "ValueError.__new__"))
    (sa : PySem.W.findIn K (.ref C) "__setattr__" = some (some (.builtin "object.__setattr__"))) (ga : PySem.W.findIn K (.ref C) "__getattribute__" = some (some (.builtin "BaseException.__getattribute__"))) (gg : PySem.W.findIn K (.ref C) "__getattr__" = some none) (no : PySem.W.findIn K (.ref C) "at" = some none)
    (ic : PySem.W.findIn K (.ref C) "__init__" = some (some (.ref fI))) (tc : PySem.W.typeIn K (.ref fI) = some (.type "function")) (kc : PySem.W.keepIn K (.ref C) = true) (ec : PySem.W.subIn K (.ref C) (.type "BaseException") = some true) (ty : PySem.W.typeIn K (.ref C) = some (.type "type")) (hc : PySem.W.hasDictIn K C = true)
    (l : K.lookup fI = some ⟨oc, od, .func (PySem.W.fnOf "__init__" ql (LAt.iA p1 p2) (LAt.iB q1 q2 q3 q4) LAt.iS .none .none doc pm an cdv ct), osl⟩) (c : PySem.W.codeIn K cdv ql = true) : ∃ q b i, LAt.Txt K mg cn q b C i :=
  ⟨ql, _, fI, ⟨PySem.W.mg_of X G a, ⟨nm, q, N, bs, sn, sub, ab, col, dd, k0, k1, k2, k3, k5, xl⟩, mro_ve N0, sa, ga, gg, no, ic, tc, kc, ec, ty, hc, ⟨oc, od, doc, pm, an, cdv, ct, osl, p1, p2, q1, q2, q3, q4, l, c⟩⟩⟩
theorem state_of_ (X : K.In h) (G : h.Ns mainGlobals mg) (a : PySem.W.nsIn K mainGlobals cn = some (some (.ref C))) (xl : K.lookup C = some (excClassObj nm q C N bs keT true sn sub ab col dd k0 k1 k2 k3 k5 "LookupError.__new__"))
    (sa : PySem.W.findIn K (.ref C) "__setattr__" = some (some (.builtin "object.__setattr__"))) (ga : PySem.W.findIn K (.ref C) "__getattribute__" = some (some (.builtin "BaseException.__getattribute__"))) (gg : PySem.W.findIn K (.ref C) "__getattr__" = some none) (no : PySem.W.findIn K (.ref C) "state" = some none)
    (ic : PySem.W.findIn K (.ref C) "__init__" = some (some (.ref fI))) (tc : PySem.W.typeIn K (.ref fI) = some (.type "function")) (kc : PySem.W.keepIn K (.ref C) = true) (ec : PySem.W.subIn K (.ref C) (.type "BaseException") = some true) (ty : PySem.W.typeIn K (.ref C) = some (.type "type")) (hc : PySem.W.hasDictIn K C = true)
    (l : K.lookup fI = some ⟨oc, od, .func (PySem.W.fnOf "__init__" ql (LState.iA p1 p2) (LState.iB q1 q2 q3 q4) LState.iS .none .none doc pm an cdv ct), osl⟩) (c : PySem.W.codeIn K cdv ql = true) : ∃ q b i, LState.Txt K mg cn q b C i :=
  ⟨ql, _, fI, ⟨PySem.W.mg_of X G a, ⟨nm, q, N, bs, sn, sub, ab, col, dd, k0, k1, k2, k3, k5, xl⟩, mro_ke, sa, ga, gg, no, ic, tc, kc, ec, ty, hc, ⟨oc, od, doc, pm, an, cdv, ct, osl, p1, p2, q1, q2, q3, q4, l, c⟩⟩⟩
theorem un_of (X : K.In h) (G : h.Ns mainGlobals mg) (a : PySem.W.nsIn K mainGlobals "Uncommuting" = some (some (.ref C))) (xl : K.lookup C = some (excClassObj nm q C N bs (.ref N0 :: veT) true sn sub ab col dd k0 k1 k2 k3 k5 "ValueError.__new__")) (rv : PySem.HandSPX.refsVE (.ref N0 :: veT) = true)
    (sa : PySem.W.findIn K (.ref C) "__setattr__" = some (some (.builtin "object.__setattr__"))) (ga : PySem.W.findIn K (.ref C) "__getattribute__" = some (some (.builtin "BaseException.__getattribute__"))) (gg : PySem.W.findIn K (.ref C) "__getattr__" = some none)
    (n1 : PySem.W.findIn K (.ref C) "state" = some none) (n2 : PySem.W.findIn K (.ref C) "one" = some none) (n3 : PySem.W.findIn K (.ref C) "other" = some none)
    (kc : PySem.W.keepIn K (.ref C) = true) (ec : PySem.W.subIn K (.ref C) (.type "BaseException") = some true) (ty : PySem.W.typeIn K (.ref C) = some (.type "type")) (hc : PySem.W.hasDictIn K C = true) : UnC K mg C :=
  ⟨⟨⟨nm, q, N, bs, _, sn, sub, ab, col, dd, k0, k1, k2, k3, k5, xl, rv⟩, sa, ec, ty, kc⟩, n1, n2, n3, ⟨ga, gg, ec, hc⟩, PySem.W.mg_of X G a⟩
theorem exm_of {CU CR CS : Addr} (X : K.In h) (G : h.Ns mainGlobals mg) (a : PySem.W.nsIn K mainGlobals "NetError" = some (some (.ref N))) (e : Exm K CU CR CS N) : ∃ N, mg "NetError" = some (.ref N) ∧ Exm K CU CR CS N := ⟨N, PySem.W.mg_of X G a, e⟩
end
theorem ct_of {K : PySem.W.Frag} {h : Heap} {mg : Str → Option Value} {t1 t2 t3 : Tok} (X : K.In h) (G : h.Ns mainGlobals mg) (a : PySem.W.nsIn K mainGlobals "MOST_TABLES" = some (some (.int 8 t1))) (b : PySem.W.nsIn K mainGlobals "MOST_STATES" = some (some (.int 12 t2))) (c : PySem.W.nsIn K mainGlobals "MOST_ROW" = some (some (.int 10000 t3))) : Ct mg :=
  ⟨⟨_, PySem.W.mg_of X G a⟩, ⟨_, PySem.W.mg_of X G b⟩, ⟨_, PySem.W.mg_of X G c⟩⟩
theorem bt_of {K : PySem.W.Frag} {h : Heap} {mg : Str → Option Value} (X : K.In h) (G : h.Ns mainGlobals mg) (z : ∀ x ∈ ([("isinstance" : Str), "int", "bool", "list", "tuple", "len", "enumerate", "range", "sorted", "set", "repr", "abs", "min", "max"]), PySem.W.nsIn K mainGlobals x = some none) : Bt mg := by
  have n := fun x hx => PySem.W.mg_none_of X G (z x hx)
  exact ⟨n _ (by decide), n _ (by decide), n _ (by decide), n _ (by decide), n _ (by decide), n _ (by decide), n _ (by decide), n _ (by decide), n _ (by decide), n _ (by decide), n _ (by decide), n _ (by decide), n _ (by decide), n _ (by decide)⟩
theorem tab_mk {K : PySem.W.Frag} {x : Str} {f c Pt : Addr} {oc o1 : Value} {od o2 : Option Addr} {fd : FuncData} {osl o4 : Array (Option Value)} {vs : Array Value} (a : PySem.W.nsIn K mainGlobals x = some (some (.ref f))) (l : K.lookup f = some ⟨oc, od, .func fd, osl⟩) (hc : fd.code = .ref c)
    (lc : K.lookup c = some ⟨o1, o2, .fields vs, o4⟩) (hv : (vs[11]? : Option Value) = some (.ref Pt)) : PySem.W.tabIn K x = some (c, Pt) := by
  unfold PySem.W.tabIn
  rw [a]
  dsimp only
  rw [l]
  dsimp only
  rw [hc]
  dsimp only
  rw [lc]
  dsimp only
  rw [hv]
/-- the facts of the head, by the words that k_is answers -/
theorem tp_of {K : PySem.W.Frag} {h : Heap} {mg : Str → Option Value} {fa M CM CR CS CU N c Pt fN : Addr} {oc kV doc pm ct o1 : Value} {od an o2 : Option Addr} {osl o4 : Array (Option Value)} {vs : Array Value} (X : K.In h) (G : h.Ns mainGlobals mg)
    (B : Bt mg) (c_ : Ct mg)
    (whole : ∃ f fd, Df K mg "is_whole" sWhole ["value"] f fd)
    (below : ∃ f fd, Df K mg "is_below" sBelow ["value", "limit"] f fd)
    (seq : ∃ f fd, Df K mg "is_sequence" sSeq ["value", "least", "most"] f fd)
    (fnb : ∃ f fd, Df K mg "first_not_below" sFnb ["items", "limit"] f fd)
    (istab : ∃ f fd, Df K mg "is_table" sIsTab ["value", "states"] f fd)
    (chk : ∃ f fd, Df K mg "checked_tables" sChk ["value"] f fd)
    (needS : ∃ f fd, Df K mg "need_state" sNeedS ["machine", "state"] f fd)
    (fault : ∃ f fd, Df K mg "row_fault" sFault ["machine", "value"] f fd)
    (row : ∃ f fd, Df K mg "check_row" sRow ["machine", "value"] f fd)
    (moved : ∃ f fd, Df K mg "moved" sMoved ["machine", "state", "row"] f fd)
    (led : ∃ f fd, Df K mg "led" sLed ["machine", "state", "row"] f fd)
    (first : ∃ f fd, DfF K mg f fd)
    (orbit : ∃ f fd, Df K mg "orbit" sOrbit ["machine", "state"] f fd)
    (cpaper : ∃ f fd, Df K mg "commuting_paper" sCPaper ["machine", "state"] f fd)
    (needC : ∃ f fd, Df K mg "need_commuting" sNeedC ["machine", "state"] f fd)
    (power : ∃ f fd, Df K mg "power_of" sPower ["machine", "state", "row"] f fd)
    (box : ∃ f fd, Df K mg "_law_box" sBox ["_law_script", "_law_k"] f fd)
    (take : ∃ f fd, Df K mg "_law_take" sTake ["_law_box_here", "_law_many"] f fd)
    (pick : ∃ f fd, Df K mg "_law_pick" sPick ["_law_box_here", "_law_some"] f fd)
    (tabs : ∃ f fd, Df K mg "_law_tables" sTabs ["_law_box_here", "_law_sizes", "_law_kinds"] f fd)
    (run : ∃ f fd, Df K mg "_law_run" sRun ["_law_tables_here", "_law_start", "_law_log_here"] f fd)
    (log : ∃ f fd, Df K mg "_law_log" sLog ["_law_box_here", "_law_tables_here", "_law_most"] f fd)
    (comm : ∃ f fd, Df K mg "_law_commuting" sComm ["_law_box_here"] f fd)
    (paper : ∃ f fd, Df K mg "_law_paper" sPaper ["_law_tables_here", "_law_some"] f fd)
    (lorb : ∃ f fd, Df K mg "_law_orbit" sLOrbit ["_law_tables_here", "_law_state"] f fd)
    (heard : ∃ f fd, Df K mg "_law_heard" sHeard ["_law_ask"] f fd)
    (lpow : ∃ f fd, Df K mg "_law_power" sLPower ["_law_tables_here", "_law_state", "_law_row"] f fd)
    (shuf : ∃ f fd, Df K mg "_law_shuffled_right" sShuf ["_law_box_here", "_law_tables_here", "_law_machine", "_law_state"] f fd)
    (eL : mg "law" = some (.ref fa)) (aN : PySem.W.nsIn K mainGlobals "law" = some (some (.ref fN))) (lN : K.lookup fN = some ⟨oc, od, .func (PySem.W.fnOf "law" "law" (defArgs sLaw) (defBody sLaw) (defScope sLaw) .none kV doc pm an (.ref c) ct), osl⟩)
    (cN : PySem.W.codeIn K (.ref c) "law" = true) (kN : PySem.W.keepIn K (.ref fN) = true) (lc : K.lookup c = some ⟨o1, o2, .fields vs, o4⟩) (hv : (vs[11]? : Option Value) = some (.ref Pt)) (nP : K.lookup Pt = Option.none)
    (aM : PySem.W.nsIn K mainGlobals "Machine" = some (some (.ref M))) (pg : PySem.W.plainGet K M Str.empty = true) (hd : PySem.W.hasDictIn K M = true) (po : PySem.W.plainOver K M = true) (sa : PySem.W.findIn K (.ref M) "__setattr__" = some (some (.builtin "object.__setattr__")))
    (n1 : PySem.W.findIn K (.ref M) "tables" = some Option.none) (n2 : PySem.W.findIn K (.ref M) "deeds" = some Option.none) (n3 : PySem.W.findIn K (.ref M) "states" = some Option.none)
    (ca : PySem.W.findIn K (.ref M) "__class__" = some (some (.builtin "object.__class__"))) (sp : PySem.W.specialIn K (.builtin "object.__class__") "__get__" = some (some (.builtin "getset_descriptor.__get__"))) (tk : PySem.W.takesIn K (.builtin "object.__class__") = some true) (mo : PySem.W.mroIn K M (.type "object") = some true)
    (y : PySem.W.kitOne K (.ref M) (.ref M) = some true) (n : PySem.W.kitOne K (.type "tuple") (.ref M) = some false) (ne : PySem.W.findIn K (.ref M) "__ne__" = some (some (.builtin "object.__ne__")))
    (init : ∃ f fd, Fun K "__init__" "Machine.__init__" sMInit f fd ∧ Mk K M f ∧ Binds K fd ["self", "tables"] [])
    (eq : ∃ f fd, Fun K "__eq__" "Machine.__eq__" sMEq f fd ∧ PySem.W.findIn K (.ref M) "__eq__" = some (some (.ref f)) ∧ PySem.W.isFn K (.ref f) = true ∧ Binds K fd ["self", "other"] [])
    (aCM : PySem.W.nsIn K mainGlobals "BadMachine" = some (some (.ref CM))) (aCR : PySem.W.nsIn K mainGlobals "BadRow" = some (some (.ref CR))) (aCS : PySem.W.nsIn K mainGlobals "NoState" = some (some (.ref CS))) (aCU : PySem.W.nsIn K mainGlobals "Uncommuting" = some (some (.ref CU))) (aNE : PySem.W.nsIn K mainGlobals "NetError" = some (some (.ref N)))
    (t1 : ∃ q b i, LAt.Txt K mg "BadMachine" q b CM i) (t2 : ∃ q b i, LAt.Txt K mg "BadRow" q b CR i) (t3 : ∃ q b i, LState.Txt K mg "NoState" q b CS i) (u : UnC K mg CU)
    (ui : ∃ f fd, Fun K "__init__" "Uncommuting.__init__" sUInit f fd ∧ PySem.W.findIn K (.ref CU) "__init__" = some (some (.ref f)) ∧ PySem.W.typeIn K (.ref f) = some (.type "function") ∧ Binds K fd ["self", "state", "one", "other"] [])
    (ex : Exm K CU CR CS N) : ∃ (M CM CR CS CU c Pt : Addr) (fd : FuncData), Tp K mg M CM CR CS CU c Pt fa fd := by
  obtain ⟨fd, l1, l2⟩ := law_of X G eL aN lN cN kN
  exact ⟨M, CM, CR, CS, CU, c, Pt, fd, ⟨B, c_, whole, below, seq, fnb, istab, chk, needS, fault, row, moved, led, first, orbit, cpaper, needC, power, box, take, pick, tabs, run, log, comm, paper, lorb, heard, lpow, shuf, l1, l2, init, eq, ne, ⟨⟨pg, hd, po, sa⟩, n1, n2, n3, PySem.W.mg_of X G aM, ca, sp, tk, mo⟩, ⟨y, n⟩, t1, t2, t3, u, ui, ⟨N, PySem.W.mg_of X G aNE, ex⟩, tab_mk aN lN rfl lc hv, nP⟩⟩
end K1
open PySem PySem.W PyProof.Rows
set_option maxRecDepth 100000 in
set_option maxHeartbeats 0 in
theorem PySem.Challenge.cw_houseslessties_k02_whole_commuting_deeds_holds : PySem.Challenge.rw_houseslessties_k02_whole_commuting_deeds.Holds := by
  w_on; o_law; k_head; (case hw => w_witness2)
  k_fill
  refine K1.walkK (l := PySem.Challenge.rw_houseslessties_k02_whole_commuting_deeds) rfl rfl (fun w h Y => PySem.W.km_in_of Y) ?hr ?F
  case hr => exact ⟨_, rfl⟩
  case F =>
    intro w mg fa h KX G hmg
    refine' K1.tp_of KX G ?B ?c_ ?whole ?below ?seq ?fnb ?istab ?chk ?needS ?fault ?row ?moved ?led ?first ?orbit ?cpaper ?needC ?power ?box ?take ?pick ?tabs ?zrun ?log ?comm ?paper ?lorb ?heard ?lpow ?shuf hmg ?aN ?lN ?cN ?kN ?lc ?hv ?nP ?aM ?pg ?hd ?po ?sa ?n1 ?n2 ?n3 ?ca ?sp ?tk ?mo ?y ?n ?ne ?init ?eq ?aCM ?aCR ?aCS ?aCU ?aNE ?t1 ?t2 ?t3 ?u ?ui ?ex
    case B =>
      refine K1.bt_of KX G fun x hx => ?_
      simp only [List.mem_cons, List.mem_nil_iff, or_false] at hx
      rcases hx with rfl | rfl | rfl | rfl | rfl | rfl | rfl | rfl | rfl | rfl | rfl | rfl | rfl | rfl <;> k_is
    case c_ => refine' K1.ct_of KX G ?a_1 ?b_1 ?c_1; (case a_1 => k_is); (case b_1 => k_is); (case c_1 => k_is)
    case whole =>
      (refine' K1.df_of (by assumption) (by assumption) ?a_2 ?l_2 ?c_2 ?k_2 ?b_2; (case a_2 => k_is); (case l_2 => k_is); (case c_2 => k_is); (case k_2 => k_is))
      case b_2 => exact fun _ _ _ _ _ _ us hl => match us, hl with | [_], _ => rfl
    case below =>
      (refine' K1.df_of (by assumption) (by assumption) ?a_3 ?l_3 ?c_3 ?k_3 ?b_3; (case a_3 => k_is); (case l_3 => k_is); (case c_3 => k_is); (case k_3 => k_is))
      case b_3 => exact fun _ _ _ _ _ _ us hl => match us, hl with | [_, _], _ => rfl
    case seq =>
      (refine' K1.df_of (by assumption) (by assumption) ?a_4 ?l_4 ?c_4 ?k_4 ?b_4; (case a_4 => k_is); (case l_4 => k_is); (case c_4 => k_is); (case k_4 => k_is))
      case b_4 => exact fun _ _ _ _ _ _ us hl => match us, hl with | [_, _, _], _ => rfl
    case fnb =>
      (refine' K1.df_of (by assumption) (by assumption) ?a_5 ?l_5 ?c_5 ?k_5 ?b_5; (case a_5 => k_is); (case l_5 => k_is); (case c_5 => k_is); (case k_5 => k_is))
      case b_5 => exact fun _ _ _ _ _ _ us hl => match us, hl with | [_, _], _ => rfl
    case istab =>
      (refine' K1.df_of (by assumption) (by assumption) ?a_6 ?l_6 ?c_6 ?k_6 ?b_6; (case a_6 => k_is); (case l_6 => k_is); (case c_6 => k_is); (case k_6 => k_is))
      case b_6 => exact fun _ _ _ _ _ _ us hl => match us, hl with | [_, _], _ => rfl
    case chk =>
      (refine' K1.df_of (by assumption) (by assumption) ?a_7 ?l_7 ?c_7 ?k_7 ?b_7; (case a_7 => k_is); (case l_7 => k_is); (case c_7 => k_is); (case k_7 => k_is))
      case b_7 => exact fun _ _ _ _ _ _ us hl => match us, hl with | [_], _ => rfl
    case needS =>
      (refine' K1.df_of (by assumption) (by assumption) ?a_8 ?l_8 ?c_8 ?k_8 ?b_8; (case a_8 => k_is); (case l_8 => k_is); (case c_8 => k_is); (case k_8 => k_is))
      case b_8 => exact fun _ _ _ _ _ _ us hl => match us, hl with | [_, _], _ => rfl
    case fault =>
      (refine' K1.df_of (by assumption) (by assumption) ?a_9 ?l_9 ?c_9 ?k_9 ?b_9; (case a_9 => k_is); (case l_9 => k_is); (case c_9 => k_is); (case k_9 => k_is))
      case b_9 => exact fun _ _ _ _ _ _ us hl => match us, hl with | [_, _], _ => rfl
    case row =>
      (refine' K1.df_of (by assumption) (by assumption) ?a_10 ?l_10 ?c_10 ?k_10 ?b_10; (case a_10 => k_is); (case l_10 => k_is); (case c_10 => k_is); (case k_10 => k_is))
      case b_10 => exact fun _ _ _ _ _ _ us hl => match us, hl with | [_, _], _ => rfl
    case moved =>
      (refine' K1.df_of (by assumption) (by assumption) ?a_11 ?l_11 ?c_11 ?k_11 ?b_11; (case a_11 => k_is); (case l_11 => k_is); (case c_11 => k_is); (case k_11 => k_is))
      case b_11 => exact fun _ _ _ _ _ _ us hl => match us, hl with | [_, _, _], _ => rfl
    case led =>
      (refine' K1.df_of (by assumption) (by assumption) ?a_12 ?l_12 ?c_12 ?k_12 ?b_12; (case a_12 => k_is); (case l_12 => k_is); (case c_12 => k_is); (case k_12 => k_is))
      case b_12 => exact fun _ _ _ _ _ _ us hl => match us, hl with | [_, _, _], _ => rfl
    case first =>
      (refine' K1.dfF_of (by assumption) (by assumption) ?a_13 ?l_13 ?c_13 ?k_13 ?lT_13; (case a_13 => k_is); (case l_13 => k_is); (case c_13 => k_is); (case k_13 => k_is); (case lT_13 => k_is))
    case orbit =>
      (refine' K1.df_of (by assumption) (by assumption) ?a_14 ?l_14 ?c_14 ?k_14 ?b_14; (case a_14 => k_is); (case l_14 => k_is); (case c_14 => k_is); (case k_14 => k_is))
      case b_14 => exact fun _ _ _ _ _ _ us hl => match us, hl with | [_, _], _ => rfl
    case cpaper =>
      (refine' K1.df_of (by assumption) (by assumption) ?a_15 ?l_15 ?c_15 ?k_15 ?b_15; (case a_15 => k_is); (case l_15 => k_is); (case c_15 => k_is); (case k_15 => k_is))
      case b_15 => exact fun _ _ _ _ _ _ us hl => match us, hl with | [_, _], _ => rfl
    case needC =>
      (refine' K1.df_of (by assumption) (by assumption) ?a_16 ?l_16 ?c_16 ?k_16 ?b_16; (case a_16 => k_is); (case l_16 => k_is); (case c_16 => k_is); (case k_16 => k_is))
      case b_16 => exact fun _ _ _ _ _ _ us hl => match us, hl with | [_, _], _ => rfl
    case power =>
      (refine' K1.df_of (by assumption) (by assumption) ?a_17 ?l_17 ?c_17 ?k_17 ?b_17; (case a_17 => k_is); (case l_17 => k_is); (case c_17 => k_is); (case k_17 => k_is))
      case b_17 => exact fun _ _ _ _ _ _ us hl => match us, hl with | [_, _, _], _ => rfl
    case box =>
      (refine' K1.df_of (by assumption) (by assumption) ?a_18 ?l_18 ?c_18 ?k_18 ?b_18; (case a_18 => k_is); (case l_18 => k_is); (case c_18 => k_is); (case k_18 => k_is))
      case b_18 => exact fun _ _ _ _ _ _ us hl => match us, hl with | [_, _], _ => rfl
    case take =>
      (refine' K1.df_of (by assumption) (by assumption) ?a_19 ?l_19 ?c_19 ?k_19 ?b_19; (case a_19 => k_is); (case l_19 => k_is); (case c_19 => k_is); (case k_19 => k_is))
      case b_19 => exact fun _ _ _ _ _ _ us hl => match us, hl with | [_, _], _ => rfl
    case pick =>
      (refine' K1.df_of (by assumption) (by assumption) ?a_20 ?l_20 ?c_20 ?k_20 ?b_20; (case a_20 => k_is); (case l_20 => k_is); (case c_20 => k_is); (case k_20 => k_is))
      case b_20 => exact fun _ _ _ _ _ _ us hl => match us, hl with | [_, _], _ => rfl
    case tabs =>
      (refine' K1.df_of (by assumption) (by assumption) ?a_21 ?l_21 ?c_21 ?k_21 ?b_21; (case a_21 => k_is); (case l_21 => k_is); (case c_21 => k_is); (case k_21 => k_is))
      case b_21 => exact fun _ _ _ _ _ _ us hl => match us, hl with | [_, _, _], _ => rfl
    case zrun =>
      (refine' K1.df_of (by assumption) (by assumption) ?a_22 ?l_22 ?c_22 ?k_22 ?b_22; (case a_22 => k_is); (case l_22 => k_is); (case c_22 => k_is); (case k_22 => k_is))
      case b_22 => exact fun _ _ _ _ _ _ us hl => match us, hl with | [_, _, _], _ => rfl
    case log =>
      (refine' K1.df_of (by assumption) (by assumption) ?a_23 ?l_23 ?c_23 ?k_23 ?b_23; (case a_23 => k_is); (case l_23 => k_is); (case c_23 => k_is); (case k_23 => k_is))
      case b_23 => exact fun _ _ _ _ _ _ us hl => match us, hl with | [_, _, _], _ => rfl
    case comm =>
      (refine' K1.df_of (by assumption) (by assumption) ?a_24 ?l_24 ?c_24 ?k_24 ?b_24; (case a_24 => k_is); (case l_24 => k_is); (case c_24 => k_is); (case k_24 => k_is))
      case b_24 => exact fun _ _ _ _ _ _ us hl => match us, hl with | [_], _ => rfl
    case paper =>
      (refine' K1.df_of (by assumption) (by assumption) ?a_25 ?l_25 ?c_25 ?k_25 ?b_25; (case a_25 => k_is); (case l_25 => k_is); (case c_25 => k_is); (case k_25 => k_is))
      case b_25 => exact fun _ _ _ _ _ _ us hl => match us, hl with | [_, _], _ => rfl
    case lorb =>
      (refine' K1.df_of (by assumption) (by assumption) ?a_26 ?l_26 ?c_26 ?k_26 ?b_26; (case a_26 => k_is); (case l_26 => k_is); (case c_26 => k_is); (case k_26 => k_is))
      case b_26 => exact fun _ _ _ _ _ _ us hl => match us, hl with | [_, _], _ => rfl
    case heard =>
      (refine' K1.df_of (by assumption) (by assumption) ?a_27 ?l_27 ?c_27 ?k_27 ?b_27; (case a_27 => k_is); (case l_27 => k_is); (case c_27 => k_is); (case k_27 => k_is))
      case b_27 => exact fun _ _ _ _ _ _ us hl => match us, hl with | [_], _ => rfl
    case lpow =>
      (refine' K1.df_of (by assumption) (by assumption) ?a_28 ?l_28 ?c_28 ?k_28 ?b_28; (case a_28 => k_is); (case l_28 => k_is); (case c_28 => k_is); (case k_28 => k_is))
      case b_28 => exact fun _ _ _ _ _ _ us hl => match us, hl with | [_, _, _], _ => rfl
    case shuf =>
      (refine' K1.df_of (by assumption) (by assumption) ?a_29 ?l_29 ?c_29 ?k_29 ?b_29; (case a_29 => k_is); (case l_29 => k_is); (case c_29 => k_is); (case k_29 => k_is))
      case b_29 => exact fun _ _ _ _ _ _ us hl => match us, hl with | [_, _, _, _], _ => rfl
    (case aN => k_is); (case lN => k_is); (case cN => k_is); (case kN => k_is); (case lc => k_is); (case hv => rfl); (case nP => kernel_rfl)
    (case aM => k_is); (case pg => k_is); (case hd => k_is); (case po => k_is); (case sa => k_is); (case n1 => k_is); (case n2 => k_is); (case n3 => k_is); (case ca => k_is); (case sp => k_is); (case tk => k_is); (case mo => k_is)
    (case y => kernel_rfl); (case n => kernel_rfl); (case ne => k_is)
    case init => refine' K1.init_of ?a_65 ?i_65 ?m_65 ?kM_65 ?l_65 ?c_65 ?k_65; (case a_65 => k_is); (case i_65 => k_is); (case m_65 => k_is); (case kM_65 => k_is); (case l_65 => k_is); (case c_65 => k_is); (case k_65 => k_is)
    case eq => refine' K1.eq_of ?a_66 ?i_66 ?l_66 ?c_66 ?k_66; (case a_66 => k_is); (case i_66 => k_is); (case l_66 => k_is); (case c_66 => k_is); (case k_66 => k_is)
    (case aCM => k_is); (case aCR => k_is); (case aCS => k_is); (case aCU => k_is); (case aNE => k_is)
    case t1 => (refine' K1.at_of_ (by assumption) (by assumption) ?a_67 ?xl_67 ?sa_67 ?ga_67 ?gg_67 ?no_67 ?ic_67 ?tc_67 ?kc_67 ?ec_67 ?ty_67 ?hc_67 ?l_67 ?c_67; (case a_67 => k_is); (case xl_67 => k_is); (case sa_67 => k_is); (case ga_67 => k_is); (case gg_67 => k_is); (case no_67 => k_is); (case ic_67 => k_is); (case tc_67 => k_is); (case kc_67 => k_is); (case ec_67 => k_is); (case ty_67 => k_is); (case hc_67 => k_is); (case l_67 => k_is); (case c_67 => k_is))
    case t2 => (refine' K1.at_of_ (by assumption) (by assumption) ?a_68 ?xl_68 ?sa_68 ?ga_68 ?gg_68 ?no_68 ?ic_68 ?tc_68 ?kc_68 ?ec_68 ?ty_68 ?hc_68 ?l_68 ?c_68; (case a_68 => k_is); (case xl_68 => k_is); (case sa_68 => k_is); (case ga_68 => k_is); (case gg_68 => k_is); (case no_68 => k_is); (case ic_68 => k_is); (case tc_68 => k_is); (case kc_68 => k_is); (case ec_68 => k_is); (case ty_68 => k_is); (case hc_68 => k_is); (case l_68 => k_is); (case c_68 => k_is))
    case t3 => (refine' K1.state_of_ (by assumption) (by assumption) ?a_69 ?xl_69 ?sa_69 ?ga_69 ?gg_69 ?no_69 ?ic_69 ?tc_69 ?kc_69 ?ec_69 ?ty_69 ?hc_69 ?l_69 ?c_69; (case a_69 => k_is); (case xl_69 => k_is); (case sa_69 => k_is); (case ga_69 => k_is); (case gg_69 => k_is); (case no_69 => k_is); (case ic_69 => k_is); (case tc_69 => k_is); (case kc_69 => k_is); (case ec_69 => k_is); (case ty_69 => k_is); (case hc_69 => k_is); (case l_69 => k_is); (case c_69 => k_is))
    case u => (refine' K1.un_of (by assumption) (by assumption) ?a_70 ?xl_70 ?rv_70 ?sa_70 ?ga_70 ?gg_70 ?n1_70 ?n2_70 ?n3_70 ?kc_70 ?ec_70 ?ty_70 ?hc_70; (case a_70 => k_is); (case xl_70 => k_is); (case rv_70 => rfl); (case sa_70 => k_is); (case ga_70 => k_is); (case gg_70 => k_is); (case n1_70 => k_is); (case n2_70 => k_is); (case n3_70 => k_is); (case kc_70 => k_is); (case ec_70 => k_is); (case ty_70 => k_is); (case hc_70 => k_is))
    case ui => refine' K1.ui_of ?a_71 ?i_71 ?l_71 ?c_71 ?k_71; (case a_71 => k_is); (case i_71 => k_is); (case l_71 => k_is); (case c_71 => k_is); (case k_71 => k_is)
    case ex =>
      refine' ⟨?e1, ?e2, ?e3, ?e4, ?e5, ?e6, ?e7, ⟨?x1, ?x2, ?x3, ?x4, ?x5, ?x6, ?x7, ?x8⟩⟩
      all_goals first | k_is | kernel_rfl
