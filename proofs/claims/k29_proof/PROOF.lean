import PyProof.Rows.All
import Wide.All
import OpenK.AllK
import Wide.FinOn
import HandS.ForMost
import HandS.ForExc
import HandS.ExcInit
import PyProof.ExcBaseAll.LookupError
import KE.KExcIs
import HandS.IsInst
import KE.GoesEnum
import PyProof.ReprRoads
import PySem.Challenge.RW_houseslessties_k29_whole_at_which_number
import HandS.TryMany
import HandS.Lambda
import HandS.Nested
import HandS.EndTab
import HandS.DictTup
import HandS.OwnEq
import HandS.Strs
import HandS.Conv
import HandS.TupAny
import HandS.TupMul
import HandS.SortInts
import HandS.Style
import HandS.MakeKw
import HandS.Defaults
import HandS.TupLe
import HandS.SetKeys
import HandS.SetFor
import HandS.RaiseMore
import HandS.CallLocal
import HandS.Base
import HandS.Call
import HandS.Exc
import HandS.Gcd
import PyProof.Rows.ReprOcc
import HandS.MakeKwOnly
import HandS.EndBits
set_option Elab.async false
set_option linter.all false
set_option maxRecDepth 100000
set_option maxHeartbeats 4000000
/-! exceptions of own classes whose base may be ValueError or KeyError: what is asked of the chain of classes stands as premises -/
namespace K1
open PySem PySem.HandSPX Builtin Builtin.ObjectAttr
/-- what the chain of classes behind the own one must be -/
structure Mro (B : String) (bm : List Value) : Prop where
  b : bm.contains (.type B) = true
  a : bm.contains (.type "AttributeError") = false
  n : bm.contains (.type "NameError") = false
  o : bm.contains (.type "object") = true
  p : ∀ self : Value, refuseLoop self "__setattr__" bm = pure ()
section
variable {prog : Program} {w : World} {A : Around} {E : Value → Shared → Prop} {R : Result → Shared → Prop} {h : Heap} {g : Array GenState} {d : Drawn} {t : Nat} {os : OsState}
variable {nm q : Str} {C N : Addr} {bs bm bmB : List Value} {hdct : Bool} {sn : List Str} {sub : List Value} {ab : Bool} {col : Option Bool} {dd : Option Addr} {k0 k1 k2 k3 k5 : Option Value} {B newId initId : String}
theorem check_newG {M : Model} (F : ExcBaseFacts B newId initId bmB) (T : Mro B bm) {rest : List Value} {Q : Unit → Shared → Prop}
    (hC : h.get? C = some (excClassObj nm q C N bs bm hdct sn sub ab col dd k0 k1 k2 k3 k5 newId)) (hq : Q () ⟨h, g, d, t, os⟩) : wpAny M A (checkBuiltinCall newId ⟨.ref C :: rest, []⟩) Q E ⟨h, g, d, t, os⟩ := by
  have hcont : (Value.ref C :: bm).contains (.type B) = true := by rw [List.contains_cons, T.b, Bool.or_true]
  have hstar := F.noStar
  simp only [checkBuiltinCall, F.newKind, F.newSplit, F.newRow]
  repeat (first | refine wpAny_loadPart_at hC ?_ | (refine wpAny_isSubtype_exc hC ?_; rw [hcont]) | refine wpAny_staticBase_exc hC ?_ | refine wpAny_madeBy_exc hC ?_ | simp only [bne_self_eq_false, Bool.false_eq_true, if_false] | wp_step)
  exact hq
theorem newG (F : ExcBaseFacts B newId initId bmB) (T : Mro B bm) {rest : List Value}
    (hC : h.get? C = some (excClassObj nm q C N bs bm hdct sn sub ab col dd k0 k1 k2 k3 k5 newId))
    (hq : R (.ok (.ret (.ref (h.objs.size + 1)))) ⟨(h.push { cls := .type "tuple", data := .seq rest.toArray }).push
      { cls := .ref C, data := .fields #[.ref h.objs.size, .none, .none, .none, .bool false, .none] }, g, d, t, os⟩) (hrest : rest.length ≤ sizeLine) :
    codeAny (model prog w) A (.builtin newId ⟨.ref C :: rest, []⟩) R ⟨h, g, d, t, os⟩ := by
  have hends := F.ends
  have hcB : (Value.ref C :: bm).contains (.type B) = true := by rw [List.contains_cons, T.b, Bool.or_true]
  have hcA : (Value.ref C :: bm).contains (.type "AttributeError") = false := by rw [List.contains_cons, T.a]; rfl
  have hcN : (Value.ref C :: bm).contains (.type "NameError") = false := by rw [List.contains_cons, T.n]; rfl
  refine codeAny_builtinAt F.entry ?_
  unfold Builtin.«BaseException.__new__»
  refine wpAt_bind ?_
  show wpAt _ _ _ (stack >>= _) _ _ _
  refine wpAt_bind (wpAt_stack fun p below => wpAt_of_wpAny ?_)
  wp_walk
  refine wpAt_of_wpAny ?_
  rw [F.owner]
  repeat (first | with_reducible refine wpAny_madeHere_exc F.canon hC ?_ | with_reducible refine wpAny_loadPart_at hC ?_ | (with_reducible refine wpAny_isSubtype_exc hC ?_; first | rw [hcB] | rw [hcA] | rw [hcN]) | wp_step)
  show R _ _
  rw [Heap.size_push]
  exact hq
theorem type_callG (F : ExcBaseFacts B newId initId bmB) (T : Mro B bm) {rest : List Value} {fI : Addr} {Q : Fin → Shared → Prop}
    (hC : h.get? C = some (excClassObj nm q C N bs bm hdct sn sub ab col dd k0 k1 k2 k3 k5 newId))
    (hi : W.Looks (model prog w) h (typeLookup (.ref C) "__init__") (some (.ref fI))) (hb : ∀ self, W.Looks (model prog w) h (bindSpecial (.ref fI) self) (.ref fI, [self])) (hrest : rest.length ≤ sizeLine)
    (hq : codeAny (model prog w) A (.call (.ref fI) ⟨.ref (h.objs.size + 1) :: rest, []⟩)
      (fun r s' => match r with | .ok (.ret v) => v = .none ∧ Q (.done (.ret (.ref (h.objs.size + 1)))) s' | .ok _ => False | .error e => E e s')
      ⟨(h.push (W.kdv_tup rest)).push (excO C h.objs.size), g, d, t, os⟩) :
    wpAny (model prog w) A (Builtin.«type.__call__» ⟨.ref C :: rest, []⟩) Q E ⟨h, g, d, t, os⟩ := by
  repeat (first | with_reducible refine wpAny_loadPart_at hC ?_ | with_reducible refine wpAny_madeBy_exc hC ?_ | wp_step)
  refine codeAny_call_builtin_code (Code.quiet_builtin _ F.quiet) (check_newG F T hC ?_)
  refine newG F T hC ?_ hrest
  show wpAny _ _ _ _ _ _
  have k : ∀ b o, h.get? b = some o → ((h.push (W.kdv_tup rest)).push (excO C h.objs.size)).get? b = some o := fun b o e => Heap.get?_push_of_some _ (Heap.get?_push_of_some _ e)
  have hC₁ := k _ _ hC
  have hget : ((h.push (W.kdv_tup rest)).push (excO C h.objs.size)).get? (h.objs.size + 1) = some (excO C h.objs.size) := by heap_get
  have hcC : (Value.ref C :: bm).contains (.ref C) = true := by simp
  have i1 := hi.keeps k
  have b1 := (hb (.ref (h.objs.size + 1))).keeps k
  unfold isInstance
  repeat (first | with_reducible refine wpAny_loadPart_at hget ?_ | (with_reducible refine wpAny_isSubtype_exc hC₁ ?_; rw [hcC]) | wp_step)
  show wpAny _ _ (typeLookup (.ref C) _) _ _ _
  refine i1.at ?_
  refine wpAny_holding (wpAny_bind (b1.at ?_))
  refine wpAny_bind (wpAny_call (codeAny_mono hq fun r s' z => ?_))
  rcases r with e | (v | _ | _ | _) <;> first | exact z | exact z.elim | skip
  obtain ⟨rfl, z⟩ := z
  first
    | exact wpAny_pure (wpAny_pure z)
    | (wp_walk; exact z)
theorem call_ownG (F : ExcBaseFacts B newId initId bmB) (T : Mro B bm) {rest : List Value} {fI : Addr}
    (hC : h.get? C = some (excClassObj nm q C N bs bm hdct sn sub ab col dd k0 k1 k2 k3 k5 newId))
    (hi : W.Looks (model prog w) h (typeLookup (.ref C) "__init__") (some (.ref fI))) (hb : ∀ self, W.Looks (model prog w) h (bindSpecial (.ref fI) self) (.ref fI, [self])) (hrest : rest.length ≤ sizeLine)
    (hq : codeAny (model prog w) (A.under (.builtin "type.__call__" ⟨.ref C :: rest, []⟩)) (.call (.ref fI) ⟨.ref (h.objs.size + 1) :: rest, []⟩) (W.InitBack (h.objs.size + 1) R)
      ⟨(h.push (W.kdv_tup rest)).push (excO C h.objs.size), g, d, t, os⟩) :
    codeAny (model prog w) A (.call (.ref C) ⟨rest, []⟩) R ⟨h, g, d, t, os⟩ := by
  have f1 := tc_lookup
  have f2 := tc_bind (.ref C)
  have hTy : (⟨h, g, d, t, os⟩ : Shared).TypeIs (.ref C) "type" := ⟨_, hC, rfl⟩
  refine codeAny_of_tree ?_
  show wpAny _ _ (callAny (.ref C) _) _ _ _
  repeat (any_goals (first | assumption | with_reducible refine wpAny_loadPart_at hC ?_ | wp_step))
  refine ⟨rfl, ?_⟩
  refine codeAny_call_builtin_at (Code.quiet_builtin _ (by decide +kernel)) entry_typeCall (wpAny_check_type_call_sub hC (type_callG F T hC hi hb hrest ?_))
  refine codeAny_mono hq fun r s' z => ?_
  rcases r with e | (v | _ | _ | _) <;> exact z
end
section
variable {prog : Program} {w : World} {A : Around} {E : Value → Shared → Prop} {R : Result → Shared → Prop} {hp : Heap} {g : Array GenState} {d : Drawn} {t : Nat} {os : OsState}
theorem exc_osaG {K : W.Frag} {name : Str} {tk : Tok} {v : Value} {x C : Addr} {fv : Array Value} {cd : ClassData} {B : String} {bm : List Value}
    (X : K.In hp) (hx : hp.get? x = some { cls := .ref C, data := .fields fv }) (hcd : W.clsIn K C = some cd) (hm : cd.mro = .ref C :: bm) (T : Mro B bm) (hh : cd.hasDict = true) (ha : W.findIn K (.ref C) name = some none)
    (hq : ∀ h' tk' dx, (∀ b o, b ≠ x → hp.get? b = some o → h'.get? b = some o) → hp.objs.size ≤ dx → dx ≠ x → h'.get? x = some { cls := .ref C, dict := some dx, data := .fields fv } →
      h'.Ns1 dx (fun y => if y = name then some v else none) → R (.ok (.ret .none)) ⟨h', g, d, tk', os⟩) :
    codeAny (model prog w) A (.call (.builtin "object.__setattr__") ⟨[.ref x, .str name tk, v], []⟩) R ⟨hp, g, d, t, os⟩ := by
  have I : W.InstAt hp x { cls := .ref C, data := .fields fv } C none := ⟨hx, rfl, rfl, trivial⟩
  have SF := F.store_object
  have ne : cd.mro.isEmpty = false := by rw [hm]; rfl
  have hob : cd.mro.contains (.type "object") = true := by rw [hm, List.contains_cons, T.o, Bool.or_true]
  have hxs : x ≠ hp.objs.size := Nat.ne_of_lt (Heap.lt_size hx)
  have sub : W.Looks (model prog w) hp (isInstance (.ref x) (.type "object")) true := I.type.andThen (W.looks_mroIn X (by unfold W.mroIn; rw [hcd, Option.bind_some, if_neg (by rw [ne]; decide), hob]))
  refine codeAny_call_builtin SF.slot.plain SF.entry (@W.check_slot (model prog w) _ _ ⟨hp, g, d, t, os⟩ "object.__setattr__" "object" "__setattr__" (.ref x) [.str name tk, v] [] _ SF.kind SF.split sub (SF.args (.ref x) (.str name tk) v) ?_)
  have hmr : W.Looks (model prog w) hp (mroOf (.ref C)) cd.mro := (W.looks_clsIn X hcd).andThen .now
  have L3 : W.Looks (model prog w) hp (storeTaker? none) none := .now
  have hcls : W.Looks (model prog w) hp (classData C) cd := W.looks_clsIn X hcd
  rw [W.osa_eq, refuse_eq]
  refine wpAny_bind (wpAny_bind (I.type.at (wpAny_bind (hmr.at ?_))))
  rw [hm, refuseLoop_ref, T.p]
  refine wpAny_pure (wpAny_bind (I.type.at (wpAny_bind ((W.looks_findIn X ha).at (wpAny_bind (L3.at ?_))))))
  show wpAny _ _ (storeInOwnDict (.ref x) (.ref C) (.str name tk) name v false) _ _ _
  obtain ⟨nm, bs, mro, ns, qn, hd, sn, sb, ab, col, del⟩ := cd
  dsimp only at hh
  subst hh
  unfold storeInOwnDict ownDictForStores
  repeat (first | with_reducible refine store_in_new ?_ ?_ | with_reducible refine wpAny_loadPart_at hx ?_ | with_reducible refine hcls.at ?_ | wp_step)
  · exact ⟨_, #[], _, (Heap.get?_update_ne _ _ _ _ hxs.symm).trans (Heap.get?_push_at rfl rfl), rfl, fun e he => absurd he (by simp), fun _ => rfl⟩
  · intro h' tk' hn' hs
    have hx₁ : (hp.push { cls := .type "dict", data := .dict #[] }).get? x = some { cls := .ref C, data := .fields fv } := Heap.get?_push_of_some _ hx
    refine hq h' tk' hp.objs.size (fun b o hb ho => ?_) (Nat.le_refl _) hxs.symm ?_ hn'
    · exact (hs.2 b (Nat.ne_of_lt (Heap.lt_size ho))).trans ((Heap.get?_update_ne _ _ _ _ hb).trans (Heap.get?_push_of_some _ ho))
    · exact (hs.2 x hxs).trans (Heap.get?_update_self _ hx₁ rfl)
end
abbrev veT : List Value := [.type "ValueError", .type "Exception", .type "BaseException", .type "object"]
abbrev keT : List Value := [.type "KeyError", .type "LookupError", .type "Exception", .type "BaseException", .type "object"]
theorem mro_ve (c : Addr) : Mro "ValueError" (.ref c :: veT) := ⟨rfl, rfl, rfl, rfl, fun self => by rw [refuseLoop_ref]; exact F.store_ValueError.passes self⟩
theorem ke_pass (self : Value) : refuseLoop self "__setattr__" keT = pure () := by kernel_rfl
theorem mro_ke : Mro "LookupError" keT := ⟨by decide +kernel, by decide +kernel, by decide +kernel, by decide +kernel, ke_pass⟩
end K1
/-! own exception classes whose __init__ stores one field -/

namespace K1
open PySem PySem.W PySem.Calls PyProof.Rows PySem.HandSPX
theorem one_le (v : Value) : [v].length ≤ sizeLine := by
  rw [sizeLine_eq]
  exact (by decide : 1 ≤ 16777216)
theorem ldE {M : Model} {s : Shared} {name : Str} {scope : Scope} {L a : Addr} {cd : Value} {m : Str → Option Value} {x : Str} {pos : Pos} {v : Value} {Q : Value → Shared → Prop} {A : Around} {E : Value → Shared → Prop} (hn : s.heap.Ns L m) (hv : m x = some v) (h : Q v s)
    (hk : scope.kind = .function := by rfl) (hl : (envOfC name scope L a cd).kindOf x = some .local := by rfl) (hd : (x == ("__debug__" : Str)) = false := by decide) :
    wpAny M A (eval (.Name x pos) (envOfC name scope L a cd)) Q E s := wpAny_Name (wpAny_loadName_local hk hl hn hv h) hd
end K1
namespace K1
open PySem PySem.Spec PyProof.Rows L2
theorem relO_one {v : V} {v' : Value} {g : Str} (r : RelV v v') (f : Str) : RelO (List.lookup f [(g, v)]) (if f = g then some v' else none) := by
  by_cases hw : f = g
  · subst hw
    rw [if_pos rfl]
    have q : List.lookup f [(f, v)] = some v := by simp [List.lookup]
    rw [q]
    exact r
  · rw [if_neg hw]
    have qw : (f == g) = false := by simpa using hw
    have q2 : List.lookup f [(g, v)] = none := by simp [List.lookup, qw]
    rw [q2]
    trivial
/-- C(e), C's __init__ storing e as the field g -/
def tMkF (g : Str) (C : Addr) (ta : TA) : L2.St → Hp → XK → Prop := fun σ H Q => ta σ H fun vs H1 => ∃ v, vs = [v] ∧ ∀ d, H1 d = none → Q (.ref C) (some d) (upd H1 d (.xd [(g, v)]))
def tRaiseF (g : Str) (C : Addr) (W : WX) (ta : TA) : TS := fun _ σ H => tMkF g C ta σ H fun cls d H' => W cls d σ H'
def tByF (g : Str) (C : Addr) (a : Addr) (cls : Value) (d : Option Addr) (te : TE) : TE := fun σ H Q => te σ H fun x H1 => x = .ref a ∧ cls = .ref C ∧ ∃ (dd : Addr) (v : V), d = some dd ∧ H1 dd = some (.xd [(g, v)]) ∧ Q v H1
end K1

namespace K1
namespace LAt
open PySem PySem.W PySem.Calls PyProof.Rows PySem.HandSPX
/-- the text of __init__ -/
def iA (p1 p2 : Pos) : Arguments := { posonlyargs := [], args := [{ arg := "self", annotation := none, pos := p1 }, { arg := "at", annotation := none, pos := p2 }], vararg := none, kwonlyargs := [], kw_defaults := [], kwarg := none, defaults := [] }
def iB (q1 q2 q3 q4 : Pos) : List Stmt := [.Assign [.Attribute (.Name "self" q1) "at" q2] (.Name "at" q3) q4]
def iS : Scope := { kind := .function, names := [(PySem.Str.ofString "self", .local), (PySem.Str.ofString "at", .local)], isGenerator := false, isCoroutine := false, more := [] }
/-- what the written part says of the class at C (named cn), of its chain bm, and of its __init__, at fI -/
structure Txt (K : Frag) (mg : Str → Option Value) (cn ql : Str) (bm : List Value) (C fI : Addr) : Prop where
  gC : mg cn = some (.ref C)
  cls : ∃ nm q N bs sn sub ab col dd k0 k1 k2 k3 k5, K.lookup C = some (excClassObj nm q C N bs bm true sn sub ab col dd k0 k1 k2 k3 k5 "ValueError.__new__")
  mr : Mro "ValueError" bm
  sa : findIn K (.ref C) "__setattr__" = some (some (.builtin "object.__setattr__"))
  ga : findIn K (.ref C) "__getattribute__" = some (some (.builtin "BaseException.__getattribute__"))
  gg : findIn K (.ref C) "__getattr__" = some none
  noN : findIn K (.ref C) "at" = some none
  iC : findIn K (.ref C) "__init__" = some (some (.ref fI))
  tC : typeIn K (.ref fI) = some (.type "function")
  kC : keepIn K (.ref C) = true
  exC : subIn K (.ref C) (.type "BaseException") = some true
  tyC : typeIn K (.ref C) = some (.type "type")
  hdC : hasDictIn K C = true
  fn : ∃ (oc : Value) (od : Option Addr) (doc pm : Value) (an : Option Addr) (cdv ct : Value) (osl : Array (Option Value)) (p1 p2 q1 q2 q3 q4 : Pos),
    K.lookup fI = some ⟨oc, od, .func (fnOf "__init__" ql (iA p1 p2) (iB q1 q2 q3 q4) iS .none .none doc pm an cdv ct), osl⟩ ∧ codeIn K cdv ql = true
/-- what __init__ leaves of a fresh exception at x -/
structure InitEnd (h h' : Heap) (x C dx t1 : Addr) (v : Value) : Prop where
  keep : ∀ b o, b ≠ x → h.get? b = some o → h'.get? b = some o
  obj : h'.get? x = some { cls := .ref C, dict := some dx, data := .fields #[.ref t1, .none, .none, .none, .bool false, .none] }
  dbig : h.objs.size ≤ dx
  dne : dx ≠ x
  ns : h'.Ns1 dx (fun y => if y = "at" then some v else none)
structure OwnMade (h h' : Heap) (e C d : Addr) (v : Value) : Prop where
  keep : ∀ b o, h.get? b = some o → h'.get? b = some o
  new : h.objs.size ≤ e
  obj : ∃ oe vs, h'.get? e = some oe ∧ oe.cls = .ref C ∧ oe.dict = some d ∧ oe.data = .fields vs ∧ vs[1]? = some .none
  dbig : h.objs.size ≤ d
  dne : d ≠ e
  ns : h'.Ns1 d (fun y => if y = "at" then some v else none)
section
variable {prog : Program} {w : World} {A : Around} {E : Value → Shared → Prop} {R : Result → Shared → Prop} {s : Shared} {K : Frag} {mg : Str → Option Value} {cn ql : Str} {bm : List Value} {C fI : Addr}
theorem init (T : Txt K mg cn ql bm C fI) {x t0 : Addr} {v : Value} (X : K.In s.heap) (hlim : s.heap.NoLimit) (hx : s.heap.get? x = some (excO C t0)) (hnx : K.lookup x = none) (hroom : A.depth < recursionLimit)
    (hq : ∀ h' tk dx, InitEnd s.heap h' x C dx t0 v → R (.ok (.ret .none)) { s with heap := h', toks := tk }) :
    codeAny (model prog w) A (.call (.ref fI) ⟨[.ref x, v], []⟩) R s := by
  obtain ⟨oc, od, doc, pm, an, cdv, ct, osl, p1, p2, q1, q2, q3, q4, ho, hcd⟩ := T.fn
  obtain ⟨nm, q, N, bs, sn, sub, ab, col, dd, k0, k1, k2, k3, k5, hC⟩ := T.cls
  have hcl : clsIn K C = some { name := nm, bases := bs, mro := .ref C :: bm, ns := N, qualname := q, hasDict := true, slotNames := sn, subclasses := sub, abstract := ab, collection := col, hasDel := false } := by unfold clsIn; rw [hC] <;> rfl
  refine Att.call_fn (binds := [("self", .ref x), ("at", v)]) X hlim ho hcd hroom (BindsTo.of_eq (by first | rfl | with_unfolding_all rfl)) (by first | rfl | decide | with_unfolding_all rfl) (fun s₁ IC => ?_) rfl rfl rfl
  obtain ⟨h₁, tk₁, rfl⟩ := IC.toInCall.same
  have k : ∀ b o, s.heap.get? b = some o → h₁.get? b = some o := IC.toInCall.keep
  have hn := IC.toInCall.ns
  have X₁ : K.In h₁ := X.keeps k
  have hx₁ := k _ _ hx
  show wpAny _ _ (execs _ _) _ _ _
  refine wpAny_execs_cons (plainObj_wpAny_Assign_Attribute ?_)
  refine ldE (v := v) hn (by first | rfl | with_unfolding_all rfl | kernel_rfl) (ldE (v := .ref x) hn (by first | rfl | with_unfolding_all rfl | kernel_rfl) ?_)
  refine set_plain X₁ (ox := excO C t0) (od := none) ⟨hx₁, rfl, rfl, trivial⟩ T.sa ?_
  refine exc_osaG X₁ hx₁ hcl rfl T.mr rfl T.noN (fun h₃ tk₃ dx k₃ dn dne hx₃ hn₃ => ?_)
  show wpAny _ _ (execs _ _) _ _ _
  have z : s.heap.objs.size < h₁.objs.size := hn.lt
  exact wpAny_execs_nil (hq h₃ tk₃ dx ⟨fun b o hb e => k₃ b o hb (k b o e), hx₃, Nat.le_of_lt (Nat.lt_of_lt_of_le z dn), dne, hn₃⟩)
theorem made (T : Txt K mg cn ql bm C fI) {v : Value} (X : K.In s.heap) (hlim : s.heap.NoLimit) (hroom : A.depth + 1 < recursionLimit)
    (hq : ∀ h' tk e d, OwnMade s.heap h' e C d v → R (.ok (.ret (.ref e))) { s with heap := h', toks := tk }) :
    codeAny (model prog w) A (.call (.ref C) ⟨[v], []⟩) R s := by
  obtain ⟨nm, q, N, bs, sn, sub, ab, col, dd, k0, k1, k2, k3, k5, hC⟩ := T.cls
  obtain ⟨hp, g, dr, tk, os⟩ := s
  have k : ∀ b o, hp.get? b = some o → ((hp.push (kdv_tup [v])).push (excO C hp.objs.size)).get? b = some o := fun b o e => Heap.get?_push_of_some _ (Heap.get?_push_of_some _ e)
  have hget : ((hp.push (kdv_tup [v])).push (excO C hp.objs.size)).get? (hp.objs.size + 1) = some (excO C hp.objs.size) := by heap_get
  have hnx : K.lookup (hp.objs.size + 1) = none := by
    cases e : K.lookup (hp.objs.size + 1) with
    | none => rfl
    | some o =>
      have z : hp.get? (hp.objs.size + 1) = some o := X _ _ e
      exact absurd (Nat.lt_of_succ_lt (Heap.lt_size z)) (Nat.lt_irrefl _)
  refine call_ownG F.excBase_ValueError T.mr (X _ _ hC) (looks_findIn X T.iC) (fun self => bind_fn X self T.tC) (one_le v) ?_
  refine init (s := ⟨(hp.push (kdv_tup [v])).push (excO C hp.objs.size), g, dr, tk, os⟩) T (X.keeps k) (hlim.keeps k) hget hnx ?_ fun h' tk' dx ⟨k', hx, dn, dne, hns⟩ => ?_
  · show A.depth + 1 < recursionLimit
    exact hroom
  · have old : ∀ b o, hp.get? b = some o → h'.get? b = some o := fun b o e => k' b o (Nat.ne_of_lt (Nat.lt_succ_of_lt (Heap.lt_size e))) (k b o e)
    have z : hp.objs.size + 1 + 1 ≤ dx := by
      first
        | (simpa only [Heap.size_push] using dn)
        | exact dn
        | (have q := dn; rw [Heap.size_push, Heap.size_push] at q; exact q)
    exact ⟨rfl, hq h' tk' (hp.objs.size + 1) dx ⟨old, Nat.le_succ _, ⟨_, _, hx, rfl, rfl, rfl, rfl⟩, Nat.le_trans (Nat.le_trans (Nat.le_succ _) (Nat.le_succ _)) z, dne, hns⟩⟩
end
end LAt
end K1
namespace K1
open PySem PySem.Spec PyProof.Rows L2
section
variable {X : Cx} {cn ql : Str} {bm : List Value} {C fI : Addr}
theorem pmk_LAt {a : Expr} {ta : TA} {p pos : Pos} {k : Nat} (T : LAt.Txt X.K X.mg cn ql bm C fI) (hr : Room k X.A) (ha : PA X [a] ta) (hg : Gl X cn := by rfl)
    (he : starEach (a :: []) X.env = (false, eval a X.env) :: starEach [] X.env := by rfl) (hpl : (backTo pos (starEach [] X.env)).any (·.1) = false := by rfl) (hdb : (cn == ("__debug__" : Str)) = false := by decide) :
    PMk X (.Call (.Name cn p) [a] [] pos) (tMkF "at" C ta) := by
  intro pins s σ H Q I h
  refine wpAny_Call_Name_kw (ld_glob I hg T.gC ?_ hdb)
  refine PySem.W.callWith_K (h₀ := X.base) I.ok.mod.kin T.kC (thn (ha.run pos pins s σ H _ I h) fun us s1 hh => ?_) he hpl
  obtain ⟨vs, H1, I1, r1, v, ev, q1⟩ := hh
  subst ev
  refine ⟨I1.kIn, ?_⟩
  cases r1 with
  | cons rv rn =>
    rename_i v' us'
    cases rn
    show wpAny _ _ (call (.ref C) [v']) _ _ _
    have hlim := I1.nolimit
    obtain ⟨hp, g, dr, tk, os⟩ := s1
    refine wpAny_call (LAt.made T I1.kIn hlim (by have := hr.dp; omega) fun h' tk' e d M => ?_)
    show MkP X pins σ Q (.ref e) ⟨h', g, dr, tk', os⟩
    obtain ⟨oe, fv, hoe, hc, hd, hdat, h1⟩ := M.obj
    have hns := M.ns
    obtain ⟨G', g1, g2⟩ := restrict h' fun b => decide (b ≠ e)
    have gk : ∀ b, b ≠ e → G'.get? b = h'.get? b := fun b hb => g1 b (decide_eq_true hb)
    have ge : G'.get? e = none := g2 e (by simp)
    have old : ∀ b o, hp.get? b = some o → G'.get? b = some o := fun b o q => (gk b (Nat.ne_of_lt (Nat.lt_of_lt_of_le (Heap.lt_size q) M.new))).trans (M.keep b o q)
    have ob : ObjOk X.prog X.w (upd H1 d (.xd [(("at" : Str), v)])) G' d (.xd [(("at" : Str), v)]) :=
      ⟨_, hns.at (fun o q => (gk d M.dne).trans q), fun f => relO_one rv f⟩
    have J : Inv X pins σ (upd H1 d (.xd [(("at" : Str), v)])) ⟨G', g, dr, tk', os⟩ := I1.laid (t' := tk') old M.dbig ob
    refine ⟨e, oe, fv, ⟨G', g, dr, tk', os⟩, _, .ref C, some d, rfl, J, fun b o q => ?_, ge, hoe, ⟨hc, hd⟩, hdat, h1, ?_, rfl, I1.bare, raises_own T.exC T.tyC, q1 d (I1.hok.fresh M.dbig)⟩
    · by_cases hb : b = e
      · have q' : G'.get? b = some o := q
        rw [hb, ge] at q'; cases q'
      · exact (gk b hb).symm.trans q
    · rw [upd_ne (Ne.symm M.dne)]
      exact I1.hok.fresh M.new
theorem ps_raise_LAt {a : Expr} {ta : TA} {W : WX} {p pos pos2 : Pos} {k : Nat} (hc : X.calm = true) (T : LAt.Txt X.K X.mg cn ql bm C fI) (hr : Room k X.A) (tk : Takes X W) (ha : PA X [a] ta) (hg : Gl X cn := by rfl)
    (he : starEach (a :: []) X.env = (false, eval a X.env) :: starEach [] X.env := by rfl) (hpl : (backTo pos (starEach [] X.env)).any (·.1) = false := by rfl) (hdb : (cn == ("__debug__" : Str)) = false := by decide) :
    PS X (.Raise (some (.Call (.Name cn p) [a] [] pos)) none pos2) (tRaiseF "at" C W ta) := ps_raise hc tk (pmk_LAt T hr ha hg he hpl hdb)
theorem pe_by_LAt {a : Addr} {oe : Obj} {cls : Value} {d : Option Addr} {pn : List (Addr × Obj)} {e : Expr} {te : TE} {pos : Pos} (T : LAt.Txt X.K X.mg cn ql bm C fI) (hz : Zc cls d oe) (hf : ∃ vs, oe.data = .fields vs) (he : PE (X.suite a ((a, oe) :: pn)) e te)
    (hb : attributeBase e "at" X.env (eval e X.env) = eval e X.env := by rfl) :
    PE (X.suite a ((a, oe) :: pn)) (.Attribute e "at" pos) (tByF "at" C a cls d te) := by
  refine ⟨fun pins s σ H Q I h => ?_⟩
  refine attr_of hb (thn (he.run pins s σ H _ I h) fun u s1 hh => ?_)
  obtain ⟨x, H1, I1, rx, ex, ec, dd, v, ed, ea, q⟩ := hh
  subst ex
  obtain rfl : u = Value.ref a := rx
  subst ec
  subst ed
  obtain ⟨ha, _⟩ := I1.pin (a, oe) (List.mem_append_left _ List.mem_cons_self)
  obtain ⟨vs, hd⟩ := hf
  have hx : ObjOk X.prog X.w H1 s1.heap dd (.xd [(("at" : Str), v)]) := I1.hok dd _ ea
  obtain ⟨mA, hns, hr⟩ := hx
  obtain ⟨od, ho, hl⟩ := lookIn_ns hns
  have l : List.lookup ("at" : Str) [(("at" : Str), v)] = some v := by simp [List.lookup]
  obtain ⟨u, hu, ru⟩ := RelO.some_of (v := v) (o := mA "at") (by rw [← l]; exact hr "at")
  have J : PySem.W.InstAt s1.heap a oe C (some od) := ⟨ha, hz.1, by unfold PySem.W.notCls; rw [hd] <;> rfl, by rw [hz.2]; exact ho⟩
  exact HandSPX.exc_get I1.kIn J T.ga T.gg T.exC (PySem.W.findObj_own T.hdC T.noN rfl (by rw [hl, hu])) (handed_of ru) ⟨v, H1, I1.tok _, ru, q⟩
end
end K1

namespace K1
namespace LHouse
open PySem PySem.W PySem.Calls PyProof.Rows PySem.HandSPX
/-- the text of __init__ -/
def iA (p1 p2 : Pos) : Arguments := { posonlyargs := [], args := [{ arg := "self", annotation := none, pos := p1 }, { arg := "house", annotation := none, pos := p2 }], vararg := none, kwonlyargs := [], kw_defaults := [], kwarg := none, defaults := [] }
def iB (q1 q2 q3 q4 : Pos) : List Stmt := [.Assign [.Attribute (.Name "self" q1) "house" q2] (.Name "house" q3) q4]
def iS : Scope := { kind := .function, names := [(PySem.Str.ofString "self", .local), (PySem.Str.ofString "house", .local)], isGenerator := false, isCoroutine := false, more := [] }
/-- what the written part says of the class at C (named cn), of its chain bm, and of its __init__, at fI -/
structure Txt (K : Frag) (mg : Str → Option Value) (cn ql : Str) (bm : List Value) (C fI : Addr) : Prop where
  gC : mg cn = some (.ref C)
  cls : ∃ nm q N bs sn sub ab col dd k0 k1 k2 k3 k5, K.lookup C = some (excClassObj nm q C N bs bm true sn sub ab col dd k0 k1 k2 k3 k5 "LookupError.__new__")
  mr : Mro "LookupError" bm
  sa : findIn K (.ref C) "__setattr__" = some (some (.builtin "object.__setattr__"))
  ga : findIn K (.ref C) "__getattribute__" = some (some (.builtin "BaseException.__getattribute__"))
  gg : findIn K (.ref C) "__getattr__" = some none
  noN : findIn K (.ref C) "house" = some none
  iC : findIn K (.ref C) "__init__" = some (some (.ref fI))
  tC : typeIn K (.ref fI) = some (.type "function")
  kC : keepIn K (.ref C) = true
  exC : subIn K (.ref C) (.type "BaseException") = some true
  tyC : typeIn K (.ref C) = some (.type "type")
  hdC : hasDictIn K C = true
  fn : ∃ (oc : Value) (od : Option Addr) (doc pm : Value) (an : Option Addr) (cdv ct : Value) (osl : Array (Option Value)) (p1 p2 q1 q2 q3 q4 : Pos),
    K.lookup fI = some ⟨oc, od, .func (fnOf "__init__" ql (iA p1 p2) (iB q1 q2 q3 q4) iS .none .none doc pm an cdv ct), osl⟩ ∧ codeIn K cdv ql = true
/-- what __init__ leaves of a fresh exception at x -/
structure InitEnd (h h' : Heap) (x C dx t1 : Addr) (v : Value) : Prop where
  keep : ∀ b o, b ≠ x → h.get? b = some o → h'.get? b = some o
  obj : h'.get? x = some { cls := .ref C, dict := some dx, data := .fields #[.ref t1, .none, .none, .none, .bool false, .none] }
  dbig : h.objs.size ≤ dx
  dne : dx ≠ x
  ns : h'.Ns1 dx (fun y => if y = "house" then some v else none)
structure OwnMade (h h' : Heap) (e C d : Addr) (v : Value) : Prop where
  keep : ∀ b o, h.get? b = some o → h'.get? b = some o
  new : h.objs.size ≤ e
  obj : ∃ oe vs, h'.get? e = some oe ∧ oe.cls = .ref C ∧ oe.dict = some d ∧ oe.data = .fields vs ∧ vs[1]? = some .none
  dbig : h.objs.size ≤ d
  dne : d ≠ e
  ns : h'.Ns1 d (fun y => if y = "house" then some v else none)
section
variable {prog : Program} {w : World} {A : Around} {E : Value → Shared → Prop} {R : Result → Shared → Prop} {s : Shared} {K : Frag} {mg : Str → Option Value} {cn ql : Str} {bm : List Value} {C fI : Addr}
theorem init (T : Txt K mg cn ql bm C fI) {x t0 : Addr} {v : Value} (X : K.In s.heap) (hlim : s.heap.NoLimit) (hx : s.heap.get? x = some (excO C t0)) (hnx : K.lookup x = none) (hroom : A.depth < recursionLimit)
    (hq : ∀ h' tk dx, InitEnd s.heap h' x C dx t0 v → R (.ok (.ret .none)) { s with heap := h', toks := tk }) :
    codeAny (model prog w) A (.call (.ref fI) ⟨[.ref x, v], []⟩) R s := by
  obtain ⟨oc, od, doc, pm, an, cdv, ct, osl, p1, p2, q1, q2, q3, q4, ho, hcd⟩ := T.fn
  obtain ⟨nm, q, N, bs, sn, sub, ab, col, dd, k0, k1, k2, k3, k5, hC⟩ := T.cls
  have hcl : clsIn K C = some { name := nm, bases := bs, mro := .ref C :: bm, ns := N, qualname := q, hasDict := true, slotNames := sn, subclasses := sub, abstract := ab, collection := col, hasDel := false } := by unfold clsIn; rw [hC] <;> rfl
  refine Att.call_fn (binds := [("self", .ref x), ("house", v)]) X hlim ho hcd hroom (BindsTo.of_eq (by first | rfl | with_unfolding_all rfl)) (by first | rfl | decide | with_unfolding_all rfl) (fun s₁ IC => ?_) rfl rfl rfl
  obtain ⟨h₁, tk₁, rfl⟩ := IC.toInCall.same
  have k : ∀ b o, s.heap.get? b = some o → h₁.get? b = some o := IC.toInCall.keep
  have hn := IC.toInCall.ns
  have X₁ : K.In h₁ := X.keeps k
  have hx₁ := k _ _ hx
  show wpAny _ _ (execs _ _) _ _ _
  refine wpAny_execs_cons (plainObj_wpAny_Assign_Attribute ?_)
  refine ldE (v := v) hn (by first | rfl | with_unfolding_all rfl | kernel_rfl) (ldE (v := .ref x) hn (by first | rfl | with_unfolding_all rfl | kernel_rfl) ?_)
  refine set_plain X₁ (ox := excO C t0) (od := none) ⟨hx₁, rfl, rfl, trivial⟩ T.sa ?_
  refine exc_osaG X₁ hx₁ hcl rfl T.mr rfl T.noN (fun h₃ tk₃ dx k₃ dn dne hx₃ hn₃ => ?_)
  show wpAny _ _ (execs _ _) _ _ _
  have z : s.heap.objs.size < h₁.objs.size := hn.lt
  exact wpAny_execs_nil (hq h₃ tk₃ dx ⟨fun b o hb e => k₃ b o hb (k b o e), hx₃, Nat.le_of_lt (Nat.lt_of_lt_of_le z dn), dne, hn₃⟩)
theorem made (T : Txt K mg cn ql bm C fI) {v : Value} (X : K.In s.heap) (hlim : s.heap.NoLimit) (hroom : A.depth + 1 < recursionLimit)
    (hq : ∀ h' tk e d, OwnMade s.heap h' e C d v → R (.ok (.ret (.ref e))) { s with heap := h', toks := tk }) :
    codeAny (model prog w) A (.call (.ref C) ⟨[v], []⟩) R s := by
  obtain ⟨nm, q, N, bs, sn, sub, ab, col, dd, k0, k1, k2, k3, k5, hC⟩ := T.cls
  obtain ⟨hp, g, dr, tk, os⟩ := s
  have k : ∀ b o, hp.get? b = some o → ((hp.push (kdv_tup [v])).push (excO C hp.objs.size)).get? b = some o := fun b o e => Heap.get?_push_of_some _ (Heap.get?_push_of_some _ e)
  have hget : ((hp.push (kdv_tup [v])).push (excO C hp.objs.size)).get? (hp.objs.size + 1) = some (excO C hp.objs.size) := by heap_get
  have hnx : K.lookup (hp.objs.size + 1) = none := by
    cases e : K.lookup (hp.objs.size + 1) with
    | none => rfl
    | some o =>
      have z : hp.get? (hp.objs.size + 1) = some o := X _ _ e
      exact absurd (Nat.lt_of_succ_lt (Heap.lt_size z)) (Nat.lt_irrefl _)
  refine call_ownG F.excBase_LookupError T.mr (X _ _ hC) (looks_findIn X T.iC) (fun self => bind_fn X self T.tC) (one_le v) ?_
  refine init (s := ⟨(hp.push (kdv_tup [v])).push (excO C hp.objs.size), g, dr, tk, os⟩) T (X.keeps k) (hlim.keeps k) hget hnx ?_ fun h' tk' dx ⟨k', hx, dn, dne, hns⟩ => ?_
  · show A.depth + 1 < recursionLimit
    exact hroom
  · have old : ∀ b o, hp.get? b = some o → h'.get? b = some o := fun b o e => k' b o (Nat.ne_of_lt (Nat.lt_succ_of_lt (Heap.lt_size e))) (k b o e)
    have z : hp.objs.size + 1 + 1 ≤ dx := by
      first
        | (simpa only [Heap.size_push] using dn)
        | exact dn
        | (have q := dn; rw [Heap.size_push, Heap.size_push] at q; exact q)
    exact ⟨rfl, hq h' tk' (hp.objs.size + 1) dx ⟨old, Nat.le_succ _, ⟨_, _, hx, rfl, rfl, rfl, rfl⟩, Nat.le_trans (Nat.le_trans (Nat.le_succ _) (Nat.le_succ _)) z, dne, hns⟩⟩
end
end LHouse
end K1
namespace K1
open PySem PySem.Spec PyProof.Rows L2
section
variable {X : Cx} {cn ql : Str} {bm : List Value} {C fI : Addr}
theorem pmk_LHouse {a : Expr} {ta : TA} {p pos : Pos} {k : Nat} (T : LHouse.Txt X.K X.mg cn ql bm C fI) (hr : Room k X.A) (ha : PA X [a] ta) (hg : Gl X cn := by rfl)
    (he : starEach (a :: []) X.env = (false, eval a X.env) :: starEach [] X.env := by rfl) (hpl : (backTo pos (starEach [] X.env)).any (·.1) = false := by rfl) (hdb : (cn == ("__debug__" : Str)) = false := by decide) :
    PMk X (.Call (.Name cn p) [a] [] pos) (tMkF "house" C ta) := by
  intro pins s σ H Q I h
  refine wpAny_Call_Name_kw (ld_glob I hg T.gC ?_ hdb)
  refine PySem.W.callWith_K (h₀ := X.base) I.ok.mod.kin T.kC (thn (ha.run pos pins s σ H _ I h) fun us s1 hh => ?_) he hpl
  obtain ⟨vs, H1, I1, r1, v, ev, q1⟩ := hh
  subst ev
  refine ⟨I1.kIn, ?_⟩
  cases r1 with
  | cons rv rn =>
    rename_i v' us'
    cases rn
    show wpAny _ _ (call (.ref C) [v']) _ _ _
    have hlim := I1.nolimit
    obtain ⟨hp, g, dr, tk, os⟩ := s1
    refine wpAny_call (LHouse.made T I1.kIn hlim (by have := hr.dp; omega) fun h' tk' e d M => ?_)
    show MkP X pins σ Q (.ref e) ⟨h', g, dr, tk', os⟩
    obtain ⟨oe, fv, hoe, hc, hd, hdat, h1⟩ := M.obj
    have hns := M.ns
    obtain ⟨G', g1, g2⟩ := restrict h' fun b => decide (b ≠ e)
    have gk : ∀ b, b ≠ e → G'.get? b = h'.get? b := fun b hb => g1 b (decide_eq_true hb)
    have ge : G'.get? e = none := g2 e (by simp)
    have old : ∀ b o, hp.get? b = some o → G'.get? b = some o := fun b o q => (gk b (Nat.ne_of_lt (Nat.lt_of_lt_of_le (Heap.lt_size q) M.new))).trans (M.keep b o q)
    have ob : ObjOk X.prog X.w (upd H1 d (.xd [(("house" : Str), v)])) G' d (.xd [(("house" : Str), v)]) :=
      ⟨_, hns.at (fun o q => (gk d M.dne).trans q), fun f => relO_one rv f⟩
    have J : Inv X pins σ (upd H1 d (.xd [(("house" : Str), v)])) ⟨G', g, dr, tk', os⟩ := I1.laid (t' := tk') old M.dbig ob
    refine ⟨e, oe, fv, ⟨G', g, dr, tk', os⟩, _, .ref C, some d, rfl, J, fun b o q => ?_, ge, hoe, ⟨hc, hd⟩, hdat, h1, ?_, rfl, I1.bare, raises_own T.exC T.tyC, q1 d (I1.hok.fresh M.dbig)⟩
    · by_cases hb : b = e
      · have q' : G'.get? b = some o := q
        rw [hb, ge] at q'; cases q'
      · exact (gk b hb).symm.trans q
    · rw [upd_ne (Ne.symm M.dne)]
      exact I1.hok.fresh M.new
theorem ps_raise_LHouse {a : Expr} {ta : TA} {W : WX} {p pos pos2 : Pos} {k : Nat} (hc : X.calm = true) (T : LHouse.Txt X.K X.mg cn ql bm C fI) (hr : Room k X.A) (tk : Takes X W) (ha : PA X [a] ta) (hg : Gl X cn := by rfl)
    (he : starEach (a :: []) X.env = (false, eval a X.env) :: starEach [] X.env := by rfl) (hpl : (backTo pos (starEach [] X.env)).any (·.1) = false := by rfl) (hdb : (cn == ("__debug__" : Str)) = false := by decide) :
    PS X (.Raise (some (.Call (.Name cn p) [a] [] pos)) none pos2) (tRaiseF "house" C W ta) := ps_raise hc tk (pmk_LHouse T hr ha hg he hpl hdb)
theorem pe_by_LHouse {a : Addr} {oe : Obj} {cls : Value} {d : Option Addr} {pn : List (Addr × Obj)} {e : Expr} {te : TE} {pos : Pos} (T : LHouse.Txt X.K X.mg cn ql bm C fI) (hz : Zc cls d oe) (hf : ∃ vs, oe.data = .fields vs) (he : PE (X.suite a ((a, oe) :: pn)) e te)
    (hb : attributeBase e "house" X.env (eval e X.env) = eval e X.env := by rfl) :
    PE (X.suite a ((a, oe) :: pn)) (.Attribute e "house" pos) (tByF "house" C a cls d te) := by
  refine ⟨fun pins s σ H Q I h => ?_⟩
  refine attr_of hb (thn (he.run pins s σ H _ I h) fun u s1 hh => ?_)
  obtain ⟨x, H1, I1, rx, ex, ec, dd, v, ed, ea, q⟩ := hh
  subst ex
  obtain rfl : u = Value.ref a := rx
  subst ec
  subst ed
  obtain ⟨ha, _⟩ := I1.pin (a, oe) (List.mem_append_left _ List.mem_cons_self)
  obtain ⟨vs, hd⟩ := hf
  have hx : ObjOk X.prog X.w H1 s1.heap dd (.xd [(("house" : Str), v)]) := I1.hok dd _ ea
  obtain ⟨mA, hns, hr⟩ := hx
  obtain ⟨od, ho, hl⟩ := lookIn_ns hns
  have l : List.lookup ("house" : Str) [(("house" : Str), v)] = some v := by simp [List.lookup]
  obtain ⟨u, hu, ru⟩ := RelO.some_of (v := v) (o := mA "house") (by rw [← l]; exact hr "house")
  have J : PySem.W.InstAt s1.heap a oe C (some od) := ⟨ha, hz.1, by unfold PySem.W.notCls; rw [hd] <;> rfl, by rw [hz.2]; exact ho⟩
  exact HandSPX.exc_get I1.kIn J T.ga T.gg T.exC (PySem.W.findObj_own T.hdC T.noN rfl (by rw [hl, hu])) (handed_of ru) ⟨v, H1, I1.tok _, ru, q⟩
end
end K1

namespace K1
namespace LTie
open PySem PySem.W PySem.Calls PyProof.Rows PySem.HandSPX
/-- the text of __init__ -/
def iA (p1 p2 : Pos) : Arguments := { posonlyargs := [], args := [{ arg := "self", annotation := none, pos := p1 }, { arg := "tie", annotation := none, pos := p2 }], vararg := none, kwonlyargs := [], kw_defaults := [], kwarg := none, defaults := [] }
def iB (q1 q2 q3 q4 : Pos) : List Stmt := [.Assign [.Attribute (.Name "self" q1) "tie" q2] (.Name "tie" q3) q4]
def iS : Scope := { kind := .function, names := [(PySem.Str.ofString "self", .local), (PySem.Str.ofString "tie", .local)], isGenerator := false, isCoroutine := false, more := [] }
/-- what the written part says of the class at C (named cn), of its chain bm, and of its __init__, at fI -/
structure Txt (K : Frag) (mg : Str → Option Value) (cn ql : Str) (bm : List Value) (C fI : Addr) : Prop where
  gC : mg cn = some (.ref C)
  cls : ∃ nm q N bs sn sub ab col dd k0 k1 k2 k3 k5, K.lookup C = some (excClassObj nm q C N bs bm true sn sub ab col dd k0 k1 k2 k3 k5 "LookupError.__new__")
  mr : Mro "LookupError" bm
  sa : findIn K (.ref C) "__setattr__" = some (some (.builtin "object.__setattr__"))
  ga : findIn K (.ref C) "__getattribute__" = some (some (.builtin "BaseException.__getattribute__"))
  gg : findIn K (.ref C) "__getattr__" = some none
  noN : findIn K (.ref C) "tie" = some none
  iC : findIn K (.ref C) "__init__" = some (some (.ref fI))
  tC : typeIn K (.ref fI) = some (.type "function")
  kC : keepIn K (.ref C) = true
  exC : subIn K (.ref C) (.type "BaseException") = some true
  tyC : typeIn K (.ref C) = some (.type "type")
  hdC : hasDictIn K C = true
  fn : ∃ (oc : Value) (od : Option Addr) (doc pm : Value) (an : Option Addr) (cdv ct : Value) (osl : Array (Option Value)) (p1 p2 q1 q2 q3 q4 : Pos),
    K.lookup fI = some ⟨oc, od, .func (fnOf "__init__" ql (iA p1 p2) (iB q1 q2 q3 q4) iS .none .none doc pm an cdv ct), osl⟩ ∧ codeIn K cdv ql = true
/-- what __init__ leaves of a fresh exception at x -/
structure InitEnd (h h' : Heap) (x C dx t1 : Addr) (v : Value) : Prop where
  keep : ∀ b o, b ≠ x → h.get? b = some o → h'.get? b = some o
  obj : h'.get? x = some { cls := .ref C, dict := some dx, data := .fields #[.ref t1, .none, .none, .none, .bool false, .none] }
  dbig : h.objs.size ≤ dx
  dne : dx ≠ x
  ns : h'.Ns1 dx (fun y => if y = "tie" then some v else none)
structure OwnMade (h h' : Heap) (e C d : Addr) (v : Value) : Prop where
  keep : ∀ b o, h.get? b = some o → h'.get? b = some o
  new : h.objs.size ≤ e
  obj : ∃ oe vs, h'.get? e = some oe ∧ oe.cls = .ref C ∧ oe.dict = some d ∧ oe.data = .fields vs ∧ vs[1]? = some .none
  dbig : h.objs.size ≤ d
  dne : d ≠ e
  ns : h'.Ns1 d (fun y => if y = "tie" then some v else none)
section
variable {prog : Program} {w : World} {A : Around} {E : Value → Shared → Prop} {R : Result → Shared → Prop} {s : Shared} {K : Frag} {mg : Str → Option Value} {cn ql : Str} {bm : List Value} {C fI : Addr}
theorem init (T : Txt K mg cn ql bm C fI) {x t0 : Addr} {v : Value} (X : K.In s.heap) (hlim : s.heap.NoLimit) (hx : s.heap.get? x = some (excO C t0)) (hnx : K.lookup x = none) (hroom : A.depth < recursionLimit)
    (hq : ∀ h' tk dx, InitEnd s.heap h' x C dx t0 v → R (.ok (.ret .none)) { s with heap := h', toks := tk }) :
    codeAny (model prog w) A (.call (.ref fI) ⟨[.ref x, v], []⟩) R s := by
  obtain ⟨oc, od, doc, pm, an, cdv, ct, osl, p1, p2, q1, q2, q3, q4, ho, hcd⟩ := T.fn
  obtain ⟨nm, q, N, bs, sn, sub, ab, col, dd, k0, k1, k2, k3, k5, hC⟩ := T.cls
  have hcl : clsIn K C = some { name := nm, bases := bs, mro := .ref C :: bm, ns := N, qualname := q, hasDict := true, slotNames := sn, subclasses := sub, abstract := ab, collection := col, hasDel := false } := by unfold clsIn; rw [hC] <;> rfl
  refine Att.call_fn (binds := [("self", .ref x), ("tie", v)]) X hlim ho hcd hroom (BindsTo.of_eq (by first | rfl | with_unfolding_all rfl)) (by first | rfl | decide | with_unfolding_all rfl) (fun s₁ IC => ?_) rfl rfl rfl
  obtain ⟨h₁, tk₁, rfl⟩ := IC.toInCall.same
  have k : ∀ b o, s.heap.get? b = some o → h₁.get? b = some o := IC.toInCall.keep
  have hn := IC.toInCall.ns
  have X₁ : K.In h₁ := X.keeps k
  have hx₁ := k _ _ hx
  show wpAny _ _ (execs _ _) _ _ _
  refine wpAny_execs_cons (plainObj_wpAny_Assign_Attribute ?_)
  refine ldE (v := v) hn (by first | rfl | with_unfolding_all rfl | kernel_rfl) (ldE (v := .ref x) hn (by first | rfl | with_unfolding_all rfl | kernel_rfl) ?_)
  refine set_plain X₁ (ox := excO C t0) (od := none) ⟨hx₁, rfl, rfl, trivial⟩ T.sa ?_
  refine exc_osaG X₁ hx₁ hcl rfl T.mr rfl T.noN (fun h₃ tk₃ dx k₃ dn dne hx₃ hn₃ => ?_)
  show wpAny _ _ (execs _ _) _ _ _
  have z : s.heap.objs.size < h₁.objs.size := hn.lt
  exact wpAny_execs_nil (hq h₃ tk₃ dx ⟨fun b o hb e => k₃ b o hb (k b o e), hx₃, Nat.le_of_lt (Nat.lt_of_lt_of_le z dn), dne, hn₃⟩)
theorem made (T : Txt K mg cn ql bm C fI) {v : Value} (X : K.In s.heap) (hlim : s.heap.NoLimit) (hroom : A.depth + 1 < recursionLimit)
    (hq : ∀ h' tk e d, OwnMade s.heap h' e C d v → R (.ok (.ret (.ref e))) { s with heap := h', toks := tk }) :
    codeAny (model prog w) A (.call (.ref C) ⟨[v], []⟩) R s := by
  obtain ⟨nm, q, N, bs, sn, sub, ab, col, dd, k0, k1, k2, k3, k5, hC⟩ := T.cls
  obtain ⟨hp, g, dr, tk, os⟩ := s
  have k : ∀ b o, hp.get? b = some o → ((hp.push (kdv_tup [v])).push (excO C hp.objs.size)).get? b = some o := fun b o e => Heap.get?_push_of_some _ (Heap.get?_push_of_some _ e)
  have hget : ((hp.push (kdv_tup [v])).push (excO C hp.objs.size)).get? (hp.objs.size + 1) = some (excO C hp.objs.size) := by heap_get
  have hnx : K.lookup (hp.objs.size + 1) = none := by
    cases e : K.lookup (hp.objs.size + 1) with
    | none => rfl
    | some o =>
      have z : hp.get? (hp.objs.size + 1) = some o := X _ _ e
      exact absurd (Nat.lt_of_succ_lt (Heap.lt_size z)) (Nat.lt_irrefl _)
  refine call_ownG F.excBase_LookupError T.mr (X _ _ hC) (looks_findIn X T.iC) (fun self => bind_fn X self T.tC) (one_le v) ?_
  refine init (s := ⟨(hp.push (kdv_tup [v])).push (excO C hp.objs.size), g, dr, tk, os⟩) T (X.keeps k) (hlim.keeps k) hget hnx ?_ fun h' tk' dx ⟨k', hx, dn, dne, hns⟩ => ?_
  · show A.depth + 1 < recursionLimit
    exact hroom
  · have old : ∀ b o, hp.get? b = some o → h'.get? b = some o := fun b o e => k' b o (Nat.ne_of_lt (Nat.lt_succ_of_lt (Heap.lt_size e))) (k b o e)
    have z : hp.objs.size + 1 + 1 ≤ dx := by
      first
        | (simpa only [Heap.size_push] using dn)
        | exact dn
        | (have q := dn; rw [Heap.size_push, Heap.size_push] at q; exact q)
    exact ⟨rfl, hq h' tk' (hp.objs.size + 1) dx ⟨old, Nat.le_succ _, ⟨_, _, hx, rfl, rfl, rfl, rfl⟩, Nat.le_trans (Nat.le_trans (Nat.le_succ _) (Nat.le_succ _)) z, dne, hns⟩⟩
end
end LTie
end K1
namespace K1
open PySem PySem.Spec PyProof.Rows L2
section
variable {X : Cx} {cn ql : Str} {bm : List Value} {C fI : Addr}
theorem pmk_LTie {a : Expr} {ta : TA} {p pos : Pos} {k : Nat} (T : LTie.Txt X.K X.mg cn ql bm C fI) (hr : Room k X.A) (ha : PA X [a] ta) (hg : Gl X cn := by rfl)
    (he : starEach (a :: []) X.env = (false, eval a X.env) :: starEach [] X.env := by rfl) (hpl : (backTo pos (starEach [] X.env)).any (·.1) = false := by rfl) (hdb : (cn == ("__debug__" : Str)) = false := by decide) :
    PMk X (.Call (.Name cn p) [a] [] pos) (tMkF "tie" C ta) := by
  intro pins s σ H Q I h
  refine wpAny_Call_Name_kw (ld_glob I hg T.gC ?_ hdb)
  refine PySem.W.callWith_K (h₀ := X.base) I.ok.mod.kin T.kC (thn (ha.run pos pins s σ H _ I h) fun us s1 hh => ?_) he hpl
  obtain ⟨vs, H1, I1, r1, v, ev, q1⟩ := hh
  subst ev
  refine ⟨I1.kIn, ?_⟩
  cases r1 with
  | cons rv rn =>
    rename_i v' us'
    cases rn
    show wpAny _ _ (call (.ref C) [v']) _ _ _
    have hlim := I1.nolimit
    obtain ⟨hp, g, dr, tk, os⟩ := s1
    refine wpAny_call (LTie.made T I1.kIn hlim (by have := hr.dp; omega) fun h' tk' e d M => ?_)
    show MkP X pins σ Q (.ref e) ⟨h', g, dr, tk', os⟩
    obtain ⟨oe, fv, hoe, hc, hd, hdat, h1⟩ := M.obj
    have hns := M.ns
    obtain ⟨G', g1, g2⟩ := restrict h' fun b => decide (b ≠ e)
    have gk : ∀ b, b ≠ e → G'.get? b = h'.get? b := fun b hb => g1 b (decide_eq_true hb)
    have ge : G'.get? e = none := g2 e (by simp)
    have old : ∀ b o, hp.get? b = some o → G'.get? b = some o := fun b o q => (gk b (Nat.ne_of_lt (Nat.lt_of_lt_of_le (Heap.lt_size q) M.new))).trans (M.keep b o q)
    have ob : ObjOk X.prog X.w (upd H1 d (.xd [(("tie" : Str), v)])) G' d (.xd [(("tie" : Str), v)]) :=
      ⟨_, hns.at (fun o q => (gk d M.dne).trans q), fun f => relO_one rv f⟩
    have J : Inv X pins σ (upd H1 d (.xd [(("tie" : Str), v)])) ⟨G', g, dr, tk', os⟩ := I1.laid (t' := tk') old M.dbig ob
    refine ⟨e, oe, fv, ⟨G', g, dr, tk', os⟩, _, .ref C, some d, rfl, J, fun b o q => ?_, ge, hoe, ⟨hc, hd⟩, hdat, h1, ?_, rfl, I1.bare, raises_own T.exC T.tyC, q1 d (I1.hok.fresh M.dbig)⟩
    · by_cases hb : b = e
      · have q' : G'.get? b = some o := q
        rw [hb, ge] at q'; cases q'
      · exact (gk b hb).symm.trans q
    · rw [upd_ne (Ne.symm M.dne)]
      exact I1.hok.fresh M.new
theorem ps_raise_LTie {a : Expr} {ta : TA} {W : WX} {p pos pos2 : Pos} {k : Nat} (hc : X.calm = true) (T : LTie.Txt X.K X.mg cn ql bm C fI) (hr : Room k X.A) (tk : Takes X W) (ha : PA X [a] ta) (hg : Gl X cn := by rfl)
    (he : starEach (a :: []) X.env = (false, eval a X.env) :: starEach [] X.env := by rfl) (hpl : (backTo pos (starEach [] X.env)).any (·.1) = false := by rfl) (hdb : (cn == ("__debug__" : Str)) = false := by decide) :
    PS X (.Raise (some (.Call (.Name cn p) [a] [] pos)) none pos2) (tRaiseF "tie" C W ta) := ps_raise hc tk (pmk_LTie T hr ha hg he hpl hdb)
theorem pe_by_LTie {a : Addr} {oe : Obj} {cls : Value} {d : Option Addr} {pn : List (Addr × Obj)} {e : Expr} {te : TE} {pos : Pos} (T : LTie.Txt X.K X.mg cn ql bm C fI) (hz : Zc cls d oe) (hf : ∃ vs, oe.data = .fields vs) (he : PE (X.suite a ((a, oe) :: pn)) e te)
    (hb : attributeBase e "tie" X.env (eval e X.env) = eval e X.env := by rfl) :
    PE (X.suite a ((a, oe) :: pn)) (.Attribute e "tie" pos) (tByF "tie" C a cls d te) := by
  refine ⟨fun pins s σ H Q I h => ?_⟩
  refine attr_of hb (thn (he.run pins s σ H _ I h) fun u s1 hh => ?_)
  obtain ⟨x, H1, I1, rx, ex, ec, dd, v, ed, ea, q⟩ := hh
  subst ex
  obtain rfl : u = Value.ref a := rx
  subst ec
  subst ed
  obtain ⟨ha, _⟩ := I1.pin (a, oe) (List.mem_append_left _ List.mem_cons_self)
  obtain ⟨vs, hd⟩ := hf
  have hx : ObjOk X.prog X.w H1 s1.heap dd (.xd [(("tie" : Str), v)]) := I1.hok dd _ ea
  obtain ⟨mA, hns, hr⟩ := hx
  obtain ⟨od, ho, hl⟩ := lookIn_ns hns
  have l : List.lookup ("tie" : Str) [(("tie" : Str), v)] = some v := by simp [List.lookup]
  obtain ⟨u, hu, ru⟩ := RelO.some_of (v := v) (o := mA "tie") (by rw [← l]; exact hr "tie")
  have J : PySem.W.InstAt s1.heap a oe C (some od) := ⟨ha, hz.1, by unfold PySem.W.notCls; rw [hd] <;> rfl, by rw [hz.2]; exact ho⟩
  exact HandSPX.exc_get I1.kIn J T.ga T.gg T.exC (PySem.W.findObj_own T.hdC T.noN rfl (by rw [hl, hu])) (handed_of ru) ⟨v, H1, I1.tok _, ru, q⟩
end
end K1
/-! enumerate over a tuple, repr of data of any depth, isinstance of a held exception -/
namespace K1
open PySem PySem.Spec PyProof.Rows L2
theorem meets_enum1 {v : Value} {o : Obj} {H : Heap → Prop} (B : Begins v o H) :
    Meets (Builtin.«enumerate.__new__» ⟨[.type "enumerate", v], []⟩) (fun _ R s => H s.heap ∧
      R (.ok (.ret (.ref (s.heap.push o).objs.size))) { s with heap := (s.heap.push o).push { cls := .type "enumerate", data := .fields #[.none, .bool false, .ref s.heap.objs.size, rawInt 0, .none, .none] } }) :=
  .of_wp fun prog w A R s h => by
    obtain ⟨hp, g, d, tk, os⟩ := s
    obtain ⟨h1, h⟩ := h
    have hsub := sub_enumerate
    have q1 : ∀ {A' : Around} {E : Value → Shared → Prop} {Q : Value → Shared → Prop}, Q (.ref hp.objs.size) ⟨hp.push o, g, d, tk, os⟩ → wpAny (model prog w) A' (pyIter v) Q E ⟨hp, g, d, tk, os⟩ :=
      fun q => B.iter prog w _ _ ⟨hp, g, d, tk, os⟩ _ h1 q
    wp_walk using q1
    refine wpAny_stack_any fun st => wpAny_pure ?_
    split
    · rename_i c _ _ _ _ _
      cases (c == Value.type "enumerate") <;> (wp_walk using q1; exact ⟨_, rfl, h⟩)
    · wp_walk using q1
      exact ⟨_, rfl, h⟩
theorem enum_begins1 {prog : Program} {w : World} {A : Around} {E : Value → Shared → Prop} {s : Shared} {v : Value} {o : Obj} {H : Heap → Prop} {Q : Value → Shared → Prop} (B : Begins v o H) (h1 : H s.heap)
    (h : ∀ h', IsEnum h' (s.heap.objs.size + 1) s.heap.objs.size 0 .none → h'.get? s.heap.objs.size = some o → h'.objs.size = s.heap.objs.size + 2 →
      (∀ b o, s.heap.get? b = some o → h'.get? b = some o) → Q (.ref (s.heap.objs.size + 1)) { s with heap := h' }) :
    wpAny (model prog w) A (call (.type "enumerate") [v]) Q E s := by
  refine callType_new F.called_enumerate (by decide) (F.typeCall_enumerate_1 _) (F.newCall_enumerate_1 _) (fun obj => F.args_object_init_2 obj _) F.entry_enumerate_new (meets_enum1 B) ⟨h1, ?_⟩
  have hz : (s.heap.push o).objs.size = s.heap.objs.size + 1 := Heap.size_push ..
  show _ ∧ _
  rw [hz]
  have he := Heap.get?_push_size (s.heap.push o) (o := { cls := .type "enumerate", data := .fields #[.none, .bool false, .ref s.heap.objs.size, rawInt 0, .none, .none] }) rfl
  rw [hz] at he
  exact ⟨⟨_, he, rfl⟩, h _ he (Heap.get?_push_of_some _ (Heap.get?_push_size _ B.free)) (by rw [Heap.size_push, hz]) fun b o x => Heap.get?_push_of_some _ (Heap.get?_push_of_some _ x)⟩
/-- the tuple at a, each item in a new pair -/
def IteT (K : PySem.W.Frag) (a : Addr) : It :=
  ⟨fun i H => ∃ (xs : List V) (x : V), SqT K H a xs ∧ xs[i]? = some x, fun i H v H' => ∃ T x, v = .ref T ∧ H T = none ∧ H' = upd H T (.tup [.int (i : Nat), x]) ∧ ∀ xs, SqT K H a xs → xs[i]? = some x, fun i H => ∃ xs : List V, SqT K H a xs ∧ xs.length ≤ i⟩
theorem turn_enumT {P : Program} {w : World} {K : PySem.W.Frag} {elts : List Expr} {kk : Nat} {tpos : Pos} (a e it : Addr) :
    Turn P w K (.Tuple elts kk tpos) (IteT K a) [e, it] e (fun i h => (∃ old, IsEnum h e it ((i : Nat) : Int) old) ∧ h.IsTupleIter it a i ∧ e ≠ it ∧ e ≠ a ∧ a ≠ it) where
  mem := by simp
  obj := fun i h st b hb => by
    obtain ⟨⟨old, he⟩, ⟨o, ho, hc, hd⟩, _⟩ := st
    rcases (show b = e ∨ b = it by simpa using hb) with z | z
    · rw [z]; exact ⟨_, he, fun v q => nomatch q⟩
    · rw [z]; exact ⟨o, ho, fun v q => by rw [hd] at q; cases q⟩
  keep := fun i h h' st k => let ⟨⟨old, he⟩, hi, hne⟩ := st; ⟨⟨old, k e (by simp) _ he⟩, hi.at fun o q => k it (by simp) o q, hne⟩
  item := by
    intro X hP hw hK hc i pins s σ H E I hf st hg
    subst hP hw hK
    obtain ⟨⟨old, he⟩, hit, hne, nea, nai⟩ := st
    obtain ⟨xs, x, hq, hx⟩ := hg
    obtain ⟨its, rv, p, hz⟩ := I.tuple hq
    obtain ⟨u, hu, ru⟩ := rv.get hx
    have hil' := (List.getElem?_eq_some_iff.mp hu).1
    have hel : e < s.heap.objs.size := Heap.lt_size he
    have hil : it < s.heap.objs.size := by obtain ⟨_, q, _⟩ := hit; exact Heap.lt_size q
    have D := Draws.tuple (prog := X.prog) (w := X.w) (A := X.A.in1) (show X.A.in1.handled = none from I.ok.hd hc) it a nai its.toArray
    refine wpAny_pyNext_enum_itemD D he ⟨hit, (show s.heap.IsTuple a its.toArray from p)⟩ (by simpa using hil') hne (by simp [hne, nea]) fun y h' tk hy ho hst hT hsz hk => ?_
    have ey : y = u := by
      have z : its[i]? = some y := by simpa using hy
      rw [hu] at z
      exact (Option.some.inj z).symm
    subst ey
    refine ⟨_, rfl, wpAny_letOwnedTupleGo_enum (s := { s with heap := h', toks := tk + 1 }) ho fun h'' he' sb => ?_⟩
    have hT2 : h''.get? s.heap.objs.size = some { cls := .type "tuple", data := .seq #[.int i tk, y] } := (sb.2 _ (Nat.ne_of_gt hel)).trans hT
    have new : ObjOk X.prog X.w (upd H s.heap.objs.size (.tup [.int (i : Nat), x])) h'' s.heap.objs.size (.tup [.int (i : Nat), x]) :=
      ⟨by show 2 ≤ sizeLine; decide, [.int i tk, y], .cons ⟨_, rfl⟩ (.cons ru .nil), ⟨_, hT2, rfl, _, rfl⟩⟩
    have I1 : Inv X pins σ (upd H s.heap.objs.size (.tup [.int (i : Nat), x])) { s with heap := h'', toks := tk + 1 } :=
      I.turnedNew (ch := [e, it]) (fun b ob hb q => (sb.2 b (fun z => hb (by simp [z]))).trans (hk b ob (fun z => hb (by simp [z])) (fun z => hb (by simp [z])) q)) hf (Nat.le_refl _) new
    refine ⟨.ref s.heap.objs.size, _, I1, rfl, ⟨_, x, rfl, I.hok.fresh (Nat.le_refl _), rfl, fun ys hy => by rw [I.tuple_inj hy hq]; exact hx⟩, ⟨⟨y, ?_⟩, hst.1.at fun o q => (sb.2 it (Ne.symm hne)).trans q, hne, nea, nai⟩, fun b hb => ?_⟩
    · have e1 : ((i + 1 : Nat) : Int) = (i : Int) + 1 := by omega
      rw [e1]; exact he'
    · have hb' : b < s.heap.objs.size := by
        rcases (show b = e ∨ b = it by simpa using hb) with z | z
        · rw [z]; exact hel
        · rw [z]; exact hil
      rw [upd_ne (Nat.ne_of_lt hb')]
      exact (hf b hb).1
  done := by
    intro X hP hw hK hc i pins s σ H E I hf st hg
    subst hP hw hK
    obtain ⟨⟨old, he⟩, hit, hne, nea, nai⟩ := st
    obtain ⟨xs, hq, hx⟩ := hg
    obtain ⟨its, rv, p, hz⟩ := I.tuple hq
    obtain ⟨f0, f1, f2, f3, f4, f5⟩ := hf it (by simp)
    have hl := rv.length
    have hTs : s.TypeIs (.ref e) "enumerate" := ⟨_, he, rfl⟩
    unfold pyNext
    refine wpAny_bind (wpAny_attempt (wpAny_callSpecial?_slot (name := Str.ofString "__next__") hTs F.slot_enumerate_next
      (wpAny_call_entry F.slot_enumerate_next hTs F.entry_enumerate_next ?_ (F.args_enumerate_next_1 _))))
    show wpAny _ _ (field (.ref e) 2 >>= _) _ _ _
    refine wpAny_bind (wpAny_field he rfl (x := .ref it) rfl ?_)
    refine wpAny_bind (wpAny_nextOf_tuple_end (show X.A.in1.handled = none from I.ok.hd hc) hit (show s.heap.IsTuple a its.toArray from p) (by simp; omega) fun h' y eb hx' => ?_)
    obtain ⟨o, ho, hc'⟩ := hx'
    refine wpAny_bind (wpAny_isInstance (T := "StopIteration") (b := true) ⟨o, ho, hc'⟩ isSubtype_stop ?_)
    exact wpAny_pure ⟨rfl, I.turned (t' := s.toks) (fun b o hb q => eb b o hb q) f0 f1 f3 f4 f5⟩
  self := fun A i s Q E st h => let ⟨⟨_, he⟩, _⟩ := st; wpAny_pyIter_enum he h
def iEnumA (K : PySem.W.Frag) (ta : TA) : TI := fun σ H R => ta σ H fun vs H1 => ∃ a, vs = [.ref a] ∧ ((∃ xs, SqL K H1 a xs ∧ R (Ite K a) H1) ∨ (∃ xs, SqT K H1 a xs ∧ R (IteT K a) H1))
theorem pi_enumA {X : Cx} {e : Expr} {ta : TA} {p pos tpos : Pos} {elts : List Expr} {kk : Nat} (hg : Gl X "enumerate") (hm : X.mg "enumerate" = none) (ha : PA X [e] ta) (hs : starEach [e] X.env = [(false, eval e X.env)] := by rfl) :
    PI X (.Tuple elts kk tpos) (.Call (.Name "enumerate" p) [e] [] pos) (iEnumA X.K ta) := by
  refine ⟨fun pins s σ H R I h => ?_⟩
  refine Call_ (ld_blt I hg hm boot_enumerate (PyProof.Rows.callWith_type1 (thn (ha.run pos pins s σ H _ I h) fun us s1 ⟨vs, H1, I1, r1, q1⟩ => ?_) hs rfl))
  obtain ⟨a, ex, q⟩ := q1
  subst ex
  cases r1 with
  | cons r rr =>
    cases rr
    cases r
    have big : ∀ b ∈ [s1.heap.objs.size + 1, s1.heap.objs.size], s1.heap.objs.size ≤ b := fun b hb => by
      rcases (show b = s1.heap.objs.size + 1 ∨ b = s1.heap.objs.size by simpa using hb) with z | z
      · rw [z]; exact Nat.le_add_right _ _
      · rw [z]; exact Nat.le_refl _
    rcases q with ⟨xs, hq, q⟩ | ⟨xs, hq, q⟩
    · obtain ⟨its, rv, p', hz⟩ := I1.list hq
      refine call_enumerate_list p'.isList fun h' he hit hsz hk => wpAny_pyIter_enum he ?_
      have I2 : Inv X pins σ H1 { s1 with heap := h' } := I1.kept (t' := s1.toks) hk
      exact ⟨s1.heap.objs.size + 1, [s1.heap.objs.size + 1, s1.heap.objs.size], _, _, H1, rfl, I2, turn_enum a (s1.heap.objs.size + 1) s1.heap.objs.size, ⟨⟨.none, he⟩, hit, Nat.succ_ne_self _⟩, fun b hb => I1.fpOk (big b hb) (I1.hok.fresh (big b hb)), q⟩
    · obtain ⟨its, rv, p', hz⟩ := I1.tuple hq
      have hp : s1.heap.IsTuple a its.toArray := p'
      have hal : a < s1.heap.objs.size := by obtain ⟨_, q, _⟩ := hp; exact Heap.lt_size q
      refine enum_begins1 (begins_tuple a its.toArray) hp fun h' he hit hsz hk => wpAny_pyIter_enum he ?_
      have I2 : Inv X pins σ H1 { s1 with heap := h' } := I1.kept (t' := s1.toks) hk
      exact ⟨s1.heap.objs.size + 1, [s1.heap.objs.size + 1, s1.heap.objs.size], _, _, H1, rfl, I2, turn_enumT a (s1.heap.objs.size + 1) s1.heap.objs.size, ⟨⟨.none, he⟩, ⟨_, hit, rfl, rfl⟩, Nat.succ_ne_self _, Nat.ne_of_gt (Nat.lt_succ_of_lt hal), Nat.ne_of_lt hal⟩, fun b hb => I1.fpOk (big b hb) (I1.hok.fresh (big b hb)), q⟩
section
variable {K : PySem.W.Frag} {a : Addr} {xs : List V} {g : TG} {tb : TS} {D : Ends} {σ : L2.St} {H : Hp}
theorem for_enumL (Pv : Nat → L2.St → Hp → Prop) (h0 : Pv 0 σ H) (hl : ∀ i σ H, i ≤ xs.length → Pv i σ H → SqL K H a xs)
    (hs : ∀ i x T σ H, xs[i]? = some x → H T = none → Pv i σ H → g (.ref T) σ (upd H T (.tup [.int (i : Nat), x])) fun σ2 H2 => tb { D with nx := Pv (i + 1), ct := Pv (i + 1), bk := D.nx } σ2 H2) (hd : ∀ σ H, Pv xs.length σ H → D.nx σ H) :
    ∃ W : Nat → Nat → L2.St → Hp → Prop, (∃ m, W 0 m σ H) ∧ ∀ i m σ H, W i m σ H →
      ((Ite K a).stop i H ∧ D.nx σ H) ∨ ((Ite K a).go i H ∧ ∃ N : L2.St → Hp → Prop, (∀ σ' H', N σ' H' → ∃ m', m' < m ∧ W (i + 1) m' σ' H') ∧ ∀ x H', (Ite K a).yld i H x H' → g x σ H' fun σ2 H2 => tb { D with nx := N, ct := N, bk := D.nx } σ2 H2) := by
  refine ⟨fun i m σ H => m = xs.length - i ∧ i ≤ xs.length ∧ Pv i σ H, ⟨xs.length, by simp, Nat.zero_le _, h0⟩, ?_⟩
  rintro i m σ H ⟨rfl, hi, p⟩
  have q := hl i σ H hi p
  by_cases hlt : i < xs.length
  · refine .inr ⟨⟨xs, xs[i], q, by simp [hlt]⟩, Pv (i + 1), fun σ' H' p' => ⟨xs.length - (i + 1), by omega, rfl, hlt, p'⟩, fun x H' y => ?_⟩
    obtain ⟨T, x', e1, e2, e3, e4⟩ := y
    subst e1 e3
    exact hs i x' T σ H (e4 xs q) e2 p
  · have e : i = xs.length := by omega
    subst e
    exact .inl ⟨⟨xs, q, Nat.le_refl _⟩, hd σ H p⟩
theorem for_enumT (Pv : Nat → L2.St → Hp → Prop) (h0 : Pv 0 σ H) (hl : ∀ i σ H, i ≤ xs.length → Pv i σ H → SqT K H a xs)
    (hs : ∀ i x T σ H, xs[i]? = some x → H T = none → Pv i σ H → g (.ref T) σ (upd H T (.tup [.int (i : Nat), x])) fun σ2 H2 => tb { D with nx := Pv (i + 1), ct := Pv (i + 1), bk := D.nx } σ2 H2) (hd : ∀ σ H, Pv xs.length σ H → D.nx σ H) :
    ∃ W : Nat → Nat → L2.St → Hp → Prop, (∃ m, W 0 m σ H) ∧ ∀ i m σ H, W i m σ H →
      ((IteT K a).stop i H ∧ D.nx σ H) ∨ ((IteT K a).go i H ∧ ∃ N : L2.St → Hp → Prop, (∀ σ' H', N σ' H' → ∃ m', m' < m ∧ W (i + 1) m' σ' H') ∧ ∀ x H', (IteT K a).yld i H x H' → g x σ H' fun σ2 H2 => tb { D with nx := N, ct := N, bk := D.nx } σ2 H2) := by
  refine ⟨fun i m σ H => m = xs.length - i ∧ i ≤ xs.length ∧ Pv i σ H, ⟨xs.length, by simp, Nat.zero_le _, h0⟩, ?_⟩
  rintro i m σ H ⟨rfl, hi, p⟩
  have q := hl i σ H hi p
  by_cases hlt : i < xs.length
  · refine .inr ⟨⟨xs, xs[i], q, by simp [hlt]⟩, Pv (i + 1), fun σ' H' p' => ⟨xs.length - (i + 1), by omega, rfl, hlt, p'⟩, fun x H' y => ?_⟩
    obtain ⟨T, x', e1, e2, e3, e4⟩ := y
    subst e1 e3
    exact hs i x' T σ H (e4 xs q) e2 p
  · have e : i = xs.length := by omega
    subst e
    exact .inl ⟨⟨xs, q, Nat.le_refl _⟩, hd σ H p⟩
end
/-! ### repr -/
/-- repr of what is no object -/
def rReprS : List V → Hp → VK → Prop := fun xs H Q => ∃ v, xs = [v] ∧ ((v = .non ∧ Q (.str "None") H) ∨ (∃ b : Bool, v = .bl b ∧ Q (.str (if b then "True" else "False")) H) ∨ (∃ i : Int, v = .int i ∧ i.natAbs.log2 < 1920 ∧ Q (.str (toString i)) H) ∨
  ∃ x : Str, v = .str x ∧ (reprText x).length ≤ sizeLine ∧ Q (.str (reprText x)) H)
theorem call_reprS {X : Cx} : CallR X (.builtin "repr") rReprS := by
  intro pins s σ H xs us Q I r h
  obtain ⟨v, rfl, h⟩ := h
  obtain ⟨u, rfl, rv⟩ := vals1 r
  rcases h with ⟨rfl, q⟩ | ⟨b, rfl, q⟩ | ⟨i, rfl, hz, q⟩ | ⟨x, rfl, hz, q⟩
  · cases rv
    exact PySem.P.repr_of_none ⟨.str _, H, I.tok _, ⟨_, rfl⟩, q⟩
  · cases rv
    exact PySem.P.repr_of_bool ⟨.str _, H, I.tok _, ⟨_, rfl⟩, q⟩
  · obtain ⟨t, rfl⟩ := rv
    exact PySem.P.repr_of_int hz ⟨.str _, H, I.tok _, ⟨_, rfl⟩, q⟩
  · obtain ⟨t, rfl⟩ := rv
    exact PySem.P.repr_of_str (t := t) ⟨.str _, H, I.tok _, ⟨_, rfl⟩, q⟩ hz
/-- repr of a list or tuple: plain data without dicts -/
def rRepr (K : PySem.W.Frag) : List V → Hp → VK → Prop := fun xs H Q => ∃ a d, xs = [.ref a] ∧ Dp K H (.ref a) d ∧ PyData.showable d = true ∧ PyData.hasDict d = false ∧ PyData.depth d ≤ 40 ∧ d.shown.length ≤ sizeLine ∧ Q (.str d.shown) H
theorem call_repr {X : Cx} (hg : X.A.guards = some []) (hu : X.A.units + 64 < cLine) : CallR X (.builtin "repr") (rRepr X.K) := by
  intro pins s σ H xs us Q I r h
  obtain ⟨a, d, rfl, hd, h1, h2, h3, h4, q⟩ := h
  obtain ⟨u, rfl, rv⟩ := vals1 r
  obtain ⟨as, R⟩ := Dp.reads I d _ u hd rv
  cases rv
  exact repr_of_reads' R h1 (PyData.noDict_hsm h2) hg (by omega) (fun _ _ e => e) (fun h' u' tk k => ⟨.str _, H, I.kept (t' := tk) k, ⟨_, rfl⟩, q⟩) h4
/-! ### isinstance of the exception that a suite holds, its own dict at d -/
structure ExcK (K : PySem.W.Frag) (C : Addr) : Prop where
  cl : (PySem.W.clsIn K C).isSome = true
  ga : PySem.W.findIn K (.ref C) "__getattribute__" = some (some (.builtin "BaseException.__getattribute__"))
  gt : PySem.W.findIn K (.ref C) "__getattr__" = some none
  sb : PySem.W.subIn K (.ref C) (.type "BaseException") = some true
  ca : PySem.W.findIn K (.ref C) "__class__" = some (some (.builtin "object.__class__"))
  sp : PySem.W.specialIn K (.builtin "object.__class__") "__get__" = some (some (.builtin "getset_descriptor.__get__"))
  tk : PySem.W.takesIn K (.builtin "object.__class__") = some true
  mo : PySem.W.mroIn K C (.type "object") = some true
def rIsD (K : PySem.W.Frag) (C d a : Addr) : List V → Hp → VK → Prop := fun xs H Q => ∃ (N : Addr) (g : Str) (v : V) (b : Bool), xs = [.ref a, .ref N] ∧ H d = some (.xd [(g, v)]) ∧ PySem.W.kitOne K (.ref C) (.ref N) = some b ∧ Q (.bl b) H
theorem call_isD {X : Cx} {a C d : Addr} {oe : Obj} {pn : List (Addr × Obj)} (T : ExcK X.K C) (hz : Zc (.ref C) (some d) oe) (hf : ∃ vs, oe.data = .fields vs) : CallR (X.suite a ((a, oe) :: pn)) (.builtin "isinstance") (rIsD X.K C d a) := by
  intro pins s σ H xs us Q I r h
  obtain ⟨N, g, v, b, rfl, hx, e, q⟩ := h
  obtain ⟨u1, u2, rfl, r1, r2⟩ := vals2 r
  cases r1
  cases r2
  obtain ⟨hget, _⟩ := I.pin (a, oe) (List.mem_append.mpr (.inl List.mem_cons_self))
  obtain ⟨vs, hd⟩ := hf
  have hx' : ObjOk X.prog X.w H s.heap d (.xd [(g, v)]) := I.hok d _ hx
  obtain ⟨mA, hns, hr⟩ := hx'
  obtain ⟨od, ho, hl⟩ := lookIn_ns hns
  have J : PySem.W.InstAt s.heap a oe C (some od) := ⟨hget, hz.1, by unfold PySem.W.notCls; rw [hd] <;> rfl, by rw [hz.2]; exact ho⟩
  exact PySem.W.kia_one (PySem.W.kitx_exc T.cl T.ga T.gt T.sb T.ca T.sp T.tk T.mo) I.kIn J e (fun z => nomatch z) fun tk => ⟨.bl b, H, I.kept (t' := tk) fun _ _ z => z, rfl, q⟩
/-! ### defs whose bodies show lists: they are told where nothing is being shown -/
structure FnG (P : Program) (w : World) (K : PySem.W.Frag) (mg : Str → Option Value) (base : Heap) (k : Nat) (f : Addr) (fd : FuncData) (ps : List Str) (sp : Sp) : Prop where
  len : ∀ vs H Q E, sp vs H Q E → vs.length = ps.length
  run : ∀ (A : Around) (outer : List Env) (s : Shared) (H : Hp) (args : Args) (us : List Value) (vs : List V) (Q : VK) (E : XK), Room k A → A.guards = some [] → Env0 P w K mg base A outer s H → BindsTo s fd args (ps.zip us) → Vals vs us → sp vs H Q E →
    codeAny (model P w) A (.call (.ref f) args) (CR CX0 outer P w H s Q E) s
end K1
/-! the text by places; short words for calls -/
namespace K1
open PySem PySem.Spec PyProof.Rows L2
def top (i : Nat) : Stmt := PySem.Challenge.pw_houseslessties_k29_whole_at_which_number.main.body.getD i (.Pass ⟨0, 0, 0, 0⟩)
abbrev sWall : Stmt := top 1
abbrev sBadWebInit : Stmt := inClass (top 4) 0
abbrev sRefusedInit : Stmt := inClass (top 5) 0
abbrev sNoHouseInit : Stmt := inClass (top 6) 0
abbrev sNoTieInit : Stmt := inClass (top 7) 0
abbrev sWhole : Stmt := top 9
abbrev sIsNumber : Stmt := top 10
abbrev sBelow : Stmt := top 11
abbrev sSeq : Stmt := top 12
abbrev sFnb : Stmt := top 13
abbrev sRepl : Stmt := top 14
abbrev sWInit : Stmt := inClass (top 18) 0
abbrev sWEq : Stmt := inClass (top 18) 1
abbrev sPair : Stmt := top 19
abbrev sCTies : Stmt := top 20
abbrev sNeedH : Stmt := top 21
abbrev sNeedT : Stmt := top 22
abbrev sWays : Stmt := top 23
abbrev sFWays : Stmt := top 24
abbrev sPart : Stmt := top 25
abbrev sTiesIn : Stmt := top 26
abbrev sNeedM : Stmt := top 30
abbrev sAmt : Stmt := top 31
abbrev sIsCnt : Stmt := top 32
abbrev sCOf : Stmt := top 33
abbrev sCBy : Stmt := top 34
abbrev sCInit : Stmt := inClass (top 35) 0
abbrev sCDo : Stmt := inClass (top 35) 1
abbrev sCMeet : Stmt := inClass (top 35) 2
abbrev sCBook : Stmt := inClass (top 35) 3
abbrev sIsRest : Stmt := top 37
abbrev sIsAlike : Stmt := top 38
abbrev sCheckTotal : Stmt := top 39
abbrev sRestValues : Stmt := top 40
abbrev sWholeRests : Stmt := top 41
abbrev sInverseBy : Stmt := top 42
abbrev sAreRight : Stmt := top 43
abbrev sLBox : Stmt := top 45
abbrev sLTake : Stmt := top 46
abbrev sLPick : Stmt := top 47
abbrev sLMixed : Stmt := top 48
abbrev sLHeard : Stmt := top 49
abbrev sLSmallRight : Stmt := top 50
abbrev sLPlainRight : Stmt := top 51
abbrev sLCommon : Stmt := top 52
abbrev sLGreatRight : Stmt := top 53
abbrev sLWebRight : Stmt := top 54
abbrev sLNoneRight : Stmt := top 55
abbrev sLaw : Stmt := top 56
/-- a def of the text: its object, its name in the module, how its arguments bind -/
structure Df (K : PySem.W.Frag) (mg : Str → Option Value) (x : Str) (st : Stmt) (ps : List Str) (f : Addr) (fd : FuncData) : Prop where
  F : Fun K x x st f fd
  g : mg x = some (.ref f)
  b : Binds K fd ps []
section
variable {X : Cx} {CX : CXT} {k : Nat} {f : Addr} {fd : FuncData} {ps : List Str} {sp : Sp} {E : XK} {x : Str} {st : Stmt} {p pos : Pos} {e : Expr} {es : List Expr} {t : TA}
/-- x(e, ..) -/
theorem pc (D : Df X.K X.mg x st ps f fd) (G : FnOk X.prog X.w X.K X.mg X.base CX k f fd ps sp) (hr : Room k X.A) (hx : Passes CX X E) (ha : PA X (e :: es) t) (hg : Gl X x := by rfl)
    (hdb : (x == ("__debug__" : Str)) = false := by decide) (he : starEach (e :: es) X.env = (false, eval e X.env) :: starEach es X.env := by rfl) (hpl : (backTo pos (starEach es X.env)).any (·.1) = false := by rfl) :
    PE X (.Call (.Name x p) (e :: es) [] pos) (tCall sp [] E t) := pe_call G hr hg D.g D.F.kp D.b .nil hx ha hdb he hpl
end
/-- what a def that raises may let out at its caller's def -/
theorem pass1 {X : Cx} {E : XK} (tk : Takes X (fun cls d _ H => E cls d H)) : Passes (L2.CX X.prog X.w) X E := passes_call tk fun _ _ _ _ h => h
/-! ### tests by cases -/
theorem ifD {c : Bool} {A B : Prop} (h1 : c = true → A) (h2 : c = false → B) : if c = true then A else B := by
  cases c with
  | true => exact iteT (h1 rfl)
  | false => exact iteF (h2 rfl)
theorem eqv {α : Type} {P : α → Prop} {a b : α} (e : a = b) (h : P b) : P a := e ▸ h
theorem qbl {Q : VK} {H : Hp} {a b : Bool} (e : a = b) (h : Q (.bl b) H) : Q (.bl a) H := e ▸ h
/-! ### values of any kind -/
/-- what a value is: some items for a list or a tuple, none for the others -/
inductive KV (K : PySem.W.Frag) (H : Hp) : V → Option (List V) → Prop
  | int (i : Int) : KV K H (.int i) none
  | bl (b : Bool) : KV K H (.bl b) none
  | non : KV K H .non none
  | str (x : Str) : KV K H (.str x) none
  | lst {a : Addr} {xs : List V} (h : H a = some (.lst xs)) : KV K H (.ref a) (some xs)
  | tup {a : Addr} {xs : List V} (h : H a = some (.tup xs)) : KV K H (.ref a) (some xs)
theorem KV.same {K : PySem.W.Frag} {H H' : Hp} {v : V} {o : Option (List V)} (h : KV K H v o) (s : Same H H') : KV K H' v o := by
  cases h with
  | int i => exact .int i
  | bl b => exact .bl b
  | non => exact .non
  | str x => exact .str x
  | lst h => exact .lst (s _ _ h)
  | tup h => exact .tup (s _ _ h)
def wholeB : V → Bool | .int _ => true | _ => false
def boolB : V → Bool | .bl _ => true | _ => false
inductive Tg where | i | b | n | s | l | t
def Tg.nm : Tg → String | .i => "int" | .b => "bool" | .n => "NoneType" | .s => "str" | .l => "list" | .t => "tuple"
def Tg.isI : Tg → Bool | .i => true | _ => false
def Tg.isB : Tg → Bool | .b => true | _ => false
def Tg.isQ : Tg → Bool | .l => true | .t => true | _ => false
theorem KV.ty {K : PySem.W.Frag} {H : Hp} {v : V} {o : Option (List V)} (h : KV K H v o) : ∃ g : Tg, TyX K H v (.type g.nm) ∧ g.isI = wholeB v ∧ g.isB = boolB v ∧ g.isQ = o.isSome := by
  cases h with
  | int i => exact ⟨.i, .base (.int i), rfl, rfl, rfl⟩
  | bl b => exact ⟨.b, .base (.bl b), rfl, rfl, rfl⟩
  | non => exact ⟨.n, .base .non, rfl, rfl, rfl⟩
  | str x => exact ⟨.s, .base (.str x), rfl, rfl, rfl⟩
  | lst h => exact ⟨.l, .base (.lst h), rfl, rfl, rfl⟩
  | tup h => exact ⟨.t, .base (.tup h), rfl, rfl, rfl⟩
theorem kit_I (K : PySem.W.Frag) (g : Tg) : PySem.W.kitOne K (.type g.nm) (.type "int") = some (g.isI || g.isB) := by
  cases g <;> exact kit_ty (by decide +kernel)
theorem kit_B (K : PySem.W.Frag) (g : Tg) : PySem.W.kitOne K (.type g.nm) (.type "bool") = some g.isB := by
  cases g <;> exact kit_ty (by decide +kernel)
def Tg.isL : Tg → Bool | .l => true | _ => false
def Tg.isT : Tg → Bool | .t => true | _ => false
theorem kit_L (K : PySem.W.Frag) (g : Tg) : PySem.W.kitOne K (.type g.nm) (.type "list") = some g.isL := by
  cases g <;> exact kit_ty (by decide +kernel)
theorem kit_T (K : PySem.W.Frag) (g : Tg) : PySem.W.kitOne K (.type g.nm) (.type "tuple") = some g.isT := by
  cases g <;> exact kit_ty (by decide +kernel)
theorem kit_Q (K : PySem.W.Frag) (g : Tg) : PySem.W.kitAny K (.type g.nm) [.type "list", .type "tuple"] = some g.isQ := by
  refine kitAny_cons (kit_L K g) (fun e => kitAny_cons (kit_T K g) (fun e2 => ?_) fun e2 => ?_) fun e => ?_
  all_goals (cases g <;> first | rfl | (cases e; done) | (cases e2; done))
/-- the built-in names that the text uses are the built-in ones -/
structure Bt (mg : Str → Option Value) : Prop where
  isinstance : mg "isinstance" = none
  int : mg "int" = none
  bool : mg "bool" = none
  list : mg "list" = none
  tuple : mg "tuple" = none
  len : mg "len" = none
  enumerate : mg "enumerate" = none
  range : mg "range" = none
  sorted : mg "sorted" = none
  set : mg "set" = none
  repr : mg "repr" = none
  abs : mg "abs" = none
  min : mg "min" = none
  max : mg "max" = none
  sum : mg "sum" = none
  all : mg "all" = none
  any : mg "any" = none
  zip : mg "zip" = none
  str : mg "str" = none
  dict : mg "dict" = none
  ke : mg "KeyError" = none
end K1
namespace K1
open PySem PySem.Spec PyProof.Rows L2
def belowB (v : V) (lim : Int) : Bool := match v with | .int i => decide (0 ≤ i) && decide (i < lim) | _ => false
def seqB (o : Option (List V)) (least most : Int) : Bool := match o with | some xs => decide (least ≤ (xs.length : Int)) && decide ((xs.length : Int) ≤ most) | none => false
def spWhole (K : PySem.W.Frag) : Sp := fun vs H Q _ => ∃ v o, vs = [v] ∧ KV K H v o ∧ Q (.bl (wholeB v)) H
def spBelow (K : PySem.W.Frag) : Sp := fun vs H Q _ => ∃ v o lim, vs = [v, .int lim] ∧ KV K H v o ∧ Q (.bl (belowB v lim)) H
def spSeq (K : PySem.W.Frag) : Sp := fun vs H Q _ => ∃ v o least most, vs = [v, .int least, .int most] ∧ KV K H v o ∧ ∀ H', Same H H' → Q (.bl (seqB o least most)) H'
section
variable {P : Program} {w : World} {K : PySem.W.Frag} {mg : Str → Option Value} {base : Heap}
theorem scW : FnScope ["value"] ["value"] (defScope sWhole) := ⟨rfl, rfl, rfl, by decide +kernel, rfl, by decide +kernel, by decide +kernel⟩
theorem ok_whole {f : Addr} {fd : FuncData} (D : Df K mg "is_whole" sWhole ["value"] f fd) (B : Bt mg) : FnOk P w K mg base CX0 1 f fd ["value"] (spWhole K) := by
  refine D.F.ok scW (fun vs H Q E h => ?_) (fun cdv A outer s H vs Q E hr h => ?_)
  · obtain ⟨v, o, rfl, _⟩ := h
    rfl
  · obtain ⟨v, o, rfl, kv, q⟩ := h
    obtain ⟨g, ty, eI, eB, eQ⟩ := kv.ty
    refine ⟨_, pss_one (ps_ret (pe_and (pe_callB call_isi (by rfl) B.isinstance (by decide +kernel) (pa_cons (pv 0) (pa_cons (pe_bltn (v := .ty "int") (by rfl) B.int PyProof.Rows.boot_int rfl) pa_nil)))
      (pe_one (pe_not (pe_callB call_isi (by rfl) B.isinstance (by decide +kernel) (pa_cons (pv 0) (pa_cons (pe_bltn (v := .ty "bool") (by rfl) B.bool PyProof.Rows.boot_bool rfl) pa_nil))))))), ?_⟩
    refine ⟨_, rfl, _, _, _, _, _, rfl, .ty _, ty, kit_I K g, _, rfl, ifD (fun e => ?_) fun e => ?_⟩
    · refine ⟨_, rfl, _, _, _, _, _, rfl, .ty _, ty, kit_B K g, _, rfl, ?_⟩
      have z : (!g.isB) = wholeB v := by rw [← eI]; cases g <;> first | rfl | cases e
      exact qbl z q
    · have z : false = wholeB v := by rw [← eI]; cases g <;> first | rfl | cases e
      exact qbl z q
theorem scB : FnScope ["value", "limit"] ["value", "limit"] (defScope sBelow) := ⟨rfl, rfl, rfl, by decide +kernel, rfl, by decide +kernel, by decide +kernel⟩
theorem ok_below {f fW : Addr} {fd fdW : FuncData} (D : Df K mg "is_below" sBelow ["value", "limit"] f fd) (DW : Df K mg "is_whole" sWhole ["value"] fW fdW) (B : Bt mg) : FnOk P w K mg base CX0 2 f fd ["value", "limit"] (spBelow K) := by
  have GW : FnOk P w K mg base CX0 1 fW fdW ["value"] (spWhole K) := ok_whole DW B
  refine D.F.ok scB (fun vs H Q E h => ?_) (fun cdv A outer s H vs Q E hr h => ?_)
  · obtain ⟨v, o, lim, rfl, _⟩ := h
    rfl
  · obtain ⟨v, o, lim, rfl, kv, q⟩ := h
    refine ⟨_, pss_one (ps_ret (pe_and (pc DW GW hr pass0 (pa_cons (pv 0) pa_nil)) (pe_one (pe_chain op_le op_lt pe_int (pv 0) (pv 1))))), ?_⟩
    refine ⟨_, rfl, _, _, rfl, kv, _, rfl, ifD (fun e => ?_) fun e => ?_⟩
    · obtain ⟨i, rfl⟩ : ∃ i, v = .int i := by
        cases v <;> first | exact ⟨_, rfl⟩ | cases e
      refine ⟨_, rfl, _, _, rfl, rfl, _, rfl, ifD (fun e2 => ?_) fun e2 => ?_⟩
      · refine ⟨_, rfl, _, _, rfl, rfl, ?_⟩
        have z : decide (i < lim) = belowB (.int i) lim := by
          show _ = (decide (0 ≤ i) && decide (i < lim))
          rw [e2]; rfl
        exact qbl z q
      · have z : false = belowB (.int i) lim := by
          show _ = (decide (0 ≤ i) && decide (i < lim))
          rw [e2]; rfl
        exact qbl z q
    · have z : false = belowB v lim := by cases v <;> first | rfl | cases e
      exact qbl z q
theorem scS : FnScope ["value", "least", "most"] ["value", "least", "most"] (defScope sSeq) := ⟨rfl, rfl, rfl, by decide +kernel, rfl, by decide +kernel, by decide +kernel⟩
theorem ok_seq {f : Addr} {fd : FuncData} (D : Df K mg "is_sequence" sSeq ["value", "least", "most"] f fd) (B : Bt mg) : FnOk P w K mg base CX0 1 f fd ["value", "least", "most"] (spSeq K) := by
  refine D.F.ok scS (fun vs H Q E h => ?_) (fun cdv A outer s H vs Q E hr h => ?_)
  · obtain ⟨v, o, least, most, rfl, _⟩ := h
    rfl
  · obtain ⟨v, o, least, most, rfl, kv, q⟩ := h
    refine ⟨_, pss_one (ps_ret (pe_and (pe_callB call_isiT (by rfl) B.isinstance (by decide +kernel) (pa_cons (pv 0) (pa_cons (pe_tup (pa_cons (pe_bltn (v := .ty "list") (by rfl) B.list PyProof.Rows.boot_list rfl) (pa_cons (pe_bltn (v := .ty "tuple") (by rfl) B.tuple PyProof.Rows.boot_tuple rfl) pa_nil))) pa_nil)))
      (pe_one (pe_chain op_le op_le (pv 1) (pe_callB call_len_seq (by rfl) B.len PySem.boot_len (pa_cons (pv 0) pa_nil)) (pv 2))))), ?_⟩
    refine ⟨_, rfl, (by show 2 ≤ sizeLine; decide), fun p hp => ?_⟩
    have sm : Same H (upd H p (.tup [.ty "list", .ty "tuple"])) := fun b o e => by rw [upd_ne (ne_of_none e hp)]; exact e
    obtain ⟨g, ty, eI, eB, eQ⟩ := (kv.same sm).ty
    refine ⟨_, _, _, _, _, _, rfl, upd_same, .cons (.ty _) (.cons (.ty _) .nil), ty, kit_Q K g, _, rfl, ifD (fun e => ?_) fun e => ?_⟩
    · have kv2 := kv.same sm
      generalize hH1 : upd H p (.tup [.ty "list", .ty "tuple"]) = H1 at *
      rw [eQ] at e
      have q2 := q _ sm
      cases kv with
      | lst h =>
        rename_i a xs
        have h1 : H1 a = some (.lst xs) := sm _ _ h
        refine ⟨_, rfl, _, rfl, _, _, rfl, .inl (SqL.of h1), _, _, rfl, rfl, _, rfl, ifD (fun e2 => ?_) fun e2 => ?_⟩
        · refine ⟨_, rfl, _, _, rfl, rfl, qbl ?_ q2⟩
          show _ = (decide (least ≤ (xs.length : Int)) && decide ((xs.length : Int) ≤ most))
          rw [e2]; rfl
        · refine qbl ?_ q2
          show _ = (decide (least ≤ (xs.length : Int)) && decide ((xs.length : Int) ≤ most))
          rw [e2]; rfl
      | tup h =>
        rename_i a xs
        have h1 : H1 a = some (.tup xs) := sm _ _ h
        refine ⟨_, rfl, _, rfl, _, _, rfl, .inr (SqT.of h1), _, _, rfl, rfl, _, rfl, ifD (fun e2 => ?_) fun e2 => ?_⟩
        · refine ⟨_, rfl, _, _, rfl, rfl, qbl ?_ q2⟩
          show _ = (decide (least ≤ (xs.length : Int)) && decide ((xs.length : Int) ≤ most))
          rw [e2]; rfl
        · refine qbl ?_ q2
          show _ = (decide (least ≤ (xs.length : Int)) && decide ((xs.length : Int) ≤ most))
          rw [e2]; rfl
      | _ => cases e
    · rw [eQ] at e
      have z : o = none := by cases o <;> first | rfl | cases e
      subst z
      exact q _ sm
end
end K1
namespace K1
open PySem PySem.Spec PyProof.Rows L2
def fnb (xs : List V) (lim : Int) : V := match xs.findIdx? (fun x => !belowB x lim) with | some i => .int (i : Nat) | none => .non
theorem fnb_at {xs : List V} {lim : Int} {i : Nat} {x : V} (hx : xs[i]? = some x) (hn : belowB x lim = false) (hb : ∀ j y, j < i → xs[j]? = some y → belowB y lim = true) : fnb xs lim = .int (i : Nat) := by
  obtain ⟨hi, ex⟩ := List.getElem?_eq_some_iff.mp hx
  have e : xs.findIdx? (fun x => !belowB x lim) = some i := by
    rw [List.findIdx?_eq_some_iff_getElem]
    refine ⟨hi, by rw [ex, hn]; rfl, fun j hj => ?_⟩
    have hj' : j < xs.length := Nat.lt_trans hj hi
    have := hb j xs[j] hj (by simp [hj'])
    simp [this]
  unfold fnb
  rw [e]
theorem fnb_none {xs : List V} {lim : Int} (hb : ∀ j y, j < xs.length → xs[j]? = some y → belowB y lim = true) : fnb xs lim = .non := by
  have e : xs.findIdx? (fun x => !belowB x lim) = none := by
    rw [List.findIdx?_eq_none_iff]
    intro x hx
    obtain ⟨j, hj, e⟩ := List.mem_iff_getElem.mp hx
    have := hb j xs[j] hj (by simp [hj])
    rw [← e, this]; rfl
  unfold fnb
  rw [e]
/-- a list or tuple at a -/
def SeqA (H : Hp) (a : Addr) (xs : List V) : Prop := H a = some (.lst xs) ∨ H a = some (.tup xs)
theorem SeqA.same {H H' : Hp} {a : Addr} {xs : List V} (h : SeqA H a xs) (s : Same H H') : SeqA H' a xs := h.elim (fun h => .inl (s _ _ h)) fun h => .inr (s _ _ h)
theorem SeqA.kv {K : PySem.W.Frag} {H : Hp} {a : Addr} {xs : List V} (h : SeqA H a xs) : KV K H (.ref a) (some xs) := h.elim .lst .tup
/-- each item is of some kind -/
def Kinds (K : PySem.W.Frag) (H : Hp) (xs : List V) : Prop := ∀ x ∈ xs, ∃ o, KV K H x o
theorem Kinds.same {K : PySem.W.Frag} {H H' : Hp} {xs : List V} (h : Kinds K H xs) (s : Same H H') : Kinds K H' xs := fun x hx => let ⟨o, k⟩ := h x hx; ⟨o, k.same s⟩
theorem same_new {H : Hp} {p : Addr} {o : HO} (hp : H p = none) : Same H (upd H p o) := fun b u e => by rw [upd_ne (ne_of_none e hp)]; exact e
def spFnb (K : PySem.W.Frag) : Sp := fun vs H Q _ => ∃ a xs lim, vs = [.ref a, .int lim] ∧ SeqA H a xs ∧ Kinds K H xs ∧ ∀ H', Same H H' → Q (fnb xs lim) H'
section
variable {P : Program} {w : World} {K : PySem.W.Frag} {mg : Str → Option Value} {base : Heap}
theorem scF : FnScope ["items", "limit", "at", "item"] ["items", "limit"] (defScope sFnb) := ⟨rfl, rfl, rfl, by decide +kernel, rfl, by decide +kernel, by decide +kernel⟩
/-- one turn of the search, and the way behind it: the iterator is a list's or a tuple's -/
theorem ok_fnb {f fB : Addr} {fd fdB : FuncData} (D : Df K mg "first_not_below" sFnb ["items", "limit"] f fd) (DB : Df K mg "is_below" sBelow ["value", "limit"] fB fdB) (B : Bt mg)
    (GB : FnOk P w K mg base CX0 2 fB fdB ["value", "limit"] (spBelow K)) : FnOk P w K mg base CX0 3 f fd ["items", "limit"] (spFnb K) := by
  refine D.F.ok scF (fun vs H Q E h => ?_) (fun cdv A outer s H vs Q E hr h => ?_)
  · obtain ⟨a, xs, lim, rfl, _⟩ := h
    rfl
  · obtain ⟨a, xs, lim, rfl, hS, hK, q⟩ := h
    refine ⟨_, pss_cons (ps_for PassesOwn.never rfl (pi_enumA (by rfl) B.enumerate (pa_cons (pv 0) pa_nil))
        (pg_tup rfl (pgs_cons (pg_name (i := 2) scF.nd rfl (.inl rfl)) (pgs_cons (pg_name (i := 3) scF.nd rfl (.inl rfl)) pgs_nil)))
        (pss_one (ps_if (pt_not (pt_val (pc DB GB hr pass0 (pa_cons (pv 3) (pa_cons (pv 1) pa_nil))))) (pss_one (ps_ret (pv 2))) pss_nil)))
      (pss_one (ps_ret pe_non)), ?_⟩
    let Pv : Nat → L2.St → Hp → Prop := fun i σ H' => ∃ v2 v3 : Option V, σ = [some (.ref a), some (.int lim), v2, v3] ∧ Same H H' ∧ ∀ j y, j < i → xs[j]? = some y → belowB y lim = true
    have end_ : ∀ σ H', Pv xs.length σ H' → Q .non H' := fun σ H' ⟨v2, v3, _, sm, hb⟩ => by
      have := q H' sm
      rw [fnb_none hb] at this
      exact this
    refine ⟨_, rfl, a, rfl, ?_⟩
    rcases hS with hS | hS
    · refine .inl ⟨xs, SqL.of hS, for_enumL (K := K) Pv ⟨none, none, rfl, Same.refl H, fun j y hj => absurd hj (Nat.not_lt_zero _)⟩ (fun i σ H' _ ⟨_, _, _, sm, _⟩ => SqL.of (sm _ _ hS)) ?_ end_⟩
      rintro i x T σ H' hx hT ⟨v2, v3, rfl, sm, hb⟩
      have sm2 : Same H (upd H' T (.tup [.int (i : Nat), x])) := sm.trans (same_new hT)
      obtain ⟨o, kv⟩ := hK x (List.mem_of_getElem? hx)
      refine ⟨T, _, rfl, SqT.of upd_same, rfl, _, _, rfl, _, _, rfl, rfl, ?_⟩
      refine ⟨_, rfl, _, rfl, _, o, lim, rfl, kv.same sm2, _, rfl, ?_⟩
      refine ifD (fun e => ?_) fun e => ?_
      · refine ⟨_, rfl, ?_⟩
        have e' : belowB x lim = false := by simpa using e
        have := q _ sm2
        rw [fnb_at hx e' hb] at this
        exact this
      · have e' : belowB x lim = true := by simpa using e
        refine ⟨_, _, rfl, sm2, fun j y hj hy => ?_⟩
        rcases Nat.lt_succ_iff_lt_or_eq.mp hj with z | z
        · exact hb j y z hy
        · subst z
          rw [hx] at hy
          rw [← Option.some.inj hy]
          exact e'
    · refine .inr ⟨xs, SqT.of hS, for_enumT (K := K) Pv ⟨none, none, rfl, Same.refl H, fun j y hj => absurd hj (Nat.not_lt_zero _)⟩ (fun i σ H' _ ⟨_, _, _, sm, _⟩ => SqT.of (sm _ _ hS)) ?_ end_⟩
      rintro i x T σ H' hx hT ⟨v2, v3, rfl, sm, hb⟩
      have sm2 : Same H (upd H' T (.tup [.int (i : Nat), x])) := sm.trans (same_new hT)
      obtain ⟨o, kv⟩ := hK x (List.mem_of_getElem? hx)
      refine ⟨T, _, rfl, SqT.of upd_same, rfl, _, _, rfl, _, _, rfl, rfl, ?_⟩
      refine ⟨_, rfl, _, rfl, _, o, lim, rfl, kv.same sm2, _, rfl, ?_⟩
      refine ifD (fun e => ?_) fun e => ?_
      · refine ⟨_, rfl, ?_⟩
        have e' : belowB x lim = false := by simpa using e
        have := q _ sm2
        rw [fnb_at hx e' hb] at this
        exact this
      · have e' : belowB x lim = true := by simpa using e
        refine ⟨_, _, rfl, sm2, fun j y hj hy => ?_⟩
        rcases Nat.lt_succ_iff_lt_or_eq.mp hj with z | z
        · exact hb j y z hy
        · subst z
          rw [hx] at hy
          rw [← Option.some.inj hy]
          exact e'
end
end K1
namespace K1
open PySem PySem.Spec PyProof.Rows L2
/-! ### small words -/
theorem seqG {t u : TS} {D : Ends} {σ : L2.St} {H : Hp} (G : L2.St → Hp → Prop) (hu : ∀ σ H, G σ H → u D σ H) (ht : (∀ σ H, G σ H → u D σ H) → t { D with nx := u D } σ H) : tSeq t u D σ H := ht hu
theorem gn {i : Nat} {x : V} {σ : L2.St} {H : Hp} {Q : L2.St → Hp → Prop} (h : Q (σ.set i (some x)) H) : gName i x σ H Q := h
theorem nxP {D : Ends} {σ : L2.St} {H : Hp} (h : D.nx σ H) : tNext D σ H := h
theorem nilP {σ : L2.St} {H : Hp} {Q : List V → Hp → Prop} (h : Q [] H) : tNil σ H Q := h
theorem cP {v : V} {σ : L2.St} {H : Hp} {Q : VK} (h : Q v H) : tC v σ H Q := h
theorem noP {σ : L2.St} {H : Hp} {Q : Option Int → Hp → Prop} (h : Q none H) : tNoPart σ H Q := h
theorem iteN {c : Bool} {A B : Prop} (e : c = false) (h : B) : if c = true then A else B := by subst e; exact iteF h
theorem iteY {c : Bool} {A B : Prop} (e : c = true) (h : A) : if c = true then A else B := by subst e; exact iteT h
theorem neV {x : V} {Q : VK} {H : Hp} (hs : scal x x = true) (q : Q (.bl false) H) : rNe x x H Q := ⟨hs, qbl (by rw [decide_eq_true rfl]; rfl) q⟩
theorem eqVV {x : V} {Q : VK} {H : Hp} (hs : scal x x = true) (q : Q (.bl true) H) : rEq x x H Q := ⟨hs, qbl (by rw [decide_eq_true rfl]) q⟩
theorem passF {X : Cx} : Passes (L2.CX X.prog X.w) X (fun _ _ _ => False) := passes_call LamX.takes0 fun _ _ _ _ h => h
theorem take_succ {α : Type} {l : List α} {i : Nat} {x : α} (h : l[i]? = some x) : l.take (i + 1) = l.take i ++ [x] := by
  rw [List.take_add_one, h]; rfl
theorem fnb_all {xs : List V} {lim : Int} (h : ∀ x ∈ xs, belowB x lim = true) : fnb xs lim = .non := fnb_none fun j y _ hy => h y (List.mem_of_getElem? hy)
theorem find_at {α : Type} {rs : List α} {p : α → Bool} {i : Nat} {r : α} (hr : rs[i]? = some r) (hn : p r = true) (hb : ∀ (j : Nat) y, j < i → rs[j]? = some y → p y = false) : rs.findIdx? p = some i := by
  obtain ⟨hi, ex⟩ := List.getElem?_eq_some_iff.mp hr
  rw [List.findIdx?_eq_some_iff_getElem]
  refine ⟨hi, by rw [ex, hn], fun j hj => ?_⟩
  have hj' : j < rs.length := Nat.lt_trans hj hi
  have := hb j rs[j] hj (by simp [hj'])
  simp [this]
theorem find_none {α : Type} {rs : List α} {p : α → Bool} (hb : ∀ (j : Nat) y, j < rs.length → rs[j]? = some y → p y = false) : rs.findIdx? p = none := by
  rw [List.findIdx?_eq_none_iff]
  intro x hx
  obtain ⟨j, hj, e⟩ := List.mem_iff_getElem.mp hx
  exact e ▸ hb j rs[j] hj (by simp [hj])
theorem lookup_same {α : Type} {l : List α} {i : Nat} {x y : α} (h1 : l[i]? = some x) (h2 : l[i]? = some y) : x = y := Option.some.inj (h1.symm.trans h2)
theorem ex_at {α : Type} {l : List α} {i : Nat} (h : i < l.length) : ∃ x, l[i]? = some x := ⟨l[i], List.getElem?_eq_getElem h⟩
theorem lt_at {α : Type} {l : List α} {i : Nat} {x : α} (h : l[i]? = some x) : i < l.length := (List.getElem?_eq_some_iff.mp h).1
theorem map_at {α β : Type} {f : α → β} {l : List α} {i : Nat} {x : α} (h : l[i]? = some x) : (l.map f)[i]? = some (f x) := by rw [List.getElem?_map, h]; rfl
theorem at_map {α β : Type} {f : α → β} {l : List α} {i : Nat} {y : β} (h : (l.map f)[i]? = some y) : ∃ x, l[i]? = some x ∧ y = f x := by
  rw [List.getElem?_map] at h
  cases e : l[i]? with
  | none => rw [e] at h; cases h
  | some x => rw [e] at h; exact ⟨x, rfl, (Option.some.inj h).symm⟩
theorem at_i {xs : List V} {i : Nat} {x : V} (h : xs[i]? = some x) : atI xs (i : Int) = some x := at_of (j := i) rfl h
theorem sz {n : Nat} (h : n ≤ 16777216) : n ≤ sizeLine := by rw [sizeLine_eq]; exact h
theorem szl {n : Nat} (h : n < 16777216) : n < sizeLine := by rw [sizeLine_eq]; exact h
/-! ### rules with the fragment told -/
section
variable {X : Cx} {K : PySem.W.Frag}
theorem neD (h : X.K = K) (hu : X.A.units + 64 < cLine) : OpR X (compareOp .NotEq) (rNeD K) := by subst h; exact op_neD hu
theorem eqD (h : X.K = K) (hu : X.A.units + 64 < cLine) : OpR X (compareOp .Eq) (rEqD K) := by subst h; exact op_eqD hu
def rList (K : PySem.W.Frag) : List V → Hp → VK → Prop := fun xs H Q => ∃ p ys, xs = [.ref p] ∧ (SqL K H p ys ∨ SqT K H p ys) ∧ ∀ l, H l = none → Q (.ref l) (upd H l (.lst ys))
theorem clist (h : X.K = K) : CallR X (.type "list") (rList K) := by subst h; exact call_list_of
def rTup (K : PySem.W.Frag) : List V → Hp → VK → Prop := fun xs H Q => ∃ p ys, xs = [.ref p] ∧ ((SqL K H p ys ∧ ∀ l, H l = none → Q (.ref l) (upd H l (.tup ys))) ∨ (SqT K H p ys ∧ Q (.ref p) H))
theorem ctup (h : X.K = K) : CallR X (.type "tuple") (rTup K) := by subst h; exact call_tuple_of
theorem slL (h : X.K = K) : SlR X (rSlL K) := by subst h; exact sl_list
theorem slA (h : X.K = K) : SlR X (rSlA K) := by subst h; exact sl_tupA
theorem piL {tg l : Expr} {tl : TE} (h : X.K = K) (hl : PE X l tl) : PI X tg l (iList K tl) := by subst h; exact pi_list hl
theorem ixTK (h : X.K = K) : IxR X (rIxT K) := by subst h; exact ix_tup
theorem ixLK (h : X.K = K) : IxR X (rIxL K) := by subst h; exact ix_list
def rLenK (K : PySem.W.Frag) : List V → Hp → VK → Prop := fun xs H Q => ∃ p ys, xs = [.ref p] ∧ (SqL K H p ys ∨ SqT K H p ys) ∧ Q (.int (ys.length : Int)) H
theorem clen (h : X.K = K) : CallR X (.builtin "len") (rLenK K) := by subst h; exact call_len_seq
theorem opInK (h : X.K = K) : OpR X (compareOp .In) (rIn K false) := by subst h; exact op_in_seq
theorem opNotInK (h : X.K = K) : OpR X (compareOp .NotIn) (rIn K true) := by subst h; exact op_notIn_seq
theorem opCatA (h : X.K = K) : OpR X (binaryOp .Add) (rCatA K) := by subst h; exact op_catA
theorem pe_fldK {e : Expr} {f : Str} {te : TE} {pos : Pos} (h : X.K = K) (he : PE X e te) (hb : attributeBase e f X.env (eval e X.env) = eval e X.env) : PE X (.Attribute e f pos) (tFld K te f) := by subst h; exact pe_fld he hb
end
/-! ### slices and sums of tuples -/
theorem cut_to {xs : List V} {k : Nat} (h : k ≤ xs.length) : cutV xs none (some (k : Int)) = xs.take k := by
  unfold cutV
  rw [HT.sIx_nat, HT.sIx_none, Nat.min_eq_left h]; rfl
theorem cut_from {xs : List V} {k : Nat} (h : k ≤ xs.length) : cutV xs (some (k : Int)) none = xs.drop k := by
  unfold cutV
  rw [HT.sIx_nat, HT.sIx_none, Nat.min_eq_left h, ← List.length_drop, List.take_length]
theorem catA_by {K : PySem.W.Frag} {H : Hp} {Q : VK} {a b : Addr} {xs ys : List V} (ha : H a = some (.tup xs)) (hb : H b = some (.tup ys)) (hl : xs.length + ys.length ≤ sizeLine) (q : ∀ p H', Same H H' → H' p = some (.tup (xs ++ ys)) → Q (.ref p) H') : rCatA K (.ref a) (.ref b) H Q := by
  refine ⟨a, b, xs, ys, rfl, rfl, SqT.of ha, SqT.of hb, hl, fun e => ?_, fun _ e => ?_, fun _ _ p hp => q p _ (K1.same_new hp) upd_same⟩
  · subst e
    exact q b H (fun _ _ e => e) hb
  · subst e
    exact q a H (fun _ _ e => e) (by rw [List.append_nil]; exact ha)
theorem slA_by {K : PySem.W.Frag} {H : Hp} {Q : VK} {a : Addr} {xs : List V} {lo hi : Option Int} (ha : H a = some (.tup xs)) (q : ∀ p H', Same H H' → H' p = some (.tup (cutV xs lo hi)) → Q (.ref p) H') : rSlA K (.ref a) lo hi H Q := by
  refine ⟨a, xs, rfl, SqT.of ha, fun e => ?_, fun _ p hp => q p _ (K1.same_new hp) upd_same⟩
  refine q a H (fun _ _ e => e) ?_
  rw [ha]
  unfold cutV
  rw [e.1, e.2, List.drop_zero, Nat.sub_zero, List.take_length]
/-! ### errors, rows of values -/
/-- an error of the class at C, its field f at v -/
def Rz (C : Addr) (f : Str) (v : V) (H : Hp) (E : XK) : Prop := ∀ d H', Same H H' → H d = none → H' d = some (.xd [(f, v)]) → E (.ref C) (some d) H'
/-- a value, whose items (if it has some) are of known kinds -/
structure Rw (K : PySem.W.Frag) (H : Hp) (x : V) (r : Option (List V)) : Prop where
  kv : KV K H x r
  ks : ∀ ys, r = some ys → Kinds K H ys
theorem Rw.same {K : PySem.W.Frag} {H H' : Hp} {x : V} {r : Option (List V)} (h : Rw K H x r) (s : Same H H') : Rw K H' x r := ⟨h.kv.same s, fun ys e => (h.ks ys e).same s⟩
theorem KV.seqA {K : PySem.W.Frag} {H : Hp} {x : V} {ys : List V} (h : KV K H x (some ys)) : ∃ a, x = .ref a ∧ SeqA H a ys := by
  cases h with
  | lst h => exact ⟨_, rfl, .inl h⟩
  | tup h => exact ⟨_, rfl, .inr h⟩
theorem kv_any {K K' : PySem.W.Frag} {H : Hp} {v : V} {o : Option (List V)} (kv : KV K' H v o) : KV K H v o := by cases kv <;> first | exact .int _ | exact .bl _ | exact .non | exact .str _ | exact .lst (by assumption) | exact .tup (by assumption)
/-! ### whole numbers by rows -/
def vrow (t : List Int) : List V := t.map V.int
def dI (t : List Int) : List PyData := t.map PyData.int
theorem dp_ints {K : PySem.W.Frag} {H : Hp} : ∀ t : List Int, DpAll K H (vrow t) (dI t)
  | [] => .nil
  | i :: r => .cons (.int i) (dp_ints r)
theorem dp_tup {K : PySem.W.Frag} {H : Hp} {a : Addr} {t : List Int} (h : H a = some (.tup (vrow t))) : Dp K H (.ref a) (.tuple (dI t)) := .tup (SqT.of h) (dp_ints t)
theorem dp_lst {K : PySem.W.Frag} {H : Hp} {a : Addr} {t : List Int} (h : H a = some (.lst (vrow t))) : Dp K H (.ref a) (.list (dI t)) := .lst (SqL.of h) (dp_ints t)
theorem vrow_set (t : List Int) (i : Nat) (x : Int) : vrow (t.set i x) = (vrow t).set i (.int x) := by unfold vrow; rw [List.map_set]
theorem vrow_len (t : List Int) : (vrow t).length = t.length := List.length_map _
theorem vrow_at {t : List Int} {i : Nat} {v : V} (h : (vrow t)[i]? = some v) : ∃ x, t[i]? = some x ∧ v = .int x := at_map h
theorem vrow_get {t : List Int} {i : Nat} (h : i < t.length) : (vrow t)[i]? = some (V.int (t.getD i 0)) := by
  rw [vrow, List.getElem?_map, List.getD_eq_getElem?_getD, List.getElem?_eq_getElem h]; rfl
/-- plain data: shown shortly, compared by what they hold -/
structure Pl (d : PyData) (n w : Nat) : Prop where
  lay : d.canLay0 = true
  sh : d.showable = true
  nd : d.hasDict = false
  dp : d.depth ≤ n
  wt : d.weight ≤ w
  sr : d.leavesShort 20 = true
structure PlA (ds : List PyData) (n w : Nat) : Prop where
  lay : PyData.canLayAll0 ds = true
  sh : PyData.showableAll ds = true
  nd : PyData.hasDictAll ds = false
  dp : PyData.depthAll ds ≤ n
  wt : PyData.weightAll ds ≤ w
  sr : PyData.leavesShortAll 20 ds = true
theorem Pl.int {i : Int} (h : i.natAbs < 10 ^ 19) : Pl (.int i) 0 64 := by
  have h3 : i.natAbs ≠ 0 → i.natAbs.log2 < 64 := fun z => (Nat.log2_lt z).mpr (Nat.lt_of_lt_of_le h (by decide))
  refine ⟨by simp only [PyData.canLay0], ?_, by simp only [PyData.hasDict], by simp only [PyData.depth]; omega, ?_, ?_⟩
  · simp only [PyData.showable, decide_eq_true_eq]
    by_cases z : i.natAbs = 0
    · rw [z]; decide
    · have := h3 z
      omega
  · simp only [PyData.weight]
    split
    · omega
    · rename_i z
      have := h3 (fun e => z (by rw [Int.natAbs_eq_zero.mp e]; rfl))
      omega
  · have e := int_text_length_le10 (a := i) (k := 19) (by decide) h
    simp only [PyData.leavesShort, decide_eq_true_eq, PyData.shown]
    exact decide_eq_true (Nat.le_trans (Nat.le_of_eq (PySem.ofString_length _)) e)
theorem Pl.bl (b : Bool) : Pl (.bool b) 0 0 := ⟨by simp only [PyData.canLay0], by simp only [PyData.showable], by simp only [PyData.hasDict], by simp only [PyData.depth]; omega, by simp only [PyData.weight]; omega, by simp only [PyData.leavesShort]⟩
theorem PlA.nil : PlA [] 0 0 := ⟨by simp only [PyData.canLayAll0], by simp only [PyData.showableAll], by simp only [PyData.hasDictAll], by simp only [PyData.depthAll]; omega, by simp only [PyData.weightAll]; omega, by simp only [PyData.leavesShortAll]⟩
theorem PlA.cons {d : PyData} {ds : List PyData} {n m u v : Nat} (a : Pl d n u) (b : PlA ds m v) : PlA (d :: ds) (max n m) (u + 1 + v) := by
  refine ⟨by simp only [PyData.canLayAll0, a.lay, b.lay, Bool.and_self], by simp only [PyData.showableAll, a.sh, b.sh, Bool.and_self], by simp only [PyData.hasDictAll, a.nd, b.nd, Bool.or_self], ?_, ?_, by simp only [PyData.leavesShortAll, a.sr, b.sr, Bool.and_self]⟩
  · have h1 := a.dp; have h2 := b.dp
    simp only [PyData.depthAll]; omega
  · have h1 := a.wt; have h2 := b.wt
    simp only [PyData.weightAll]; omega
theorem Pl.list {ds : List PyData} {n w : Nat} (a : PlA ds n w) : Pl (.list ds) (n + 1) w := by
  refine ⟨by simp only [PyData.canLay0, a.lay], by simp only [PyData.showable, a.sh], by simp only [PyData.hasDict, a.nd], ?_, ?_, by simp only [PyData.leavesShort, a.sr]⟩
  · have h1 := a.dp
    simp only [PyData.depth]; omega
  · have h1 := a.wt
    simp only [PyData.weight]; omega
theorem Pl.tuple {ds : List PyData} {n w : Nat} (a : PlA ds n w) : Pl (.tuple ds) (n + 1) w := by
  refine ⟨by simp only [PyData.canLay0, a.lay], by simp only [PyData.showable, a.sh], by simp only [PyData.hasDict, a.nd], ?_, ?_, by simp only [PyData.leavesShort, a.sr]⟩
  · have h1 := a.dp
    simp only [PyData.depth]; omega
  · have h1 := a.wt
    simp only [PyData.weight]; omega
theorem Pl.mono {d : PyData} {n w m v : Nat} (a : Pl d n w) (h1 : n ≤ m) (h2 : w ≤ v) : Pl d m v := ⟨a.lay, a.sh, a.nd, Nat.le_trans a.dp h1, Nat.le_trans a.wt h2, a.sr⟩
theorem PlA.mono {d : List PyData} {n w m v : Nat} (a : PlA d n w) (h1 : n ≤ m) (h2 : w ≤ v) : PlA d m v := ⟨a.lay, a.sh, a.nd, Nat.le_trans a.dp h1, Nat.le_trans a.wt h2, a.sr⟩
theorem Pl.shaped {d : PyData} {n w : Nat} (a : Pl d n w) (h : n ≤ 40) : SeqAt.shaped d = true := by
  have := a.dp
  unfold SeqAt.shaped
  rw [a.lay, decide_eq_true (by omega)]; rfl
theorem Pl.short {d : PyData} {n w : Nat} (a : Pl d n w) (h : w ≤ 100000) : d.shown.length ≤ sizeLine := by
  have h1 := PyData.shown_le 20 (by decide) d a.sr
  have h2 := a.wt
  rw [sizeLine_eq]
  omega
/-- rows of whole numbers below 10 ^ 19 -/
theorem pla_ints : ∀ t : List Int, (∀ i ∈ t, i.natAbs < 10 ^ 19) → PlA (dI t) 0 (t.length * 65)
  | [], _ => PlA.nil
  | i :: r, h => (PlA.cons (Pl.int (h i List.mem_cons_self)) (pla_ints r fun j hj => h j (List.mem_cons_of_mem _ hj))).mono (by omega) (by show 64 + 1 + r.length * 65 ≤ (r.length + 1) * 65; omega)
abbrev Ts := List (List Int)
theorem pla_rows {n : Nat} : ∀ ts : Ts, (∀ t ∈ ts, t.length ≤ n ∧ ∀ i ∈ t, i.natAbs < 10 ^ 19) → PlA (ts.map fun t => PyData.tuple (dI t)) 1 (ts.length * (n * 65 + 1))
  | [], _ => PlA.nil.mono (by omega) (by omega)
  | t :: r, h => by
    obtain ⟨h1, h2⟩ := h t List.mem_cons_self
    refine (PlA.cons (Pl.tuple (pla_ints t h2)) (pla_rows r fun u hu => h u (List.mem_cons_of_mem _ hu))).mono (by omega) ?_
    show t.length * 65 + 1 + r.length * (n * 65 + 1) ≤ (r.length + 1) * (n * 65 + 1)
    rw [Nat.add_mul]
    omega

theorem pl_str {x : Str} (h1 : PyData.strOk x = true) (h2 : x.cps.size ≤ 100) (h3 : (x.cps.toList.all fun c => decide (c < 16 ^ 8)) = true) : Pl (.str x) 0 100 :=
  ⟨by simp only [PyData.canLay0]; exact h1, by simp only [PyData.showable], by simp only [PyData.hasDict], by simp only [PyData.depth]; omega, by simp only [PyData.weight]; exact h2, by simp only [PyData.leavesShort]; exact h3⟩
theorem pl_non : Pl .none 0 100 := ⟨rfl, rfl, rfl, by show 0 ≤ 0; decide, by show _ ≤ 100; decide +kernel, rfl⟩
/-! ### what repr gives -/
theorem reprP {K : PySem.W.Frag} {p : Addr} {d : PyData} {n w : Nat} {H : Hp} {Q : VK} (hd : Dp K H (.ref p) d) (pl : Pl d n w) (hn : n ≤ 40) (hw : w ≤ 100000) (q : Q (.str d.shown) H) : rRepr K [.ref p] H Q := ⟨p, d, rfl, hd, pl.sh, pl.nd, Nat.le_trans pl.dp hn, pl.short hw, q⟩
theorem neDP {K : PySem.W.Frag} {x y : V} {d : PyData} {n w : Nat} {H : Hp} {Q : VK} (h1 : Dp K H x d) (h2 : Dp K H y d) (pl : Pl d n w) (hn : n ≤ 40) (q : Q (.bl false) H) : rNeD K x y H Q := ⟨d, d, h1, h2, pl.shaped hn, pl.shaped hn, qbl (by rw [SeqAt.eqv_refl _ pl.lay]; rfl) q⟩
theorem eqDP {K : PySem.W.Frag} {x y : V} {d : PyData} {n w : Nat} {H : Hp} {Q : VK} (h1 : Dp K H x d) (h2 : Dp K H y d) (pl : Pl d n w) (hn : n ≤ 40) (q : Q (.bl true) H) : rEqD K x y H Q := ⟨d, d, h1, h2, pl.shaped hn, pl.shaped hn, qbl (SeqAt.eqv_refl _ pl.lay) q⟩
/-! ### what stays: all but the things at xs, and the tables of code -/
def Ks (xs : List Addr) (H H' : Hp) : Prop := ∀ c o, H c = some o → c ∉ xs → (∀ ps, o ≠ .tbl ps) → H' c = some o
section
variable {xs ys : List Addr} {H H1 H2 : Hp}
theorem Ks.refl : Ks xs H H := fun _ _ e _ _ => e
theorem Ks.trans (a : Ks xs H H1) (b : Ks xs H1 H2) : Ks xs H H2 := fun c o e n1 n2 => b c o (a c o e n1 n2) n1 n2
theorem Ks.same (a : Ks xs H H1) (s : Same H1 H2) : Ks xs H H2 := fun c o e n1 n2 => s _ _ (a c o e n1 n2)
theorem Same.ks (s : Same H H1) : Ks xs H H1 := fun c o e _ _ => s _ _ e
theorem Ks.mono (a : Ks xs H H1) (h : ∀ c ∈ xs, c ∈ ys) : Ks ys H H1 := fun c o e n1 n2 => a c o e (fun z => n1 (h c z)) n2
theorem Ks.tup {c : Addr} {vs : List V} (a : Ks xs H H1) (h : H c = some (.tup vs)) (n : c ∉ xs) : H1 c = some (.tup vs) := a c _ h n fun ps z => by cases z
theorem Ks.lst {c : Addr} {vs : List V} (a : Ks xs H H1) (h : H c = some (.lst vs)) (n : c ∉ xs) : H1 c = some (.lst vs) := a c _ h n fun ps z => by cases z
theorem Ks.ins {c C dx : Addr} {fs : List (Str × V)} (a : Ks xs H H1) (h : H c = some (.ins C dx fs)) (n : c ∉ xs) : H1 c = some (.ins C dx fs) := a c _ h n fun ps z => by cases z
end
end K1
namespace K1
open PySem PySem.Spec PyProof.Rows L2
/-! ### replaced -/
def spRepl : Sp := fun vs H Q _ => ∃ (p : Addr) (xs : List V) (i : Nat) (v : V), vs = [.ref p, .int (i : Int), v] ∧ H p = some (.tup xs) ∧ i < xs.length ∧ xs.length ≤ 1000 ∧ ∀ q H', Same H H' → H' q = some (.tup (xs.set i v)) → Q (.ref q) H'
/-! ### webs -/
abbrev Prs := List (Nat × Nat)
def pV (p : Nat × Nat) : List V := [.int (p.1 : Int), .int (p.2 : Int)]
structure Wv (n : Nat) (ts : Prs) : Prop where
  n1 : 1 ≤ n
  n12 : n ≤ 12
  t20 : ts.length ≤ 20
  pr : ∀ p ∈ ts, p.1 < n ∧ p.2 < n ∧ p.1 ≠ p.2
theorem Wv.at_ {n : Nat} {ts : Prs} (h : Wv n ts) {i : Nat} {p : Nat × Nat} (e : ts[i]? = some p) : p.1 < n ∧ p.2 < n ∧ p.1 ≠ p.2 := h.pr p (List.mem_of_getElem? e)
def wf (ta : Addr) (n : Int) : List (Str × V) := putF "houses" (.int n) (putF "ties" (.ref ta) [])
theorem wf_t (ta : Addr) (n : Int) : (wf ta n).lookup ("ties" : Str) = some (.ref ta) := by
  unfold wf
  rw [lookup_putF, if_neg (by decide +kernel), lookup_putF, if_pos rfl]
theorem wf_h (ta : Addr) (n : Int) : (wf ta n).lookup ("houses" : Str) = some (.int n) := by
  unfold wf
  rw [lookup_putF, if_pos rfl]
/-- pairs as tuples -/
def PrsA (H : Hp) (as : List Addr) (ts : Prs) : Prop := as.length = ts.length ∧ ∀ (i : Nat) a t, as[i]? = some a → ts[i]? = some t → H a = some (.tup (pV t))
theorem PrsA.same {H H' : Hp} {as : List Addr} {ts : Prs} (h : PrsA H as ts) (s : Same H H') : PrsA H' as ts := ⟨h.1, fun i a t e1 e2 => s _ _ (h.2 i a t e1 e2)⟩
theorem PrsA.get {H : Hp} {as : List Addr} {ts : Prs} (h : PrsA H as ts) {i : Nat} {t : Nat × Nat} (e : ts[i]? = some t) : ∃ a, as[i]? = some a ∧ H a = some (.tup (pV t)) := by
  obtain ⟨a, ha⟩ := ex_at (l := as) (i := i) (by rw [h.1]; exact lt_at e)
  exact ⟨a, ha, h.2 i a t ha e⟩
theorem PrsA.get' {H : Hp} {as : List Addr} {ts : Prs} (h : PrsA H as ts) {i : Nat} {x : V} (e : (as.map V.ref)[i]? = some x) : ∃ a t, x = .ref a ∧ as[i]? = some a ∧ ts[i]? = some t ∧ H a = some (.tup (pV t)) := by
  obtain ⟨a, ha, rfl⟩ := at_map e
  obtain ⟨t, ht⟩ := ex_at (l := ts) (i := i) (by rw [← h.1]; exact lt_at ha)
  exact ⟨a, t, rfl, ha, ht, h.2 i a t ha ht⟩
def TiesT (H : Hp) (ta : Addr) (ts : Prs) : Prop := ∃ as : List Addr, H ta = some (.tup (as.map V.ref)) ∧ PrsA H as ts
theorem TiesT.same {H H' : Hp} {ta : Addr} {ts : Prs} (h : TiesT H ta ts) (s : Same H H') : TiesT H' ta ts := let ⟨as, h1, h2⟩ := h; ⟨as, s _ _ h1, h2.same s⟩
/-- the web at w -/
def WebAt (W : Addr) (H : Hp) (w : Addr) (n : Nat) (ts : Prs) : Prop := ∃ dx ta, H w = some (.ins W dx (wf ta (n : Int))) ∧ TiesT H ta ts
theorem WebAt.same {W : Addr} {H H' : Hp} {w : Addr} {n : Nat} {ts : Prs} (h : WebAt W H w n ts) (s : Same H H') : WebAt W H' w n ts := let ⟨dx, ta, h1, h2⟩ := h; ⟨dx, ta, s _ _ h1, h2.same s⟩
/-- what the walk asks of the class Web, at W -/
structure WcT (K : PySem.W.Frag) (mg : Str → Option Value) (W : Addr) : Prop where
  cl : Cls K W
  nT : NoAttr K W "ties"
  nH : NoAttr K W "houses"
  g : mg "Web" = some (.ref W)
/-- the module's numbers -/
structure Cw (mg : Str → Option Value) : Prop where
  houses : ∃ t, mg "MOST_HOUSES" = some (.int 12 t)
  ties : ∃ t, mg "MOST_TIES" = some (.int 20 t)
/-- a pair of unlike numbers below n -/
def pairB (o : Option (List V)) (n : Int) : Bool := match o with
  | some [x, y] => belowB x n && belowB y n && !decide (x = y)
  | _ => false
theorem fnb_two (x y : V) (n : Int) : decide (fnb [x, y] n = .non) = (belowB x n && belowB y n) := by
  unfold fnb
  rw [List.findIdx?_cons, List.findIdx?_cons, List.findIdx?_nil]
  cases belowB x n <;> cases belowB y n <;> rfl
theorem scal_int {x y : V} {n : Int} (h1 : belowB x n = true) (h2 : belowB y n = true) : scal x y = true := by
  cases x <;> first | (cases h1; done) | skip
  cases y <;> first | (cases h2; done) | rfl
def spPair (K : PySem.W.Frag) : Sp := fun vs H Q _ => ∃ v o n, vs = [v, .int n] ∧ Rw K H v o ∧ ∀ H', Same H H' → Q (.bl (pairB o n)) H'
/-- checked_ties of a good web -/
def spCTies : Sp := fun vs H Q _ => ∃ (n : Nat) (p : Addr) (as : List Addr) (ts : Prs), vs = [.int (n : Int), .ref p] ∧ SeqA H p (as.map V.ref) ∧ PrsA H as ts ∧ Wv n ts ∧ ∀ ta H', Same H H' → TiesT H' ta ts → Q (.ref ta) H'
def spWInit (W : Addr) : Sp := fun vs H Q _ => ∃ (w dx : Addr) (n : Nat) (p : Addr) (as : List Addr) (ts : Prs), vs = [.ref w, .int (n : Int), .ref p] ∧ H w = some (.ins W dx []) ∧ SeqA H p (as.map V.ref) ∧ PrsA H as ts ∧ Wv n ts ∧
  ∀ H', (∀ b u, H b = some u → b ≠ w → H' b = some u) → WebAt W H' w n ts → Q .non H'
def spNeedH (K : PySem.W.Frag) (W C : Addr) : Sp := fun vs H Q E => ∃ w v o n ts, vs = [.ref w, v] ∧ WebAt W H w n ts ∧ KV K H v o ∧ (belowB v (n : Int) = true → Q v H) ∧ (belowB v (n : Int) = false → Rz C "house" v H E)
def spNeedT (K : PySem.W.Frag) (W C : Addr) : Sp := fun vs H Q E => ∃ w v o n ts, vs = [.ref w, v] ∧ WebAt W H w n ts ∧ KV K H v o ∧ (belowB v (ts.length : Int) = true → Q v H) ∧ (belowB v (ts.length : Int) = false → Rz C "tie" v H E)
section
variable {P : Program} {w : World} {K : PySem.W.Frag} {mg : Str → Option Value} {base : Heap}
theorem scRe : FnScope ["items", "at", "item"] ["items", "at", "item"] (defScope sRepl) := ⟨rfl, rfl, rfl, by decide +kernel, rfl, by decide +kernel, by decide +kernel⟩
theorem ok_repl {f : Addr} {fd : FuncData} (D : Df K mg "replaced" sRepl ["items", "at", "item"] f fd) : FnOk P w K mg base CX0 1 f fd ["items", "at", "item"] spRepl := by
  refine D.F.ok scRe (fun vs H Q E h => ?_) (fun cdv A outer s H vs Q E hr h => ?_)
  · obtain ⟨p, xs, i, v, rfl, _⟩ := h
    rfl
  · obtain ⟨p, xs, i, v, rfl, hp, hi, hl, q⟩ := h
    refine ⟨_, pss_one (ps_ret (pe_op op_catA (pe_op op_catA (pe_slice sl_tupA (pv 0) po_none (po_some (pv 1))) (pe_tup (pa_cons (pv 2) pa_nil))) (pe_slice sl_tupA (pv 0) (po_some (pe_op op_add (pv 1) pe_int)) po_none))), ?_⟩
    refine ⟨_, rfl, noP ⟨_, rfl, _, rfl, slA_by hp fun p1 H1 s1 hp1 => ?_⟩⟩
    rw [cut_to (by omega)] at hp1
    refine ⟨_, rfl, (by show 1 ≤ sizeLine; decide), fun p2 hp2 => ?_⟩
    refine catA_by (same_new hp2 _ _ hp1) upd_same (sz (by rw [List.length_take]; simp only [List.length_cons, List.length_nil]; omega)) fun p3 H3 s3 hp3 => ?_
    have s03 := (s1.trans (same_new (o := HO.tup [v]) hp2)).trans s3
    refine ⟨_, rfl, _, rfl, _, _, rfl, rfl, _, rfl, noP (slA_by (s03 _ _ hp) fun p4 H4 s4 hp4 => ?_)⟩
    have e1 : ((i : Int) + 1) = ((i + 1 : Nat) : Int) := by omega
    rw [e1, cut_from (by omega)] at hp4
    refine catA_by (s4 _ _ hp3) hp4 (sz (by rw [List.length_append, List.length_take, List.length_drop]; simp only [List.length_cons, List.length_nil]; omega)) fun p5 H5 s5 hp5 => ?_
    refine q p5 H5 ((s03.trans s4).trans s5) ?_
    rw [hp5, List.set_eq_take_append_cons_drop, if_pos hi, List.append_assoc]; rfl
theorem scPr : FnScope ["value", "houses"] ["value", "houses"] (defScope sPair) := ⟨rfl, rfl, rfl, by decide +kernel, rfl, by decide +kernel, by decide +kernel⟩
theorem ok_pair {f fS fF : Addr} {fd fdS fdF : FuncData} (D : Df K mg "is_pair" sPair ["value", "houses"] f fd) (DS : Df K mg "is_sequence" sSeq ["value", "least", "most"] fS fdS) (DF : Df K mg "first_not_below" sFnb ["items", "limit"] fF fdF)
    (GS : FnOk P w K mg base CX0 1 fS fdS ["value", "least", "most"] (spSeq K)) (GF : FnOk P w K mg base CX0 3 fF fdF ["items", "limit"] (spFnb K)) : FnOk P w K mg base CX0 4 f fd ["value", "houses"] (spPair K) := by
  refine D.F.ok scPr (fun vs H Q E h => ?_) (fun cdv A outer s H vs Q E hr h => ?_)
  · obtain ⟨v, o, n, rfl, _⟩ := h
    rfl
  · obtain ⟨v, o, n, rfl, hw, q⟩ := h
    refine ⟨_, pss_cons (ps_if (PW.pt (pw_or (pt_not (pt_val (pc DS GS (hr.mono (by decide)) pass0 (pa_cons (pv 0) (pa_cons pe_int (pa_cons pe_int pa_nil)))))) (pw_or1 (pt_cmp (pc_notN (pc DF GF hr pass0 (pa_cons (pv 0) (pa_cons (pv 1) pa_nil)))))))) (pss_one (ps_ret pe_bl)) pss_nil)
      (pss_one (ps_ret (pe_cmpR op_ne (pe_ix ix_seq (pv 0) pe_int (fun _ _ => rfl)) (pe_ix ix_seq (pv 0) pe_int (fun _ _ => rfl)) (nomark _)))), ?_⟩
    refine ⟨_, rfl, _, o, 2, 2, rfl, hw.kv, fun H1 s1 => ⟨_, rfl, ?_⟩⟩
    by_cases e : seqB o 2 2 = true
    · rw [e]
      refine iteF ?_
      cases o with
      | none => cases e
      | some ys =>
        have hl : ys.length = 2 := by
          have z : (decide ((2 : Int) ≤ (ys.length : Int)) && decide ((ys.length : Int) ≤ 2)) = true := e
          simp only [Bool.and_eq_true, decide_eq_true_eq] at z
          omega
        obtain ⟨x, y, rfl⟩ : ∃ x y, ys = [x, y] := by
          match ys, hl with
          | [x, y], _ => exact ⟨x, y, rfl⟩
        obtain ⟨a, rfl, hS⟩ := hw.kv.seqA
        refine ⟨_, rfl, _, rfl, a, _, n, rfl, hS.same s1, (hw.ks _ rfl).same s1, fun H2 s2 => ⟨_, rfl, ?_⟩⟩
        have s12 := s1.trans s2
        have hS2 := hS.same s12
        have fe := fnb_two x y n
        rw [fe]
        by_cases e2 : (belowB x n && belowB y n) = true
        · have hb := e2
          simp only [Bool.and_eq_true] at hb
          rw [e2]
          refine iteF (nxP ?_)
          have rd : ∀ (j : Nat) (v : V) (Q : VK), [x, y][j]? = some v → Q v H2 → rIx K (.ref a) (.int (j : Int)) H2 Q := fun j v Q hj q => by
            rcases hS2 with h | h
            · exact .inl ⟨a, _, _, v, rfl, rfl, SqL.of h, at_i hj, q⟩
            · exact .inr (.inl ⟨a, _, _, v, rfl, rfl, SqT.of h, at_i hj, q⟩)
          refine ⟨_, rfl, rd 0 x _ rfl ⟨_, rfl, rd 1 y _ rfl ⟨scal_int hb.1 hb.2, qbl ?_ (q _ s12)⟩⟩⟩
          show _ = (belowB x n && belowB y n && !decide (x = y))
          rw [e2]; rfl
        · have e3 : (belowB x n && belowB y n) = false := by simpa using e2
          rw [e3]
          refine iteT (qbl ?_ (q _ s12))
          show _ = (belowB x n && belowB y n && !decide (x = y))
          rw [e3]; rfl
    · have e3 : seqB o 2 2 = false := by simpa using e
      rw [e3]
      refine iteT (iteT (qbl ?_ (q _ s1)))
      cases o with
      | none => rfl
      | some ys =>
        match ys, e3 with
        | [], _ => rfl
        | [x], _ => rfl
        | [x, y], e3 => cases e3
        | x :: y :: z :: r, _ => rfl
end
end K1
namespace K1
open PySem PySem.Spec PyProof.Rows L2
/-! ### walks over a list or a tuple -/
def iSeqA (K : PySem.W.Frag) (tl : TE) : TI := fun σ H R => tl σ H fun x H1 => ∃ a, x = .ref a ∧ ((∃ xs, SqL K H1 a xs ∧ R (Itl K a) H1) ∨ (∃ xs, SqT K H1 a xs ∧ R (Itt K a) H1))
theorem pi_seqA {X : Cx} {tg l : Expr} {tl : TE} (hl : PE X l tl) : PI X tg l (iSeqA X.K tl) := by
  refine ⟨fun pins s σ H R I h => ?_⟩
  refine thn (hl.run pins s σ H _ I h) fun v s1 ⟨x, H1, I1, r1, q1⟩ => ?_
  obtain ⟨a, e, q⟩ := q1
  subst e
  cases r1
  rcases q with ⟨xs, hq, q⟩ | ⟨xs, hq, q⟩
  · obtain ⟨its, rv, p, hz⟩ := I1.list hq
    refine wpAny_pyIter_list p.isList ?_
    refine ⟨s1.heap.objs.size, [s1.heap.objs.size], _, _, H1, rfl, I1.kept (t' := s1.toks) fun b o e => Heap.get?_push_of_some _ e, turn_list a _, ⟨_, Heap.get?_push_size _ rfl, rfl, rfl⟩, fun b hb => ?_, q⟩
    have e : b = s1.heap.objs.size := by simpa using hb
    subst e
    exact I1.fpOk (Nat.le_refl _) (I1.hok.fresh (Nat.le_refl _))
  · obtain ⟨its, rv, p, hz⟩ := I1.tuple hq
    refine wpAny_pyIter_tuple (show s1.heap.IsTuple a its.toArray from p) ?_
    refine ⟨s1.heap.objs.size, [s1.heap.objs.size], _, _, H1, rfl, I1.kept (t' := s1.toks) fun b o e => Heap.get?_push_of_some _ e, turn_tuple a _, ⟨_, Heap.get?_push_size _ rfl, rfl, rfl⟩, fun b hb => ?_, q⟩
    have e : b = s1.heap.objs.size := by simpa using hb
    subst e
    exact I1.fpOk (Nat.le_refl _) (I1.hok.fresh (Nat.le_refl _))
theorem pi_seqK {X : Cx} {K : PySem.W.Frag} {tg l : Expr} {tl : TE} (h : X.K = K) (hl : PE X l tl) : PI X tg l (iSeqA K tl) := by subst h; exact pi_seqA hl
theorem pi_enumK {X : Cx} {K : PySem.W.Frag} {e : Expr} {ta : TA} {p pos tpos : Pos} {elts : List Expr} {kk : Nat} (h : X.K = K) (hg : Gl X "enumerate") (hm : X.mg "enumerate" = none) (ha : PA X [e] ta) (hs : starEach [e] X.env = [(false, eval e X.env)] := by rfl) :
    PI X (.Tuple elts kk tpos) (.Call (.Name "enumerate" p) [e] [] pos) (iEnumA K ta) := by subst h; exact pi_enumA hg hm ha hs
/-- a list, or a tuple, at a wherever Pv holds -/
def AtA {α : Type} (Pv : α → Hp → Prop) (a : Addr) (xs : List V) : Prop := (∀ y H, Pv y H → H a = some (.lst xs)) ∨ (∀ y H, Pv y H → H a = some (.tup xs))
section
variable {K : PySem.W.Frag} {a : Addr} {xs : List V}
/-- a comprehension over enumerate of a tuple -/
theorem lc_enumT {g : TG} {tt : TT} {te : TE} {vs : List Nat} {σ : L2.St} {H1 : Hp} {D : Addr} {Qd : Hp → Prop} (Pv : Nat → Hp → Prop) (h0 : Pv 0 (upd H1 D (.lst []))) (hl : ∀ i H, i ≤ xs.length → Pv i H → SqT K H a xs)
    (hs : ∀ i x T H, xs[i]? = some x → H T = none → Pv i H → g (.ref T) (wipe σ vs) (upd H T (.tup [.int (i : Nat), x])) fun σ2 H2 => wipe σ2 vs = wipe σ vs ∧ tt σ2 H2 fun b H3 =>
      if b = true then te σ2 H3 fun y H4 => ∃ acc, H4 D = some (.lst acc) ∧ acc.length < sizeLine ∧ Pv (i + 1) (upd H4 D (.lst (acc ++ [y]))) else Pv (i + 1) H3) (hd : ∀ H, Pv xs.length H → Qd H) :
    ∃ W : Nat → Nat → Hp → Prop, (∃ m, W 0 m (upd H1 D (.lst []))) ∧ ∀ i m H, W i m H →
      ((IteT K a).stop i H ∧ Qd H) ∨ ((IteT K a).go i H ∧ ∃ Nx : Hp → Prop, (∀ H', Nx H' → ∃ m', m' < m ∧ W (i + 1) m' H') ∧ ∀ x H', (IteT K a).yld i H x H' → g x (wipe σ vs) H' fun σ2 H2 => wipe σ2 vs = wipe σ vs ∧ tt σ2 H2 fun b H3 =>
        if b = true then te σ2 H3 fun y H4 => ∃ acc, H4 D = some (.lst acc) ∧ acc.length < sizeLine ∧ Nx (upd H4 D (.lst (acc ++ [y]))) else Nx H3) := by
  refine ⟨fun i m H => m = xs.length - i ∧ i ≤ xs.length ∧ Pv i H, ⟨xs.length, by simp, Nat.zero_le _, h0⟩, ?_⟩
  rintro i m H ⟨rfl, hi, p⟩
  have q := hl i H hi p
  by_cases hlt : i < xs.length
  · refine .inr ⟨⟨xs, xs[i], q, by simp [hlt]⟩, Pv (i + 1), fun H' p' => ⟨xs.length - (i + 1), by omega, rfl, hlt, p'⟩, fun x H' y => ?_⟩
    obtain ⟨T, x', e1, e2, e3, e4⟩ := y
    subst e1 e3
    exact hs i x' T H (e4 xs q) e2 p
  · have e : i = xs.length := by omega
    subst e
    exact .inl ⟨⟨xs, q, Nat.le_refl _⟩, hd H p⟩
end
section
variable {P : Program} {w : World} {K : PySem.W.Frag} {mg : Str → Option Value} {base : Heap}
theorem pair_ok {n : Nat} {ts : Prs} (hW : Wv n ts) {i : Nat} {t : Nat × Nat} (ht : ts[i]? = some t) : pairB (some (pV t)) (n : Int) = true := by
  obtain ⟨h1, h2, h3⟩ := hW.at_ ht
  show ((decide (0 ≤ (t.1 : Int)) && decide ((t.1 : Int) < (n : Int))) && (decide (0 ≤ (t.2 : Int)) && decide ((t.2 : Int) < (n : Int))) && !decide (V.int (t.1 : Int) = V.int (t.2 : Int))) = true
  rw [decide_eq_true (by omega), decide_eq_true (by omega), decide_eq_true (by omega), decide_eq_true (by omega), decide_eq_false (by intro e; injection e with e; omega)]; rfl
theorem kinds_pV {H : Hp} (t : Nat × Nat) : Kinds K H (pV t) := fun x hx => by
  simp only [pV, List.mem_cons, List.mem_nil_iff, or_false] at hx
  rcases hx with rfl | rfl <;> exact ⟨_, .int _⟩
theorem rw_pV {H : Hp} {a : Addr} {t : Nat × Nat} (h : H a = some (.tup (pV t))) : Rw K H (.ref a) (some (pV t)) := ⟨.tup h, fun ys e => by obtain rfl := Option.some.inj e; exact kinds_pV t⟩
theorem scCT : FnScope ["houses", "ties", "at", "pair"] ["houses", "ties"] (defScope sCTies) := ⟨rfl, rfl, rfl, by decide +kernel, rfl, by decide +kernel, by decide +kernel⟩
theorem ok_cties {f fW fS fP C cI : Addr} {fd fdW fdS fdP : FuncData} {bm : List Value} {ql : Str} (D : Df K mg "checked_ties" sCTies ["houses", "ties"] f fd) (DW : Df K mg "is_whole" sWhole ["value"] fW fdW) (DS : Df K mg "is_sequence" sSeq ["value", "least", "most"] fS fdS) (DP : Df K mg "is_pair" sPair ["value", "houses"] fP fdP)
    (B : Bt mg) (c : Cw mg) (T : LAt.Txt K mg "BadWeb" ql bm C cI) (GW : FnOk P w K mg base CX0 1 fW fdW ["value"] (spWhole K)) (GS : FnOk P w K mg base CX0 1 fS fdS ["value", "least", "most"] (spSeq K)) (GP : FnOk P w K mg base CX0 4 fP fdP ["value", "houses"] (spPair K)) :
    FnOk P w K mg base (L2.CX P w) 5 f fd ["houses", "ties"] spCTies := by
  obtain ⟨t1, hc1⟩ := c.houses
  obtain ⟨t2, hc2⟩ := c.ties
  refine D.F.okX scCT (fun vs H Q E h => ?_) (fun cdv A outer s H vs Q E hr h => ?_)
  · obtain ⟨n, p, as, ts, rfl, _⟩ := h
    rfl
  · obtain ⟨n, p, as, ts, rfl, hS, hA, hW, q⟩ := h
    have hr1 : Room 1 _ := hr.mono (by decide)
    refine ⟨_, pss_cons (ps_if (PW.pt (pw_or (pt_not (pt_val (pc DW GW hr1 pass0 (pa_cons (pv 0) pa_nil)))) (pw_or (pt_not (pt_chain op_le op_le pe_int (pv 0) (pe_glob (v := .int 12) (by rfl) hc1 ⟨_, rfl⟩))) (pw_or1 (pt_not (pt_val (pc DS GS hr1 pass0 (pa_cons (pv 1) (pa_cons pe_int (pa_cons (pe_glob (v := .int 20) (by rfl) hc2 ⟨_, rfl⟩) pa_nil)))))))))) (pss_one (ps_raise_LAt rfl T hr (takes_of rfl rfl rfl rfl) (pa_cons (pe_un un_neg pe_int) pa_nil))) pss_nil)
      (pss_cons (ps_for (passes_of rfl) rfl (pi_enumA (by rfl) B.enumerate (pa_cons (pv 1) pa_nil)) (pg_tup rfl (pgs_cons (pg_name (i := 2) scCT.nd rfl (.inl rfl)) (pgs_cons (pg_name (i := 3) scCT.nd rfl (.inl rfl)) pgs_nil)))
        (pss_one (ps_if (pt_not (pt_val (pc DP GP hr pass0 (pa_cons (pv 3) (pa_cons (pv 0) pa_nil))))) (pss_one (ps_raise_LAt rfl T hr (takes_of rfl rfl rfl rfl) (pa_cons (pv 2) pa_nil))) pss_nil)))
      (pss_one (ps_ret (pe_callTy call_tuple_of (by rfl) B.tuple (by decide +kernel) (pa_cons
        (pe_lc (own := [("pair", 3)]) (g := gName 3) (tt := tYes) rfl scCT.nd (pi_seqA (pv 1)) (blkOk_by (N := ["houses", "ties", "at", "pair"]) (sc := defScope sCTies) (by decide +kernel)) (fun _ _ _ _ _ => pg_name (i := 3) scCT.nd rfl (Or.inl rfl)) (fun _ _ _ _ _ => pts_nil)
          (fun _ _ _ _ _ => pe_callTy (ctup (K := K) rfl) (by rfl) B.tuple PyProof.Rows.boot_tuple (pa_cons (pv 3) pa_nil))) pa_nil))))), ?_⟩
    have n1 := hW.n1
    have n12 := hW.n12
    have t20 := hW.t20
    have la : (as.map V.ref).length = ts.length := by rw [List.length_map, hA.1]
    have lt20 : (as.map V.ref).length ≤ 20 := by omega
    have sq : seqB (some (as.map V.ref)) 0 20 = true := by
      show (decide ((0 : Int) ≤ ((as.map V.ref).length : Int)) && decide (((as.map V.ref).length : Int) ≤ 20)) = true
      rw [decide_eq_true (by omega), decide_eq_true (by omega)]; rfl
    refine ⟨_, rfl, _, none, rfl, .int _, true, rfl, iteF ?_⟩
    refine ⟨_, rfl, _, _, rfl, rfl, _, rfl, iteY (decide_eq_true (by omega)) ⟨_, _, rfl, rfl, true, congrArg V.bl (decide_eq_true (show (n : Int) ≤ 12 by omega)), iteF ?_⟩⟩
    refine ⟨_, rfl, _, some (as.map V.ref), 0, 20, rfl, hS.kv, fun H1 s1 => ⟨_, rfl, ?_⟩⟩
    rw [sq]
    refine iteF (nxP ?_)
    refine ⟨_, rfl, p, rfl, ?_⟩
    rcases hS with hS | hS
    · refine .inl ⟨_, SqL.of (s1 _ _ hS), for_enumL (K := K) (fun (_ : Nat) (σ : L2.St) (H' : Hp) => ∃ v2 v3 : Option V, σ = [some (.int (n : Int)), some (.ref p), v2, v3] ∧ Same H H') ⟨none, none, rfl, s1⟩ (fun i σ H' _ ⟨_, _, _, sm⟩ => SqL.of (sm _ _ hS)) ?_ ?_⟩
      · rintro i x T σ H' hx hT ⟨v2, v3, rfl, sm⟩
        obtain ⟨a, t, rfl, ha, ht, hat⟩ := hA.get' hx
        have sm2 := sm.trans (same_new (o := HO.tup [.int (i : Nat), .ref a]) hT)
        refine ⟨T, _, rfl, SqT.of upd_same, rfl, _, _, rfl, _, _, rfl, rfl, ?_⟩
        refine ⟨_, rfl, _, rfl, .ref a, some (pV t), (n : Int), rfl, rw_pV (sm2 _ _ hat), fun H3 s3 => ⟨_, rfl, ?_⟩⟩
        rw [pair_ok hW ht]
        exact iteF ⟨_, _, rfl, sm2.trans s3⟩
      · rintro σ H' ⟨v2, v3, rfl, sm⟩
        refine ⟨_, rfl, p, rfl, .inl ⟨_, SqL.of (sm _ _ hS), fun D hD => lc_list (K := K) (a := p) (xs := as.map V.ref) (fun i H2 => Same H' H2 ∧ H2 D = some (.lst ((as.map V.ref).take i))) ⟨same_new hD, by rw [upd_same]; rfl⟩ (fun i H2 _ ⟨s5, _⟩ => SqL.of (s5 _ _ (sm _ _ hS))) ?_ ?_⟩⟩
        · rintro i x H2 hx ⟨s5, hD2⟩
          obtain ⟨a, t, e, ha, ht, hat⟩ := hA.get' hx
          subst e
          refine ⟨rfl, _, rfl, a, pV t, rfl, .inr ⟨SqT.of (s5 _ _ (sm _ _ hat)), _, hD2, szl (by rw [List.length_take]; omega), fun c o e => ?_, ?_⟩⟩
          · rw [upd_ne (ne_of_none e hD)]
            exact s5 _ _ e
          · rw [upd_same, take_succ hx]
        · rintro H2 ⟨s5, hD2⟩
          rw [List.take_of_length_le (Nat.le_refl _)] at hD2
          refine ⟨D, _, rfl, .inl ⟨SqL.of hD2, fun ta hta => ?_⟩⟩
          have s6 := (sm.trans s5).trans (same_new (o := HO.tup (as.map V.ref)) hta)
          exact q ta _ s6 ⟨as, upd_same, hA.same s6⟩
    · refine .inr ⟨_, SqT.of (s1 _ _ hS), for_enumT (K := K) (fun (_ : Nat) (σ : L2.St) (H' : Hp) => ∃ v2 v3 : Option V, σ = [some (.int (n : Int)), some (.ref p), v2, v3] ∧ Same H H') ⟨none, none, rfl, s1⟩ (fun i σ H' _ ⟨_, _, _, sm⟩ => SqT.of (sm _ _ hS)) ?_ ?_⟩
      · rintro i x T σ H' hx hT ⟨v2, v3, rfl, sm⟩
        obtain ⟨a, t, rfl, ha, ht, hat⟩ := hA.get' hx
        have sm2 := sm.trans (same_new (o := HO.tup [.int (i : Nat), .ref a]) hT)
        refine ⟨T, _, rfl, SqT.of upd_same, rfl, _, _, rfl, _, _, rfl, rfl, ?_⟩
        refine ⟨_, rfl, _, rfl, .ref a, some (pV t), (n : Int), rfl, rw_pV (sm2 _ _ hat), fun H3 s3 => ⟨_, rfl, ?_⟩⟩
        rw [pair_ok hW ht]
        exact iteF ⟨_, _, rfl, sm2.trans s3⟩
      · rintro σ H' ⟨v2, v3, rfl, sm⟩
        refine ⟨_, rfl, p, rfl, .inr ⟨_, SqT.of (sm _ _ hS), fun D hD => lc_tup (K := K) (a := p) (xs := as.map V.ref) (fun i H2 => Same H' H2 ∧ H2 D = some (.lst ((as.map V.ref).take i))) ⟨same_new hD, by rw [upd_same]; rfl⟩ (fun i H2 _ ⟨s5, _⟩ => SqT.of (s5 _ _ (sm _ _ hS))) ?_ ?_⟩⟩
        · rintro i x H2 hx ⟨s5, hD2⟩
          obtain ⟨a, t, e, ha, ht, hat⟩ := hA.get' hx
          subst e
          refine ⟨rfl, _, rfl, a, pV t, rfl, .inr ⟨SqT.of (s5 _ _ (sm _ _ hat)), _, hD2, szl (by rw [List.length_take]; omega), fun c o e => ?_, ?_⟩⟩
          · rw [upd_ne (ne_of_none e hD)]
            exact s5 _ _ e
          · rw [upd_same, take_succ hx]
        · rintro H2 ⟨s5, hD2⟩
          rw [List.take_of_length_le (Nat.le_refl _)] at hD2
          refine ⟨D, _, rfl, .inl ⟨SqL.of hD2, fun ta hta => ?_⟩⟩
          have s6 := (sm.trans s5).trans (same_new (o := HO.tup (as.map V.ref)) hta)
          exact q ta _ s6 ⟨as, upd_same, hA.same s6⟩
theorem scWI : FnScope ["self", "houses", "ties"] ["self", "houses", "ties"] (defScope sWInit) := ⟨rfl, rfl, rfl, by decide +kernel, rfl, by decide +kernel, by decide +kernel⟩
theorem ok_winit {f fC W : Addr} {fd fdC : FuncData} (F : Fun K "__init__" "Web.__init__" sWInit f fd) (DC : Df K mg "checked_ties" sCTies ["houses", "ties"] fC fdC) (T : WcT K mg W)
    (GC : FnOk P w K mg base (L2.CX P w) 5 fC fdC ["houses", "ties"] spCTies) : FnOk P w K mg base (L2.CX P w) 6 f fd ["self", "houses", "ties"] (spWInit W) := by
  refine F.okX scWI (fun vs H Q E h => ?_) (fun cdv A outer s H vs Q E hr h => ?_)
  · obtain ⟨w, dx, n, p, as, ts, rfl, _⟩ := h
    rfl
  · obtain ⟨w, dx, n, p, as, ts, rfl, hw, hS, hA, hW, q⟩ := h
    refine ⟨_, pss_cons (ps_fld (pv 0) (pc DC GC hr (pass1 (takes_of rfl rfl rfl rfl)) (pa_cons (pv 1) (pa_cons (pv 2) pa_nil))) rfl) (pss_one (ps_fld (pv 0) (pv 1) rfl)), ?_⟩
    refine ⟨_, rfl, _, rfl, n, p, as, ts, rfl, hS, hA, hW, fun ta H' sm hT => ?_⟩
    have hw1 := sm _ _ hw
    refine ⟨_, rfl, w, W, dx, [], rfl, hw1, T.cl, T.nT, (by show 0 < 1000; decide), ?_⟩
    refine ⟨_, rfl, _, rfl, w, W, dx, _, rfl, upd_same, T.cl, T.nH, (by show 1 < 1000; decide), ?_⟩
    rw [upd_upd]
    obtain ⟨bs, k1, k2⟩ := hT
    have kp : ∀ b u, H' b = some u → b ≠ w → (upd H' w (.ins W dx (wf ta (n : Int)))) b = some u := fun b u e nb => by rw [upd_ne nb]; exact e
    have nw : ∀ {c : Addr} {xs : List V}, H' c = some (.tup xs) → c ≠ w := fun h e => by rw [e, hw1] at h; cases h
    exact q _ (fun b u e nb => kp b u (sm _ _ e) nb) ⟨dx, ta, upd_same, bs, kp _ _ k1 (nw k1), k2.1, fun i a t e1 e2 => kp _ _ (k2.2 i a t e1 e2) (nw (k2.2 i a t e1 e2))⟩
theorem scNH : FnScope ["web", "house"] ["web", "house"] (defScope sNeedH) := ⟨rfl, rfl, rfl, by decide +kernel, rfl, by decide +kernel, by decide +kernel⟩
theorem ok_needH {f fB C W cI : Addr} {fd fdB : FuncData} {bm : List Value} {ql : Str} (D : Df K mg "need_house" sNeedH ["web", "house"] f fd) (DB : Df K mg "is_below" sBelow ["value", "limit"] fB fdB) (T : WcT K mg W) (TX : LHouse.Txt K mg "NoHouse" ql bm C cI)
    (GB : FnOk P w K mg base CX0 2 fB fdB ["value", "limit"] (spBelow K)) : FnOk P w K mg base (L2.CX P w) 3 f fd ["web", "house"] (spNeedH K W C) := by
  refine D.F.okX scNH (fun vs H Q E h => ?_) (fun cdv A outer s H vs Q E hr h => ?_)
  · obtain ⟨w, v, o, n, ts, rfl, _⟩ := h
    rfl
  · obtain ⟨w, v, o, n, ts, rfl, ⟨dx, ta, h1, _⟩, kv, q1, q2⟩ := h
    refine ⟨_, pss_cons (ps_if (pt_not (pt_val (pc DB GB hr pass0 (pa_cons (pv 1) (pa_cons (pe_fld (pv 0) rfl) pa_nil))))) (pss_one (ps_raise_LHouse rfl TX hr (takes_of rfl rfl rfl rfl) (pa_cons (pv 1) pa_nil))) pss_nil) (pss_one (ps_ret (pv 1))), ?_⟩
    refine ⟨_, rfl, _, rfl, w, W, dx, _, _, rfl, h1, T.cl, T.nH, wf_h _ _, v, o, _, rfl, kv, _, rfl, ifD (fun e => ?_) fun e => ?_⟩
    · exact ⟨_, rfl, _, rfl, fun d hd => q2 (by simpa using e) d _ (same_new hd) hd upd_same⟩
    · exact ⟨_, rfl, q1 (by simpa using e)⟩
theorem scNT : FnScope ["web", "tie"] ["web", "tie"] (defScope sNeedT) := ⟨rfl, rfl, rfl, by decide +kernel, rfl, by decide +kernel, by decide +kernel⟩
theorem ok_needT {f fB C W cI : Addr} {fd fdB : FuncData} {bm : List Value} {ql : Str} (D : Df K mg "need_tie" sNeedT ["web", "tie"] f fd) (DB : Df K mg "is_below" sBelow ["value", "limit"] fB fdB) (B : Bt mg) (T : WcT K mg W) (TX : LTie.Txt K mg "NoTie" ql bm C cI)
    (GB : FnOk P w K mg base CX0 2 fB fdB ["value", "limit"] (spBelow K)) : FnOk P w K mg base (L2.CX P w) 3 f fd ["web", "tie"] (spNeedT K W C) := by
  refine D.F.okX scNT (fun vs H Q E h => ?_) (fun cdv A outer s H vs Q E hr h => ?_)
  · obtain ⟨w, v, o, n, ts, rfl, _⟩ := h
    rfl
  · obtain ⟨w, v, o, n, ts, rfl, ⟨dx, ta, h1, as, g1, g2⟩, kv, q1, q2⟩ := h
    refine ⟨_, pss_cons (ps_if (pt_not (pt_val (pc DB GB hr pass0 (pa_cons (pv 1) (pa_cons (pe_callB call_len_seq (by rfl) B.len PySem.boot_len (pa_cons (pe_fld (pv 0) rfl) pa_nil)) pa_nil))))) (pss_one (ps_raise_LTie rfl TX hr (takes_of rfl rfl rfl rfl) (pa_cons (pv 1) pa_nil))) pss_nil) (pss_one (ps_ret (pv 1))), ?_⟩
    have el : ((as.map V.ref).length : Int) = (ts.length : Int) := by rw [List.length_map, g2.1]
    refine ⟨_, rfl, _, rfl, w, W, dx, _, _, rfl, h1, T.cl, T.nT, wf_t _ _, ta, _, rfl, .inr (SqT.of g1), v, o, _, rfl, kv, _, rfl, ?_⟩
    rw [el]
    refine ifD (fun e => ?_) fun e => ?_
    · exact ⟨_, rfl, _, rfl, fun d hd => q2 (by simpa using e) d _ (same_new hd) hd upd_same⟩
    · exact ⟨_, rfl, q1 (by simpa using e)⟩
end
end K1
namespace K1
/-! ### rows: the shorter ones ahead, then by their deeds -/
def LL : List Int → List Int → Prop
  | _, [] => False
  | [], _ :: _ => True
  | a :: r, b :: q => a < b ∨ (a = b ∧ LL r q)
theorem LL.irrefl : ∀ r, ¬ LL r r
  | [], h => h
  | a :: r, h => by
    rcases h with h | ⟨_, h⟩
    · omega
    · exact LL.irrefl r h
theorem LL.trans : ∀ {r q s : List Int}, LL r q → LL q s → LL r s
  | _, _, [], _, h => by
    cases ‹List Int› <;> exact absurd h (by simp [LL])
  | _, [], _ :: _, h, _ => by
    cases ‹List Int› <;> exact absurd h (by simp [LL])
  | [], _ :: _, _ :: _, _, _ => True.intro
  | a :: r, b :: q, c :: s, h1, h2 => by
    rcases h1 with h1 | ⟨rfl, h1⟩
    · rcases h2 with h2 | ⟨rfl, h2⟩
      · exact .inl (by omega)
      · exact .inl h1
    · rcases h2 with h2 | ⟨rfl, h2⟩
      · exact .inl h2
      · exact .inr ⟨rfl, h1.trans h2⟩
theorem LL.tri : ∀ {r q : List Int}, r.length = q.length → r = q ∨ LL r q ∨ LL q r
  | [], [], _ => .inl rfl
  | a :: r, b :: q, h => by
    by_cases e1 : a < b
    · exact .inr (.inl (.inl e1))
    · by_cases e2 : b < a
      · exact .inr (.inr (.inl e2))
      · obtain rfl : a = b := by omega
        rcases LL.tri (r := r) (q := q) (by simpa using h) with e | e | e
        · exact .inl (by rw [e])
        · exact .inr (.inl (.inr ⟨rfl, e⟩))
        · exact .inr (.inr (.inr ⟨rfl, e⟩))
  | [], _ :: _, h => by cases h
  | _ :: _, [], h => by cases h
theorem LL.app : ∀ {r q : List Int} (s t : List Int), r.length = q.length → LL r q → LL (r ++ s) (q ++ t)
  | [], [], _, _, _, h => h.elim
  | a :: r, b :: q, s, t, hl, h => by
    rcases h with h | ⟨e, h⟩
    · exact .inl h
    · exact .inr ⟨e, LL.app s t (by simpa using hl) h⟩
  | [], _ :: _, _, _, h, _ => by cases h
  | _ :: _, [], _, _, h, _ => by cases h
theorem LL.app' : ∀ (r : List Int) {s t : List Int}, LL s t → LL (r ++ s) (r ++ t)
  | [], _, _, h => h
  | _ :: r, _, _, h => .inr ⟨rfl, LL.app' r h⟩
def rlt (r q : List Int) : Prop := r.length < q.length ∨ (r.length = q.length ∧ LL r q)
theorem rlt.irrefl (r : List Int) : ¬ rlt r r := fun h => by
  rcases h with h | ⟨_, h⟩
  · omega
  · exact LL.irrefl r h
theorem rlt.trans {r q s : List Int} (a : rlt r q) (b : rlt q s) : rlt r s := by
  rcases a with a | ⟨a1, a2⟩ <;> rcases b with b | ⟨b1, b2⟩
  · exact .inl (by omega)
  · exact .inl (by omega)
  · exact .inl (by omega)
  · exact .inr ⟨by omega, a2.trans b2⟩
theorem rlt.tri (r q : List Int) : r = q ∨ rlt r q ∨ rlt q r := by
  by_cases e1 : r.length < q.length
  · exact .inr (.inl (.inl e1))
  · by_cases e2 : q.length < r.length
    · exact .inr (.inr (.inl e2))
    · have e : r.length = q.length := by omega
      rcases LL.tri e with h | h | h
      · exact .inl h
      · exact .inr (.inl (.inr ⟨e, h⟩))
      · exact .inr (.inr (.inr ⟨e.symm, h⟩))
theorem rlt.app {r q : List Int} (d e : Int) (h : rlt r q) : rlt (r ++ [d]) (q ++ [e]) := by
  rcases h with h | ⟨h1, h2⟩
  · exact .inl (by simp only [List.length_append, List.length_cons, List.length_nil]; omega)
  · exact .inr ⟨by simp only [List.length_append, List.length_cons, List.length_nil]; omega, LL.app _ _ h1 h2⟩
theorem rlt.last (r : List Int) {d e : Int} (h : d < e) : rlt (r ++ [d]) (r ++ [e]) := .inr ⟨by simp, LL.app' r (.inl h)⟩
theorem rlt.nil {r : List Int} (h : r ≠ []) : rlt [] r := .inl (by cases r with | nil => exact absurd rfl h | cons a r => simp)
def rle (r q : List Int) : Prop := r = q ∨ rlt r q
theorem rle.trans {r q s : List Int} (a : rle r q) (b : rle q s) : rle r s := by
  rcases a with rfl | a
  · exact b
  · rcases b with rfl | b
    · exact .inr a
    · exact .inr (a.trans b)
theorem rle.anti {r q : List Int} (a : rle r q) (b : rle q r) : r = q := by
  rcases a with rfl | a
  · rfl
  · rcases b with rfl | b
    · rfl
    · exact absurd (a.trans b) (rlt.irrefl _)
theorem rle.app {r q : List Int} (d : Int) (h : rle r q) : rle (r ++ [d]) (q ++ [d]) := by
  rcases h with rfl | h
  · exact .inl rfl
  · exact .inr (h.app d d)
/-! ### the search by rows, told without a heap -/
abbrev KR := List Int × List Int
def path {α : Type} (act : α → Int → α) (s : α) (r : List Int) : α := r.foldl act s
theorem path_snoc {α : Type} (act : α → Int → α) (s : α) (r : List Int) (d : Int) : path act s (r ++ [d]) = act (path act s r) d := by
  unfold path
  rw [List.foldl_append]; rfl
/-- all deeds of the first i things, and the first d deeds of the next one, are done -/
structure Bf {α : Type} (act : α → Int → α) (n : Nat) (s : α) (F : List (α × List Int)) (i d : Nat) : Prop where
  nd : (F.map (·.1)).Nodup
  h0 : F[0]? = some (s, [])
  pth : ∀ (j : Nat) k r, F[j]? = some (k, r) → k = path act s r ∧ (∀ e ∈ r, 0 ≤ e ∧ e < (n : Int)) ∧ r.length ≤ j
  asc : ∀ (j j' : Nat) k k' r r', j < j' → F[j]? = some (k, r) → F[j']? = some (k', r') → rlt r r'
  old : ∀ (j : Nat) k r, F[j]? = some (k, r) → r = [] ∨ ∃ (p : Nat) (kp : α) (rp : List Int) (e : Int), F[p]? = some (kp, rp) ∧ r = rp ++ [e] ∧ 0 ≤ e ∧ (p < i ∨ (p = i ∧ e < (d : Int)))
  cl : ∀ (p : Nat) kp rp (e : Int), F[p]? = some (kp, rp) → 0 ≤ e → e < (n : Int) → (p < i ∨ (p = i ∧ e < (d : Int))) → ∃ (j : Nat) (r : List Int), F[j]? = some (act kp e, r) ∧ rle r (rp ++ [e])
variable {α : Type} {act : α → Int → α} {n : Nat} {s : α} {F : List (α × List Int)} {i d : Nat}
theorem Bf.init : Bf act n s [(s, [])] 0 0 := by
  have one : ∀ (j : Nat) k r, ([(s, [])] : List (α × List Int))[j]? = some (k, r) → j = 0 ∧ k = s ∧ r = [] := fun j k r h => by
    cases j with
    | zero =>
      have e : (s, []) = (k, r) := Option.some.inj h
      injection e with e1 e2
      exact ⟨rfl, e1.symm, e2.symm⟩
    | succ j => cases h
  refine ⟨by simp, rfl, fun j k r h => ?_, fun j j' k k' r r' hj h h' => ?_, fun j k r h => .inl (one j k r h).2.2, fun p kp rp e h _ _ z => ?_⟩
  · obtain ⟨rfl, rfl, rfl⟩ := one j k r h
    exact ⟨rfl, fun e he => absurd he (by simp), Nat.zero_le _⟩
  · have := (one j' k' r' h').1
    omega
  · obtain ⟨rfl, rfl, rfl⟩ := one p kp rp h
    omega
/-- a row of the search against the row that is looked at -/
theorem Bf.ahead (b : Bf act n s F i d) {ki : α} {ri : List Int} (hi : F[i]? = some (ki, ri)) {j : Nat} {k : α} {r : List Int} (h : F[j]? = some (k, r)) : rlt r (ri ++ [(d : Int)]) := by
  rcases b.old j k r h with rfl | ⟨p, kp, rp, e, hp, rfl, _, z⟩
  · exact rlt.nil (by simp)
  · rcases z with z | ⟨rfl, z⟩
    · exact (b.asc p i kp ki rp ri z hp hi).app _ _
    · rw [hp] at hi
      have e2 : (kp, rp) = (ki, ri) := Option.some.inj hi
      injection e2 with _ e2
      subst e2
      exact rlt.last _ z
theorem Bf.more (b : Bf act n s F i d) {j : Nat} {k : α} {r : List Int} {ki : α} {ri : List Int} (hi : F[i]? = some (ki, ri)) (h : F[j]? = some (k, r)) (hk : k = act ki d) : Bf act n s F i (d + 1) := by
  refine ⟨b.nd, b.h0, b.pth, b.asc, fun j k r h => ?_, fun p kp rp e hp h0 hn z => ?_⟩
  · rcases b.old j k r h with e | ⟨p, kp, rp, e, hp, e1, e2, z⟩
    · exact .inl e
    · exact .inr ⟨p, kp, rp, e, hp, e1, e2, by omega⟩
  · by_cases q : p < i ∨ (p = i ∧ e < (d : Int))
    · exact b.cl p kp rp e hp h0 hn q
    · obtain ⟨rfl, rfl⟩ : p = i ∧ e = (d : Int) := by omega
      rw [hi] at hp
      have e2 : (ki, ri) = (kp, rp) := Option.some.inj hp
      injection e2 with e1 e2
      subst e1
      subst e2
      subst hk
      exact ⟨j, r, h, .inr (b.ahead hi h)⟩
theorem Bf.put (b : Bf act n s F i d) {ki : α} {ri : List Int} (hi : F[i]? = some (ki, ri)) (hn : act ki d ∉ F.map (·.1)) (hd : d < n) : Bf act n s (F ++ [(act ki d, ri ++ [(d : Int)])]) i (d + 1) := by
  have hil : i < F.length := (List.getElem?_eq_some_iff.mp hi).1
  have at_ : ∀ (j : Nat) k r, (F ++ [(act ki d, ri ++ [(d : Int)])])[j]? = some (k, r) → F[j]? = some (k, r) ∨ (j = F.length ∧ k = act ki d ∧ r = ri ++ [(d : Int)]) := fun j k r h => by
    by_cases hj : j < F.length
    · rw [List.getElem?_append_left hj] at h
      exact .inl h
    · rw [List.getElem?_append_right (by omega)] at h
      cases e : j - F.length with
      | zero =>
        rw [e] at h
        have e2 : (act ki d, ri ++ [(d : Int)]) = (k, r) := Option.some.inj h
        injection e2 with e1 e2
        exact .inr ⟨by omega, e1.symm, e2.symm⟩
      | succ q => rw [e] at h; cases h
  have up : ∀ (j : Nat) x, F[j]? = some x → (F ++ [(act ki d, ri ++ [(d : Int)])])[j]? = some x := fun j x h => by
    rw [List.getElem?_append_left (List.getElem?_eq_some_iff.mp h).1]; exact h
  have new : (F ++ [(act ki d, ri ++ [(d : Int)])])[F.length]? = some (act ki d, ri ++ [(d : Int)]) := by
    rw [List.getElem?_append_right (Nat.le_refl _), Nat.sub_self]; rfl
  refine ⟨?_, up _ _ b.h0, fun j k r h => ?_, fun j j' k k' r r' hj h h' => ?_, fun j k r h => ?_, fun p kp rp e hp h0 hne z => ?_⟩
  · rw [List.map_append, List.nodup_append]
    exact ⟨b.nd, by simp, fun y hy z hz e => by
      rw [List.map_cons, List.map_nil, List.mem_singleton] at hz
      rw [e, hz] at hy
      exact hn hy⟩
  · rcases at_ j k r h with h | ⟨rfl, rfl, rfl⟩
    · exact b.pth j k r h
    · obtain ⟨p1, p2, p3⟩ := b.pth i ki ri hi
      refine ⟨by rw [path_snoc, ← p1], fun e he => ?_, by simp only [List.length_append, List.length_cons, List.length_nil]; omega⟩
      rcases List.mem_append.mp he with he | he
      · exact p2 e he
      · rw [List.mem_singleton.mp he]; omega
  · rcases at_ j' k' r' h' with h' | ⟨rfl, rfl, rfl⟩
    · have hj' := (List.getElem?_eq_some_iff.mp h').1
      rcases at_ j k r h with h | ⟨rfl, _, _⟩
      · exact b.asc j j' k k' r r' hj h h'
      · omega
    · rcases at_ j k r h with h | ⟨rfl, _, _⟩
      · exact b.ahead hi h
      · omega
  · rcases at_ j k r h with h | ⟨rfl, rfl, rfl⟩
    · rcases b.old j k r h with e | ⟨p, kp, rp, e, hp, e1, e2, z⟩
      · exact .inl e
      · exact .inr ⟨p, kp, rp, e, up _ _ hp, e1, e2, by omega⟩
    · exact .inr ⟨i, ki, ri, d, up _ _ hi, rfl, by omega, by omega⟩
  · rcases at_ p kp rp hp with hp | ⟨rfl, _, _⟩
    · by_cases q : p < i ∨ (p = i ∧ e < (d : Int))
      · obtain ⟨j, r, h1, h2⟩ := b.cl p kp rp e hp h0 hne q
        exact ⟨j, r, up _ _ h1, h2⟩
      · obtain ⟨rfl, rfl⟩ : p = i ∧ e = (d : Int) := by omega
        rw [hi] at hp
        have e2 : (ki, ri) = (kp, rp) := Option.some.inj hp
        injection e2 with e1 e2
        subst e1
        subst e2
        exact ⟨F.length, _, new, .inl rfl⟩
    · omega
theorem Bf.next (b : Bf act n s F i n) : Bf act n s F (i + 1) 0 := by
  refine ⟨b.nd, b.h0, b.pth, b.asc, fun j k r h => ?_, fun p kp rp e hp h0 hn z => b.cl p kp rp e hp h0 hn (by omega)⟩
  rcases b.old j k r h with e | ⟨p, kp, rp, e, hp, e1, e2, z⟩
  · exact .inl e
  · exact .inr ⟨p, kp, rp, e, hp, e1, e2, by omega⟩
/-- all rows' first ones, ascending -/
structure Fst {α : Type} (act : α → Int → α) (n : Nat) (s : α) (F : List (α × List Int)) : Prop where
  nd : (F.map (·.1)).Nodup
  h0 : F[0]? = some (s, [])
  pth : ∀ (j : Nat) k r, F[j]? = some (k, r) → k = path act s r ∧ (∀ e ∈ r, 0 ≤ e ∧ e < (n : Int)) ∧ r.length ≤ j
  asc : ∀ (j j' : Nat) k k' r r', j < j' → F[j]? = some (k, r) → F[j']? = some (k', r') → rlt r r'
  all : ∀ r : List Int, (∀ e ∈ r, 0 ≤ e ∧ e < (n : Int)) → ∃ (j : Nat) (r' : List Int), F[j]? = some (path act s r, r') ∧ rle r' r
theorem Bf.done (b : Bf act n s F i 0) (hi : F.length ≤ i) : Fst act n s F := by
  refine ⟨b.nd, b.h0, b.pth, b.asc, fun r => ?_⟩
  generalize hm : r.length = m
  induction m generalizing r with
  | zero =>
    intro _
    obtain rfl : r = [] := List.eq_nil_of_length_eq_zero hm
    exact ⟨0, [], b.h0, .inl rfl⟩
  | succ m ih =>
    intro hr
    rcases List.eq_nil_or_concat r with rfl | ⟨q, e, rfl⟩
    · cases hm
    · have hq : q.length = m := by
        simp only [List.concat_eq_append, List.length_append, List.length_cons, List.length_nil] at hm
        omega
      rw [List.concat_eq_append] at hr ⊢
      obtain ⟨j, r', h1, h2⟩ := ih q hq fun x hx => hr x (List.mem_append_left _ hx)
      have he := hr e (List.mem_append_right _ (List.mem_singleton.mpr rfl))
      have hj := (List.getElem?_eq_some_iff.mp h1).1
      obtain ⟨j2, r2, h3, h4⟩ := b.cl j _ _ e h1 he.1 he.2 (.inl (by omega))
      exact ⟨j2, r2, by rw [path_snoc]; exact h3, h4.trans (h2.app e)⟩
end K1
namespace K1
open PySem PySem.Spec PyProof.Rows L2
/-! ### the ways on from a house -/
def inc (h : Nat) (p : Nat × Nat) : Bool := decide (h = p.1) || decide (h = p.2)
def oth (h : Nat) (p : Nat × Nat) : Nat := p.1 + p.2 - h
def wOnK (ts : Prs) (h k : Nat) : Prs := ((ts.take k).zipIdx.filter fun q => inc h q.1).map fun q => (q.2, oth h q.1)
def wOn (ts : Prs) (h : Nat) : Prs := wOnK ts h ts.length
theorem wOnK_succ {ts : Prs} {h k : Nat} {p : Nat × Nat} (e : ts[k]? = some p) : wOnK ts h (k + 1) = wOnK ts h k ++ if inc h p = true then [(k, oth h p)] else [] := by
  have hk := lt_at e
  have hl : (ts.take k).length = k := by rw [List.length_take]; omega
  unfold wOnK
  rw [take_succ e, List.zipIdx_append, hl, List.filter_append, List.map_append]
  congr 1
  show List.map _ (List.filter _ (List.zipIdx [p] (0 + k))) = _
  rw [Nat.zero_add]
  show List.map _ (List.filter _ [(p, k)]) = _
  rw [List.filter_cons]
  cases e2 : inc h p with
  | true => rfl
  | false => rfl
theorem wOnK_len (ts : Prs) (h k : Nat) : (wOnK ts h k).length ≤ ts.length := by
  unfold wOnK
  rw [List.length_map]
  refine Nat.le_trans (List.length_filter_le _ _) ?_
  rw [List.length_zipIdx, List.length_take]; omega
theorem wOn_mem {ts : Prs} {h : Nat} {q : Nat × Nat} : q ∈ wOn ts h ↔ ∃ p, ts[q.1]? = some p ∧ inc h p = true ∧ q.2 = oth h p := by
  unfold wOn wOnK
  rw [List.take_length, List.mem_map]
  constructor
  · rintro ⟨x, hx, e⟩
    obtain ⟨hx1, hx2⟩ := List.mem_filter.mp hx
    have hx1 := List.mem_zipIdx' hx1
    subst e
    exact ⟨x.1, by rw [List.getElem?_eq_getElem hx1.1]; exact congrArg some hx1.2.symm, hx2, rfl⟩
  · rintro ⟨p, e1, e2, e3⟩
    refine ⟨(p, q.1), List.mem_filter.mpr ⟨?_, e2⟩, by rw [← e3]⟩
    rw [List.mem_zipIdx_iff_getElem?]
    exact e1
/-- the ties of the ways on stand in their order -/
theorem wOn_asc (ts : Prs) (h : Nat) : ((wOn ts h).map (·.1)).Pairwise (· < ·) := by
  unfold wOn wOnK
  rw [List.take_length, List.map_map]
  have z : (ts.zipIdx.map (·.2)).Pairwise (· < ·) := by
    rw [List.zipIdx_map_snd]
    exact List.pairwise_lt_range'
  rw [List.pairwise_map] at z ⊢
  exact z.sublist List.filter_sublist
theorem inV_pV (h : Nat) (p : Nat × Nat) : inV (.int (h : Int)) (pV p) = inc h p := by
  show ((p.1 : Int) == (h : Int) || ((p.2 : Int) == (h : Int) || false)) = (decide (h = p.1) || decide (h = p.2))
  rw [Bool.or_false]
  have e : ∀ a : Nat, ((a : Int) == (h : Int)) = decide (h = a) := fun a => by
    by_cases z : h = a
    · rw [decide_eq_true z, z]; simp
    · rw [decide_eq_false z]
      simp only [beq_eq_false_iff_ne, ne_eq]
      omega
  rw [e, e]
theorem PrsA.snoc {H : Hp} {as : List Addr} {ts : Prs} {a : Addr} {t : Nat × Nat} (h : PrsA H as ts) (ha : H a = some (.tup (pV t))) : PrsA H (as ++ [a]) (ts ++ [t]) := by
  refine ⟨by rw [List.length_append, List.length_append, h.1]; rfl, fun i b u e1 e2 => ?_⟩
  by_cases hi : i < as.length
  · rw [List.getElem?_append_left hi] at e1
    rw [List.getElem?_append_left (by rw [← h.1]; exact hi)] at e2
    exact h.2 i b u e1 e2
  · rw [List.getElem?_append_right (by omega)] at e1
    rw [List.getElem?_append_right (by rw [← h.1]; omega), ← h.1] at e2
    cases z : i - as.length with
    | zero =>
      rw [z] at e1 e2
      obtain rfl : a = b := Option.some.inj e1
      obtain rfl : t = u := Option.some.inj e2
      exact ha
    | succ n => rw [z] at e1; cases e1
theorem PrsA.kp {H H' : Hp} {as : List Addr} {ts : Prs} (h : PrsA H as ts) (k : ∀ a xs, H a = some (.tup xs) → H' a = some (.tup xs)) : PrsA H' as ts := ⟨h.1, fun i a t e1 e2 => k _ _ (h.2 i a t e1 e2)⟩
def spWays (W : Addr) : Sp := fun vs H Q _ => ∃ (w : Addr) (n : Nat) (ts : Prs) (h : Nat), vs = [.ref w, .int (h : Int)] ∧ WebAt W H w n ts ∧ Wv n ts ∧ h < n ∧ ∀ l as H', Same H H' → H l = none → H' l = some (.lst (as.map V.ref)) → PrsA H' as (wOn ts h) → Q (.ref l) H'
section
variable {P : Program} {w : World} {K : PySem.W.Frag} {mg : Str → Option Value} {base : Heap}
abbrev nWy : List Str := ["web", "house", "tie", "pair"]
theorem scWy : FnScope nWy ["web", "house"] (defScope sWays) := ⟨rfl, rfl, rfl, by decide +kernel, rfl, by decide +kernel, by decide +kernel⟩
theorem ok_ways {f W : Addr} {fd : FuncData} (D : Df K mg "ways_on" sWays ["web", "house"] f fd) (B : Bt mg) (T : WcT K mg W) : FnOk P w K mg base CX0 1 f fd ["web", "house"] (spWays W) := by
  refine D.F.ok scWy (fun vs H Q E h => ?_) (fun cdv A outer s H vs Q E hr h => ?_)
  · obtain ⟨w, n, ts, h, rfl, _⟩ := h
    rfl
  · obtain ⟨w, n, ts, h, rfl, ⟨dx, ta, h1, tas, g1, g2⟩, hW, hn, q⟩ := h
    refine ⟨_, pss_one (ps_ret (pe_lc (own := [("tie", 2), ("pair", 3)]) (g := gTup K 2 (gCons (gName 2) (gCons (gName 3) gNil))) rfl scWy.nd (pi_enumA (by rfl) B.enumerate (pa_cons (pe_fld (pv 0) rfl) pa_nil)) (blkOk_by (N := nWy) (sc := defScope sWays) (by decide +kernel))
      (fun _ _ _ _ _ => pg_tup rfl (pgs_cons (pg_name (i := 2) scWy.nd rfl (.inl rfl)) (pgs_cons (pg_name (i := 3) scWy.nd rfl (.inl rfl)) pgs_nil)))
      (fun _ _ _ _ _ => pts_one (pt_cmpR (opInK (K := K) rfl) (pv 1) (pv 3) rfl))
      (fun _ _ _ _ _ => pe_tup (pa_cons (pv 2) (pa_cons (pe_op op_sub (pe_op op_add (pe_ix (ixTK (K := K) rfl) (pv 3) pe_int (fun _ _ => rfl)) (pe_ix (ixTK (K := K) rfl) (pv 3) pe_int (fun _ _ => rfl))) (pv 1)) pa_nil))))), ?_⟩
    refine ⟨_, rfl, w, W, dx, _, _, rfl, h1, T.cl, T.nT, wf_t _ _, ta, rfl, .inr ⟨_, SqT.of g1, fun D0 hD0 => lc_enumT (K := K) (a := ta) (xs := tas.map V.ref)
      (fun i H2 => ∃ as : List Addr, Same H H2 ∧ H2 D0 = some (.lst (as.map V.ref)) ∧ PrsA H2 as (wOnK ts h i)) ⟨[], same_new hD0, by rw [upd_same]; rfl, rfl, fun i a t e => by cases e⟩ (fun i H2 _ ⟨_, s2, _⟩ => SqT.of (s2 _ _ g1)) ?_ ?_⟩⟩
    · rintro i x T0 H2 hx hT0 ⟨as, s2, hD2, hA⟩
      obtain ⟨a, t, rfl, ha, ht, hat⟩ := g2.get' hx
      have sT := same_new (o := HO.tup [.int (i : Nat), .ref a]) hT0
      have hat2 := sT _ _ (s2 _ _ hat)
      have hD2' := sT _ _ hD2
      have s2' := s2.trans sT
      have hA' := hA.same sT
      have hT2 : (upd H2 T0 (.tup [.int (i : Nat), .ref a])) T0 = some (.tup [.int (i : Nat), .ref a]) := upd_same
      generalize upd H2 T0 (.tup [.int (i : Nat), .ref a]) = H3 at hat2 hD2' s2' hA' hT2 ⊢
      refine ⟨T0, _, rfl, SqT.of hT2, rfl, _, _, rfl, _, _, rfl, rfl, rfl, ?_⟩
      refine ⟨_, rfl, _, rfl, a, pV t, rfl, .inr (SqT.of hat2), rfl, rfl, _, rfl, ?_⟩
      rw [inV_pV]
      have ws := wOnK_succ (h := h) ht
      have lw := wOnK_len ts h i
      have t20 := hW.t20
      refine ifD (fun e => ?_) fun e => ?_
      · replace e : inc h t = true := by simpa using e
        rw [if_pos e] at ws
        refine ⟨_, rfl, _, rfl, a, _, 0, .int (t.1 : Int), rfl, rfl, SqT.of hat2, atI_nat (j := 0) rfl, _, rfl, a, _, 1, .int (t.2 : Int), rfl, rfl, SqT.of hat2, atI_nat (j := 1) rfl, _, _, rfl, rfl, _, rfl, _, _, rfl, rfl, (by show 2 ≤ sizeLine; decide), fun p hp => ?_⟩
        have sp := same_new (o := HO.tup [V.int (i : Nat), V.int ((t.1 : Int) + (t.2 : Int) - (h : Int))]) hp
        have eo : V.int ((t.1 : Int) + (t.2 : Int) - (h : Int)) = V.int ((oth h t : Nat) : Int) := by
          unfold oth
          unfold inc at e
          simp only [Bool.or_eq_true, decide_eq_true_eq] at e
          congr 1
          omega
        have hD4 := sp _ _ hD2'
        have keep : ∀ c ys, (upd H3 p (.tup [V.int (i : Nat), V.int ((t.1 : Int) + (t.2 : Int) - (h : Int))])) c = some (.tup ys) → (upd (upd H3 p (.tup [V.int (i : Nat), V.int ((t.1 : Int) + (t.2 : Int) - (h : Int))])) D0 (.lst (as.map V.ref ++ [.ref p]))) c = some (.tup ys) := fun c ys e => by
          rw [upd_ne (ne_of e hD4 (by intro z; cases z))]; exact e
        refine ⟨as.map V.ref, hD4, szl (by rw [List.length_map, hA.1]; omega), as ++ [p], fun c o eo => ?_, by rw [upd_same, List.map_append]; rfl, ?_⟩
        · rw [upd_ne (ne_of_none eo hD0)]
          exact sp _ _ (s2' _ _ eo)
        · rw [ws]
          refine ((hA'.same sp).kp keep).snoc (keep _ _ ?_)
          rw [upd_same, eo]; rfl
      · replace e : inc h t = false := by simpa using e
        rw [if_neg (by rw [e]; decide), List.append_nil] at ws
        exact ⟨as, s2', hD2', by rw [ws]; exact hA'⟩
    · rintro H2 ⟨as, s2, hD2, hA⟩
      rw [List.length_map, g2.1] at hA
      exact q D0 as H2 s2 hD0 hD2 hA
end
end K1
namespace K1
open PySem PySem.Spec PyProof.Rows L2
theorem nodup_le : ∀ (n : Nat) (L : List Int), L.Nodup → (∀ x ∈ L, 0 ≤ x ∧ x < (n : Int)) → L.length ≤ n
  | 0, L, _, h => by
    cases L with
    | nil => exact Nat.le_refl _
    | cons a r => have := h a List.mem_cons_self; omega
  | n + 1, L, nd, h => by
    have ih := nodup_le n (L.erase (n : Int)) (nd.erase _) fun x hx => by
      have h1 := h x (List.mem_of_mem_erase hx)
      have h2 : x ≠ (n : Int) := fun e => by
        rw [e] at hx
        exact (List.Nodup.mem_erase_iff nd).mp hx |>.1 rfl
      omega
    have h3 : L.length ≤ (L.erase (n : Int)).length + 1 := by
      by_cases hm : (n : Int) ∈ L
      · rw [List.length_erase_of_mem hm]; omega
      · rw [List.erase_of_not_mem hm]; omega
    omega
/-! ### dicts of numbers -/
theorem val_mem {k : Key} {v : V} : ∀ {kvs : List (Key × V)}, (kvs.map (·.1)).Nodup → (k, v) ∈ kvs → valV kvs k = some v
  | [], _, h => nomatch h
  | p :: r, nd, h => by
    rw [List.map_cons, List.nodup_cons] at nd
    rcases List.mem_cons.mp h with e | e
    · rw [← e, valV_pos (p := (k, v)) rfl]
    · rw [valV_neg fun z => nd.1 (by rw [z]; exact List.mem_map.mpr ⟨_, e, rfl⟩)]
      exact val_mem nd.2 e
theorem val_none {k : Key} {kvs : List (Key × V)} (h : k ∉ kvs.map (·.1)) : valV kvs k = none := by
  unfold valV
  rw [List.find?_eq_none.mpr fun x hx => ?_]; rfl
  intro e
  exact h (List.mem_map.mpr ⟨x, hx, of_decide_eq_true e⟩)
abbrev WR := Int × List Int
/-- the dict of the ways: each house with the tuple of its ties -/
def kvW (F : List WR) (ps : List Addr) : List (Key × V) := (F.zip ps).map fun e => (Sum.inl e.1.1, V.ref e.2)
theorem kvW_keys {F : List WR} {ps : List Addr} (h : ps.length = F.length) : (kvW F ps).map (·.1) = F.map fun e => (Sum.inl e.1 : Key) := by
  unfold kvW
  rw [List.map_map]
  have e : F.map (fun e => (Sum.inl e.1 : Key)) = ((F.zip ps).map (·.1)).map fun e => (Sum.inl e.1 : Key) := by rw [List.map_fst_zip (Nat.le_of_eq h.symm)]
  rw [e, List.map_map]; rfl
theorem kvW_len {F : List WR} {ps : List Addr} (h : ps.length = F.length) : (kvW F ps).length = F.length := by
  unfold kvW
  rw [List.length_map, List.length_zip, h, Nat.min_self]
theorem kvW_nd {F : List WR} {ps : List Addr} (h : ps.length = F.length) (nd : (F.map (·.1)).Nodup) : ((kvW F ps).map (·.1)).Nodup := by
  rw [kvW_keys h]
  have e : F.map (fun e => (Sum.inl e.1 : Key)) = (F.map (·.1)).map (Sum.inl : Int → Key) := by rw [List.map_map]; rfl
  rw [e]
  exact nd.map _ fun a b ne z => ne (by injection z)
theorem kvW_at {F : List WR} {ps : List Addr} {i : Nat} {x : Int} {r : List Int} {c : Addr} (h : ps.length = F.length) (nd : (F.map (·.1)).Nodup) (hi : F[i]? = some (x, r)) (hc : ps[i]? = some c) : valV (kvW F ps) (.inl x) = some (.ref c) := by
  refine val_mem (kvW_nd h nd) ?_
  unfold kvW
  refine List.mem_map.mpr ⟨((x, r), c), List.mem_of_getElem? (i := i) ?_, rfl⟩
  rw [List.getElem?_zip_eq_some]
  exact ⟨hi, hc⟩
theorem kvW_none {F : List WR} {ps : List Addr} {x : Int} (h : ps.length = F.length) (hx : x ∉ F.map (·.1)) : valV (kvW F ps) (.inl x) = none := by
  refine val_none ?_
  rw [kvW_keys h]
  intro z
  obtain ⟨e, he, ee⟩ := List.mem_map.mp z
  injection ee with ee
  exact hx (List.mem_map.mpr ⟨e, he, ee⟩)
theorem kvW_snoc {F : List WR} {ps : List Addr} {x : Int} {r : List Int} {c : Addr} (h : ps.length = F.length) : kvW (F ++ [(x, r)]) (ps ++ [c]) = kvW F ps ++ [(.inl x, .ref c)] := by
  unfold kvW
  rw [List.zip_append h.symm, List.map_append]; rfl
/-- how the search stands: the dict at d, the queue at q -/
structure WQ (H : Hp) (d q : Addr) (F : List WR) (ps : List Addr) : Prop where
  hd : H d = some (.dK (kvW F ps))
  hq : H q = some (.lst (F.map fun e => V.int e.1))
  ln : ps.length = F.length
  it : ∀ (i : Nat) c x r, ps[i]? = some c → F[i]? = some (x, r) → H c = some (.tup (vrow r))
theorem WQ.same {H H' : Hp} {d q : Addr} {F : List WR} {ps : List Addr} (b : WQ H d q F ps) (s : Same H H') : WQ H' d q F ps := ⟨s _ _ b.hd, s _ _ b.hq, b.ln, fun i c x r e1 e2 => s _ _ (b.it i c x r e1 e2)⟩
theorem snoc_at {α : Type} {l : List α} {i : Nat} {a b : α} (h : (l ++ [a])[i]? = some b) : l[i]? = some b ∨ (i = l.length ∧ a = b) := by
  by_cases hi : i < l.length
  · rw [List.getElem?_append_left hi] at h
    exact .inl h
  · rw [List.getElem?_append_right (by omega)] at h
    cases z : i - l.length with
    | zero =>
      rw [z] at h
      exact .inr ⟨by omega, Option.some.inj h⟩
    | succ n => rw [z] at h; cases h
theorem WQ.put {H : Hp} {d q : Addr} {F : List WR} {ps : List Addr} (b : WQ H d q F ps) {x : Int} {r : List Int} {c : Addr} (hx : x ∉ F.map (·.1)) (hc : H c = some (.tup (vrow r))) :
    (upd H d (.dK (putK (kvW F ps) (.inl x) (.ref c)))) q = some (.lst (F.map fun e => V.int e.1)) ∧ WQ (upd (upd H d (.dK (putK (kvW F ps) (.inl x) (.ref c)))) q (.lst ((F.map fun e => V.int e.1) ++ [.int x]))) d q (F ++ [(x, r)]) (ps ++ [c]) := by
  have ndq : d ≠ q := ne_of b.hd b.hq (by intro z; cases z)
  have h1 : (upd H d (.dK (putK (kvW F ps) (.inl x) (.ref c)))) q = some (.lst (F.map fun e => V.int e.1)) := by rw [upd_ne ndq.symm]; exact b.hq
  have keep : ∀ a ys, H a = some (.tup ys) → (upd (upd H d (.dK (putK (kvW F ps) (.inl x) (.ref c)))) q (.lst ((F.map fun e => V.int e.1) ++ [.int x]))) a = some (.tup ys) := fun a ys e => by
    rw [upd_ne (ne_of e b.hq (by intro z; cases z)), upd_ne (ne_of e b.hd (by intro z; cases z))]; exact e
  refine ⟨h1, by rw [upd_ne ndq, upd_same, kvW_snoc b.ln, putK_new _ (kvW_none b.ln hx)], by rw [upd_same, List.map_append]; rfl, by rw [List.length_append, List.length_append, b.ln]; rfl, fun i a y t e1 e2 => ?_⟩
  rcases snoc_at e1 with e1 | ⟨i1, rfl⟩
  · rcases snoc_at e2 with e2 | ⟨i2, _⟩
    · exact keep _ _ (b.it i a y t e1 e2)
    · have := lt_at e1
      have := b.ln
      omega
  · rcases snoc_at e2 with e2 | ⟨_, e2⟩
    · have := lt_at e2
      have := b.ln
      omega
    · injection e2 with _ e2
      subst e2
      exact keep _ _ hc
/-- where a tie leads a house (where it stands, if it is none of its ties, or the barred one) -/
def actW (ts : Prs) (bar : Option Nat) (x t : Int) : Int := match ts[t.toNat]? with
  | some p => if inc x.toNat p = true ∧ bar ≠ some t.toNat then (oth x.toNat p : Int) else x
  | none => x
def barV : Option Nat → V | none => .non | some b => .int (b : Int)
theorem actW_rng {n : Nat} {ts : Prs} {bar : Option Nat} {x t : Int} (hW : Wv n ts) (h : 0 ≤ x ∧ x < (n : Int)) : 0 ≤ actW ts bar x t ∧ actW ts bar x t < (n : Int) := by
  unfold actW
  cases e : ts[t.toNat]? with
  | none => exact h
  | some p =>
    obtain ⟨h1, h2, h3⟩ := hW.at_ e
    dsimp only
    split
    · rename_i hc
      have hi := hc.1
      unfold inc at hi
      simp only [Bool.or_eq_true, decide_eq_true_eq] at hi
      unfold oth
      omega
    · exact h
theorem pathW_rng {n : Nat} {ts : Prs} {bar : Option Nat} (hW : Wv n ts) : ∀ (r : List Int) (x : Int), 0 ≤ x ∧ x < (n : Int) → 0 ≤ path (actW ts bar) x r ∧ path (actW ts bar) x r < (n : Int)
  | [], _, h => h
  | t :: r, x, h => pathW_rng hW r (actW ts bar x t) (actW_rng hW h)
theorem Bf.skip {α : Type} {act : α → Int → α} {n : Nat} {s : α} {F : List (α × List Int)} {i : Nat} {x : α} {r : List Int} (hx : F[i]? = some (x, r)) : ∀ (k j : Nat), Bf act n s F i j → (∀ t, j ≤ t → t < j + k → act x (t : Int) = x) → Bf act n s F i (j + k)
  | 0, j, b, _ => b
  | k + 1, j, b, h => by
    have b1 := b.more (j := i) (k := x) (r := r) hx hx (h j (Nat.le_refl _) (by omega)).symm
    have := Bf.skip hx k (j + 1) b1 fun t h1 h2 => h t (by omega) (by omega)
    rw [show j + (k + 1) = j + 1 + k by omega]
    exact this
theorem Bf.fewW {n : Nat} {ts : Prs} {bar : Option Nat} {s : Int} {F : List WR} {i d : Nat} (b : Bf (actW ts bar) ts.length s F i d) (hW : Wv n ts) (hs : 0 ≤ s ∧ s < (n : Int)) : F.length ≤ n := by
  have := nodup_le n (F.map (·.1)) b.nd fun x hx => by
    obtain ⟨⟨k, r⟩, he, rfl⟩ := List.mem_map.mp hx
    obtain ⟨j, hj⟩ := List.getElem?_of_mem he
    rw [(b.pth j k r hj).1]
    exact pathW_rng hW r s hs
  rw [List.length_map] at this
  exact this
def spFWays (W : Addr) : Sp := fun vs H Q _ => ∃ (w : Addr) (n : Nat) (ts : Prs) (h : Nat) (bar : Option Nat), vs = [.ref w, .int (h : Int), barV bar] ∧ WebAt W H w n ts ∧ Wv n ts ∧ h < n ∧
  ∀ d q F ps H', Same H H' → H d = none → WQ H' d q F ps → Fst (actW ts bar) ts.length (h : Int) F → F.length ≤ n → Q (.ref d) H'
section
variable {P : Program} {w : World} {K : PySem.W.Frag} {mg : Str → Option Value} {base : Heap}
abbrev nFW : List Str := ["web", "house", "barred", "ways", "queue", "at", "here", "tie", "other"]
theorem scFW : FnScope nFW ["web", "house", "barred"] (defScope sFWays) := ⟨rfl, rfl, rfl, by decide +kernel, rfl, by decide +kernel, by decide +kernel⟩
theorem ok_fways {f fW W : Addr} {fd fdW : FuncData} (D : Df K mg "first_ways" sFWays ["web", "house", "barred"] f fd) (DW : Df K mg "ways_on" sWays ["web", "house"] fW fdW) (B : Bt mg)
    (GW : FnOk P w K mg base CX0 1 fW fdW ["web", "house"] (spWays W)) : FnOk P w K mg base CX0 2 f fd ["web", "house", "barred"] (spFWays W) := by
  refine D.F.ok scFW (fun vs H Q E h => ?_) (fun cdv A outer s H vs Q E hr h => ?_)
  · obtain ⟨w, n, ts, h, bar, rfl, _⟩ := h
    rfl
  · obtain ⟨w, n, ts, h, bar, rfl, hw, hW, hn, q⟩ := h
    have hu := hu_of hr
    refine ⟨_, pss_cons (ps_set (i := 3) scFW.nd rfl (.inl rfl) (pe_disp (pps_cons (pv 1) (pe_tup pa_nil) pps_nil) rfl rfl (List.cons_ne_nil _ _) (by decide)))
      (pss_cons (ps_set (i := 4) scFW.nd rfl (.inl rfl) (pe_lst (pa_cons (pv 1) pa_nil)))
      (pss_cons (ps_set (i := 5) scFW.nd rfl (.inl rfl) pe_int)
      (pss_cons (ps_while PassesOwn.never (pt_cmpR op_lt (pv 5) (pe_callB call_len_seq (by rfl) B.len PySem.boot_len (pa_cons (pv 4) pa_nil)) (nomark _))
        (pss_cons (ps_set (i := 6) scFW.nd rfl (.inl rfl) (pe_ix ix_list (pv 4) (pv 5) (fun _ _ => rfl)))
        (pss_cons (ps_for PassesOwn.never rfl (pi_list (pc DW GW hr pass0 (pa_cons (pv 0) (pa_cons (pv 6) pa_nil)))) (pg_tup rfl (pgs_cons (pg_name (i := 7) scFW.nd rfl (.inl rfl)) (pgs_cons (pg_name (i := 8) scFW.nd rfl (.inl rfl)) pgs_nil)))
          (pss_one (ps_if (PW.pt (pw_and (pt_cmpR op_ne (pv 7) (pv 2) (nomark _)) (pw_and1 (pt_cmp (pc_dnotin hu (pv 8) (pv 3))))))
            (pss_cons (ps_dput hu (pv 3) (pv 8) (pe_op op_catA (pe_dget hu (pv 3) (pv 6) (fun _ _ => rfl)) (pe_tup (pa_cons (pv 7) pa_nil))) rfl)
            (pss_one (ps_expr (pe_bm PySem.F.plainAttrs_list PySem.F.slot_list_append PySem.F.type_list_append mt_append (pv 4) (pa_cons (pv 8) pa_nil))))) pss_nil)))
        (pss_one (ps_aug (i := 5) scFW.nd rfl (.inl rfl) pe_int ip_add)))))
      (pss_one (ps_ret (pv 3)))))), ?_⟩
    intro d hd
    refine ⟨_, rfl, (by show 0 ≤ sizeLine; decide), fun e0 he0 => ?_⟩
    have ned : e0 ≠ d := fun z => by rw [z, upd_same] at he0; cases he0
    refine ⟨by rw [upd_ne ned.symm, upd_same], [(.inl (h : Int), .ref e0)], rfl, (by show 1 ≤ 15; decide), ?_⟩
    generalize hH1 : upd (upd (upd H d (.dK [])) e0 (.tup [])) d (.dK (mergeK [] [(.inl (h : Int), .ref e0)])) = H1
    have se : Same H (upd (upd H d (.dK [])) e0 (.tup [])) := (same_new hd).trans (same_new he0)
    have s1 : Same H H1 := fun b o e => by
      rw [← hH1, upd_ne (ne_of_none e hd)]
      exact se _ _ e
    have hd1 : H1 d = some (.dK (kvW [((h : Int), [])] [e0])) := by rw [← hH1, upd_same]; rfl
    have he1 : H1 e0 = some (.tup []) := by rw [← hH1, upd_ne ned, upd_same]
    refine ⟨_, rfl, (by show 1 ≤ sizeLine; decide), fun q0 hq0 => ?_⟩
    have s2 : Same H (upd H1 q0 (.lst [.int (h : Int)])) := s1.trans (same_new hq0)
    have b0 : WQ (upd H1 q0 (.lst [.int (h : Int)])) d q0 [((h : Int), [])] [e0] := by
      have sm := same_new (o := HO.lst [V.int (h : Int)]) hq0
      refine ⟨sm _ _ hd1, upd_same, rfl, fun i c x r e1 e2 => ?_⟩
      match i, e1, e2 with
      | 0, e1, e2 =>
        obtain rfl : e0 = c := Option.some.inj e1
        have z : ((h : Int), ([] : List Int)) = (x, r) := Option.some.inj e2
        injection z with _ z
        subst z
        exact sm _ _ he1
      | i + 1, e1, _ => cases e1
    have hh : 0 ≤ (h : Int) ∧ (h : Int) < (n : Int) := by omega
    have n12 := hW.n12
    have nq0 : H q0 = none := s1.free hq0
    refine while_by (fun σ H' => ∃ (i : Nat) (F : List WR) (ps : List Addr) (v6 v7 v8 : Option V), σ = [some (.ref w), some (.int (h : Int)), some (barV bar), some (.ref d), some (.ref q0), some (.int (i : Int)), v6, v7, v8] ∧ Same H H' ∧ WQ H' d q0 F ps ∧ Bf (actW ts bar) ts.length (h : Int) F i 0 ∧ i ≤ F.length)
      (fun (σ : L2.St) _ => match σ[5]? with | some (some (V.int i)) => 1000 - i.toNat | _ => 0) ⟨0, _, _, none, none, none, rfl, s2, b0, Bf.init, Nat.zero_le _⟩ ?_
      (fun σ H Q Q' hQ ⟨v, h1, v3, h2, p, ys, h3, h4, i, j, h5, h6, k, h7, h8⟩ => ⟨v, h1, v3, h2, p, ys, h3, h4, i, j, h5, h6, k, h7, hQ _ _ h8⟩)
    rintro σ H' ⟨i, F, ps, v6, v7, v8, rfl, sm, b, bf, hi⟩
    have fF := bf.fewW hW hh
    refine ⟨_, rfl, _, rfl, q0, _, rfl, .inl (SqL.of b.hq), _, _, rfl, rfl, _, rfl, ifD (fun ec => ?_) fun ec => ?_⟩
    · have hlt : i < F.length := by
        have z : (i : Int) < ((F.map fun e => V.int e.1).length : Int) := of_decide_eq_true ec
        rw [List.length_map] at z
        omega
      obtain ⟨⟨x, rx⟩, hx⟩ := ex_at (l := F) hlt
      obtain ⟨px, pv', pl⟩ := bf.pth i x rx hx
      have xr : 0 ≤ x ∧ x < (n : Int) := by rw [px]; exact pathW_rng hW rx _ hh
      refine ⟨_, rfl, _, rfl, q0, _, (i : Int), .int x, rfl, rfl, SqL.of b.hq, at_i (map_at hx), ?_⟩
      refine gn ?_
      dsimp only [List.set]
      have ex : ((x.toNat : Nat) : Int) = x := by omega
      refine ⟨_, rfl, _, rfl, w, n, ts, x.toNat, (by rw [ex]; rfl), hw.same sm, hW, by omega, fun l as H2 sm2 hl0 hl hA => ⟨l, rfl, ⟨_, SqL.of hl⟩, ?_⟩⟩
      have lq : l ≠ q0 := fun z => by rw [z, b.hq] at hl0; cases hl0
      have lwo : (wOn ts x.toNat).length ≤ 20 := Nat.le_trans (wOnK_len ts _ _) hW.t20
      have asc := wOn_asc ts x.toNat
      refine for_list (K := K) (a := l) (xs := as.map V.ref) (fun k σ H' => ∃ (F : List WR) (ps : List Addr) (j : Nat) (v7 v8 : Option V), σ = [some (.ref w), some (.int (h : Int)), some (barV bar), some (.ref d), some (.ref q0), some (.int (i : Int)), some (.int x), v7, v8] ∧ Same H H' ∧ WQ H' d q0 F ps ∧ Bf (actW ts bar) ts.length (h : Int) F i j ∧ F[i]? = some (x, rx) ∧ H' l = some (.lst (as.map V.ref)) ∧ PrsA H' as (wOn ts x.toNat) ∧
          j ≤ ts.length ∧ (∀ (k' : Nat) (e : Nat × Nat), k ≤ k' → (wOn ts x.toNat)[k']? = some e → j ≤ e.1) ∧ (∀ (k' : Nat) (e : Nat × Nat), k' < k → (wOn ts x.toNat)[k']? = some e → e.1 < j))
        ⟨F, ps, 0, _, _, rfl, sm.trans sm2, b.same sm2, bf, hx, hl, hA, Nat.zero_le _, fun _ _ _ _ => Nat.zero_le _, fun k' e hk => absurd hk (Nat.not_lt_zero _)⟩ (fun k σ H' _ ⟨_, _, _, _, _, _, _, _, _, _, hl', _⟩ => SqL.of hl') ?_ ?_
      · rintro k y σ H3 hy ⟨F, ps, j, v7, v8, rfl, sm, b, bf, hx, hl, hA, jn, j1, j2⟩
        obtain ⟨a, ⟨t, o⟩, rfl, ha, hto, hat⟩ := hA.get' hy
        obtain ⟨p, tp, ti, to_⟩ := wOn_mem.mp (List.mem_of_getElem? hto)
        replace to_ : o = oth x.toNat p := to_
        have jt := j1 k (t, o) (Nat.le_refl _) hto
        have tl := lt_at tp
        have fF := bf.fewW hW hh
        -- no way on between
        have gap : ∀ t', j ≤ t' → t' < t → actW ts bar x (t' : Int) = x := fun t' g1 g2 => by
          unfold actW
          rw [Int.toNat_natCast]
          cases e : ts[t']? with
          | none => rfl
          | some p' =>
            dsimp only
            refine if_neg fun hc => ?_
            obtain ⟨k', hk'⟩ := List.getElem?_of_mem (wOn_mem.mpr ⟨p', e, hc.1, rfl⟩ : (t', oth x.toNat p') ∈ wOn ts x.toNat)
            by_cases kk : k' < k
            · have := j2 k' _ kk hk'
              dsimp only at this
              omega
            · by_cases ke : k' = k
              · subst ke
                rw [hto] at hk'
                have z := Option.some.inj hk'
                injection z with z _
                omega
              · rw [List.pairwise_iff_getElem] at asc
                have l1 := lt_at hk'
                have l2 := lt_at hto
                have := asc k k' (by rw [List.length_map]; exact l2) (by rw [List.length_map]; exact l1) (by omega)
                rw [List.getElem_map, List.getElem_map] at this
                rw [List.getElem?_eq_getElem l1] at hk'
                rw [List.getElem?_eq_getElem l2] at hto
                rw [Option.some.inj hk', Option.some.inj hto] at this
                dsimp only at this
                omega
        have bft : Bf (actW ts bar) ts.length (h : Int) F i t := by
          have := Bf.skip hx (t - j) j bf fun t' g1 g2 => gap t' g1 (by omega)
          rw [show j + (t - j) = t by omega] at this
          exact this
        have nj1 : ∀ (k' : Nat) (e : Nat × Nat), k + 1 ≤ k' → (wOn ts x.toNat)[k']? = some e → t + 1 ≤ e.1 := fun k' e hk he => by
          rw [List.pairwise_iff_getElem] at asc
          have l1 := lt_at he
          have l2 := lt_at hto
          have := asc k k' (by rw [List.length_map]; exact l2) (by rw [List.length_map]; exact l1) (by omega)
          rw [List.getElem_map, List.getElem_map] at this
          rw [List.getElem?_eq_getElem l1] at he
          rw [List.getElem?_eq_getElem l2] at hto
          rw [Option.some.inj he, Option.some.inj hto] at this
          exact this
        have nj2 : ∀ (k' : Nat) (e : Nat × Nat), k' < k + 1 → (wOn ts x.toNat)[k']? = some e → e.1 < t + 1 := fun k' e hk he => by
          by_cases kk : k' = k
          · subst kk
            rw [hto] at he
            rw [← Option.some.inj he]
            exact Nat.lt_succ_self _
          · have := j2 k' e (by omega) he
            omega
        have hact : bar ≠ some t → actW ts bar x (t : Int) = (o : Int) := fun hb => by
          unfold actW
          rw [Int.toNat_natCast, tp]
          dsimp only
          rw [if_pos ⟨ti, hb⟩, ← to_]
        have hact' : bar = some t → actW ts bar x (t : Int) = x := fun hb => by
          unfold actW
          rw [Int.toNat_natCast, tp]
          dsimp only
          rw [if_neg fun z => z.2 hb]
        have hat' : H3 a = some (.tup [.int (t : Int), .int (o : Int)]) := hat
        refine ⟨a, _, rfl, SqT.of hat', rfl, _, _, rfl, _, _, rfl, rfl, ?_⟩
        have scb : scal (.int (t : Int)) (barV bar) = true := by cases bar <;> rfl
        refine ⟨_, rfl, _, rfl, scb, _, rfl, ifD (fun e1 => ?_) fun e1 => ?_⟩
        · have hb : bar ≠ some t := fun z => by
            rw [z] at e1
            have : decide (V.int (t : Int) = barV (some t)) = true := decide_eq_true rfl
            rw [this] at e1
            cases e1
          refine ⟨_, rfl, _, rfl, d, _, rfl, DGet.k (k := .inl (o : Int)) b.hd, _, rfl, ?_⟩
          by_cases hin : (o : Int) ∈ F.map (·.1)
          · obtain ⟨⟨o', ro⟩, he, e2⟩ := List.mem_map.mp hin
            obtain ⟨j3, hj3⟩ := List.getElem?_of_mem he
            dsimp only at e2
            subst e2
            obtain ⟨c, hc⟩ := ex_at (l := ps) (i := j3) (by rw [b.ln]; exact lt_at hj3)
            rw [kvW_at b.ln bf.nd hj3 hc]
            refine iteF ?_
            exact ⟨F, ps, t + 1, _, _, rfl, sm, b, bft.more (j := j3) (k := (o : Int)) (r := ro) hx hj3 (hact hb).symm, hx, hl, hA, tl, nj1, nj2⟩
          · rw [kvW_none b.ln hin]
            refine iteT ?_
            obtain ⟨c, hc⟩ := ex_at (l := ps) (i := i) (by rw [b.ln]; exact lt_at hx)
            have hcr := b.it i c x rx hc hx
            refine ⟨_, rfl, _, rfl, d, .ref c, rfl, by rw [← kvW_at b.ln bf.nd hx hc]; exact DGet.k (k := .inl x) b.hd, _, rfl, (by show 1 ≤ sizeLine; decide), fun dt hdt => ?_⟩
            have s5 := same_new (o := HO.tup [V.int (t : Int)]) hdt
            obtain ⟨_, _, pl'⟩ := bft.pth i x rx hx
            have li := lt_at hx
            refine catA_by (s5 _ _ hcr) upd_same (sz (by rw [vrow_len]; simp only [List.length_cons, List.length_nil]; omega)) fun rb H6 s6 hrb => ?_
            have s56 := s5.trans s6
            have b6 := b.same s56
            have hrb' : H6 rb = some (.tup (vrow (rx ++ [(t : Int)]))) := by rw [hrb, vrow, vrow, List.map_append]; rfl
            obtain ⟨g1, g2⟩ := b6.put (x := (o : Int)) hin hrb'
            refine ⟨_, rfl, _, rfl, d, _, rfl, DPut.k (k := .inl (o : Int)) b6.hd (szl (by rw [kvW_len b.ln]; omega)), ?_⟩
            refine ⟨_, rfl, .inl ⟨rfl, _, SqL.of g1⟩, _, rfl, q0, _, _, rfl, rfl, g1, szl (by rw [List.length_map]; omega), ?_⟩
            have keep : ∀ a ys, H6 a = some (.tup ys) → (upd (upd H6 d (.dK (putK (kvW F ps) (.inl (o : Int)) (.ref rb)))) q0 (.lst ((F.map fun e => V.int e.1) ++ [.int (o : Int)]))) a = some (.tup ys) := fun a ys e => by
              rw [upd_ne (ne_of e b6.hq (by intro z; cases z)), upd_ne (ne_of e b6.hd (by intro z; cases z))]; exact e
            have hl6 := s56 _ _ hl
            refine ⟨_, _, t + 1, _, _, rfl, fun c' u e => ?_, g2, ?_, ?_, ?_, (hA.same s56).kp keep, tl, nj1, nj2⟩
            · rw [upd_ne (ne_of_none e nq0), upd_ne (ne_of_none e hd)]
              exact s56 _ _ (sm _ _ e)
            · rw [← hact hb]
              exact bft.put hx (by rw [hact hb]; exact hin) tl
            · rw [List.getElem?_append_left li]; exact hx
            · rw [upd_ne lq, upd_ne (ne_of hl6 b6.hd (by intro z; cases z))]
              exact hl6
        · have hb : bar = some t := by
            cases bar with
            | none => cases e1
            | some b' =>
              have z : ¬ (V.int (t : Int) = V.int (b' : Int)) → False := fun ne => by
                rw [show decide (V.int (t : Int) = barV (some b')) = false from decide_eq_false ne] at e1
                cases e1
              by_cases tb : t = b'
              · rw [tb]
              · exact (z fun e => by injection e with e; omega).elim
          exact ⟨F, ps, t + 1, _, _, rfl, sm, b, bft.more (j := i) (k := x) (r := rx) hx hx (hact' hb).symm, hx, hl, hA, tl, nj1, nj2⟩
      · rintro σ H3 ⟨F, ps, j, v7, v8, rfl, sm, b, bf, hx, hl, hA, jn, j1, j2⟩
        rw [List.length_map, hA.1] at j1 j2
        have gap : ∀ t', j ≤ t' → t' < j + (ts.length - j) → actW ts bar x (t' : Int) = x := fun t' g1 g2 => by
          unfold actW
          rw [Int.toNat_natCast]
          cases e : ts[t']? with
          | none => rfl
          | some p' =>
            dsimp only
            refine if_neg fun hc => ?_
            obtain ⟨k', hk'⟩ := List.getElem?_of_mem (wOn_mem.mpr ⟨p', e, hc.1, rfl⟩ : (t', oth x.toNat p') ∈ wOn ts x.toNat)
            have := j2 k' _ (lt_at hk') hk'
            dsimp only at this
            omega
        have bfn := Bf.skip hx (ts.length - j) j bf gap
        rw [show j + (ts.length - j) = ts.length by omega] at bfn
        have li := lt_at hx
        refine ⟨_, rfl, _, _, rfl, rfl, ?_⟩
        refine ⟨⟨i + 1, F, ps, some (.int x), v7, v8, ?_, sm, b, bfn.next, by omega⟩, ?_⟩
        · have z : ((i + 1 : Nat) : Int) = (i : Int) + 1 := by omega
          rw [z]; rfl
        · have fF := bf.fewW hW hh
          show 1000 - ((i : Int) + 1).toNat < 1000 - (i : Int).toNat
          omega
    · have hge : F.length ≤ i := by
        have z : ¬ ((i : Int) < ((F.map fun e => V.int e.1).length : Int)) := of_decide_eq_false ec
        rw [List.length_map] at z
        omega
      exact ⟨_, rfl, q d q0 F ps H' sm hd b (bf.done hge) fF⟩
end
end K1
namespace K1
open PySem PySem.Spec PyProof.Rows L2
/-! ### parts -/
def vn (ns : List Nat) : List V := ns.map fun (x : Nat) => V.int (x : Int)
theorem vn_len (ns : List Nat) : (vn ns).length = ns.length := List.length_map _
theorem vn_at {ns : List Nat} {i : Nat} {x : Nat} (h : ns[i]? = some x) : (vn ns)[i]? = some (.int (x : Int)) := map_at h
theorem at_vn {ns : List Nat} {i : Nat} {v : V} (h : (vn ns)[i]? = some v) : ∃ x, ns[i]? = some x ∧ v = .int (x : Int) := at_map h
theorem flat_vn (ns : List Nat) : (vn ns).all flatV = true := by
  rw [List.all_eq_true]
  intro x hx
  obtain ⟨y, _, rfl⟩ := List.mem_map.mp hx
  rfl
theorem inV_vn (a : Nat) (ns : List Nat) : inV (.int (a : Int)) (vn ns) = decide (a ∈ ns) := by
  unfold inV vn
  rw [List.any_map]
  induction ns with
  | nil => rfl
  | cons b r ih =>
    rw [List.any_cons, ih]
    have e : (eqV (V.int (b : Int)) (V.int (a : Int))) = decide (a = b) := by
      show ((b : Int) == (a : Int)) = _
      by_cases z : a = b
      · rw [decide_eq_true z, z]; simp
      · rw [decide_eq_false z]
        simp only [beq_eq_false_iff_ne, ne_eq]
        omega
    show (eqV (V.int (b : Int)) (V.int (a : Int)) || _) = _
    rw [e]
    by_cases z : a = b
    · rw [decide_eq_true z, decide_eq_true (show a ∈ b :: r by rw [z]; exact List.mem_cons_self)]; rfl
    · rw [decide_eq_false z, Bool.false_or]
      congr 1
      exact propext ⟨fun h => List.mem_cons_of_mem _ h, fun h => (List.mem_cons.mp h).resolve_left z⟩
/-- house b stands in one tie with c -/
def Jn (ts : Prs) (b c : Nat) : Prop := ∃ p ∈ ts, (b = p.1 ∧ c = p.2) ∨ (b = p.2 ∧ c = p.1)
theorem Jn.sym {ts : Prs} {b c : Nat} (h : Jn ts b c) : Jn ts c b := by
  obtain ⟨p, hp, h | h⟩ := h
  · exact ⟨p, hp, .inr ⟨h.2, h.1⟩⟩
  · exact ⟨p, hp, .inl ⟨h.2, h.1⟩⟩
/-- ties lead from a to b -/
inductive Cn (ts : Prs) (a : Nat) : Nat → Prop
  | refl : Cn ts a a
  | step {b c : Nat} (h : Cn ts a b) (j : Jn ts b c) : Cn ts a c
theorem Cn.trans {ts : Prs} {a b c : Nat} (h : Cn ts a b) (k : Cn ts b c) : Cn ts a c := by
  induction k with
  | refl => exact h
  | step _ j ih => exact ih.step j
theorem Cn.sym {ts : Prs} {a b : Nat} (h : Cn ts a b) : Cn ts b a := by
  induction h with
  | refl => exact .refl
  | step _ j ih => exact (Cn.refl.step j.sym).trans ih
theorem Cn.lt {n : Nat} {ts : Prs} {a b : Nat} (hW : Wv n ts) (ha : a < n) (h : Cn ts a b) : b < n := by
  induction h with
  | refl => exact ha
  | step _ j _ =>
    obtain ⟨p, hp, h | h⟩ := j
    · have := hW.pr p hp; omega
    · have := hW.pr p hp; omega
theorem Jn.tie {n : Nat} {ts : Prs} {b c : Nat} (hW : Wv n ts) (h : Jn ts b c) : ∃ (t : Nat) (p : Nat × Nat), ts[t]? = some p ∧ inc b p = true ∧ c = oth b p := by
  obtain ⟨p, hp, h⟩ := h
  obtain ⟨t, ht⟩ := List.getElem?_of_mem hp
  have := hW.pr p hp
  refine ⟨t, p, ht, ?_, ?_⟩
  · unfold inc
    simp only [Bool.or_eq_true, decide_eq_true_eq]
    omega
  · unfold oth
    omega
theorem Jn.of {n : Nat} {ts : Prs} {b t : Nat} {p : Nat × Nat} (hW : Wv n ts) (ht : ts[t]? = some p) (hi : inc b p = true) : Jn ts b (oth b p) := by
  have := hW.at_ ht
  unfold inc at hi
  simp only [Bool.or_eq_true, decide_eq_true_eq] at hi
  refine ⟨p, List.mem_of_getElem? ht, ?_⟩
  unfold oth
  omega
theorem actW_cn {n : Nat} {ts : Prs} {x t : Int} (hW : Wv n ts) (hx : 0 ≤ x) : Cn ts x.toNat (actW ts none x t).toNat := by
  unfold actW
  cases e : ts[t.toNat]? with
  | none => exact .refl
  | some p =>
    dsimp only
    split
    · rename_i hc
      rw [Int.toNat_natCast]
      exact Cn.refl.step (Jn.of hW e hc.1)
    · exact .refl
theorem path_cn {n : Nat} {ts : Prs} (hW : Wv n ts) : ∀ (r : List Int) (x : Int), 0 ≤ x ∧ x < (n : Int) → Cn ts x.toNat (path (actW ts none) x r).toNat
  | [], _, _ => .refl
  | t :: r, x, h => (actW_cn hW h.1).trans (path_cn hW r (actW ts none x t) (actW_rng hW h))
theorem cn_path {n : Nat} {ts : Prs} (hW : Wv n ts) {a b : Nat} (h : Cn ts a b) : ∃ r : List Int, (∀ e ∈ r, 0 ≤ e ∧ e < (ts.length : Int)) ∧ path (actW ts none) (a : Int) r = (b : Int) := by
  induction h with
  | refl => exact ⟨[], fun e he => (by cases he), rfl⟩
  | step _ j ih =>
    obtain ⟨r, h1, h2⟩ := ih
    obtain ⟨t, p, ht, hi, hc⟩ := j.tie hW
    refine ⟨r ++ [(t : Int)], fun e he => ?_, ?_⟩
    · rcases List.mem_append.mp he with he | he
      · exact h1 e he
      · have := lt_at ht
        rw [List.mem_singleton.mp he]; omega
    · rw [path_snoc, h2]
      unfold actW
      rw [Int.toNat_natCast, ht]
      dsimp only
      rw [Int.toNat_natCast, if_pos ⟨hi, by intro z; cases z⟩, ← hc]
/-- the part of a house, ascending -/
structure PartL (ts : Prs) (h : Nat) (ns : List Nat) : Prop where
  asc : ns.Pairwise (· < ·)
  mem : ∀ x, x ∈ ns ↔ Cn ts h x
theorem PartL.lt {n : Nat} {ts : Prs} {h : Nat} {ns : List Nat} (p : PartL ts h ns) (hW : Wv n ts) (hn : h < n) {x : Nat} (hx : x ∈ ns) : x < n := ((p.mem x).mp hx).lt hW hn
/-- the ties whose first house is among ns -/
def tInK (ts : Prs) (ns : List Nat) (k : Nat) : List Nat := ((ts.take k).zipIdx.filter fun q => decide (q.1.1 ∈ ns)).map (·.2)
def tIn (ts : Prs) (ns : List Nat) : List Nat := tInK ts ns ts.length
theorem tInK_succ {ts : Prs} {ns : List Nat} {k : Nat} {p : Nat × Nat} (e : ts[k]? = some p) : tInK ts ns (k + 1) = tInK ts ns k ++ if p.1 ∈ ns then [k] else [] := by
  have hk := lt_at e
  have hl : (ts.take k).length = k := by rw [List.length_take]; omega
  unfold tInK
  rw [take_succ e, List.zipIdx_append, hl, List.filter_append, List.map_append]
  congr 1
  show List.map _ (List.filter _ (List.zipIdx [p] (0 + k))) = _
  rw [Nat.zero_add]
  show List.map _ (List.filter _ [(p, k)]) = _
  rw [List.filter_cons]
  by_cases e2 : p.1 ∈ ns
  · rw [if_pos e2, if_pos (decide_eq_true e2)]; rfl
  · rw [if_neg e2, if_neg (by simpa using e2)]; rfl
theorem tInK_len (ts : Prs) (ns : List Nat) (k : Nat) : (tInK ts ns k).length ≤ ts.length := by
  unfold tInK
  rw [List.length_map]
  refine Nat.le_trans (List.length_filter_le _ _) ?_
  rw [List.length_zipIdx, List.length_take]; omega
theorem tIn_mem {ts : Prs} {ns : List Nat} {t : Nat} : t ∈ tIn ts ns ↔ ∃ p, ts[t]? = some p ∧ p.1 ∈ ns := by
  unfold tIn tInK
  rw [List.take_length, List.mem_map]
  constructor
  · rintro ⟨x, hx, e⟩
    obtain ⟨hx1, hx2⟩ := List.mem_filter.mp hx
    have hx1 := List.mem_zipIdx' hx1
    subst e
    exact ⟨x.1, by rw [List.getElem?_eq_getElem hx1.1]; exact congrArg some hx1.2.symm, of_decide_eq_true hx2⟩
  · rintro ⟨p, e1, e2⟩
    refine ⟨(p, t), List.mem_filter.mpr ⟨?_, decide_eq_true e2⟩, rfl⟩
    rw [List.mem_zipIdx_iff_getElem?]
    exact e1
def spPart (K : PySem.W.Frag) (W C : Addr) : Sp := fun vs H Q E => ∃ (w : Addr) (v : V) (o : Option (List V)) (n : Nat) (ts : Prs), vs = [.ref w, v] ∧ WebAt W H w n ts ∧ Wv n ts ∧ KV K H v o ∧ (belowB v (n : Int) = false → Rz C "house" v H E) ∧
  (∀ h : Nat, v = .int (h : Int) → h < n → ∀ ns p H', Same H H' → H' p = some (.tup (vn ns)) → PartL ts h ns → Q (.ref p) H')
def spTiesIn (K : PySem.W.Frag) (W : Addr) : Sp := fun vs H Q _ => ∃ (w p : Addr) (n : Nat) (ts : Prs) (ns : List Nat), vs = [.ref w, .ref p] ∧ WebAt W H w n ts ∧ Wv n ts ∧ SeqA H p (vn ns) ∧ ∀ l H', Same H H' → H l = none → H' l = some (.lst (vn (tIn ts ns))) → Q (.ref l) H'
section
variable {P : Program} {w : World} {K : PySem.W.Frag} {mg : Str → Option Value} {base : Heap}
theorem scPa : FnScope ["web", "house"] ["web", "house"] (defScope sPart) := ⟨rfl, rfl, rfl, by decide +kernel, rfl, by decide +kernel, by decide +kernel⟩
theorem ok_part {f fN fF W C : Addr} {fd fdN fdF : FuncData} (D : Df K mg "part_of" sPart ["web", "house"] f fd) (DN : Df K mg "need_house" sNeedH ["web", "house"] fN fdN) (DF : Df K mg "first_ways" sFWays ["web", "house", "barred"] fF fdF) (B : Bt mg)
    (GN : FnOk P w K mg base (L2.CX P w) 3 fN fdN ["web", "house"] (spNeedH K W C)) (GF : FnOk P w K mg base CX0 2 fF fdF ["web", "house", "barred"] (spFWays W)) : FnOk P w K mg base (L2.CX P w) 4 f fd ["web", "house"] (spPart K W C) := by
  refine D.F.okX scPa (fun vs H Q E h => ?_) (fun cdv A outer s H vs Q E hr h => ?_)
  · obtain ⟨w, v, o, n, ts, rfl, _⟩ := h
    rfl
  · obtain ⟨w, v, o, n, ts, rfl, hw, hW, kv, q1, q2⟩ := h
    refine ⟨_, pss_cons (ps_expr (pc DN GN hr (pass1 (takes_of rfl rfl rfl rfl)) (pa_cons (pv 0) (pa_cons (pv 1) pa_nil))))
      (pss_one (ps_ret (pe_callTy call_tuple_of (by rfl) B.tuple PyProof.Rows.boot_tuple (pa_cons (pe_callB (call_sortedDI rfl) (by rfl) B.sorted (by decide +kernel) (pa_cons (pc DF GF (hr.mono (by decide)) pass0 (pa_cons (pv 0) (pa_cons (pv 1) (pa_cons pe_non pa_nil)))) pa_nil)) pa_nil)))), ?_⟩
    refine ⟨_, rfl, _, rfl, w, v, o, n, ts, rfl, hw, kv, fun hb => ?_, fun hb => q1 hb⟩
    obtain ⟨h, rfl, hn⟩ : ∃ h : Nat, v = .int (h : Int) ∧ h < n := by
      cases v <;> first | (cases hb; done) | skip
      rename_i i
      have z : (decide (0 ≤ i) && decide (i < (n : Int))) = true := hb
      simp only [Bool.and_eq_true, decide_eq_true_eq] at z
      exact ⟨i.toNat, by congr 1; omega, by omega⟩
    refine ⟨_, rfl, _, rfl, w, n, ts, h, none, rfl, hw, hW, hn, fun d q0 F ps H1 s1 hd0 b fs fF => ?_⟩
    have n12 := hW.n12
    have hh : 0 ≤ (h : Int) ∧ (h : Int) < (n : Int) := by omega
    refine ⟨d, _, F.map (·.1), rfl, .inl b.hd, by rw [kvW_keys b.ln, List.map_map]; rfl, by rw [List.length_map]; omega, fun ys p hp asc np => ?_⟩
    refine ⟨p, _, rfl, .inl ⟨SqL.of upd_same, fun l hl => ?_⟩⟩
    have mem : ∀ y, y ∈ ys ↔ 0 ≤ y ∧ Cn ts h y.toNat := fun y => by
      rw [hp.mem_iff]
      constructor
      · intro hy
        obtain ⟨⟨x, r⟩, he, rfl⟩ := List.mem_map.mp hy
        obtain ⟨j, hj⟩ := List.getElem?_of_mem he
        obtain ⟨p1, p2, _⟩ := fs.pth j x r hj
        have := pathW_rng (bar := none) hW r _ hh
        have c := path_cn hW r (h : Int) hh
        rw [Int.toNat_natCast] at c
        rw [p1]
        exact ⟨this.1, c⟩
      · rintro ⟨y0, c⟩
        obtain ⟨r, r1, r2⟩ := cn_path hW c
        obtain ⟨j, r', e1, _⟩ := fs.all r r1
        rw [r2, show ((y.toNat : Nat) : Int) = y by omega] at e1
        exact List.mem_map.mpr ⟨_, List.mem_of_getElem? e1, rfl⟩
    have nd : ys.Nodup := hp.nodup_iff.mpr fs.nd
    have eys : ys.map V.int = vn (ys.map Int.toNat) := by
      unfold vn
      rw [List.map_map]
      refine List.map_congr_left fun y hy => ?_
      have := ((mem y).mp hy).1
      show V.int y = V.int ((y.toNat : Nat) : Int)
      congr 1; omega
    refine q2 h rfl hn (ys.map Int.toNat) l _ ((s1.trans (same_new np)).trans (same_new hl)) (by rw [upd_same, eys]) ⟨?_, fun x => ?_⟩
    · rw [List.pairwise_map]
      refine (asc.and nd).imp_of_mem fun {a b} ha hb hab => ?_
      have := ((mem a).mp ha).1
      have := ((mem b).mp hb).1
      have := hab.1
      have := hab.2
      omega
    · rw [List.mem_map]
      constructor
      · rintro ⟨y, hy, rfl⟩
        exact ((mem y).mp hy).2
      · intro c
        exact ⟨(x : Int), (mem _).mpr ⟨by omega, by rw [Int.toNat_natCast]; exact c⟩, Int.toNat_natCast x⟩
abbrev nTi : List Str := ["web", "part", "tie", "pair"]
theorem scTi : FnScope nTi ["web", "part"] (defScope sTiesIn) := ⟨rfl, rfl, rfl, by decide +kernel, rfl, by decide +kernel, by decide +kernel⟩
theorem ok_tiesIn {f W : Addr} {fd : FuncData} (D : Df K mg "ties_in" sTiesIn ["web", "part"] f fd) (B : Bt mg) (T : WcT K mg W) : FnOk P w K mg base CX0 1 f fd ["web", "part"] (spTiesIn K W) := by
  refine D.F.ok scTi (fun vs H Q E h => ?_) (fun cdv A outer s H vs Q E hr h => ?_)
  · obtain ⟨w, p, n, ts, ns, rfl, _⟩ := h
    rfl
  · obtain ⟨w, p, n, ts, ns, rfl, ⟨dx, ta, h1, tas, g1, g2⟩, hW, hp, q⟩ := h
    refine ⟨_, pss_one (ps_ret (pe_lc (own := [("tie", 2), ("pair", 3)]) (g := gTup K 2 (gCons (gName 2) (gCons (gName 3) gNil))) rfl scTi.nd (pi_enumA (by rfl) B.enumerate (pa_cons (pe_fld (pv 0) rfl) pa_nil)) (blkOk_by (N := nTi) (sc := defScope sTiesIn) (by decide +kernel))
      (fun _ _ _ _ _ => pg_tup rfl (pgs_cons (pg_name (i := 2) scTi.nd rfl (.inl rfl)) (pgs_cons (pg_name (i := 3) scTi.nd rfl (.inl rfl)) pgs_nil)))
      (fun _ _ _ _ _ => pts_one (pt_cmpR (opInK (K := K) rfl) (pe_ix (ixTK (K := K) rfl) (pv 3) pe_int (fun _ _ => rfl)) (pv 1) rfl))
      (fun _ _ _ _ _ => pv 2))), ?_⟩
    refine ⟨_, rfl, w, W, dx, _, _, rfl, h1, T.cl, T.nT, wf_t _ _, ta, rfl, .inr ⟨_, SqT.of g1, fun D0 hD0 => lc_enumT (K := K) (a := ta) (xs := tas.map V.ref)
      (fun i H2 => Same H H2 ∧ H2 D0 = some (.lst (vn (tInK ts ns i)))) ⟨same_new hD0, by rw [upd_same]; rfl⟩ (fun i H2 _ ⟨s2, _⟩ => SqT.of (s2 _ _ g1)) ?_ ?_⟩⟩
    · rintro i x T0 H2 hx hT0 ⟨s2, hD2⟩
      obtain ⟨a, t, rfl, ha, ht, hat⟩ := g2.get' hx
      have sT := same_new (o := HO.tup [.int (i : Nat), .ref a]) hT0
      have hat2 := sT _ _ (s2 _ _ hat)
      have hD2' := sT _ _ hD2
      have s2' := s2.trans sT
      have hT2 : (upd H2 T0 (.tup [.int (i : Nat), .ref a])) T0 = some (.tup [.int (i : Nat), .ref a]) := upd_same
      generalize upd H2 T0 (.tup [.int (i : Nat), .ref a]) = H3 at hat2 hD2' s2' hT2 ⊢
      refine ⟨T0, _, rfl, SqT.of hT2, rfl, _, _, rfl, _, _, rfl, rfl, rfl, ?_⟩
      have hp3 := hp.same s2'
      refine ⟨_, rfl, a, _, 0, .int (t.1 : Int), rfl, rfl, SqT.of hat2, atI_nat (j := 0) rfl, _, rfl, p, vn ns, rfl, hp3.elim (fun h => .inl (SqL.of h)) (fun h => .inr (SqT.of h)), rfl, flat_vn ns, _, rfl, ?_⟩
      rw [inV_vn]
      have ws := tInK_succ (ns := ns) ht
      have lw := tInK_len ts ns i
      have t20 := hW.t20
      refine ifD (fun e => ?_) fun e => ?_
      · replace e : t.1 ∈ ns := by simpa using e
        rw [if_pos e] at ws
        refine ⟨_, rfl, _, hD2', szl (by rw [vn_len]; omega), fun c o eo => ?_, ?_⟩
        · rw [upd_ne (ne_of_none eo hD0)]
          exact s2' _ _ eo
        · rw [upd_same, ws, vn, vn, List.map_append]; rfl
      · replace e : t.1 ∉ ns := by simpa using e
        rw [if_neg e, List.append_nil] at ws
        exact ⟨s2', by rw [ws]; exact hD2'⟩
    · rintro H2 ⟨s2, hD2⟩
      rw [List.length_map, g2.1] at hD2
      exact q D0 H2 s2 hD0 hD2
end
end K1
namespace K1
open PySem PySem.Spec PyProof.Rows L2
/-! ### numbers of counters -/
structure Cn2 (mg : Str → Option Value) : Prop where
  mod : ∃ t, mg "MOST_MODULUS" = some (.int 1000000 t)
  num : ∃ t, mg "MOST_NUMBER" = some (.int 1000000000000000000 t)
def modB : V → Bool | .int i => decide (0 ≤ i) && decide (i < 1000001) && !decide (i = 1) | _ => false
def amtB : V → Bool | .int i => decide (-1000000000000000000 ≤ i) && decide (i ≤ 1000000000000000000) | _ => false
def cntB (m : Int) (v : V) : Bool := if m = 0 then amtB v else belowB v m
def cofB (m k : Int) (o : Option (List V)) : Bool := seqB o k k && (o.getD []).all (cntB m)
def cby (m x : Int) : Int := if m = 0 then x else x % m
def spNeedM (K : PySem.W.Frag) (C : Addr) : Sp := fun vs H Q E => ∃ v o, vs = [v] ∧ KV K H v o ∧ (modB v = true → Q v H) ∧ (modB v = false → Rz C "at" v H E)
def spAmt (K : PySem.W.Frag) : Sp := fun vs H Q _ => ∃ v o, vs = [v] ∧ KV K H v o ∧ Q (.bl (amtB v)) H
def spIsCnt (K : PySem.W.Frag) : Sp := fun vs H Q _ => ∃ m v o, vs = [.int m, v] ∧ KV K H v o ∧ Q (.bl (cntB m v)) H
def spCOf (K : PySem.W.Frag) (C : Addr) : Sp := fun vs H Q E => ∃ (m : Int) (k : Int) (v : V) (o : Option (List V)), vs = [.int m, .int k, v] ∧ k ≤ 1000 ∧ Rw K H v o ∧ (cofB m k o = false → Rz C "at" v H E) ∧ (cofB m k o = true → ∀ xs, o = some xs → ∀ p H', Same H H' → H' p = some (.tup xs) → Q (.ref p) H')
def spCBy : Sp := fun vs H Q _ => ∃ (m x : Int), vs = [.int m, .int x] ∧ 0 ≤ m ∧ Q (.int (cby m x)) H
section
variable {P : Program} {w : World} {K : PySem.W.Frag} {mg : Str → Option Value} {base : Heap}
theorem scNM : FnScope ["value"] ["value"] (defScope sNeedM) := ⟨rfl, rfl, rfl, by decide +kernel, rfl, by decide +kernel, by decide +kernel⟩
theorem ok_needM {f fB C cI : Addr} {fd fdB : FuncData} {bm : List Value} {ql : Str} (D : Df K mg "need_modulus" sNeedM ["value"] f fd) (DB : Df K mg "is_below" sBelow ["value", "limit"] fB fdB) (c : Cn2 mg) (TX : LAt.Txt K mg "Refused" ql bm C cI)
    (GB : FnOk P w K mg base CX0 2 fB fdB ["value", "limit"] (spBelow K)) : FnOk P w K mg base (L2.CX P w) 3 f fd ["value"] (spNeedM K C) := by
  obtain ⟨t1, hc1⟩ := c.mod
  refine D.F.okX scNM (fun vs H Q E h => ?_) (fun cdv A outer s H vs Q E hr h => ?_)
  · obtain ⟨v, o, rfl, _⟩ := h
    rfl
  · obtain ⟨v, o, rfl, kv, q1, q2⟩ := h
    refine ⟨_, pss_cons (ps_if (PW.pt (pw_or (pt_not (pt_val (pc DB GB hr pass0 (pa_cons (pv 0) (pa_cons (pe_op op_add (pe_glob (v := .int 1000000) (by rfl) hc1 ⟨_, rfl⟩) pe_int) pa_nil))))) (pw_or1 (pt_cmpR op_eq (pv 0) pe_int (nomark _))))) (pss_one (ps_raise_LAt rfl TX hr (takes_of rfl rfl rfl rfl) (pa_cons (pv 0) pa_nil))) pss_nil) (pss_one (ps_ret (pv 0))), ?_⟩
    refine ⟨_, rfl, _, _, rfl, rfl, v, o, _, rfl, kv, _, rfl, ifD (fun e => ?_) fun e => ?_⟩
    · refine iteT ⟨_, rfl, _, rfl, fun d hd => q2 ?_ d _ (same_new hd) hd upd_same⟩
      replace e : belowB v 1000001 = false := by simpa using e
      cases v <;> first | rfl | skip
      rename_i i
      have e' : (decide (0 ≤ i) && decide (i < 1000001)) = false := e
      show (decide (0 ≤ i) && decide (i < 1000001) && !decide (i = 1)) = false
      rw [e']; rfl
    · replace e : belowB v 1000001 = true := by simpa using e
      obtain ⟨i, rfl⟩ : ∃ i, v = .int i := by
        cases v <;> first | exact ⟨_, rfl⟩ | cases e
      have e' : (decide (0 ≤ i) && decide (i < 1000001)) = true := e
      refine ⟨_, rfl, rfl, _, rfl, ifD (fun e2 => ?_) fun e2 => ?_⟩
      · refine ⟨_, rfl, _, rfl, fun d hd => q2 ?_ d _ (same_new hd) hd upd_same⟩
        show (decide (0 ≤ i) && decide (i < 1000001) && !decide (i = 1)) = false
        have e3 : i = 1 := by
          have z : V.int i = V.int 1 := of_decide_eq_true e2
          injection z
        rw [e', decide_eq_true e3]; rfl
      · refine ⟨_, rfl, q1 ?_⟩
        show (decide (0 ≤ i) && decide (i < 1000001) && !decide (i = 1)) = true
        have e3 : ¬ i = 1 := fun z => by
          have y : ¬ (V.int i = V.int 1) := of_decide_eq_false e2
          exact y (by rw [z])
        rw [e', decide_eq_false e3]; rfl
theorem scAm : FnScope ["value"] ["value"] (defScope sAmt) := ⟨rfl, rfl, rfl, by decide +kernel, rfl, by decide +kernel, by decide +kernel⟩
theorem ok_amt {f fW : Addr} {fd fdW : FuncData} (D : Df K mg "is_amount" sAmt ["value"] f fd) (DW : Df K mg "is_whole" sWhole ["value"] fW fdW) (c : Cn2 mg) (GW : FnOk P w K mg base CX0 1 fW fdW ["value"] (spWhole K)) : FnOk P w K mg base CX0 2 f fd ["value"] (spAmt K) := by
  obtain ⟨t1, hc1⟩ := c.num
  refine D.F.ok scAm (fun vs H Q E h => ?_) (fun cdv A outer s H vs Q E hr h => ?_)
  · obtain ⟨v, o, rfl, _⟩ := h
    rfl
  · obtain ⟨v, o, rfl, kv, q⟩ := h
    refine ⟨_, pss_one (ps_ret (pe_and (pc DW GW hr pass0 (pa_cons (pv 0) pa_nil)) (pe_one (pe_chain op_le op_le (pe_un un_neg (pe_glob (v := .int 1000000000000000000) (by rfl) hc1 ⟨_, rfl⟩)) (pv 0) (pe_glob (v := .int 1000000000000000000) (by rfl) hc1 ⟨_, rfl⟩))))), ?_⟩
    refine ⟨_, rfl, _, _, rfl, kv, _, rfl, ifD (fun e => ?_) fun e => ?_⟩
    · obtain ⟨i, rfl⟩ : ∃ i, v = .int i := by
        cases v <;> first | exact ⟨_, rfl⟩ | cases e
      refine ⟨_, rfl, _, rfl, _, _, rfl, rfl, _, rfl, ifD (fun e2 => ?_) fun e2 => ?_⟩
      · refine ⟨_, _, rfl, rfl, ?_⟩
        have z : decide (i ≤ 1000000000000000000) = amtB (.int i) := by
          show _ = (decide (-1000000000000000000 ≤ i) && decide (i ≤ 1000000000000000000))
          rw [e2]; rfl
        exact qbl z q
      · have z : false = amtB (.int i) := by
          show _ = (decide (-1000000000000000000 ≤ i) && decide (i ≤ 1000000000000000000))
          rw [e2]; rfl
        exact qbl z q
    · have z : false = amtB v := by cases v <;> first | rfl | cases e
      exact qbl z q
theorem scIC : FnScope ["modulus", "value"] ["modulus", "value"] (defScope sIsCnt) := ⟨rfl, rfl, rfl, by decide +kernel, rfl, by decide +kernel, by decide +kernel⟩
theorem ok_isCnt {f fA fB : Addr} {fd fdA fdB : FuncData} (D : Df K mg "is_counter" sIsCnt ["modulus", "value"] f fd) (DA : Df K mg "is_amount" sAmt ["value"] fA fdA) (DB : Df K mg "is_below" sBelow ["value", "limit"] fB fdB)
    (GA : FnOk P w K mg base CX0 2 fA fdA ["value"] (spAmt K)) (GB : FnOk P w K mg base CX0 2 fB fdB ["value", "limit"] (spBelow K)) : FnOk P w K mg base CX0 3 f fd ["modulus", "value"] (spIsCnt K) := by
  refine D.F.ok scIC (fun vs H Q E h => ?_) (fun cdv A outer s H vs Q E hr h => ?_)
  · obtain ⟨m, v, o, rfl, _⟩ := h
    rfl
  · obtain ⟨m, v, o, rfl, kv, q⟩ := h
    refine ⟨_, pss_one (ps_ret (pe_ifExp (pt_cmpR op_eq (pv 0) pe_int (nomark _)) (pc DA GA hr pass0 (pa_cons (pv 1) pa_nil)) (pc DB GB hr pass0 (pa_cons (pv 1) (pa_cons (pv 0) pa_nil))))), ?_⟩
    refine ⟨_, rfl, rfl, _, rfl, ifD (fun e => ?_) fun e => ?_⟩
    · have e3 : m = 0 := by
        have z : V.int m = V.int 0 := of_decide_eq_true e
        injection z
      refine ⟨_, rfl, v, o, rfl, kv, qbl ?_ q⟩
      unfold cntB
      rw [if_pos e3]
    · have e3 : ¬ m = 0 := fun z => by
        have y : ¬ (V.int m = V.int 0) := of_decide_eq_false e
        exact y (by rw [z])
      refine ⟨_, rfl, _, rfl, v, o, m, rfl, kv, qbl ?_ q⟩
      unfold cntB
      rw [if_neg e3]
theorem scCB : FnScope ["modulus", "number"] ["modulus", "number"] (defScope sCBy) := ⟨rfl, rfl, rfl, by decide +kernel, rfl, by decide +kernel, by decide +kernel⟩
theorem ok_cby {f : Addr} {fd : FuncData} (D : Df K mg "counted_by" sCBy ["modulus", "number"] f fd) : FnOk P w K mg base CX0 1 f fd ["modulus", "number"] spCBy := by
  refine D.F.ok scCB (fun vs H Q E h => ?_) (fun cdv A outer s H vs Q E hr h => ?_)
  · obtain ⟨m, x, rfl, _⟩ := h
    rfl
  · obtain ⟨m, x, rfl, h0, q⟩ := h
    refine ⟨_, pss_one (ps_ret (pe_ifExp (pt_cmpR op_eq (pv 0) pe_int (nomark _)) (pv 1) (pe_op op_mod (pv 1) (pv 0)))), ?_⟩
    refine ⟨_, rfl, rfl, _, rfl, ifD (fun e => ?_) fun e => ?_⟩
    · have e3 : m = 0 := by
        have z : V.int m = V.int 0 := of_decide_eq_true e
        injection z
      refine ⟨_, rfl, ?_⟩
      unfold cby at q
      rw [if_pos e3] at q
      exact q
    · have e3 : ¬ m = 0 := fun z => by
        have y : ¬ (V.int m = V.int 0) := of_decide_eq_false e
        exact y (by rw [z])
      unfold cby at q
      rw [if_neg e3] at q
      exact ⟨_, rfl, _, rfl, _, _, rfl, rfl, by omega, q⟩
abbrev nCO : List Str := ["modulus", "many", "value", "item"]
theorem scCO : FnScope nCO ["modulus", "many", "value"] (defScope sCOf) := ⟨rfl, rfl, rfl, by decide +kernel, rfl, by decide +kernel, by decide +kernel⟩
theorem ok_cof {f fS fI C cI : Addr} {fd fdS fdI : FuncData} {bm : List Value} {ql : Str} (D : Df K mg "counters_of" sCOf ["modulus", "many", "value"] f fd) (DS : Df K mg "is_sequence" sSeq ["value", "least", "most"] fS fdS) (DI : Df K mg "is_counter" sIsCnt ["modulus", "value"] fI fdI) (B : Bt mg) (TX : LAt.Txt K mg "Refused" ql bm C cI)
    (GS : FnOk P w K mg base CX0 1 fS fdS ["value", "least", "most"] (spSeq K)) (GI : FnOk P w K mg base CX0 3 fI fdI ["modulus", "value"] (spIsCnt K)) : FnOk P w K mg base (L2.CX P w) 4 f fd ["modulus", "many", "value"] (spCOf K C) := by
  refine D.F.okX scCO (fun vs H Q E h => ?_) (fun cdv A outer s H vs Q E hr h => ?_)
  · obtain ⟨m, k, v, o, rfl, _⟩ := h
    rfl
  · obtain ⟨m, k, v, o, rfl, k1000, rw_, q1, q2⟩ := h
    refine ⟨_, pss_cons (ps_if (PW.pt (pw_or (pt_not (pt_val (pc DS GS (hr.mono (by decide)) pass0 (pa_cons (pv 2) (pa_cons (pv 1) (pa_cons (pv 1) pa_nil)))))) (pw_or1 (pt_not (pt_val (pe_callB (cr_all rfl) (by rfl) B.all (by decide +kernel) (pa_cons
        (pe_lc (own := [("item", 3)]) (g := gName 3) (tt := tYes) rfl scCO.nd (pi_seqK (K := K) rfl (pv 2)) (blkOk_by (N := nCO) (sc := defScope sCOf) (by decide +kernel)) (fun _ _ _ _ _ => pg_name (i := 3) scCO.nd rfl (Or.inl rfl)) (fun _ _ _ _ _ => pts_nil)
          (fun _ _ _ _ _ => pc DI GI hr pass0 (pa_cons (pv 0) (pa_cons (pv 3) pa_nil)))) pa_nil))))))) (pss_one (ps_raise_LAt rfl TX hr (takes_of rfl rfl rfl rfl) (pa_cons (pv 2) pa_nil))) pss_nil)
      (pss_one (ps_ret (pe_callTy call_tuple_of (by rfl) B.tuple PyProof.Rows.boot_tuple (pa_cons (pv 2) pa_nil)))), ?_⟩
    refine ⟨_, rfl, _, rfl, _, rfl, v, o, k, k, rfl, rw_.kv, fun H1 s1 => ⟨_, rfl, ifD (fun e => ?_) fun e => ?_⟩⟩
    · replace e : seqB o k k = false := by simpa using e
      have z : cofB m k o = false := by unfold cofB; rw [e]; rfl
      exact iteT ⟨_, rfl, _, rfl, fun d hd => q1 z d _ (s1.trans (same_new hd)) (s1.free hd) upd_same⟩
    · replace e : seqB o k k = true := by simpa using e
      cases o with
      | none => cases e
      | some xs =>
        obtain ⟨a, rfl, hS⟩ := rw_.kv.seqA
        have hks := rw_.ks xs rfl
        have hl : xs.length ≤ 1000 := by
          have z : (decide (k ≤ (xs.length : Int)) && decide ((xs.length : Int) ≤ k)) = true := e
          simp only [Bool.and_eq_true, decide_eq_true_eq] at z
          omega
        have eall : cofB m k (some xs) = (xs.map (cntB m)).all id := by
          unfold cofB
          rw [e, Bool.true_and, List.all_map]; rfl
        have emap : (xs.map fun x => V.bl (cntB m x)) = (xs.map (cntB m)).map V.bl := by rw [List.map_map]; rfl
        refine ⟨_, rfl, a, rfl, ?_⟩
        rcases hS.same s1 with hS1 | hS1
        · refine .inl ⟨xs, SqL.of hS1, fun D0 hD0 => lc_list (K := K) (a := a) (xs := xs) (fun i H2 => Same H1 H2 ∧ H2 D0 = some (.lst ((xs.map fun x => V.bl (cntB m x)).take i))) ⟨same_new hD0, by rw [upd_same]; rfl⟩ (fun i H2 _ ⟨s2, _⟩ => SqL.of (s2 _ _ hS1)) ?_ ?_⟩
          · rintro i x H2 hx ⟨s2, hD⟩
            obtain ⟨o', kv'⟩ := hks x (List.mem_of_getElem? hx)
            refine ⟨rfl, _, rfl, _, rfl, m, x, o', rfl, kv'.same (s1.trans s2), _, hD, szl (by rw [List.length_take, List.length_map]; omega), fun c o e => ?_, ?_⟩
            · rw [upd_ne (ne_of_none e hD0)]
              exact s2 _ _ e
            · rw [upd_same, take_succ (map_at hx)]
          · rintro H2 ⟨s2, hD⟩
            rw [List.take_of_length_le (by rw [List.length_map]; exact Nat.le_refl _), emap] at hD
            refine ⟨D0, xs.map (cntB m), rfl, SqL.of hD, _, rfl, ?_⟩
            rw [← eall]
            refine ifD (fun e2 => ?_) fun e2 => ?_
            · have z : cofB m k (some xs) = false := by simpa using e2
              exact ⟨_, rfl, _, rfl, fun d hd => q1 z d _ ((s1.trans s2).trans (same_new hd)) ((s1.trans s2).free hd) upd_same⟩
            · have z : cofB m k (some xs) = true := by simpa using e2
              exact ⟨_, rfl, a, xs, rfl, .inl ⟨SqL.of (s2 _ _ hS1), fun l hl => q2 z xs rfl l _ ((s1.trans s2).trans (same_new hl)) upd_same⟩⟩
        · refine .inr ⟨xs, SqT.of hS1, fun D0 hD0 => lc_tup (K := K) (a := a) (xs := xs) (fun i H2 => Same H1 H2 ∧ H2 D0 = some (.lst ((xs.map fun x => V.bl (cntB m x)).take i))) ⟨same_new hD0, by rw [upd_same]; rfl⟩ (fun i H2 _ ⟨s2, _⟩ => SqT.of (s2 _ _ hS1)) ?_ ?_⟩
          · rintro i x H2 hx ⟨s2, hD⟩
            obtain ⟨o', kv'⟩ := hks x (List.mem_of_getElem? hx)
            refine ⟨rfl, _, rfl, _, rfl, m, x, o', rfl, kv'.same (s1.trans s2), _, hD, szl (by rw [List.length_take, List.length_map]; omega), fun c o e => ?_, ?_⟩
            · rw [upd_ne (ne_of_none e hD0)]
              exact s2 _ _ e
            · rw [upd_same, take_succ (map_at hx)]
          · rintro H2 ⟨s2, hD⟩
            rw [List.take_of_length_le (by rw [List.length_map]; exact Nat.le_refl _), emap] at hD
            refine ⟨D0, xs.map (cntB m), rfl, SqL.of hD, _, rfl, ?_⟩
            rw [← eall]
            refine ifD (fun e2 => ?_) fun e2 => ?_
            · have z : cofB m k (some xs) = false := by simpa using e2
              exact ⟨_, rfl, _, rfl, fun d hd => q1 z d _ ((s1.trans s2).trans (same_new hd)) ((s1.trans s2).free hd) upd_same⟩
            · have z : cofB m k (some xs) = true := by simpa using e2
              exact ⟨_, rfl, a, xs, rfl, .inr ⟨SqT.of (s2 _ _ hS1), q2 z xs rfl a _ (s1.trans s2) (s2 _ _ hS1)⟩⟩
end
end K1
namespace K1
open PySem PySem.Spec PyProof.Rows L2
/-! ### nets of counters -/
def nf (m : Int) (sa aa w : Addr) : List (Str × V) := [("modulus", .int m), ("states", .ref sa), ("archives", .ref aa), ("web", .ref w)]
theorem nf_m (m : Int) (sa aa w : Addr) : (nf m sa aa w).lookup ("modulus" : Str) = some (.int m) := by rfl
theorem nf_s (m : Int) (sa aa w : Addr) : (nf m sa aa w).lookup ("states" : Str) = some (.ref sa) := by rfl
theorem nf_a (m : Int) (sa aa w : Addr) : (nf m sa aa w).lookup ("archives" : Str) = some (.ref aa) := by rfl
theorem nf_w (m : Int) (sa aa w : Addr) : (nf m sa aa w).lookup ("web" : Str) = some (.ref w) := by rfl
theorem nf_ps (m : Int) (sa aa w x : Addr) : putF ("states" : Str) (.ref x) (nf m sa aa w) = nf m x aa w := by rfl
theorem nf_pa (m : Int) (sa aa w x : Addr) : putF ("archives" : Str) (.ref x) (nf m sa aa w) = nf m sa x w := by rfl
structure NetAt (N W : Addr) (H : Hp) (c : Addr) (m : Int) (ss ar : List Int) (w : Addr) (n : Nat) (ts : Prs) : Prop where
  ob : ∃ dx sa aa, H c = some (.ins N dx (nf m sa aa w)) ∧ H sa = some (.tup (vrow ss)) ∧ H aa = some (.tup (vrow ar))
  wb : WebAt W H w n ts
  ls : ss.length = n
  la : ar.length = ts.length
  m0 : 0 ≤ m
theorem NetAt.same {N W : Addr} {H H' : Hp} {c : Addr} {m : Int} {ss ar : List Int} {w : Addr} {n : Nat} {ts : Prs} (h : NetAt N W H c m ss ar w n ts) (s : Same H H') : NetAt N W H' c m ss ar w n ts :=
  ⟨let ⟨dx, sa, aa, h1, h2, h3⟩ := h.ob; ⟨dx, sa, aa, s _ _ h1, s _ _ h2, s _ _ h3⟩, h.wb.same s, h.ls, h.la, h.m0⟩
structure NcT (K : PySem.W.Frag) (mg : Str → Option Value) (N : Addr) : Prop where
  cl : Cls K N
  nM : NoAttr K N "modulus"
  nS : NoAttr K N "states"
  nA : NoAttr K N "archives"
  nW : NoAttr K N "web"
  g : mg "CounterNet" = some (.ref N)
/-- all stands but c -/
def But (c : Addr) (H H' : Hp) : Prop := ∀ b u, H b = some u → b ≠ c → H' b = some u
theorem But.refl {c : Addr} {H : Hp} : But c H H := fun _ _ e _ => e
theorem But.trans {c : Addr} {H H1 H2 : Hp} (a : But c H H1) (b : But c H1 H2) : But c H H2 := fun d u e n => b d u (a d u e n) n
theorem But.same {c : Addr} {H H1 H2 : Hp} (a : But c H H1) (s : Same H1 H2) : But c H H2 := fun d u e n => s _ _ (a d u e n)
theorem Same.but {c : Addr} {H H1 : Hp} (s : Same H H1) : But c H H1 := fun d u e _ => s _ _ e
theorem But.upd {c : Addr} {H : Hp} {o : HO} : But c H (upd H c o) := fun d u e n => by rw [upd_ne n]; exact e
theorem But.put {c : Addr} {H H' : Hp} {o : HO} (s : Same H H') : But c H (L2.upd H' c o) := fun d u e n => by rw [upd_ne n]; exact s _ _ e
/-- a web's things are no net -/
theorem WebAt.but {N W : Addr} {H H' : Hp} {c w : Addr} {n : Nat} {ts : Prs} {dx : Addr} {fs : List (Str × V)} (h : WebAt W H w n ts) (hc : H c = some (.ins N dx fs)) (nw : w ≠ c) (b : But c H H') : WebAt W H' w n ts := by
  obtain ⟨dx', ta, h1, as, h2, h3⟩ := h
  have nt : ∀ {a : Addr} {xs : List V}, H a = some (.tup xs) → a ≠ c := fun e z => by rw [z, hc] at e; cases e
  exact ⟨dx', ta, b _ _ h1 nw, as, b _ _ h2 (nt h2), h3.1, fun i a t e1 e2 => b _ _ (h3.2 i a t e1 e2) (nt (h3.2 i a t e1 e2))⟩
/-- an error, all but c as it was -/
def Rzx (C c : Addr) (f : Str) (v : V) (H : Hp) (E : XK) : Prop := ∀ d H', But c H H' → H d = none → H' d = some (.xd [(f, v)]) → E (.ref C) (some d) H'
def spCInit (K : PySem.W.Frag) (N W C : Addr) : Sp := fun vs H Q E => ∃ (c dx w : Addr) (vm vst va : V) (om o1 o2 : Option (List V)) (n : Nat) (ts : Prs), vs = [.ref c, .ref w, vm, vst, va] ∧ H c = some (.ins N dx []) ∧ WebAt W H w n ts ∧ w ≠ c ∧ Wv n ts ∧ KV K H vm om ∧ Rw K H vst o1 ∧ Rw K H va o2 ∧
  (modB vm = false → Rzx C c "at" vm H E) ∧ (∀ m, vm = .int m → modB vm = true → (cofB m n o1 = false → Rzx C c "at" vst H E) ∧ (cofB m n o1 = true → (cofB m ts.length o2 = false → Rzx C c "at" va H E) ∧
    (cofB m ts.length o2 = true → ∀ ss ar, o1 = some (vrow ss) → o2 = some (vrow ar) → ∀ H', But c H H' → NetAt N W H' c m ss ar w n ts → Q .non H')))
def spDo (K : PySem.W.Frag) (N W CH CR : Addr) : Sp := fun vs H Q E => ∃ (c w : Addr) (v a : V) (o1 o2 : Option (List V)) (m : Int) (ss ar : List Int) (n : Nat) (ts : Prs), vs = [.ref c, v, a] ∧ NetAt N W H c m ss ar w n ts ∧ w ≠ c ∧ Wv n ts ∧ KV K H v o1 ∧ KV K H a o2 ∧
  (belowB v (n : Int) = false → Rz CH "house" v H E) ∧ (∀ h : Nat, v = .int (h : Int) → h < n → (amtB a = false → Rz CR "at" a H E) ∧ (∀ i, a = .int i → amtB a = true → ∀ H', But c H H' → NetAt N W H' c m (ss.set h (cby m (ss.getD h 0 + i))) ar w n ts → Q (.int (cby m (ss.getD h 0 + i))) H'))
def metN (m : Int) (ss ar : List Int) (p : Nat × Nat) (t : Nat) : Int := cby m (ss.getD p.1 0 + ss.getD p.2 0 - ar.getD t 0)
def spMeet (K : PySem.W.Frag) (N W CT : Addr) : Sp := fun vs H Q E => ∃ (c w : Addr) (v : V) (o1 : Option (List V)) (m : Int) (ss ar : List Int) (n : Nat) (ts : Prs), vs = [.ref c, v] ∧ NetAt N W H c m ss ar w n ts ∧ w ≠ c ∧ Wv n ts ∧ KV K H v o1 ∧
  (belowB v (ts.length : Int) = false → Rz CT "tie" v H E) ∧ (∀ (t : Nat) p, v = .int (t : Int) → ts[t]? = some p → ∀ H', But c H H' → NetAt N W H' c m ((ss.set p.1 (metN m ss ar p t)).set p.2 (metN m ss ar p t)) (ar.set t (metN m ss ar p t)) w n ts → Q (.int (metN m ss ar p t)) H')
def bookN (m : Int) (ss ar : List Int) (ts : Prs) (ns : List Nat) : Int := cby m ((ns.map fun x => ss.getD x 0).sum - ((tIn ts ns).map fun t => ar.getD t 0).sum)
def spBook (K : PySem.W.Frag) (N W CH : Addr) : Sp := fun vs H Q E => ∃ (c w : Addr) (v : V) (o1 : Option (List V)) (m : Int) (ss ar : List Int) (n : Nat) (ts : Prs), vs = [.ref c, v] ∧ NetAt N W H c m ss ar w n ts ∧ Wv n ts ∧ KV K H v o1 ∧
  (belowB v (n : Int) = false → Rz CH "house" v H E) ∧ (∀ h : Nat, v = .int (h : Int) → h < n → ∀ ns H', Same H H' → PartL ts h ns → Q (.int (bookN m ss ar ts ns)) H')
theorem below_nat {v : V} {n : Nat} (hb : belowB v (n : Int) = true) : ∃ h : Nat, v = .int (h : Int) ∧ h < n := by
  cases v <;> first | (cases hb; done) | skip
  rename_i i
  have z : (decide (0 ≤ i) && decide (i < (n : Int))) = true := hb
  simp only [Bool.and_eq_true, decide_eq_true_eq] at z
  exact ⟨i.toNat, by congr 1; omega, by omega⟩
theorem NetAt.upd {N W : Addr} {H H' : Hp} {c w dx sa aa : Addr} {m : Int} {ss ar ss' ar' : List Int} {n : Nat} {ts : Prs} (h : NetAt N W H c m ss ar w n ts) (nw : w ≠ c) (s : Same H H') (h1 : H' sa = some (.tup (vrow ss'))) (h2 : H' aa = some (.tup (vrow ar'))) (l1 : ss'.length = n) (l2 : ar'.length = ts.length) :
    NetAt N W (L2.upd H' c (.ins N dx (nf m sa aa w))) c m ss' ar' w n ts := by
  obtain ⟨dx0, sa0, aa0, g1, g2, g3⟩ := h.ob
  have g1' := s _ _ g1
  have nt : ∀ {a : Addr} {xs : List V}, H' a = some (.tup xs) → a ≠ c := fun e z => by rw [z, g1'] at e; cases e
  exact ⟨⟨dx, sa, aa, upd_same, by rw [upd_ne (nt h1)]; exact h1, by rw [upd_ne (nt h2)]; exact h2⟩, (h.wb.same s).but g1' nw But.upd, l1, l2, h.m0⟩
section
variable {P : Program} {w : World} {K : PySem.W.Frag} {mg : Str → Option Value} {base : Heap}
theorem cof_ints {m k : Int} {xs : List V} (h : cofB m k (some xs) = true) : ∃ ss : List Int, xs = vrow ss ∧ (ss.length : Int) = k := by
  unfold cofB at h
  simp only [Bool.and_eq_true, Option.getD_some, List.all_eq_true] at h
  obtain ⟨h1, h2⟩ := h
  have z : (decide (k ≤ (xs.length : Int)) && decide ((xs.length : Int) ≤ k)) = true := h1
  simp only [Bool.and_eq_true, decide_eq_true_eq] at z
  have key : ∀ ys : List V, (∀ x ∈ ys, cntB m x = true) → ∃ ss : List Int, ys = vrow ss := fun ys => by
    induction ys with
    | nil => intro _; exact ⟨[], rfl⟩
    | cons y r ih =>
      intro hy
      obtain ⟨ss, rfl⟩ := ih fun x hx => hy x (List.mem_cons_of_mem _ hx)
      have hc := hy y List.mem_cons_self
      obtain ⟨i, rfl⟩ : ∃ i, y = .int i := by
        unfold cntB at hc
        cases y <;> first | exact ⟨_, rfl⟩ | skip
        all_goals (split at hc <;> cases hc)
      exact ⟨i :: ss, rfl⟩
  obtain ⟨ss, rfl⟩ := key xs h2
  rw [vrow_len] at z
  exact ⟨ss, rfl, by omega⟩
theorem scCI : FnScope ["self", "web", "modulus", "states", "archives"] ["self", "web", "modulus", "states", "archives"] (defScope sCInit) := ⟨rfl, rfl, rfl, by decide +kernel, rfl, by decide +kernel, by decide +kernel⟩
theorem ok_cinit {f fM fO C W N : Addr} {fd fdM fdO : FuncData} (F : Fun K "__init__" "CounterNet.__init__" sCInit f fd) (DM : Df K mg "need_modulus" sNeedM ["value"] fM fdM) (DO : Df K mg "counters_of" sCOf ["modulus", "many", "value"] fO fdO) (B : Bt mg) (T : NcT K mg N) (TW : WcT K mg W)
    (GM : FnOk P w K mg base (L2.CX P w) 3 fM fdM ["value"] (spNeedM K C)) (GO : FnOk P w K mg base (L2.CX P w) 4 fO fdO ["modulus", "many", "value"] (spCOf K C)) : FnOk P w K mg base (L2.CX P w) 5 f fd ["self", "web", "modulus", "states", "archives"] (spCInit K N W C) := by
  refine F.okX scCI (fun vs H Q E h => ?_) (fun cdv A outer s H vs Q E hr h => ?_)
  · obtain ⟨c, dx, w, vm, vst, va, om, o1, o2, n, ts, rfl, _⟩ := h
    rfl
  · obtain ⟨c, dx, w, vm, vst, va, om, o1, o2, n, ts, rfl, hc, hw, nw, hW, kvm, r1, r2, q1, q2⟩ := h
    refine ⟨_, pss_cons (ps_fld (pv 0) (pc DM GM (hr.mono (by decide)) (pass1 (takes_of rfl rfl rfl rfl)) (pa_cons (pv 2) pa_nil)) rfl)
      (pss_cons (ps_fld (pv 0) (pc DO GO hr (pass1 (takes_of rfl rfl rfl rfl)) (pa_cons (pv 2) (pa_cons (pe_fld (pv 1) rfl) (pa_cons (pv 3) pa_nil)))) rfl)
      (pss_cons (ps_fld (pv 0) (pc DO GO hr (pass1 (takes_of rfl rfl rfl rfl)) (pa_cons (pv 2) (pa_cons (pe_callB call_len_seq (by rfl) B.len PySem.boot_len (pa_cons (pe_fld (pv 1) rfl) pa_nil)) (pa_cons (pv 4) pa_nil)))) rfl)
      (pss_one (ps_fld (pv 0) (pv 1) rfl)))), ?_⟩
    have n12 := hW.n12
    have t20 := hW.t20
    refine ⟨_, rfl, vm, om, rfl, kvm, fun hm => ?_, fun hm d H' sm hd he => q1 hm d H' (Same.but sm) hd he⟩
    obtain ⟨m, rfl⟩ : ∃ m, vm = .int m := by
      cases vm <;> first | exact ⟨_, rfl⟩ | cases hm
    have m0 : 0 ≤ m := by
      have z : (decide (0 ≤ m) && decide (m < 1000001) && !decide (m = 1)) = true := hm
      simp only [Bool.and_eq_true, decide_eq_true_eq] at z
      exact z.1.1
    obtain ⟨qa, qb⟩ := q2 m rfl hm
    refine ⟨_, rfl, c, N, dx, [], rfl, hc, T.cl, T.nM, (by show 0 < 1000; decide), ?_⟩
    have hc1 : (upd H c (.ins N dx (putF "modulus" (.int m) []))) c = some (.ins N dx (putF "modulus" (.int m) [])) := upd_same
    have b1 : But c H (upd H c (.ins N dx (putF "modulus" (.int m) []))) := But.upd
    generalize upd H c (.ins N dx (putF "modulus" (.int m) [])) = H1 at hc1 b1 ⊢
    have nc : ∀ {a : Addr} {o : HO}, H a = some o → (∀ dx fs, o ≠ .ins N dx fs) → a ≠ c := fun e ne z => by
      rw [z, hc] at e
      exact ne _ _ (Option.some.inj e).symm
    have hw1 := hw.but hc nw b1
    have kv1 : ∀ {v : V} {o : Option (List V)}, Rw K H v o → Rw K H1 v o := fun {v o} r => by
      have kk : ∀ {v : V} {o : Option (List V)}, KV K H v o → KV K H1 v o := fun {v o} k => by
        cases k with
        | int i => exact .int i
        | bl b => exact .bl b
        | non => exact .non
        | str x => exact .str x
        | lst h => exact .lst (b1 _ _ h (nc h fun _ _ z => by cases z))
        | tup h => exact .tup (b1 _ _ h (nc h fun _ _ z => by cases z))
      exact ⟨kk r.kv, fun ys e y hy => let ⟨o', k'⟩ := r.ks ys e y hy; ⟨o', kk k'⟩⟩
    have r1' := kv1 r1
    have r2' := kv1 r2
    obtain ⟨dxw, ta, w1, tas, w2, w3⟩ := id hw1
    have hfree : ∀ {d : Addr}, H1 d = none → H d = none := fun {d} hd => by
      by_cases z : d = c
      · rw [z, hc1] at hd; cases hd
      · cases e : H d with
        | none => rfl
        | some u => rw [b1 _ _ e z] at hd; cases hd
    refine ⟨_, rfl, _, rfl, w, W, dxw, _, _, rfl, w1, TW.cl, TW.nH, wf_h _ _, _, rfl, m, (n : Int), vst, o1, rfl, by omega, r1', fun hf d H' sm hd he => qa hf d H' (b1.same sm) (hfree hd) he, fun ht xs exs sa H2 s2 hsa => ?_⟩
    obtain ⟨qc, qd⟩ := qb ht
    refine ⟨_, rfl, c, N, dx, _, rfl, s2 _ _ hc1, T.cl, T.nS, (by show 1 < 1000; decide), ?_⟩
    generalize hH3 : upd H2 c (.ins N dx (putF "states" (.ref sa) (putF "modulus" (.int m) []))) = H3
    have hc3 : H3 c = some (.ins N dx (putF "states" (.ref sa) (putF "modulus" (.int m) []))) := by rw [← hH3]; exact upd_same
    have b3 : But c H1 H3 := by rw [← hH3]; exact But.put s2
    have nsa : sa ≠ c := fun z => by rw [z, s2 _ _ hc1] at hsa; cases hsa
    have hsa3 : H3 sa = some (.tup xs) := by rw [← hH3, upd_ne nsa]; exact hsa
    have nt1 : ∀ {a : Addr} {xs : List V}, H1 a = some (.tup xs) → a ≠ c := fun e z => by rw [z, hc1] at e; cases e
    have hfree3 : ∀ {d : Addr}, H3 d = none → H1 d = none := fun {d} hd => by
      by_cases z : d = c
      · rw [z, hc3] at hd; cases hd
      · cases e : H1 d with
        | none => rfl
        | some u => rw [b3 _ _ e z] at hd; cases hd
    have nc1 : ∀ {a : Addr} {o : HO}, H1 a = some o → (∀ dx fs, o ≠ .ins N dx fs) → a ≠ c := fun e ne z => by
      rw [z, hc1] at e
      exact ne _ _ (Option.some.inj e).symm
    have r23 : Rw K H3 va o2 := by
      have kk : ∀ {v : V} {o : Option (List V)}, KV K H1 v o → KV K H3 v o := fun {v o} k => by
        cases k with
        | int i => exact .int i
        | bl b => exact .bl b
        | non => exact .non
        | str x => exact .str x
        | lst h => exact .lst (b3 _ _ h (nc1 h fun _ _ z => by cases z))
        | tup h => exact .tup (b3 _ _ h (nc1 h fun _ _ z => by cases z))
      exact ⟨kk r2'.kv, fun ys e y hy => let ⟨o', k'⟩ := r2'.ks ys e y hy; ⟨o', kk k'⟩⟩
    have el : ((tas.map V.ref).length : Int) = (ts.length : Int) := by rw [List.length_map, w3.1]
    refine ⟨_, rfl, _, rfl, w, W, dxw, _, _, rfl, b3 _ _ w1 nw, TW.cl, TW.nT, wf_t _ _, ta, _, rfl, .inr (SqT.of (b3 _ _ w2 (nt1 w2))), ?_⟩
    rw [el]
    refine ⟨_, rfl, m, (ts.length : Int), va, o2, rfl, by omega, r23, fun hf d H' sm hd he => qc hf d H' ((b1.trans b3).same sm) (hfree (hfree3 hd)) he, fun ht2 ys eys aa H4 s4 haa => ?_⟩
    refine ⟨_, rfl, c, N, dx, _, rfl, s4 _ _ hc3, T.cl, T.nA, (by show 2 < 1000; decide), ?_⟩
    refine ⟨_, rfl, _, rfl, c, N, dx, _, rfl, upd_same, T.cl, T.nW, (by show 3 < 1000; decide), ?_⟩
    rw [upd_upd]
    have enf : putF ("web" : Str) (.ref w) (putF ("archives" : Str) (.ref aa) (putF ("states" : Str) (.ref sa) (putF ("modulus" : Str) (.int m) []))) = nf m sa aa w := by rfl
    rw [enf]
    subst exs
    subst eys
    obtain ⟨ss, rfl, ls⟩ := cof_ints ht
    obtain ⟨ar, rfl, la⟩ := cof_ints ht2
    have hc4 := s4 _ _ hc3
    have nt4 : ∀ {a : Addr} {xs : List V}, H4 a = some (.tup xs) → a ≠ c := fun e z => by rw [z, hc4] at e; cases e
    have hw4 : WebAt W (upd H4 c (.ins N dx (nf m sa aa w))) w n ts := (hw.but hc nw (b1.trans b3)).same s4 |>.but hc4 nw But.upd
    exact qd ht2 ss ar rfl rfl _ ((b1.trans b3).trans (But.put s4)) ⟨⟨dx, sa, aa, upd_same, by rw [upd_ne nsa]; exact s4 _ _ hsa3, by rw [upd_ne (nt4 haa)]; exact haa⟩, hw4, by omega, by omega, m0⟩
theorem scCM : FnScope ["self", "tie", "one", "other", "number"] ["self", "tie"] (defScope sCMeet) := ⟨rfl, rfl, rfl, by decide +kernel, rfl, by decide +kernel, by decide +kernel⟩
theorem ok_cmeet {f fT fC fR CT W N : Addr} {fd fdT fdC fdR : FuncData} (F : Fun K "meet" "CounterNet.meet" sCMeet f fd) (DT : Df K mg "need_tie" sNeedT ["web", "tie"] fT fdT) (DC : Df K mg "counted_by" sCBy ["modulus", "number"] fC fdC) (DR : Df K mg "replaced" sRepl ["items", "at", "item"] fR fdR)
    (T : NcT K mg N) (TW : WcT K mg W) (GT : FnOk P w K mg base (L2.CX P w) 3 fT fdT ["web", "tie"] (spNeedT K W CT)) (GC : FnOk P w K mg base CX0 1 fC fdC ["modulus", "number"] spCBy) (GR : FnOk P w K mg base CX0 1 fR fdR ["items", "at", "item"] spRepl) :
    FnOk P w K mg base (L2.CX P w) 4 f fd ["self", "tie"] (spMeet K N W CT) := by
  refine F.okX scCM (fun vs H Q E h => ?_) (fun cdv A outer s H vs Q E hr h => ?_)
  · obtain ⟨c, w, v, o1, m, ss, ar, n, ts, rfl, _⟩ := h
    rfl
  · obtain ⟨c, w, v, o1, m, ss, ar, n, ts, rfl, hN, nw, hW, kv, q1, q2⟩ := h
    have hr1 := hr.mono (show 1 ≤ 3 by decide)
    refine ⟨_, pss_cons (ps_asg (pe_ix ix_tup (pe_fld (pe_fld (pv 0) rfl) rfl) (pc DT GT hr (pass1 (takes_of rfl rfl rfl rfl)) (pa_cons (pe_fld (pv 0) rfl) (pa_cons (pv 1) pa_nil))) (fun _ _ => rfl)) (pg_tup rfl (pgs_cons (pg_name (i := 2) scCM.nd rfl (.inl rfl)) (pgs_cons (pg_name (i := 3) scCM.nd rfl (.inl rfl)) pgs_nil))))
      (pss_cons (ps_set (i := 4) scCM.nd rfl (.inl rfl) (pc DC GC hr1 pass0 (pa_cons (pe_fld (pv 0) rfl) (pa_cons (pe_op op_sub (pe_op op_add (pe_ix ix_tup (pe_fld (pv 0) rfl) (pv 2) (fun _ _ => rfl)) (pe_ix ix_tup (pe_fld (pv 0) rfl) (pv 3) (fun _ _ => rfl))) (pe_ix ix_tup (pe_fld (pv 0) rfl) (pv 1) (fun _ _ => rfl))) pa_nil))))
      (pss_cons (ps_fld (pv 0) (pc DR GR hr1 pass0 (pa_cons (pc DR GR hr1 pass0 (pa_cons (pe_fld (pv 0) rfl) (pa_cons (pv 2) (pa_cons (pv 4) pa_nil)))) (pa_cons (pv 3) (pa_cons (pv 4) pa_nil)))) rfl)
      (pss_cons (ps_fld (pv 0) (pc DR GR hr1 pass0 (pa_cons (pe_fld (pv 0) rfl) (pa_cons (pv 1) (pa_cons (pv 4) pa_nil)))) rfl)
      (pss_one (ps_ret (pv 4)))))), ?_⟩
    obtain ⟨dx, sa, aa, h1, h2, h3⟩ := hN.ob
    have n12 := hW.n12
    have t20 := hW.t20
    have ls := hN.ls
    have la := hN.la
    obtain ⟨dxw, ta, w1, tas, w2, w3⟩ := hN.wb
    refine ⟨_, rfl, c, N, dx, _, _, rfl, h1, T.cl, T.nW, nf_w _ _ _ _, w, W, dxw, _, _, rfl, w1, TW.cl, TW.nT, wf_t _ _, _, rfl, c, N, dx, _, _, rfl, h1, T.cl, T.nW, nf_w _ _ _ _, _, rfl, w, v, o1, n, ts, rfl, hN.wb, kv, fun hb => ?_, fun hb => q1 hb⟩
    obtain ⟨t, rfl, tn⟩ := below_nat hb
    obtain ⟨p, hp⟩ := ex_at tn
    obtain ⟨p1, p2, p3⟩ := hW.at_ hp
    obtain ⟨pa, ha, hpa⟩ := w3.get hp
    have hpa' : H pa = some (.tup [.int (p.1 : Int), .int (p.2 : Int)]) := hpa
    refine ⟨ta, _, (t : Int), .ref pa, rfl, rfl, SqT.of w2, at_i (map_at ha), pa, _, rfl, SqT.of hpa', rfl, _, _, rfl, _, _, rfl, rfl, ?_⟩
    have rdS : ∀ {j : Nat}, j < n → atI (vrow ss) (j : Int) = some (.int (ss.getD j 0)) := fun hj => at_i (vrow_get (by omega))
    have rdA : atI (vrow ar) (t : Int) = some (.int (ar.getD t 0)) := at_i (vrow_get (by omega))
    refine ⟨_, rfl, c, N, dx, _, _, rfl, h1, T.cl, T.nM, nf_m _ _ _ _, _, rfl, c, N, dx, _, _, rfl, h1, T.cl, T.nS, nf_s _ _ _ _, _, rfl, sa, _, (p.1 : Int), _, rfl, rfl, SqT.of h2, rdS p1, _, rfl, c, N, dx, _, _, rfl, h1, T.cl, T.nS, nf_s _ _ _ _, _, rfl, sa, _, (p.2 : Int), _, rfl, rfl, SqT.of h2, rdS p2, _, _, rfl, rfl,
      _, rfl, c, N, dx, _, _, rfl, h1, T.cl, T.nA, nf_a _ _ _ _, _, rfl, aa, _, (t : Int), _, rfl, rfl, SqT.of h3, rdA, _, _, rfl, rfl, m, _, rfl, hN.m0, ?_⟩
    have z := q2 t p rfl hp
    generalize hx : metN m ss ar p t = x at z
    have hx' : cby m (ss.getD p.1 0 + ss.getD p.2 0 - ar.getD t 0) = x := hx
    rw [hx']
    refine gn ?_
    dsimp only [List.set]
    refine ⟨_, rfl, c, N, dx, _, _, rfl, h1, T.cl, T.nS, nf_s _ _ _ _, _, rfl, _, rfl, sa, _, p.1, .int x, rfl, h2, by rw [vrow_len]; omega, by rw [vrow_len]; omega, fun y1 H1 s1 hy1 => ?_⟩
    rw [← vrow_set] at hy1
    refine ⟨_, rfl, _, rfl, y1, _, p.2, .int x, rfl, hy1, by rw [vrow_len, List.length_set]; omega, by rw [vrow_len, List.length_set]; omega, fun y2 H2 s2 hy2 => ?_⟩
    rw [← vrow_set] at hy2
    have s12 := s1.trans s2
    refine ⟨_, rfl, c, N, dx, _, rfl, s12 _ _ h1, T.cl, T.nS, (by show 4 < 1000; decide), ?_⟩
    rw [nf_ps]
    have N2 : NetAt N W (upd H2 c (.ins N dx (nf m y2 aa w))) c m ((ss.set p.1 x).set p.2 x) ar w n ts := hN.upd nw s12 hy2 (s12 _ _ h3) (by rw [List.length_set, List.length_set]; exact ls) la
    have b2 : But c H (upd H2 c (.ins N dx (nf m y2 aa w))) := But.put s12
    have hc2 : (upd H2 c (.ins N dx (nf m y2 aa w))) c = some (.ins N dx (nf m y2 aa w)) := upd_same
    have nc : ∀ {a : Addr} {xs : List V}, H2 a = some (.tup xs) → a ≠ c := fun e z => by rw [z, s12 _ _ h1] at e; cases e
    have hy2' : (upd H2 c (.ins N dx (nf m y2 aa w))) y2 = some (.tup (vrow ((ss.set p.1 x).set p.2 x))) := by rw [upd_ne (nc hy2)]; exact hy2
    have h3' : (upd H2 c (.ins N dx (nf m y2 aa w))) aa = some (.tup (vrow ar)) := by rw [upd_ne (nc (s12 _ _ h3))]; exact s12 _ _ h3
    generalize upd H2 c (.ins N dx (nf m y2 aa w)) = H3 at N2 b2 hc2 hy2' h3' ⊢
    refine ⟨_, rfl, c, N, dx, _, _, rfl, hc2, T.cl, T.nA, nf_a _ _ _ _, _, rfl, _, rfl, aa, _, t, .int x, rfl, h3', by rw [vrow_len]; omega, by rw [vrow_len]; omega, fun y4 H4 s4 hy4 => ?_⟩
    rw [← vrow_set] at hy4
    refine ⟨_, rfl, c, N, dx, _, rfl, s4 _ _ hc2, T.cl, T.nA, (by show 4 < 1000; decide), ?_⟩
    rw [nf_pa]
    refine ⟨_, rfl, ?_⟩
    exact z _ (b2.trans (But.put s4)) (N2.upd nw s4 (s4 _ _ hy2') hy4 (by rw [List.length_set, List.length_set]; exact ls) (by rw [List.length_set]; exact la))
end
end K1
namespace K1
open PySem PySem.Spec PyProof.Rows L2
section
variable {P : Program} {w : World} {K : PySem.W.Frag} {mg : Str → Option Value} {base : Heap}
abbrev nBk : List Str := ["self", "house", "part", "houses", "one", "tie"]
theorem scBk : FnScope nBk ["self", "house"] (defScope sCBook) := ⟨rfl, rfl, rfl, by decide +kernel, rfl, by decide +kernel, by decide +kernel⟩
theorem ok_cbook {f fP fC fI CH W N : Addr} {fd fdP fdC fdI : FuncData} (F : Fun K "book" "CounterNet.book" sCBook f fd) (DP : Df K mg "part_of" sPart ["web", "house"] fP fdP) (DC : Df K mg "counted_by" sCBy ["modulus", "number"] fC fdC) (DI : Df K mg "ties_in" sTiesIn ["web", "part"] fI fdI)
    (B : Bt mg) (T : NcT K mg N) (GP : FnOk P w K mg base (L2.CX P w) 4 fP fdP ["web", "house"] (spPart K W CH)) (GC : FnOk P w K mg base CX0 1 fC fdC ["modulus", "number"] spCBy) (GI : FnOk P w K mg base CX0 1 fI fdI ["web", "part"] (spTiesIn K W)) :
    FnOk P w K mg base (L2.CX P w) 5 f fd ["self", "house"] (spBook K N W CH) := by
  refine F.okX scBk (fun vs H Q E h => ?_) (fun cdv A outer s H vs Q E hr h => ?_)
  · obtain ⟨c, w, v, o1, m, ss, ar, n, ts, rfl, _⟩ := h
    rfl
  · obtain ⟨c, w, v, o1, m, ss, ar, n, ts, rfl, hN, hW, kv, q1, q2⟩ := h
    have hr1 := hr.mono (show 1 ≤ 4 by decide)
    refine ⟨_, pss_cons (ps_set (i := 2) scBk.nd rfl (.inl rfl) (pc DP GP hr (pass1 (takes_of rfl rfl rfl rfl)) (pa_cons (pe_fld (pv 0) rfl) (pa_cons (pv 1) pa_nil))))
      (pss_cons (ps_set (i := 3) scBk.nd rfl (.inl rfl) (pe_callB (cr_sum rfl) (by rfl) B.sum (by decide +kernel) (pa_cons (pe_lc (own := [("one", 4)]) (g := gName 4) (tt := tYes) rfl scBk.nd (pi_tup (pv 2)) (blkOk_by (N := nBk) (sc := defScope sCBook) (by decide +kernel)) (fun _ _ _ _ _ => pg_name (i := 4) scBk.nd rfl (Or.inl rfl)) (fun _ _ _ _ _ => pts_nil)
          (fun _ _ _ _ _ => pe_ix (ixTK (K := K) rfl) (pe_fldK (K := K) rfl (pv 0) rfl) (pv 4) (fun _ _ => rfl))) pa_nil)))
      (pss_one (ps_ret (pc DC GC hr1 pass0 (pa_cons (pe_fld (pv 0) rfl) (pa_cons (pe_op op_sub (pv 3) (pe_callB (cr_sum rfl) (by rfl) B.sum (by decide +kernel) (pa_cons (pe_lc (own := [("tie", 5)]) (g := gName 5) (tt := tYes) rfl scBk.nd (pi_list (pc DI GI hr1 pass0 (pa_cons (pe_fld (pv 0) rfl) (pa_cons (pv 2) pa_nil)))) (blkOk_by (N := nBk) (sc := defScope sCBook) (by decide +kernel)) (fun _ _ _ _ _ => pg_name (i := 5) scBk.nd rfl (Or.inl rfl)) (fun _ _ _ _ _ => pts_nil)
          (fun _ _ _ _ _ => pe_ix (ixTK (K := K) rfl) (pe_fldK (K := K) rfl (pv 0) rfl) (pv 5) (fun _ _ => rfl))) pa_nil))) pa_nil)))))), ?_⟩
    obtain ⟨dx, sa, aa, h1, h2, h3⟩ := hN.ob
    have n12 := hW.n12
    have t20 := hW.t20
    have ls := hN.ls
    have la := hN.la
    refine ⟨_, rfl, c, N, dx, _, _, rfl, h1, T.cl, T.nW, nf_w _ _ _ _, _, rfl, w, v, o1, n, ts, rfl, hN.wb, hW, kv, fun hb => q1 hb, fun h ev hn ns p H1 s1 hp PL => ?_⟩
    subst ev
    have lns : ∀ x ∈ ns, x < n := fun x hx => PL.lt hW hn hx
    have nsl : ns.length ≤ 12 := by
      have nd : (ns.map fun (x : Nat) => (x : Int)).Nodup := by
        rw [List.nodup_iff_pairwise_ne, List.pairwise_map]
        exact PL.asc.imp fun {a b} hab => by omega
      have := nodup_le n _ nd fun y hy => by
        obtain ⟨x, hx, rfl⟩ := List.mem_map.mp hy
        have := lns x hx
        omega
      rw [List.length_map] at this
      omega
    refine gn ?_
    dsimp only [List.set]
    refine ⟨_, rfl, p, rfl, ⟨_, SqT.of hp⟩, fun D0 hD0 => lc_tup (K := K) (a := p) (xs := vn ns) (fun i H2 => Same H1 H2 ∧ H2 D0 = some (.lst (vrow ((ns.map fun x => ss.getD x 0).take i)))) ⟨same_new hD0, by rw [upd_same]; rfl⟩ (fun i H2 _ ⟨s2, _⟩ => SqT.of (s2 _ _ hp)) ?_ ?_⟩
    · rintro i x H2 hx ⟨s2, hD⟩
      obtain ⟨y, hy, rfl⟩ := at_vn hx
      have yn := lns y (List.mem_of_getElem? hy)
      have s12 := s1.trans s2
      refine ⟨rfl, _, rfl, c, N, dx, _, _, rfl, s12 _ _ h1, T.cl, T.nS, nf_s _ _ _ _, _, rfl, sa, _, (y : Int), _, rfl, rfl, SqT.of (s12 _ _ h2), at_i (vrow_get (by omega)), _, hD, szl (by rw [vrow_len, List.length_take, List.length_map]; omega), fun d o e => ?_, ?_⟩
      · rw [upd_ne (ne_of_none e hD0)]
        exact s2 _ _ e
      · rw [upd_same, take_succ (map_at hy), vrow, vrow, List.map_append]; rfl
    · rintro H2 ⟨s2, hD⟩
      rw [List.take_of_length_le (by rw [vn_len, List.length_map]; exact Nat.le_refl _)] at hD
      refine ⟨D0, _, rfl, SqL.of hD, ?_⟩
      refine gn ?_
      dsimp only [List.set]
      have s12 := s1.trans s2
      refine ⟨_, rfl, c, N, dx, _, _, rfl, s12 _ _ h1, T.cl, T.nM, nf_m _ _ _ _, _, rfl, _, rfl, c, N, dx, _, _, rfl, s12 _ _ h1, T.cl, T.nW, nf_w _ _ _ _, _, rfl, w, p, n, ts, ns, rfl, hN.wb.same s12, hW, .inr (s2 _ _ hp), fun l H3 s3 hl0 hl => ?_⟩
      have s13 := s12.trans s3
      have ltn := tInK_len ts ns ts.length
      have ltn' : (tIn ts ns).length ≤ ts.length := ltn
      refine ⟨l, rfl, ⟨_, SqL.of hl⟩, fun D1 hD1 => lc_list (K := K) (a := l) (xs := vn (tIn ts ns)) (fun i H4 => Same H3 H4 ∧ H4 D1 = some (.lst (vrow (((tIn ts ns).map fun t => ar.getD t 0).take i)))) ⟨same_new hD1, by rw [upd_same]; rfl⟩ (fun i H4 _ ⟨s4, _⟩ => SqL.of (s4 _ _ hl)) ?_ ?_⟩
      · rintro i x H4 hx ⟨s4, hD⟩
        obtain ⟨y, hy, rfl⟩ := at_vn hx
        obtain ⟨py, ey, _⟩ := tIn_mem.mp (List.mem_of_getElem? hy)
        have yn := lt_at ey
        have s14 := s13.trans s4
        refine ⟨rfl, _, rfl, c, N, dx, _, _, rfl, s14 _ _ h1, T.cl, T.nA, nf_a _ _ _ _, _, rfl, aa, _, (y : Int), _, rfl, rfl, SqT.of (s14 _ _ h3), at_i (vrow_get (by omega)), _, hD, szl (by rw [vrow_len, List.length_take, List.length_map]; omega), fun d o e => ?_, ?_⟩
        · rw [upd_ne (ne_of_none e hD1)]
          exact s4 _ _ e
        · rw [upd_same, take_succ (map_at hy), vrow, vrow, List.map_append]; rfl
      · rintro H4 ⟨s4, hD⟩
        rw [List.take_of_length_le (by rw [vn_len, List.length_map]; exact Nat.le_refl _)] at hD
        refine ⟨D1, _, rfl, SqL.of hD, _, _, rfl, rfl, m, _, rfl, hN.m0, ?_⟩
        exact q2 h rfl hn ns H4 (s13.trans s4) PL
end
end K1
namespace K1
open PySem PySem.Spec PyProof.Rows L2
/-! ### the numbers at which a part rests -/
theorem gcd_em (a s : Int) : Int.gcd (a % s) s = Int.gcd a s := by
  have h3 := Int.emod_add_mul_ediv a s
  apply Nat.dvd_antisymm
  · have d1 := Int.gcd_dvd_left (a % s) s
    have d2 := Int.gcd_dvd_right (a % s) s
    have d3 : ((Int.gcd (a % s) s : Nat) : Int) ∣ a := by
      have d4 := Int.dvd_add d1 (Int.dvd_trans d2 (Int.dvd_mul_right s (a / s)))
      rw [h3] at d4
      exact d4
    exact Int.natCast_dvd_natCast.mp (Int.dvd_coe_gcd d3 d2)
  · have d1 := Int.gcd_dvd_left a s
    have d2 := Int.gcd_dvd_right a s
    have d3 : ((Int.gcd a s : Nat) : Int) ∣ a % s := by
      have e : a % s = a - s * (a / s) := by omega
      rw [e]
      exact Int.dvd_sub d1 (Int.dvd_trans d2 (Int.dvd_mul_right _ _))
    exact Int.natCast_dvd_natCast.mp (Int.dvd_coe_gcd d3 d2)
/-- how the search for the inverse stands -/
structure Eu (a s : Int) (one other tk tg : Int) : Prop where
  p1 : 0 < one
  p2 : 0 ≤ other
  c1 : s ∣ tk * a - one
  c2 : s ∣ tg * a - other
  g : Int.gcd one other = Int.gcd a s
theorem Eu.init {a s : Int} (hs : 0 < s) : Eu a s s (a % s) 0 1 := by
  refine ⟨hs, Int.emod_nonneg _ (by omega), ⟨-1, by omega⟩, ⟨a / s, ?_⟩, ?_⟩
  · have := Int.emod_add_mul_ediv a s
    omega
  · rw [Int.gcd_comm, gcd_em]
theorem Eu.step {a s one other tk tg : Int} (e : Eu a s one other tk tg) (h : other ≠ 0) : Eu a s other (one % other) tg (tk - one / other * tg) := by
  have := e.p2
  obtain ⟨k1, h1⟩ := e.c1
  obtain ⟨k2, h2⟩ := e.c2
  refine ⟨by omega, Int.emod_nonneg _ h, e.c2, ⟨k1 - one / other * k2, ?_⟩, ?_⟩
  · have h3 := Int.emod_add_mul_ediv one other
    have e1 : (tk - one / other * tg) * a = tk * a - one / other * (tg * a) := by rw [Int.sub_mul, Int.mul_assoc]
    have e2 : tg * a = other + s * k2 := by omega
    have e3 : one / other * (tg * a) = one / other * other + s * (one / other * k2) := by rw [e2, Int.mul_add, ← Int.mul_assoc, Int.mul_comm (one / other) s, Int.mul_assoc]
    have e4 : s * (k1 - one / other * k2) = s * k1 - s * (one / other * k2) := Int.mul_sub _ _ _
    have e5 : one / other * other = other * (one / other) := Int.mul_comm _ _
    omega
  · rw [← e.g, Int.gcd_comm other, gcd_em]
theorem Eu.done {a s one tk tg : Int} (e : Eu a s one 0 tk tg) (hs : 0 < s) (hc : Int.gcd a s = 1) : 0 ≤ tk % s ∧ tk % s < s ∧ s ∣ (tk % s) * a - 1 := by
  have g := e.g
  rw [hc, Int.gcd_zero_right] at g
  have p1 := e.p1
  have o1 : one = 1 := by omega
  refine ⟨Int.emod_nonneg _ (by omega), Int.emod_lt_of_pos _ hs, ?_⟩
  obtain ⟨k, hk⟩ := e.c1
  refine ⟨k - tk / s * a, ?_⟩
  have h3 := Int.emod_add_mul_ediv tk s
  have e1 : tk % s = tk - s * (tk / s) := by omega
  rw [e1, Int.sub_mul, Int.mul_sub, Int.mul_assoc]
  omega
/-- what is common to the two, and what is left of each -/
theorem gcd_split {b m : Int} (hm : 0 < m) : ∃ (g a s : Int), g = (Int.gcd b m : Int) ∧ 0 < g ∧ 0 < s ∧ b = g * a ∧ m = g * s ∧ b / g = a ∧ m / g = s ∧ Int.gcd a s = 1 := by
  have hg : 0 < Int.gcd b m := Nat.pos_of_ne_zero fun z => by
    rw [Int.gcd_eq_zero_iff] at z
    omega
  obtain ⟨a, ha⟩ := Int.gcd_dvd_left b m
  obtain ⟨s, hs⟩ := Int.gcd_dvd_right b m
  have hg' : (0 : Int) < (Int.gcd b m : Int) := by omega
  have sp : 0 < s := by
    by_cases z : 0 < s
    · exact z
    · have : (Int.gcd b m : Int) * s ≤ 0 := Int.mul_nonpos_of_nonneg_of_nonpos (by omega) (by omega)
      omega
  refine ⟨_, a, s, rfl, hg', sp, ha, hs, ?_, ?_, ?_⟩
  · rw [Int.ediv_eq_of_eq_mul_right (by omega) ha]
  · rw [Int.ediv_eq_of_eq_mul_right (by omega) hs]
  · have h1 : b.natAbs = Int.gcd b m * a.natAbs := by
      have := congrArg Int.natAbs ha
      rw [Int.natAbs_mul, Int.natAbs_natCast] at this
      exact this
    have h2 : m.natAbs = Int.gcd b m * s.natAbs := by
      have := congrArg Int.natAbs hs
      rw [Int.natAbs_mul, Int.natAbs_natCast] at this
      exact this
    have c := Nat.coprime_div_gcd_div_gcd (m := b.natAbs) (n := m.natAbs) hg
    have e1 : b.natAbs / Nat.gcd b.natAbs m.natAbs = a.natAbs := Nat.div_eq_of_eq_mul_right hg h1
    have e2 : m.natAbs / Nat.gcd b.natAbs m.natAbs = s.natAbs := Nat.div_eq_of_eq_mul_right hg h2
    rw [e1, e2] at c
    exact c
/-- the numbers x at which b * x is t by m -/
theorem sol_iff {b m t g a s u : Int} (hg : 0 < g) (hs : 0 < s) (eb : b = g * a) (em : m = g * s) (ht : t % g = 0) (hu : s ∣ u * a - 1) (x : Int) : m ∣ b * x - t ↔ s ∣ x - (t / g * u) % s := by
  obtain ⟨q, hq⟩ := Int.dvd_of_emod_eq_zero ht
  have eq : t / g = q := Int.ediv_eq_of_eq_mul_right (by omega) hq
  rw [eq]
  obtain ⟨k, hk⟩ := hu
  have hmod : ∀ y : Int, s ∣ x - y % s ↔ s ∣ x - y := fun y => by
    have h3 := Int.emod_add_mul_ediv y s
    constructor
    · rintro ⟨j, hj⟩
      exact ⟨j - y / s, by rw [Int.mul_sub]; omega⟩
    · rintro ⟨j, hj⟩
      exact ⟨j + y / s, by rw [Int.mul_add]; omega⟩
  rw [hmod]
  have e1 : b * x - t = g * (a * x - q) := by rw [eb, hq, Int.mul_sub, Int.mul_assoc]
  rw [e1, em, Int.mul_dvd_mul_iff_left (by omega)]
  constructor
  · rintro ⟨j, hj⟩
    refine ⟨u * j - k * x, ?_⟩
    have h1 : u * (a * x) - u * q = s * (u * j) := by rw [← Int.mul_sub, hj, ← Int.mul_assoc, Int.mul_comm u s, Int.mul_assoc]
    have h2 : u * (a * x) = (u * a) * x := (Int.mul_assoc _ _ _).symm
    have h3 : (u * a) * x = (1 + s * k) * x := by rw [show u * a = 1 + s * k by omega]
    have h4 : (1 + s * k) * x = x + s * (k * x) := by rw [Int.add_mul, Int.one_mul, Int.mul_assoc]
    have h5 : q * u = u * q := Int.mul_comm _ _
    rw [Int.mul_sub]
    omega
  · rintro ⟨j, hj⟩
    refine ⟨a * j + q * k, ?_⟩
    have h0 : x = q * u + s * j := by omega
    have h1 : a * x = q * (u * a) + s * (a * j) := by
      rw [h0, Int.mul_add, Int.mul_left_comm a q u, Int.mul_comm a u, Int.mul_left_comm a s j]
    have h2 : q * (u * a) = q + s * (q * k) := by
      rw [show u * a = 1 + s * k by omega, Int.mul_add, Int.mul_one, ← Int.mul_assoc, Int.mul_comm q s, Int.mul_assoc]
    rw [Int.mul_add]
    omega
theorem no_sol {b m t g a s : Int} (eb : b = g * a) (em : m = g * s) (ht : t % g ≠ 0) (x : Int) : ¬ m ∣ b * x - t := by
  rintro ⟨k, hk⟩
  refine ht (Int.emod_eq_zero_of_dvd ⟨a * x - s * k, ?_⟩)
  rw [Int.mul_sub, ← Int.mul_assoc, ← Int.mul_assoc, ← eb, ← em]
  omega
/-- what rest_values tells for a modulus of at least 2 -/
def RV (m b t : Int) (o : Option (Int × Int)) : Prop :=
  (t % (Int.gcd b m : Int) ≠ 0 ∧ o = none) ∨ (t % (Int.gcd b m : Int) = 0 ∧ ∃ f : Int, o = some (f, m / (Int.gcd b m : Int)) ∧ 0 ≤ f ∧ f < m / (Int.gcd b m : Int) ∧ ∀ x, m ∣ b * x - t ↔ m / (Int.gcd b m : Int) ∣ x - f)
/-- what whole_rests tells -/
def WRs (b t : Int) : Option (Int × Int) := if b = 0 then (if t = 0 then some (0, 1) else none) else if t.fmod b = 0 then some (t.fdiv b, 0) else none
end K1
namespace K1
open PySem PySem.Spec PyProof.Rows L2
/-- a source of draws -/
def BoxO (H : Hp) (b : Addr) : Prop := ∃ x y : Int, H b = some (.lst [.int x, .int y])
/-- all but the source stands, which is one again -/
def Bx (b : Addr) (H H' : Hp) : Prop := BoxO H' b ∧ ∀ c o, H c = some o → c ≠ b → H' c = some o
theorem Bx.refl {b : Addr} {H : Hp} (h : BoxO H b) : Bx b H H := ⟨h, fun _ _ e _ => e⟩
theorem Bx.trans {b : Addr} {H H1 H2 : Hp} (a : Bx b H H1) (c : Bx b H1 H2) : Bx b H H2 := ⟨c.1, fun d o e n => c.2 d o (a.2 d o e n) n⟩
theorem BoxO.same {b : Addr} {H H' : Hp} (h : BoxO H b) (s : Same H H') : BoxO H' b := let ⟨x, y, e⟩ := h; ⟨x, y, s _ _ e⟩
theorem Bx.same {b : Addr} {H H1 H2 : Hp} (a : Bx b H H1) (s : Same H1 H2) : Bx b H H2 := ⟨a.1.same s, fun d o e n => s _ _ (a.2 d o e n)⟩
theorem Same.bx {b : Addr} {H H1 H2 : Hp} (s : Same H H1) (a : Bx b H1 H2) : Bx b H H2 := ⟨a.1, fun d o e n => a.2 d o (s _ _ e) n⟩
theorem Bx.set {b : Addr} {H : Hp} {x y : Int} : Bx b H (upd H b (.lst [.int x, .int y])) := ⟨⟨x, y, upd_same⟩, fun c o e n => by rw [upd_ne n]; exact e⟩
theorem Bx.free {b c : Addr} {H H' : Hp} (a : Bx b H H') (hb : c ≠ b) (h : H' c = none) : H c = none := by
  cases q : H c with
  | none => rfl
  | some o => rw [a.2 c o q hb] at h; cases h
theorem BoxO.ne {b c : Addr} {H : Hp} {o : HO} (h : BoxO H b) (e : H c = some o) (n : ∀ xs, o ≠ .lst xs) : c ≠ b := fun z => by
  obtain ⟨x, y, hb⟩ := h
  rw [z, hb] at e
  exact n _ (Option.some.inj e).symm
theorem Bx.ne {b c : Addr} {H H' : Hp} (a : Bx b H H') (h : H' c = none) : c ≠ b := fun z => by
  obtain ⟨x, y, hb⟩ := a.1
  rw [z, hb] at h
  cases h
theorem Bx.new {b p : Addr} {H H' : Hp} {o : HO} (a : Bx b H H') (h : H' p = none) : Bx b H (upd H' p o) := a.same (same_new h)
theorem Bx.put {b p : Addr} {H H' : Hp} {o : HO} (a : Bx b H H') (hp : H p = none) (n : p ≠ b) : Bx b H (upd H' p o) := ⟨let ⟨x, y, e⟩ := a.1; ⟨x, y, by rw [upd_ne n.symm]; exact e⟩, fun c o' e n' => by rw [upd_ne (ne_of_none e hp)]; exact a.2 c o' e n'⟩
theorem Bx.tup {b c : Addr} {H H' : Hp} {xs : List V} (x : Bx b H H') (hb : BoxO H b) (h : H c = some (.tup xs)) : H' c = some (.tup xs) := x.2 _ _ h (hb.ne h fun xs => by intro z; cases z)
def spTake : Sp := fun vs H Q _ => ∃ b n, vs = [.ref b, .int n] ∧ BoxO H b ∧ 1 ≤ n ∧ n < 1073741824 ∧ ∀ r H', 0 ≤ r → r < n → Bx b H H' → Q (.int r) H'
def spPick : Sp := fun vs H Q _ => ∃ (b l : Addr) (xs : List V), vs = [.ref b, .ref l] ∧ BoxO H b ∧ H l = some (.lst xs) ∧ l ≠ b ∧ 1 ≤ xs.length ∧ xs.length ≤ 1000 ∧ ∀ (i : Nat) v H', xs[i]? = some v → Bx b H H' → Q v H'
def spBox (K : PySem.W.Frag) : Sp := fun vs H Q _ => ∃ (a : Addr) (ns : List Int) (k : Int), vs = [.ref a, .int k] ∧ SqL K H a (ns.map V.int) ∧ ns.length ≤ 63 ∧ 0 ≤ k ∧ k ≤ 10 ∧ ∀ b H', Same H H' → H b = none → BoxO H' b → Q (.ref b) H'
section
variable {P : Program} {w : World} {K : PySem.W.Frag} {mg : Str → Option Value} {base : Heap}
theorem scTk : FnScope ["_law_box_here", "_law_many", "_law_digit", "_law_raw"] ["_law_box_here", "_law_many"] (defScope sLTake) := ⟨rfl, rfl, rfl, by decide +kernel, rfl, by decide +kernel, by decide +kernel⟩
theorem ok_take {f : Addr} {fd : FuncData} (D : Df K mg "_law_take" sLTake ["_law_box_here", "_law_many"] f fd) (B : Bt mg) : FnOk P w K mg base CX0 1 f fd ["_law_box_here", "_law_many"] spTake := by
  refine D.F.ok scTk (fun vs H Q E h => ?_) (fun cdv A outer s H vs Q E hr h => ?_)
  · obtain ⟨b, n, rfl, _⟩ := h
    rfl
  · obtain ⟨b, n, rfl, ⟨x, y, hb⟩, h1, h2, q⟩ := h
    refine ⟨_, pss_cons (ps_if (pt_cmpR op_gt (pe_ix ix_list (pv 0) pe_int (fun _ _ => rfl)) pe_int (nomark _))
        (pss_cons (ps_set (i := 2) scTk.nd rfl (.inl rfl) (pe_op op_mod (pe_callTy call_int1 (by rfl) B.int PyProof.Rows.boot_int (pa_cons (pe_ix ix_list (pv 0) pe_int (fun _ _ => rfl)) pa_nil)) (pv 1)))
        (pss_cons (ps_asg (pe_op op_fdivN (pe_ix ix_list (pv 0) pe_int (fun _ _ => rfl)) (pv 1)) (pg_sub (pv 0) pe_int set_list))
        (pss_one (ps_ret (pv 2))))) pss_nil)
      (pss_cons (ps_set (i := 3) scTk.nd rfl (.inl rfl) (pe_op op_mod (pe_callTy call_int1 (by rfl) B.int PyProof.Rows.boot_int (pa_cons (pe_op op_add (pe_op op_mul (pe_ix ix_list (pv 0) pe_int (fun _ _ => rfl)) pe_int) pe_int) pa_nil)) pe_int))
      (pss_cons (ps_asg (pe_op op_add (pe_op op_mod (pe_callTy call_int1 (by rfl) B.int PyProof.Rows.boot_int (pa_cons (pe_op op_add (pe_op op_mul (pv 3) pe_int) pe_int) pa_nil)) pe_int) pe_int) (pg_sub (pv 0) pe_int set_list))
      (pss_one (ps_ret (pe_op op_mod (pe_callTy call_int1 (by rfl) B.int PyProof.Rows.boot_int (pa_cons (pe_op op_fdivN (pe_op op_add (pe_op op_mul (pv 3) pe_int) (pe_ix ix_list (pv 0) pe_int (fun _ _ => rfl))) pe_int) pa_nil)) (pv 1)))))), ?_⟩
    have a0 : ∀ {u v : Int}, atI [V.int u, V.int v] 0 = some (V.int u) := fun {u v} => atI_nat (j := 0) rfl
    have a1 : ∀ {u v : Int}, atI [V.int u, V.int v] 1 = some (V.int v) := fun {u v} => atI_nat (j := 1) rfl
    have np : 0 < n := by omega
    refine ⟨_, rfl, b, _, 0, .int x, rfl, rfl, SqL.of hb, a0, _, _, rfl, rfl, _, rfl, ifD (fun e => ?_) fun e => ?_⟩
    · refine ⟨_, rfl, b, _, 0, .int x, rfl, rfl, SqL.of hb, a0, .inl ⟨x, rfl, _, rfl, _, _, rfl, rfl, np, ?_⟩⟩
      refine ⟨_, rfl, b, _, 0, .int x, rfl, rfl, SqL.of hb, a0, _, rfl, _, _, rfl, rfl, ⟨by omega, by omega⟩, _, rfl, b, _, 0, 0, rfl, rfl, hb, rfl, ?_⟩
      exact ⟨_, rfl, q _ _ (Int.emod_nonneg _ (by omega)) (Int.emod_lt_of_pos _ np) Bx.set⟩
    · refine ⟨_, rfl, b, _, 1, .int y, rfl, rfl, SqL.of hb, a1, _, _, rfl, rfl, .inr ⟨by decide, by decide⟩, _, _, rfl, rfl, .inl ⟨_, rfl, _, _, rfl, rfl, (by decide : (0 : Int) < 2147483399), ?_⟩⟩
      refine ⟨_, rfl, _, _, rfl, rfl, .inr ⟨by decide, by decide⟩, _, _, rfl, rfl, .inl ⟨_, rfl, _, _, rfl, rfl, (by decide : (0 : Int) < 2147483587), _, _, rfl, rfl, _, rfl, b, _, 1, 1, rfl, rfl, hb, rfl, ?_⟩⟩
      generalize hH2 : upd H b _ = H2
      have hb2 : ∃ y', H2 b = some (.lst [.int x, .int y']) := ⟨_, by rw [← hH2, upd_same]; rfl⟩
      obtain ⟨y', hb2⟩ := hb2
      have bx : Bx b H H2 := ⟨⟨_, _, hb2⟩, fun c o e n => by rw [← hH2, upd_ne n]; exact e⟩
      refine ⟨_, rfl, _, _, rfl, rfl, .inr ⟨by decide, by decide⟩, _, rfl, b, _, 1, .int y', rfl, rfl, SqL.of hb2, a1, _, _, rfl, rfl, _, _, rfl, rfl, ⟨by decide, by decide⟩, .inl ⟨_, rfl, _, rfl, _, _, rfl, rfl, np, ?_⟩⟩
      exact q _ _ (Int.emod_nonneg _ (by omega)) (Int.emod_lt_of_pos _ np) bx
theorem scPi : FnScope ["_law_box_here", "_law_some"] ["_law_box_here", "_law_some"] (defScope sLPick) := ⟨rfl, rfl, rfl, by decide +kernel, rfl, by decide +kernel, by decide +kernel⟩
theorem ok_pick {f fT : Addr} {fd fdT : FuncData} (D : Df K mg "_law_pick" sLPick ["_law_box_here", "_law_some"] f fd) (DT : Df K mg "_law_take" sLTake ["_law_box_here", "_law_many"] fT fdT) (B : Bt mg) (GT : FnOk P w K mg base CX0 1 fT fdT ["_law_box_here", "_law_many"] spTake) :
    FnOk P w K mg base CX0 2 f fd ["_law_box_here", "_law_some"] spPick := by
  refine D.F.ok scPi (fun vs H Q E h => ?_) (fun cdv A outer s H vs Q E hr h => ?_)
  · obtain ⟨b, l, xs, rfl, _⟩ := h
    rfl
  · obtain ⟨b, l, xs, rfl, hb, hl, hne, h1, h2, q⟩ := h
    refine ⟨_, pss_one (ps_ret (pe_ix ix_list (pv 1) (pc DT GT hr pass0 (pa_cons (pv 0) (pa_cons (pe_callB call_len_seq (by rfl) B.len PySem.boot_len (pa_cons (pv 1) pa_nil)) pa_nil))) (fun _ _ => rfl))), ?_⟩
    refine ⟨_, rfl, _, rfl, _, rfl, l, xs, rfl, .inl (SqL.of hl), b, _, rfl, hb, by omega, by omega, fun r H' r0 r1 bx => ?_⟩
    have hi : r.toNat < xs.length := by omega
    refine ⟨l, xs, r, xs[r.toNat], rfl, rfl, SqL.of (bx.2 _ _ hl hne), at_of (j := r.toNat) (by omega) (List.getElem?_eq_getElem hi), q r.toNat _ H' (List.getElem?_eq_getElem hi) bx⟩
theorem scBx : FnScope ["_law_script", "_law_k", "_law_cell", "_law_great"] ["_law_script", "_law_k"] (defScope sLBox) := ⟨rfl, rfl, rfl, by decide +kernel, rfl, by decide +kernel, by decide +kernel⟩
theorem ok_box {f : Addr} {fd : FuncData} (D : Df K mg "_law_box" sLBox ["_law_script", "_law_k"] f fd) (B : Bt mg) : FnOk P w K mg base CX0 1 f fd ["_law_script", "_law_k"] (spBox K) := by
  refine D.F.ok scBx (fun vs H Q E h => ?_) (fun cdv A outer s H vs Q E hr h => ?_)
  · obtain ⟨a, ns, k, rfl, _⟩ := h
    rfl
  · obtain ⟨a, ns, k, rfl, hS, hl, k0, k1, q⟩ := h
    refine ⟨_, pss_cons (ps_set (i := 2) scBx.nd rfl (.inl rfl) (pe_op op_add (pe_op op_mul pe_int (pv 1)) pe_int))
      (pss_cons (ps_if (pt_cmpR op_lt (pv 1) (pe_callB call_len_seq (by rfl) B.len PySem.boot_len (pa_cons (pv 0) pa_nil)) (nomark _))
        (pss_one (ps_set (i := 2) scBx.nd rfl (.inl rfl) (pe_callB call_abs (by rfl) B.abs (by decide +kernel) (pa_cons (pe_callTy call_int1 (by rfl) B.int PyProof.Rows.boot_int (pa_cons (pe_ix ix_list (pv 0) (pv 1) (fun _ _ => rfl)) pa_nil)) pa_nil))))
        (pss_one (ps_if (pt_cmpR op_gt (pe_callB call_len_seq (by rfl) B.len PySem.boot_len (pa_cons (pv 0) pa_nil)) pe_int (nomark _))
          (pss_one (ps_set (i := 2) scBx.nd rfl (.inl rfl) (pe_op op_add (pv 2) (pe_op op_mul (pe_op op_mod (pe_callTy call_int1 (by rfl) B.int PyProof.Rows.boot_int (pa_cons (pe_callB call_abs (by rfl) B.abs (by decide +kernel) (pa_cons (pe_callTy call_int1 (by rfl) B.int PyProof.Rows.boot_int (pa_cons (pe_ix ix_list (pv 0)
            (pe_op op_mod (pe_callTy call_int1 (by rfl) B.int PyProof.Rows.boot_int (pa_cons (pv 1) pa_nil)) (pe_callB call_len_seq (by rfl) B.len PySem.boot_len (pa_cons (pv 0) pa_nil))) (fun _ _ => rfl)) pa_nil)) pa_nil)) pa_nil)) pe_int) pe_int)))) pss_nil)))
      (pss_cons (ps_set (i := 3) scBx.nd rfl (.inl rfl) (pe_ifExp (pt_cmpR op_ge (pv 2) (pe_op op_pow pe_int pe_int) (nomark _)) (pv 2) pe_int))
      (pss_one (ps_ret (pe_lst (pa_cons (pv 3)
        (pa_cons (pe_op op_add (pe_op op_mod (pe_callTy call_int1 (by rfl) B.int PyProof.Rows.boot_int (pa_cons (pe_op op_add (pe_op op_mul (pe_op op_mod (pe_callTy call_int1 (by rfl) B.int PyProof.Rows.boot_int (pa_cons (pv 2) pa_nil)) pe_int) pe_int) (pe_op op_mul pe_int (pv 1))) pa_nil)) pe_int) pe_int) pa_nil))))))), ?_⟩
    have hget : ∀ (j : Int), 0 ≤ j → j < (ns.length : Int) → ∃ z : Int, atI (ns.map V.int) j = some (V.int z) := fun j h0 h1 => by
      have hj : j.toNat < ns.length := by omega
      exact ⟨ns[j.toNat], at_of (j := j.toNat) (by omega) (by rw [List.getElem?_map, List.getElem?_eq_getElem hj]; rfl)⟩
    refine ⟨_, rfl, _, _, rfl, rfl, .inl ⟨by decide, by decide⟩, _, _, rfl, rfl, ?_⟩
    refine gn ?_
    dsimp only
    refine seqG (fun σ H' => ∃ c : Int, σ = [some (.ref a), some (.int k), some (.int c), none] ∧ H' = H) ?_ (fun kk => ?_)
    · rintro σ H' ⟨c, rfl, rfl⟩
      refine seqG (fun σ H'' => ∃ g : Int, σ = [some (.ref a), some (.int k), some (.int c), some (.int g)] ∧ H'' = H') ?_ (fun k2 => ⟨_, rfl, _, _, rfl, rfl, ⟨by decide, by decide, by decide⟩, _, _, rfl, rfl, _, rfl, ifD (fun e => ⟨_, rfl, k2 _ _ ⟨_, rfl, rfl⟩⟩) fun e => k2 _ _ ⟨_, rfl, rfl⟩⟩)
      rintro σ H'' ⟨g, rfl, e⟩
      subst e
      refine ⟨_, rfl, _, rfl, .inl ⟨_, rfl, _, _, rfl, rfl, (by decide : (0 : Int) < 2147483587), _, _, rfl, rfl, .inr ⟨by decide, by decide⟩, _, rfl, _, _, rfl, rfl, .inl ⟨by decide, by decide⟩, _, _, rfl, rfl, .inl ⟨_, rfl, _, _, rfl, rfl, (by decide : (0 : Int) < 2147483587), _, _, rfl, rfl, (by show 2 ≤ sizeLine; decide), fun p hp => ?_⟩⟩⟩
      exact q p _ (same_new hp) hp ⟨_, _, upd_same⟩
    · refine ⟨_, rfl, _, rfl, a, _, rfl, .inl (hS), _, _, rfl, rfl, _, rfl, ifD (fun e => ?_) fun e => ?_⟩
      · have e' : k < (ns.length : Int) := by
          have z := of_decide_eq_true e
          rw [List.length_map] at z
          exact z
        obtain ⟨z, hz⟩ := hget k k0 e'
        refine ⟨_, rfl, _, rfl, a, _, k, _, rfl, rfl, hS, hz, ?_⟩
        refine .inl ⟨z, rfl, _, rfl, ?_⟩
        exact kk _ _ ⟨_, rfl, rfl⟩
      · refine ⟨_, rfl, a, _, rfl, .inl hS, _, _, rfl, rfl, _, rfl, ifD (fun e => ?_) fun e => ?_⟩
        · have e' : 0 < (ns.length : Int) := by
            have z := of_decide_eq_true e
            rw [List.length_map] at z
            omega
          have em : (k % ((ns.map V.int).length : Int)) = k % (ns.length : Int) := by rw [List.length_map]
          obtain ⟨z, hz⟩ := hget (k % (ns.length : Int)) (Int.emod_nonneg _ (by omega)) (Int.emod_lt_of_pos _ e')
          refine ⟨_, rfl, _, rfl, _, rfl, .inl ⟨_, rfl, _, rfl, a, _, rfl, .inl hS, _, _, rfl, rfl, (by rw [List.length_map]; exact e'), a, _, _, _, rfl, rfl, hS, (by rw [em]; exact hz), ?_⟩⟩
          refine .inl ⟨z, rfl, _, rfl, .inl ⟨_, rfl, _, _, rfl, rfl, (by decide : (0 : Int) < 2147483587), _, _, rfl, rfl, .inr ⟨by decide, by decide⟩, _, _, rfl, rfl, ?_⟩⟩
          exact kk _ _ ⟨_, rfl, rfl⟩
        · exact kk _ _ ⟨_, rfl, rfl⟩
end
end K1
/-! several clauses 'except x as n', the same n -/
namespace K1
open PySem PySem.Spec PyProof.Rows L2
/-- what the clauses wish of an exception of the body, one after the other; slot i is the name's -/
def wAll (K : PySem.W.Frag) (i : Nat) (Wout : WX) (D : Ends) : List (Value × (Addr → Value → Option Addr → TS)) → WX
  | [] => Wout
  | (c, ts) :: r => fun cls d σ H => ∃ b, PySem.W.exmOne K cls c = some b ∧ (b = true → ∀ a, H a = none → ts a cls d { nx := fun σ' H' => D.nx (σ'.set i none) H', rt := D.rt, bk := fun σ' H' => D.bk (σ'.set i none) H', ct := fun σ' H' => D.ct (σ'.set i none) H' } (σ.set i (some (.ref a))) H) ∧
      (b = false → wAll K i Wout D r cls d σ H)
inductive HdsA (X : Cx) (n : Str) : List ExceptHandler → List (Value × (Addr → Value → Option Addr → TS)) → Prop
  | nil : HdsA X n [] []
  | cons {x : Str} {c : Value} {ts : Addr → Value → Option Addr → TS} {b₀ : Stmt} {suite : List Stmt} {np pos' : Pos} {hds : List ExceptHandler} {l : List (Value × (Addr → Value → Option Addr → TS))} (hc : Names X x c)
      (hsu : ∀ (a : Addr) (oe : Obj) (cls : Value) (d : Option Addr) (pn : List (Addr × Obj)), Zc cls d oe → (∃ vs, oe.data = .fields vs) → PSs (X.suite a ((a, oe) :: pn)) (b₀ :: suite) (ts a cls d)) (r : HdsA X n hds l) :
      HdsA X n (.ExceptHandler (some (.Name x np)) (some n) (b₀ :: suite) pos' :: hds) ((c, ts) :: l)
section
variable {X : Cx} {n : Str} {i : Nat} {body : List Stmt} {h₀ : ExceptHandler} {hds : List ExceptHandler} {l : List (Value × (Addr → Value → Option Addr → TS))} {pos : Pos} {tb : WX → TS} {Wout : WX}
theorem ps_try_all (hs : X.stack = X.env :: X.outer) (hf : X.env.frame = some X.env.locals) (hN : X.N.Nodup) (hi : X.N[i]? = some n) (hln : X.env.kindOf n = some .local) (tk : Takes X Wout)
    (hb : ∀ (W : WX) (pn : List (Addr × Obj)) (xe : Value → Shared → Prop), Takes (X.tr pn xe) W → PassesOwn (model X.prog X.w) X.A X.env xe → PSs (X.tr pn xe) body (tb W))
    (hh : HdsA X n (h₀ :: hds) l) : PS X (.Try body (h₀ :: hds) [] [] pos) (fun D σ H => tb (wAll X.K i Wout D l) D σ H) := by
  refine ⟨fun pins s σ H D I h => ?_⟩
  have ok := I.ok
  have hfr : X.A.frames = some (X.env :: X.outer) := by rw [ok.frames, hs]
  have hloc : Loc X.env.scope n := .inl hln
  refine wpAny_Try_except ?_
  refine wpAny_mono ((hb (wAll X.K i Wout D l) (X.pn ++ pins) (fun e s₁ => wpAny (model X.prog X.w) X.A (noteFrame e X.env) (fun _ s₂ => wpAny (model X.prog X.w) X.A (setFlight e none) (fun _ s₃ =>
    wpAny (model X.prog X.w) X.A (handleBy e X.env (h₀ :: hds)) (SP X pins D) X.xe s₃) X.xe s₂) X.xe s₁) (fun u s' xx => ?_) PassesOwn.looking).run [] s σ H D (I.toTry _) h) (fun f s1 hsp => ?_) (fun e s1 he => he)
  · -- the catch
    obtain ⟨a, B, sI, pins', σ', H', cls, d, rfl, J', nb, up, sky, na, os, ag, w⟩ := xx
    have J : Inv X pins σ' H' sI := J'.ofTry ok
    have sky' : Sky B (X.env :: X.outer) a (Zc cls d) X.env.locals s'.heap := by rw [← hs]; exact sky
    show wpAny (model X.prog X.w) X.A (noteFrame (.ref a) X.env) _ _ _
    refine Sky.land Zc.steady hfr hf sky' fun h3 fl3 up3 => ?_
    have J3 : Inv X pins σ' H' { s' with heap := h3 } := J.landed nb fl3.1 (up.trans up3) os ag
    obtain ⟨oe3, vs3, he3, hz3, hd3⟩ := fl3.there
    have notFr : ∀ {h : Heap} {o : Obj} {vs : Array Value}, h.FunFrames B (X.env :: X.outer) → h.get? a = some o → o.data = .fields vs → a ∉ frs (X.env :: X.outer) := fun {h o vs} ff e dd hm => by
      obtain ⟨_, o', e', hnf⟩ := ff.mem hm
      rw [e] at e'; cases e'
      exact hnf _ dd
    have nfr := notFr fl3.2.2.1 he3 hd3
    have nL : a ≠ X.env.locals := fun z => nfr (List.mem_filterMap.mpr ⟨X.env, List.mem_cons_self, by rw [hf, z]⟩)
    have nF : a ∉ X.fs := fun hm => by
      obtain ⟨e, he, q⟩ := List.mem_filterMap.mp hm
      exact nfr (List.mem_filterMap.mpr ⟨e, List.mem_cons_of_mem _ he, q⟩)
    have S3 := J3.suite he3 hd3 na nL nF
    have go : ∀ {hds' : List ExceptHandler} {l' : List (Value × (Addr → Value → Option Addr → TS))}, HdsA X n hds' l' → wAll X.K i Wout D l' cls d σ' H' →
        wpAny (model X.prog X.w) X.A (handleBy (.ref a) X.env hds') (SP X pins D) X.xe { s' with heap := h3 } := by
      intro hds' l' hk
      induction hk with
      | nil =>
        intro w
        refine wpAny_handleBy_nil ?_
        obtain ⟨k1, k2, k3, oe, vs, T, oT, ts', he, hz, hd, h1, hr⟩ := id fl3
        unfold PySem.passOn
        refine wpAny_bind (wpAny_field he hd h1 ?_)
        rw [if_neg (show ¬ ((Value.ref T == Value.none) = true) from by simp)]
        have fin : wpAny (model X.prog X.w) X.A (setFlight (.ref a) X.env.frame) (fun _ s4 => wpAny (model X.prog X.w) X.A (throw (.ref a) : Sem Flow) (SP X pins D) X.xe s4) X.xe { s' with heap := h3 } := by
          rw [hf]
          refine HandSPX.setFlight_upZ fl3 fun h4 hh4 up4 => wpAny_throw (tk _ _ ?_)
          exact ⟨a, B, sI, pins, σ', H', cls, d, rfl, J, nb, (up.trans up3).trans up4, .inr (.inr (by rw [hs]; exact hh4)), na, os, ag, w⟩
        first
          | exact wpAny_bind (wpAny_pure (wpAny_bind fin))
          | exact wpAny_bind fin
      | @cons x c ts b₀ suite np pos' hds2 l2 hc hsu r ih =>
        intro w
        obtain ⟨b, hb1, hyes, hno⟩ := w
        refine wpAny_handleBy_cons (codeAny_handlers_test ?_) (by intro q; cases q)
        have LT : PySem.W.Looks (model X.prog X.w) h3 (typeOf (.ref a)) cls := fun A Q E s k q => wpAny_typeOf_ref (k _ _ he3) (by rw [hz3.1]; exact q)
        have LM := PySem.W.exm_one (M := model X.prog X.w) (J3.kIn) LT hb1
        have test : ∀ {Q : Value → Shared → Prop} {E : Value → Shared → Prop}, Q c { s' with heap := h3 } → wpAny (model X.prog X.w) (X.A.mark (some (.ref a))) (eval (.Name x np) X.env) Q E { s' with heap := h3 } := fun {Q E} q => by
          obtain ⟨hg, hdbg, hm | ⟨hm, hv, hnn⟩⟩ := hc
          · exact ld_glob (X := X.suite a ((a, oe3) :: (X.pn ++ pins))) S3 hg hm q hdbg
          · exact ld_blt (X := X.suite a ((a, oe3) :: (X.pn ++ pins))) S3 hg hm hv q hnn hdbg
        refine test (LM.here ?_)
        cases b with
        | true =>
          refine codeAny_handlers_suite_as ?_
          refine HandSPX.lands_againZ fl3 fun h4 fl4 up4 => ?_
          have J4 : Inv X pins σ' H' { s' with heap := h4 } := J.landed nb fl4.1 ((up.trans up3).trans up4) os ag
          obtain ⟨oe4, vs4, he4, hz4, hd4⟩ := fl4.there
          have S4 := J4.suite he4 hd4 na nL nF
          refine store_ok (X := X.suite a ((a, oe4) :: (X.pn ++ pins))) (v := .ref a) S4 hN hi hloc rfl (fun s5 S5 => ?_) (.inr hln)
          refine wpAny_mono ((hsu a oe4 cls d (X.pn ++ pins) hz4 ⟨_, hd4⟩).run [] s5 _ H' _ S5 (hyes rfl a na)) (fun f s6 hsp => ?_) (fun _ _ z => False.elim z)
          have end_ : ∀ {σ6 : L2.St} {H6 : Hp} {Q : Shared → Prop}, Inv (X.suite a ((a, oe4) :: (X.pn ++ pins))) [] σ6 H6 s6 → (∀ s7, Inv X pins (σ6.set i none) H6 s7 → Q s7) →
              wpAny (model X.prog X.w) X.A (do bindName X.env n .none; unbindBehindTheSuite X.env n pos') (fun _ s7 => Q s7) X.xe s6 := fun {σ6 H6 Q} S6 hq => gone_ok (S6.unsuite ok) hN hi hln hq
          cases f with
          | next =>
            obtain ⟨σ6, H6, S6, q6⟩ := hsp
            exact end_ S6 fun s7 J7 => ⟨_, _, J7, q6⟩
          | brk =>
            obtain ⟨σ6, H6, S6, q6⟩ := hsp
            exact end_ S6 fun s7 J7 => ⟨_, _, J7, q6⟩
          | cont =>
            obtain ⟨σ6, H6, S6, q6⟩ := hsp
            exact end_ S6 fun s7 J7 => ⟨_, _, J7, q6⟩
          | ret u =>
            obtain ⟨v6, σ6, H6, S6, r6, q6⟩ := hsp
            exact end_ S6 fun s7 J7 => ⟨_, _, _, J7, r6, q6⟩
        | false =>
          show wpAny _ X.A (handleBy (.ref a) X.env hds2) _ _ _
          exact ih (hno rfl)
    exact go hh w
  · cases f with
    | next =>
      obtain ⟨σ', H', J', q⟩ := hsp
      exact wpAny_execs_nil ⟨σ', H', J'.ofTry ok, q⟩
    | brk =>
      obtain ⟨σ', H', J', q⟩ := hsp
      exact ⟨σ', H', J'.ofTry ok, q⟩
    | cont =>
      obtain ⟨σ', H', J', q⟩ := hsp
      exact ⟨σ', H', J'.ofTry ok, q⟩
    | ret u =>
      obtain ⟨v, σ', H', J', r, q⟩ := hsp
      exact ⟨v, σ', H', J'.ofTry ok, r, q⟩
end
end K1
namespace K1
open PySem PySem.Spec PyProof.Rows L2
/-- what is_rest tells -/
def rB (ts : Prs) (ss ar : List Int) (t : Nat) : Bool := match ts[t]? with
  | some p => decide (V.int (ss.getD p.1 0) = V.int (ss.getD p.2 0)) && decide (V.int (ss.getD p.2 0) = V.int (ar.getD t 0))
  | none => true
def restB (ts : Prs) (ss ar : List Int) : Bool := ((List.range ts.length).map (rB ts ss ar)).all id
def spAlike (W : Addr) : Sp := fun vs H Q _ => ∃ (w sa aa : Addr) (n : Nat) (ts : Prs) (ss ar : List Int), vs = [.ref w, .ref sa, .ref aa] ∧ WebAt W H w n ts ∧ Wv n ts ∧ H sa = some (.tup (vrow ss)) ∧ H aa = some (.tup (vrow ar)) ∧ ss.length = n ∧ ar.length = ts.length ∧ ∀ H', Same H H' → Q (.bl (restB ts ss ar)) H'
def spRest (N W : Addr) : Sp := fun vs H Q _ => ∃ (c w : Addr) (m : Int) (ss ar : List Int) (n : Nat) (ts : Prs), vs = [.ref c] ∧ NetAt N W H c m ss ar w n ts ∧ Wv n ts ∧ ∀ H', Same H H' → Q (.bl (restB ts ss ar)) H'
section
variable {P : Program} {w : World} {K : PySem.W.Frag} {mg : Str → Option Value} {base : Heap}
abbrev nAk : List Str := ["web", "houses", "ties", "tie", "one", "other"]
theorem scAk : FnScope nAk ["web", "houses", "ties"] (defScope sIsAlike) := ⟨rfl, rfl, rfl, by decide +kernel, rfl, by decide +kernel, by decide +kernel⟩
theorem opEqI {X : Cx} : OpR X (compareOp .Eq) (rEq) := op_eq
theorem ok_alike {f W : Addr} {fd : FuncData} (D : Df K mg "is_alike" sIsAlike ["web", "houses", "ties"] f fd) (B : Bt mg) (T : WcT K mg W) : FnOk P w K mg base CX0 1 f fd ["web", "houses", "ties"] (spAlike W) := by
  refine D.F.ok scAk (fun vs H Q E h => ?_) (fun cdv A outer s H vs Q E hr h => ?_)
  · obtain ⟨w, sa, aa, n, ts, ss, ar, rfl, _⟩ := h
    rfl
  · obtain ⟨w, sa, aa, n, ts, ss, ar, rfl, ⟨dx, ta, h1, tas, g1, g2⟩, hW, hs, ha, ls, la, q⟩ := h
    refine ⟨_, pss_one (ps_ret (pe_callB (cr_all rfl) (by rfl) B.all (by decide +kernel) (pa_cons (pe_lc (own := [("tie", 3), ("one", 4), ("other", 5)]) (g := gTup K 2 (gCons (gName 3) (gCons (gTup K 2 (gCons (gName 4) (gCons (gName 5) gNil))) gNil))) (tt := tYes) rfl scAk.nd (pi_enumA (by rfl) B.enumerate (pa_cons (pe_fld (pv 0) rfl) pa_nil)) (blkOk_by (N := nAk) (sc := defScope sIsAlike) (by decide +kernel))
      (fun _ _ _ _ _ => pg_tup rfl (pgs_cons (pg_name (i := 3) scAk.nd rfl (.inl rfl)) (pgs_cons (pg_tup rfl (pgs_cons (pg_name (i := 4) scAk.nd rfl (.inl rfl)) (pgs_cons (pg_name (i := 5) scAk.nd rfl (.inl rfl)) pgs_nil))) pgs_nil)))
      (fun _ _ _ _ _ => pts_nil)
      (fun _ _ _ _ _ => pe_chain op_eq op_eq (pe_ix (ixTK (K := K) rfl) (pv 1) (pv 4) (fun _ _ => rfl)) (pe_ix (ixTK (K := K) rfl) (pv 1) (pv 5) (fun _ _ => rfl)) (pe_ix (ixTK (K := K) rfl) (pv 2) (pv 3) (fun _ _ => rfl)))) pa_nil))), ?_⟩
    have n12 := hW.n12
    have t20 := hW.t20
    refine ⟨_, rfl, w, W, dx, _, _, rfl, h1, T.cl, T.nT, wf_t _ _, ta, rfl, .inr ⟨_, SqT.of g1, fun D0 hD0 => lc_enumT (K := K) (a := ta) (xs := tas.map V.ref)
      (fun i H2 => Same H H2 ∧ H2 D0 = some (.lst (((List.range i).map (rB ts ss ar)).map V.bl))) ⟨same_new hD0, by rw [upd_same]; rfl⟩ (fun i H2 _ ⟨s2, _⟩ => SqT.of (s2 _ _ g1)) ?_ ?_⟩⟩
    · rintro i x T0 H2 hx hT0 ⟨s2, hD2⟩
      obtain ⟨a, t, rfl, ha', ht, hat⟩ := g2.get' hx
      obtain ⟨p1, p2, p3⟩ := hW.at_ ht
      have sT := same_new (o := HO.tup [.int (i : Nat), .ref a]) hT0
      have hat2 : (upd H2 T0 (.tup [.int (i : Nat), .ref a])) a = some (.tup [.int (t.1 : Int), .int (t.2 : Int)]) := sT _ _ (s2 _ _ hat)
      have hD2' := sT _ _ hD2
      have s2' := s2.trans sT
      have hT2 : (upd H2 T0 (.tup [.int (i : Nat), .ref a])) T0 = some (.tup [.int (i : Nat), .ref a]) := upd_same
      generalize upd H2 T0 (.tup [.int (i : Nat), .ref a]) = H3 at hat2 hD2' s2' hT2 ⊢
      have it := lt_at ht
      refine ⟨T0, _, rfl, SqT.of hT2, rfl, _, _, rfl, _, _, rfl, ⟨a, _, rfl, SqT.of hat2, rfl, _, _, rfl, _, _, rfl, rfl, rfl, rfl, ?_⟩⟩
      have hs3 := s2' _ _ hs
      have ha3 := s2' _ _ ha
      refine ⟨_, rfl, _, rfl, sa, _, (t.1 : Int), _, rfl, rfl, SqT.of hs3, at_i (vrow_get (by omega)), _, rfl, _, rfl, sa, _, (t.2 : Int), _, rfl, rfl, SqT.of hs3, at_i (vrow_get (by omega)), rfl, _, rfl, ?_⟩
      have eR : rB ts ss ar i = (decide (V.int (ss.getD t.1 0) = V.int (ss.getD t.2 0)) && decide (V.int (ss.getD t.2 0) = V.int (ar.getD i 0))) := by unfold rB; rw [ht]
      have fin : ∀ b : Bool, b = rB ts ss ar i → ∃ acc, H3 D0 = some (.lst acc) ∧ acc.length < sizeLine ∧ Same H (upd H3 D0 (.lst (acc ++ [V.bl b]))) ∧ (upd H3 D0 (.lst (acc ++ [V.bl b]))) D0 = some (.lst (((List.range (i + 1)).map (rB ts ss ar)).map V.bl)) := fun b eb => by
        refine ⟨_, hD2', szl (by rw [List.length_map, List.length_map, List.length_range]; omega), fun c o eo => ?_, ?_⟩
        · rw [upd_ne (ne_of_none eo hD0)]
          exact s2' _ _ eo
        · rw [upd_same, List.range_succ, List.map_append, List.map_append, eb]; rfl
      by_cases e : V.int (ss.getD t.1 0) = V.int (ss.getD t.2 0)
      · rw [decide_eq_true e]
        refine iteT ⟨_, rfl, _, rfl, aa, _, (i : Int), _, rfl, rfl, SqT.of ha3, at_i (vrow_get (by omega)), rfl, fin _ ?_⟩
        rw [eR, decide_eq_true e, Bool.true_and]
      · rw [decide_eq_false e]
        refine iteF (fin _ ?_)
        rw [eR, decide_eq_false e, Bool.false_and]
    · rintro H2 ⟨s2, hD2⟩
      rw [List.length_map, g2.1] at hD2
      exact ⟨D0, _, rfl, SqL.of hD2, q H2 s2⟩
theorem scIR : FnScope ["net"] ["net"] (defScope sIsRest) := ⟨rfl, rfl, rfl, by decide +kernel, rfl, by decide +kernel, by decide +kernel⟩
theorem ok_rest {f fA W N : Addr} {fd fdA : FuncData} (D : Df K mg "is_rest" sIsRest ["net"] f fd) (DA : Df K mg "is_alike" sIsAlike ["web", "houses", "ties"] fA fdA) (T : NcT K mg N) (GA : FnOk P w K mg base CX0 1 fA fdA ["web", "houses", "ties"] (spAlike W)) : FnOk P w K mg base CX0 2 f fd ["net"] (spRest N W) := by
  refine D.F.ok scIR (fun vs H Q E h => ?_) (fun cdv A outer s H vs Q E hr h => ?_)
  · obtain ⟨c, w, m, ss, ar, n, ts, rfl, _⟩ := h
    rfl
  · obtain ⟨c, w, m, ss, ar, n, ts, rfl, hN, hW, q⟩ := h
    refine ⟨_, pss_one (ps_ret (pc DA GA hr pass0 (pa_cons (pe_fld (pv 0) rfl) (pa_cons (pe_fld (pv 0) rfl) (pa_cons (pe_fld (pv 0) rfl) pa_nil))))), ?_⟩
    obtain ⟨dx, sa, aa, h1, h2, h3⟩ := hN.ob
    exact ⟨_, rfl, c, N, dx, _, _, rfl, h1, T.cl, T.nW, nf_w _ _ _ _, _, rfl, c, N, dx, _, _, rfl, h1, T.cl, T.nS, nf_s _ _ _ _, _, rfl, c, N, dx, _, _, rfl, h1, T.cl, T.nA, nf_a _ _ _ _, w, sa, aa, n, ts, ss, ar, rfl, hN.wb, hW, h2, h3, hN.ls, hN.la, q⟩
end
end K1
namespace K1
open PySem PySem.Spec PyProof.Rows L2
def numB (v : V) : Bool := match v with | .int i => decide (0 ≤ i) | _ => false
def spNumb (K : PySem.W.Frag) : Sp := fun vs H Q _ => ∃ v o, vs = [v] ∧ KV K H v o ∧ Q (.bl (numB v)) H
/-- gcd is math's -/
structure Gc (mg : Str → Option Value) : Prop where
  g : mg "gcd" = some (.builtin "math.gcd")
/-- nothing, or a pair of numbers -/
def OptV (H : Hp) (v : V) : Option (Int × Int) → Prop
  | none => v = .non
  | some (a, b) => ∃ p, v = .ref p ∧ H p = some (.tup [.int a, .int b])
def spChk (K : PySem.W.Frag) (CR : Addr) : Sp := fun vs H Q E => ∃ vm vr vt om orr ot, vs = [vm, vr, vt] ∧ KV K H vm om ∧ KV K H vr orr ∧ KV K H vt ot ∧
  (modB vm = false → Rz CR "at" vm H E) ∧ (modB vm = true → (numB vr = false → Rz CR "at" vr H E) ∧ (numB vr = true → (wholeB vt = false → Rz CR "at" vt H E) ∧ (wholeB vt = true → Q .non H)))
def spWRs : Sp := fun vs H Q _ => ∃ b t : Int, vs = [.int b, .int t] ∧ b.natAbs < 1073741824 ∧ ∀ v H', Same H H' → OptV H' v (WRs b t) → Q v H'
def spInv : Sp := fun vs H Q _ => ∃ a s : Int, vs = [.int a, .int s] ∧ 0 < s ∧ s < 1073741824 ∧ Int.gcd a s = 1 ∧ ∀ u H', Same H H' → 0 ≤ u → u < s → s ∣ u * a - 1 → Q (.int u) H'
/-- what rest_values does: the errors, or what it tells -/
def spRV (K : PySem.W.Frag) (CR : Addr) : Sp := fun vs H Q E => ∃ vm vr vt om orr ot, vs = [vm, vr, vt] ∧ KV K H vm om ∧ KV K H vr orr ∧ KV K H vt ot ∧
  (modB vm = false → Rz CR "at" vm H E) ∧ (modB vm = true → (numB vr = false → Rz CR "at" vr H E) ∧ (numB vr = true → (wholeB vt = false → Rz CR "at" vt H E) ∧
    (∀ m r t, vm = .int m → vr = .int r → vt = .int t → (m = 0 → r < 1000000000 ∧ ∀ v H', Same H H' → OptV H' v (WRs (1 - r) t) → Q v H') ∧ (m ≠ 0 → ∀ o v H', Same H H' → RV m (1 - r) t o → OptV H' v o → Q v H'))))
/-- what are_right tells of what rest_values told -/
def arB (m t : Int) : Option (Int × Int) → Bool
  | none => true
  | some (f, s) => decide (f = cby m t) && decide (s = m)
def spAR (K : PySem.W.Frag) (CR : Addr) : Sp := fun vs H Q E => ∃ vm vr vt om orr ot, vs = [vm, vr, vt] ∧ KV K H vm om ∧ KV K H vr orr ∧ KV K H vt ot ∧
  (modB vm = false → Rz CR "at" vm H E) ∧ (modB vm = true → (numB vr = false → Rz CR "at" vr H E) ∧ (numB vr = true → (wholeB vt = false → Rz CR "at" vt H E) ∧
    (∀ m r t, vm = .int m → vr = .int r → vt = .int t → (m = 0 → r < 1000000000 ∧ ∀ H', Same H H' → Q (.bl (arB m t (WRs (1 - r) t))) H') ∧ (m ≠ 0 → ∀ o H', Same H H' → RV m (1 - r) t o → Q (.bl (arB m t o)) H'))))
theorem Rz.same {C : Addr} {f : Str} {v : V} {H H1 : Hp} {E : XK} (r : Rz C f v H E) (s : Same H H1) : Rz C f v H1 E := fun d H' sm hd he => r d H' (s.trans sm) (s.free hd) he
theorem eqv_two (a b c d : Int) : PyData.eqv (.tuple [.int a, .int b]) (.tuple [.int c, .int d]) = (decide (a = c) && decide (b = d)) := by
  simp only [PyData.eqv, PyData.eqvAll, Bool.and_true]
  by_cases h1 : a = c <;> by_cases h2 : b = d <;> simp [h1, h2]
theorem shT2 (x y : Int) : SeqAt.shaped (.tuple [.int x, .int y]) = true := rfl
section
variable {P : Program} {w : World} {K : PySem.W.Frag} {mg : Str → Option Value} {base : Heap}
theorem scNb : FnScope ["value"] ["value"] (defScope sIsNumber) := ⟨rfl, rfl, rfl, by decide +kernel, rfl, by decide +kernel, by decide +kernel⟩
theorem ok_numb {f fW : Addr} {fd fdW : FuncData} (D : Df K mg "is_number" sIsNumber ["value"] f fd) (DW : Df K mg "is_whole" sWhole ["value"] fW fdW) (B : Bt mg) : FnOk P w K mg base CX0 2 f fd ["value"] (spNumb K) := by
  have GW : FnOk P w K mg base CX0 1 fW fdW ["value"] (spWhole K) := ok_whole DW B
  refine D.F.ok scNb (fun vs H Q E h => ?_) (fun cdv A outer s H vs Q E hr h => ?_)
  · obtain ⟨v, o, rfl, _⟩ := h
    rfl
  · obtain ⟨v, o, rfl, kv, q⟩ := h
    refine ⟨_, pss_one (ps_ret (pe_and (pc DW GW hr pass0 (pa_cons (pv 0) pa_nil)) (pe_one (pe_cmpR op_ge (pv 0) pe_int (nomark _))))), ?_⟩
    refine ⟨_, rfl, _, _, rfl, kv, _, rfl, ifD (fun e => ?_) fun e => ?_⟩
    · obtain ⟨i, rfl⟩ : ∃ i, v = .int i := by
        cases v <;> first | exact ⟨_, rfl⟩ | cases e
      exact ⟨_, rfl, _, _, rfl, rfl, q⟩
    · have z : false = numB v := by cases v <;> first | rfl | cases e
      exact qbl z q
theorem scCk : FnScope ["modulus", "rings", "total"] ["modulus", "rings", "total"] (defScope sCheckTotal) := ⟨rfl, rfl, rfl, by decide +kernel, rfl, by decide +kernel, by decide +kernel⟩
theorem ok_chk {f fM fN fW CR cI : Addr} {fd fdM fdN fdW : FuncData} {bm : List Value} {ql : Str} (D : Df K mg "check_total" sCheckTotal ["modulus", "rings", "total"] f fd) (DM : Df K mg "need_modulus" sNeedM ["value"] fM fdM) (DN : Df K mg "is_number" sIsNumber ["value"] fN fdN) (DW : Df K mg "is_whole" sWhole ["value"] fW fdW)
    (TX : LAt.Txt K mg "Refused" ql bm CR cI) (GM : FnOk P w K mg base (L2.CX P w) 3 fM fdM ["value"] (spNeedM K CR)) (GN : FnOk P w K mg base CX0 2 fN fdN ["value"] (spNumb K)) (GW : FnOk P w K mg base CX0 1 fW fdW ["value"] (spWhole K)) :
    FnOk P w K mg base (L2.CX P w) 4 f fd ["modulus", "rings", "total"] (spChk K CR) := by
  refine D.F.okX scCk (fun vs H Q E h => ?_) (fun cdv A outer s H vs Q E hr h => ?_)
  · obtain ⟨vm, vr, vt, om, orr, ot, rfl, _⟩ := h
    rfl
  · obtain ⟨vm, vr, vt, om, orr, ot, rfl, km, kr, kt, q1, q2⟩ := h
    refine ⟨_, pss_cons (ps_expr (pc DM GM hr (pass1 (takes_of rfl rfl rfl rfl)) (pa_cons (pv 0) pa_nil)))
      (pss_cons (ps_if (pt_not (pt_val (pc DN GN (hr.mono (by decide)) pass0 (pa_cons (pv 1) pa_nil)))) (pss_one (ps_raise_LAt rfl TX hr (takes_of rfl rfl rfl rfl) (pa_cons (pv 1) pa_nil))) pss_nil)
      (pss_one (ps_if (pt_not (pt_val (pc DW GW (hr.mono (by decide)) pass0 (pa_cons (pv 2) pa_nil)))) (pss_one (ps_raise_LAt rfl TX hr (takes_of rfl rfl rfl rfl) (pa_cons (pv 2) pa_nil))) pss_nil))), ?_⟩
    refine ⟨_, rfl, vm, om, rfl, km, fun hm => ?_, fun hm => q1 hm⟩
    obtain ⟨q3, q4⟩ := q2 hm
    refine ⟨_, rfl, vr, orr, rfl, kr, _, rfl, ifD (fun e => ?_) fun e => ?_⟩
    · exact ⟨_, rfl, _, rfl, fun d hd => q3 (by simpa using e) d _ (same_new hd) hd upd_same⟩
    · obtain ⟨q5, q6⟩ := q4 (by simpa using e)
      refine nxP ⟨_, rfl, vt, ot, rfl, kt, _, rfl, ifD (fun e => ?_) fun e => ?_⟩
      · exact ⟨_, rfl, _, rfl, fun d hd => q5 (by simpa using e) d _ (same_new hd) hd upd_same⟩
      · exact q6 (by simpa using e)
theorem scWr : FnScope ["times", "total"] ["times", "total"] (defScope sWholeRests) := ⟨rfl, rfl, rfl, by decide +kernel, rfl, by decide +kernel, by decide +kernel⟩
theorem ok_wrs {f : Addr} {fd : FuncData} (D : Df K mg "whole_rests" sWholeRests ["times", "total"] f fd) : FnOk P w K mg base CX0 1 f fd ["times", "total"] spWRs := by
  refine D.F.ok scWr (fun vs H Q E h => ?_) (fun cdv A outer s H vs Q E hr h => ?_)
  · obtain ⟨b, t, rfl, _⟩ := h
    rfl
  · obtain ⟨b, t, rfl, hb, q⟩ := h
    refine ⟨_, pss_cons (ps_if (pt_cmpR op_eq (pv 0) pe_int (nomark _)) (pss_one (ps_ret (pe_ifExp (pt_cmpR op_eq (pv 1) pe_int (nomark _)) (pe_tup (pa_cons pe_int (pa_cons pe_int pa_nil))) pe_non))) pss_nil)
      (pss_one (ps_ret (pe_ifExp (pt_cmpR op_eq (pe_op op_modN (pv 1) (pv 0)) pe_int (nomark _)) (pe_tup (pa_cons (pe_op op_fdivN (pv 1) (pv 0)) (pa_cons pe_int pa_nil))) pe_non))), ?_⟩
    have de : ∀ x y : Int, decide (V.int x = V.int y) = decide (x = y) := fun x y => by
      by_cases z : x = y
      · rw [decide_eq_true z, decide_eq_true (by rw [z])]
      · rw [decide_eq_false z, decide_eq_false (by intro e; injection e with e; exact z e)]
    unfold WRs at q
    refine ⟨_, rfl, rfl, _, rfl, ?_⟩
    rw [de]
    refine ifD (fun e => ?_) fun e => ?_
    · rw [if_pos (of_decide_eq_true e)] at q
      refine ⟨_, rfl, rfl, _, rfl, ?_⟩
      rw [de]
      refine ifD (fun e2 => ?_) fun e2 => ?_
      · rw [if_pos (of_decide_eq_true e2)] at q
        exact ⟨(by show 2 ≤ sizeLine; decide), fun p hp => q _ _ (same_new hp) ⟨p, rfl, upd_same⟩⟩
      · rw [if_neg (of_decide_eq_false e2)] at q
        exact q _ _ (Same.refl _) rfl
    · have nb := of_decide_eq_false e
      rw [if_neg nb] at q
      refine nxP ⟨_, rfl, _, rfl, _, _, rfl, rfl, nb, rfl, _, rfl, ?_⟩
      rw [de]
      refine ifD (fun e2 => ?_) fun e2 => ?_
      · rw [if_pos (of_decide_eq_true e2)] at q
        exact ⟨_, rfl, _, rfl, _, _, rfl, rfl, ⟨nb, hb⟩, (by show 2 ≤ sizeLine; decide), fun p hp => q _ _ (same_new hp) ⟨p, rfl, upd_same⟩⟩
      · rw [if_neg (of_decide_eq_false e2)] at q
        exact q _ _ (Same.refl _) rfl
abbrev nIv : List Str := ["number", "modulus", "one", "other", "taken", "taking"]
theorem scIv : FnScope nIv ["number", "modulus"] (defScope sInverseBy) := ⟨rfl, rfl, rfl, by decide +kernel, rfl, by decide +kernel, by decide +kernel⟩
theorem ok_inv {f : Addr} {fd : FuncData} (D : Df K mg "inverse_by" sInverseBy ["number", "modulus"] f fd) : FnOk P w K mg base CX0 1 f fd ["number", "modulus"] spInv := by
  refine D.F.ok scIv (fun vs H Q E h => ?_) (fun cdv A outer s H vs Q E hr h => ?_)
  · obtain ⟨a, s, rfl, _⟩ := h
    rfl
  · obtain ⟨a, s, rfl, hs, hs2, hc, q⟩ := h
    refine ⟨_, pss_cons (ps_par (i := 2) (j := 3) rfl scIv.nd rfl rfl (by decide) rfl rfl (pa_cons (pv 1) (pa_cons (pe_op op_mod (pv 0) (pv 1)) pa_nil)) rfl)
      (pss_cons (ps_asg (pe_tup (pa_cons pe_int (pa_cons pe_int pa_nil))) (pg_tup rfl (pgs_cons (pg_name (i := 4) scIv.nd rfl (.inl rfl)) (pgs_cons (pg_name (i := 5) scIv.nd rfl (.inl rfl)) pgs_nil))))
      (pss_cons (ps_while PassesOwn.never (pt_cmpR op_ne (pv 3) pe_int (nomark _))
        (pss_cons (ps_par (i := 4) (j := 5) rfl scIv.nd rfl rfl (by decide) rfl rfl (pa_cons (pv 5) (pa_cons (pe_op op_sub (pv 4) (pe_op op_mul (pe_op op_fdiv (pv 2) (pv 3)) (pv 5))) pa_nil)) rfl)
        (pss_one (ps_par (i := 2) (j := 3) rfl scIv.nd rfl rfl (by decide) rfl rfl (pa_cons (pv 3) (pa_cons (pe_op op_mod (pv 2) (pv 3)) pa_nil)) rfl))))
      (pss_one (ps_ret (pe_op op_mod (pv 4) (pv 1)))))), ?_⟩
    refine ⟨_, rfl, _, rfl, _, rfl, _, _, rfl, rfl, hs, _, _, rfl, ?_⟩
    dsimp only [List.set]
    refine ⟨(by show 2 ≤ sizeLine; decide), fun p0 hp0 => ⟨p0, _, rfl, SqT.of upd_same, rfl, _, _, rfl, _, _, rfl, rfl, ?_⟩⟩
    have s1 := same_new (o := HO.tup [V.int 0, .int 1]) hp0
    generalize upd H p0 (.tup [V.int 0, .int 1]) = H1 at s1 ⊢
    dsimp only [List.set]
    have am := Int.emod_lt_of_pos a hs
    refine while_by (fun σ H' => ∃ one other tk tg : Int, σ = [some (.int a), some (.int s), some (.int one), some (.int other), some (.int tk), some (.int tg)] ∧ H' = H1 ∧ Eu a s one other tk tg ∧ one < 1073741824 ∧ other < 1073741824)
      (fun (σ : L2.St) _ => match σ[3]? with | some (some (V.int i)) => i.toNat | _ => 0) ⟨s, a % s, 0, 1, rfl, rfl, Eu.init hs, hs2, by omega⟩ ?_
      (fun σ H Q Q' hQ ⟨v, h1, h2, k, h3, h4⟩ => ⟨v, h1, h2, k, h3, hQ _ _ h4⟩)
    rintro σ H' ⟨one, other, tk, tg, rfl, rfl, E, b1, b2⟩
    have o0 := E.p2
    refine ⟨_, rfl, rfl, _, rfl, ifD (fun e => ?_) fun e => ?_⟩
    · have on : other ≠ 0 := fun z => by
        rw [z] at e
        cases e
      have E' := E.step on
      have lt := Int.emod_lt_of_pos one (show 0 < other by omega)
      have dl : one / other ≤ one := Int.ediv_le_self _ (by have := E.p1; omega)
      have d0 : 0 ≤ one / other := Int.ediv_nonneg (by have := E.p1; omega) o0
      refine ⟨_, rfl, _, rfl, _, rfl, _, rfl, _, _, rfl, rfl, ⟨by omega, b2⟩, _, rfl, _, _, rfl, rfl, .inl ⟨by omega, by omega⟩, _, _, rfl, rfl, _, _, rfl, ?_⟩
      refine ⟨_, rfl, _, rfl, _, rfl, _, _, rfl, rfl, by omega, _, _, rfl, ?_⟩
      refine ⟨⟨_, _, _, _, rfl, rfl, E', b2, by omega⟩, ?_⟩
      show (one % other).toNat < other.toNat
      omega
    · have on : other = 0 := by
        by_cases z : other = 0
        · exact z
        · have : decide (V.int other = V.int 0) = false := decide_eq_false fun w => by injection w with w; exact z w
          rw [this] at e
          cases e
      subst on
      obtain ⟨h1, h2, h3⟩ := E.done hs hc
      exact ⟨_, rfl, _, rfl, _, _, rfl, rfl, hs, q _ _ s1 h1 h2 h3⟩
abbrev nRv : List Str := ["modulus", "rings", "total", "common", "step"]
theorem scRv : FnScope nRv ["modulus", "rings", "total"] (defScope sRestValues) := ⟨rfl, rfl, rfl, by decide +kernel, rfl, by decide +kernel, by decide +kernel⟩
theorem ok_rv {f fC fW fI CR : Addr} {fd fdC fdW fdI : FuncData} (D : Df K mg "rest_values" sRestValues ["modulus", "rings", "total"] f fd) (DC : Df K mg "check_total" sCheckTotal ["modulus", "rings", "total"] fC fdC) (DW : Df K mg "whole_rests" sWholeRests ["times", "total"] fW fdW) (DI : Df K mg "inverse_by" sInverseBy ["number", "modulus"] fI fdI) (B : Bt mg) (gc : Gc mg)
    (GC : FnOk P w K mg base (L2.CX P w) 4 fC fdC ["modulus", "rings", "total"] (spChk K CR)) (GW : FnOk P w K mg base CX0 1 fW fdW ["times", "total"] spWRs) (GI : FnOk P w K mg base CX0 1 fI fdI ["number", "modulus"] spInv) : FnOk P w K mg base (L2.CX P w) 5 f fd ["modulus", "rings", "total"] (spRV K CR) := by
  refine D.F.okX scRv (fun vs H Q E h => ?_) (fun cdv A outer s H vs Q E hr h => ?_)
  · obtain ⟨vm, vr, vt, om, orr, ot, rfl, _⟩ := h
    rfl
  · obtain ⟨vm, vr, vt, om, orr, ot, rfl, km, kr, kt, q1, q2⟩ := h
    have r1 := hr.mono (show 1 ≤ 4 by decide)
    refine ⟨_, pss_cons (ps_expr (pc DC GC hr (pass1 (takes_of rfl rfl rfl rfl)) (pa_cons (pv 0) (pa_cons (pv 1) (pa_cons (pv 2) pa_nil)))))
      (pss_cons (ps_if (pt_cmpR op_eq (pv 0) pe_int (nomark _)) (pss_one (ps_ret (pc DW GW r1 pass0 (pa_cons (pe_op op_sub pe_int (pv 1)) (pa_cons (pv 2) pa_nil))))) pss_nil)
      (pss_cons (ps_set (i := 3) scRv.nd rfl (.inl rfl) (pe_callBfun cr_gcd (by rfl) gc.g (pa_cons (pe_op op_sub pe_int (pv 1)) (pa_cons (pv 0) pa_nil))))
      (pss_cons (ps_if (pt_cmpR op_ne (pe_op op_mod (pv 2) (pv 3)) pe_int (nomark _)) (pss_one (ps_ret pe_non)) pss_nil)
      (pss_cons (ps_set (i := 4) scRv.nd rfl (.inl rfl) (pe_op op_fdiv (pv 0) (pv 3)))
      (pss_one (ps_ret (pe_tup (pa_cons (pe_op op_mod (pe_op op_mul (pe_op op_fdiv (pv 2) (pv 3)) (pc DI GI r1 pass0 (pa_cons (pe_op op_fdiv (pe_op op_sub pe_int (pv 1)) (pv 3)) (pa_cons (pv 4) pa_nil)))) (pv 4)) (pa_cons (pv 4) pa_nil))))))))), ?_⟩
    refine ⟨_, rfl, _, rfl, _, rfl, vm, vr, vt, om, orr, ot, rfl, km, kr, kt, fun hf => q1 hf, fun hm => ⟨fun hf => (q2 hm).1 hf, fun hn => ⟨fun hf => ((q2 hm).2 hn).1 hf, fun hw => ?_⟩⟩⟩
    have q3 := ((q2 hm).2 hn).2
    obtain ⟨m, rfl⟩ : ∃ m, vm = .int m := by
      cases vm <;> first | exact ⟨_, rfl⟩ | cases hm
    obtain ⟨r, rfl⟩ : ∃ r, vr = .int r := by
      cases vr <;> first | exact ⟨_, rfl⟩ | cases hn
    obtain ⟨t, rfl⟩ : ∃ t, vt = .int t := by
      cases vt <;> first | exact ⟨_, rfl⟩ | cases hw
    have r0 : 0 ≤ r := of_decide_eq_true hn
    have hm' : 0 ≤ m ∧ m < 1000001 ∧ m ≠ 1 := by
      have z : (decide (0 ≤ m) && decide (m < 1000001) && !decide (m = 1)) = true := hm
      simp only [Bool.and_eq_true, decide_eq_true_eq, Bool.not_eq_true', decide_eq_false_iff_not] at z
      exact ⟨z.1.1, z.1.2, z.2⟩
    have de : ∀ x y : Int, decide (V.int x = V.int y) = decide (x = y) := fun x y => by
      by_cases z : x = y
      · rw [decide_eq_true z, decide_eq_true (by rw [z])]
      · rw [decide_eq_false z, decide_eq_false (by intro e; injection e with e; exact z e)]
    obtain ⟨qa, qb⟩ := q3 m r t rfl rfl rfl
    refine ⟨_, rfl, rfl, _, rfl, ?_⟩
    rw [de]
    refine ifD (fun e => ?_) fun e => ?_
    · have m0 := of_decide_eq_true e
      obtain ⟨rs, qa⟩ := qa m0
      exact ⟨_, rfl, _, _, rfl, rfl, _, rfl, 1 - r, t, rfl, by omega, fun v H' s' ov => qa v H' s' ov⟩
    · have m0 : m ≠ 0 := of_decide_eq_false e
      have mp : 0 < m := by omega
      have qb := qb m0
      obtain ⟨g, a, s, eg, hg, hs, eb, em, ea, es, hc⟩ := gcd_split (b := 1 - r) mp
      have gm : g ≤ m := by
        have : g * 1 ≤ g * s := Int.mul_le_mul_of_nonneg_left (by omega) (by omega)
        omega
      have sm : s ≤ m := by
        have : 1 * s ≤ g * s := Int.mul_le_mul_of_nonneg_right (by omega) (by omega)
        omega
      refine nxP ⟨_, rfl, _, _, rfl, rfl, _, rfl, 1 - r, m, rfl, ?_⟩
      rw [show ((Nat.gcd (1 - r).natAbs m.natAbs : Nat) : Int) = g from eg.symm]
      refine gn ?_
      dsimp only [List.set]
      refine ⟨_, rfl, _, rfl, _, _, rfl, rfl, hg, rfl, _, rfl, ?_⟩
      rw [de]
      by_cases ht : t % g = 0
      · rw [decide_eq_true ht]
        refine iteF (nxP ?_)
        refine ⟨_, rfl, _, rfl, _, _, rfl, rfl, ⟨hg, by omega⟩, ?_⟩
        refine gn ?_
        dsimp only [List.set]
        rw [es]
        refine ⟨_, rfl, _, rfl, _, _, rfl, rfl, ⟨hg, by omega⟩, _, rfl, _, _, rfl, rfl, _, rfl, _, _, rfl, rfl, ⟨hg, by omega⟩, _, rfl, a, s, (by show [V.int ((1 - r) / g), V.int s] = [V.int a, V.int s]; rw [ea]), hs, by omega, hc, fun u H9 s9 u0 u1 hu => ?_⟩
        refine ⟨_, _, rfl, rfl, .inr ⟨by omega, by omega⟩, _, rfl, _, _, rfl, rfl, hs, _, rfl, (by show 2 ≤ sizeLine; decide), fun p hp => ?_⟩
        refine qb (some ((t / g * u) % s, s)) _ _ (s9.trans (same_new hp)) (.inr ⟨by rw [← eg]; exact ht, _, by rw [← eg, es], ?_, ?_, fun x => ?_⟩) ⟨p, rfl, upd_same⟩
        · exact Int.emod_nonneg _ (by omega)
        · rw [← eg, es]; exact Int.emod_lt_of_pos _ hs
        · rw [← eg, es]; exact sol_iff hg hs eb em ht hu x
      · rw [decide_eq_false ht]
        exact iteT (qb none _ _ (Same.refl _) (.inl ⟨by rw [← eg]; exact ht, rfl⟩) rfl)
abbrev nAr : List Str := ["modulus", "rings", "total", "rests"]
theorem scAr : FnScope nAr ["modulus", "rings", "total"] (defScope sAreRight) := ⟨rfl, rfl, rfl, by decide +kernel, rfl, by decide +kernel, by decide +kernel⟩
theorem ok_ar {f fR fC CR : Addr} {fd fdR fdC : FuncData} (D : Df K mg "are_right" sAreRight ["modulus", "rings", "total"] f fd) (DR : Df K mg "rest_values" sRestValues ["modulus", "rings", "total"] fR fdR) (DC : Df K mg "counted_by" sCBy ["modulus", "number"] fC fdC)
    (GR : FnOk P w K mg base (L2.CX P w) 5 fR fdR ["modulus", "rings", "total"] (spRV K CR)) (GC : FnOk P w K mg base CX0 1 fC fdC ["modulus", "number"] spCBy) : FnOk P w K mg base (L2.CX P w) 6 f fd ["modulus", "rings", "total"] (spAR K CR) := by
  refine D.F.okX scAr (fun vs H Q E h => ?_) (fun cdv A outer s H vs Q E hr h => ?_)
  · obtain ⟨vm, vr, vt, om, orr, ot, rfl, _⟩ := h
    rfl
  · obtain ⟨vm, vr, vt, om, orr, ot, rfl, km, kr, kt, q1, q2⟩ := h
    have hu : (A.deeper (envOfC "are_right" (defScope sAreRight) s.heap.objs.size f cdv)).units + 64 < cLine := hr.units
    have r1 := hr.mono (show 1 ≤ 5 by decide)
    refine ⟨_, pss_cons (ps_set (i := 3) scAr.nd rfl (.inl rfl) (pc DR GR hr (pass1 (takes_of rfl rfl rfl rfl)) (pa_cons (pv 0) (pa_cons (pv 1) (pa_cons (pv 2) pa_nil)))))
      (pss_one (ps_ret (pe_or (pe_cmp (pc_isN (pv 3))) (pe_one (pe_cmpR (eqD (K := K) rfl hu) (pv 3) (pe_tup (pa_cons (pc DC GC r1 pass0 (pa_cons (pv 0) (pa_cons (pv 2) pa_nil))) (pa_cons (pv 0) pa_nil))) (nomark _)))))), ?_⟩
    refine seqG (fun σ H1 => ∃ (m t : Int) (o : Option (Int × Int)) (v : V), σ = [some (.int m), some vr, some (.int t), some v] ∧ Same H H1 ∧ 0 ≤ m ∧ OptV H1 v o ∧ ∀ H', Same H H' → Q (.bl (arB m t o)) H') ?_ (fun go => ?_)
    · rintro σ H1 ⟨m, t, o, v, rfl, s1, m0, ov, qq⟩
      refine ⟨_, rfl, ?_⟩
      match o, ov with
      | none, ov =>
        obtain rfl : v = .non := ov
        exact ⟨_, rfl, iteT (qq _ s1)⟩
      | some (a, b), ⟨p, ev, hp⟩ =>
        subst ev
        refine ⟨_, rfl, iteF ?_⟩
        refine ⟨_, rfl, _, rfl, _, rfl, m, t, rfl, m0, _, rfl, (by show 2 ≤ sizeLine; decide), fun p1 hp1 => ?_⟩
        have s2 := same_new (o := HO.tup [V.int (cby m t), V.int m]) hp1
        refine ⟨.tuple [.int a, .int b], .tuple [.int (cby m t), .int m], .tup (SqT.of (s2 _ _ hp)) (.cons (.int _) (.cons (.int _) .nil)), .tup (SqT.of upd_same) (.cons (.int _) (.cons (.int _) .nil)), shT2 _ _, shT2 _ _, ?_⟩
        rw [eqv_two]
        exact qq _ (s1.trans s2)
    · refine ⟨_, rfl, _, rfl, _, rfl, vm, vr, vt, om, orr, ot, rfl, km, kr, kt, fun hf => q1 hf, fun hm => ⟨fun hf => (q2 hm).1 hf, fun hn => ⟨fun hf => ((q2 hm).2 hn).1 hf, fun m r t em er et => ?_⟩⟩⟩
      subst em er et
      have hm' : 0 ≤ m := by
        have z : (decide (0 ≤ m) && decide (m < 1000001) && !decide (m = 1)) = true := hm
        simp only [Bool.and_eq_true, decide_eq_true_eq] at z
        exact z.1.1
      obtain ⟨qa, qb⟩ := ((q2 hm).2 hn).2 m r t rfl rfl rfl
      exact ⟨fun m0 => ⟨(qa m0).1, fun v H1 s1 ov => go _ _ ⟨m, t, _, v, rfl, s1, hm', ov, (qa m0).2⟩⟩, fun m0 o v H1 s1 rv ov => go _ _ ⟨m, t, o, v, rfl, s1, hm', ov, fun H' s' => qb m0 o H' s' rv⟩⟩
end
end K1
namespace K1
open PySem PySem.Spec PyProof.Rows L2
abbrev gM : List Value → List Value → List Value := fun us ws => us ++ ws.reverse
abbrev gMV : List V → List V → List V := fun us ws => us ++ ws.reverse
theorem kb_rv {K : PySem.W.Frag} {f : Addr} {fd : FuncData} (F : Fun K "rest_values" "rest_values" sRestValues f fd) : KBn K fd ["modulus", "rings", "total"] 0 ["total", "rings", "modulus"] gM gMV := by
  obtain ⟨oc, od, kV, doc, pm, an, cdv, ct, osl, rfl, lk, hcd⟩ := F.ex
  refine ⟨fun s us ws _ h0 h1 => .of_eq ?_, fun r q => r.append q.reverse⟩
  match us, ws, h0, h1 with
  | [], [_, _, _], _, _ => rfl
theorem kb_ar {K : PySem.W.Frag} {f : Addr} {fd : FuncData} (F : Fun K "are_right" "are_right" sAreRight f fd) : KBn K fd ["modulus", "rings", "total"] 0 ["total", "rings", "modulus"] gM gMV := by
  obtain ⟨oc, od, kV, doc, pm, an, cdv, ct, osl, rfl, lk, hcd⟩ := F.ex
  refine ⟨fun s us ws _ h0 h1 => .of_eq ?_, fun r q => r.append q.reverse⟩
  match us, ws, h0, h1 with
  | [], [_, _, _], _, _ => rfl
structure FunC (K : PySem.W.Frag) (x qual : Str) (st : Stmt) (f : Addr) (fd : FuncData) (cdv : Value) : Prop where
  ex : ∃ (oc : Value) (od : Option Addr) (kV doc pm : Value) (an : Option Addr) (ct : Value) (osl : Array (Option Value)),
    fd = PySem.W.fnOf x qual (defArgs st) (defBody st) (defScope st) .none kV doc pm an cdv ct ∧ K.lookup f = some ⟨oc, od, .func fd, osl⟩ ∧ PySem.W.codeIn K cdv qual = true
  kp : PySem.W.keepIn K (.ref f) = true
/-! ### defs told where nothing is being shown -/
section
variable {P : Program} {w : World} {K : PySem.W.Frag} {mg : Str → Option Value} {base : Heap}
theorem okG {x qual : Str} {st : Stmt} {f : Addr} {fd : FuncData} {N ps : List Str} {k : Nat} {sp : Sp} (F : Fun K x qual st f fd) (S : FnScope N ps (defScope st)) (len : ∀ vs H Q E, sp vs H Q E → vs.length = ps.length)
    (hbody : ∀ (cdv : Value) (A : Around) (outer : List Env) (s : Shared) (H : Hp) (vs : List V) (Q : VK) (E : XK), Room k (A.deeper (envOfC qual (defScope st) s.heap.objs.size f cdv)) → (A.deeper (envOfC qual (defScope st) s.heap.objs.size f cdv)).guards = some [] → sp vs H Q E →
      ∃ t, PSs (cxOf CX0 P w K mg base N qual (defScope st) f cdv A outer s H E).nox (defBody st) t ∧ t { nx := fun _ H' => Q .non H', rt := Q } (start N vs) H) : FnG P w K mg base (k + 1) f fd ps sp := by
  obtain ⟨oc, od, kV, doc, pm, an, cdv, ct, osl, rfl, lk, hcd⟩ := F.ex
  refine ⟨len, fun A outer s H args us vs Q E hr hgd e0 hb r hsp => ?_⟩
  refine LamX.run_ofS lk hcd S hr e0 hb r (len _ _ _ _ hsp) fun hr' => ?_
  obtain ⟨t, h, q⟩ := hbody cdv A outer s H vs Q E hr' hgd hsp
  exact ⟨t, h.nox, q⟩
end
section
variable {X : Cx} {k : Nat} {f : Addr} {fd : FuncData} {ps ks : List Str} {sp : Sp} {x : Str} {st : Stmt} {p pos : Pos} {e : Expr} {es : List Expr} {kws : List Keyword} {t tk : TA}
theorem pe_callG (D : Df X.K X.mg x st ps f fd) (G : FnG X.prog X.w X.K X.mg X.base k f fd ps sp) (hr : Room k X.A) (hgd : X.A.guards = some []) (ha : PA X (e :: es) t) (hg : Gl X x := by rfl)
    (hdb : (x == ("__debug__" : Str)) = false := by decide) (he : starEach (e :: es) X.env = (false, eval e X.env) :: starEach es X.env := by rfl) (hpl : (backTo pos (starEach es X.env)).any (·.1) = false := by rfl) :
    PE X (.Call (.Name x p) (e :: es) [] pos) (fun σ H Q => t σ H fun vs H1 => sp vs H1 Q fun _ _ _ => False) := by
  refine ⟨fun pins s σ H Q I h => ?_⟩
  refine wpAny_Call_Name_kw (ld_glob I hg D.g ?_ hdb)
  refine PySem.W.callWith_K (h₀ := X.base) I.ok.mod.kin D.F.kp (thn (ha.run pos pins s σ H _ I h) fun us s1 ⟨vs, H1, I1, r, q⟩ => ⟨I1.kIn, ?_⟩) he hpl
  have hl : us.length = ps.length := by rw [← r.length]; exact G.len _ _ _ _ q
  refine wpAny_call (codeAny_mono (G.run X.A X.stack s1 H1 ⟨us, []⟩ us vs Q (fun _ _ _ => False) hr hgd I1.env0 (by
    have z := D.b s1 us I1.kIn (by rw [List.append_nil]; exact hl)
    rw [List.append_nil] at z
    exact z) r q) fun r s' hq => ?_)
  cases r with
  | error e => exact (show False from hq).elim
  | ok fl =>
    cases fl with
    | ret u => exact I1.after hq
    | next => exact False.elim hq
    | brk => exact False.elim hq
    | cont => exact False.elim hq
end
theorem mkSame {G : Hp} {c dx : Addr} {o1 o2 : HO} (hc : G c = none) (hd : G dx = none) (ne : dx ≠ c) : Same G (upd (upd G dx o1) c o2) := (same_new hd).trans (same_new (by rw [upd_ne ne.symm]; exact hc))
section
variable {X : Cx} {k : Nat} {f C : Addr} {fd : FuncData} {ps ks : List Str} {sp : Sp} {x m : Str} {st : Stmt} {p pos apos : Pos} {o : Expr} {kws : List Keyword} {tk : TA} {ta : TE}
theorem pe_callW {CX : CXT} {E : XK} {g : List Value → List Value → List Value} {gV : List V → List V → List V} (D : Df X.K X.mg x st ps f fd) (G : FnOk X.prog X.w X.K X.mg X.base CX k f fd ps sp) (hr : Room k X.A) (hb : KBn X.K fd ps 0 ks g gV) (hx : Passes CX X E) (hkw : PK X kws tk) (hg : Gl X x := by rfl)
    (hall : (backToKw pos (keywordEach kws X.env)).all (·.1.isSome) = true := by rfl) (hks : (backToKw pos (keywordEach kws X.env)).filterMap (·.1) = ks := by rfl) (hdb : (x == ("__debug__" : Str)) = false := by decide)
    (hpl : ((backTo pos (starEach [] X.env)).any (·.1) || (backToKw pos (keywordEach kws X.env)).any (·.1.isNone)) = false := by rfl) :
    PE X (.Call (.Name x p) [] kws pos) (fun σ H Q => tk σ H fun zs H1 => zs.length = ks.length ∧ sp (gV [] zs) H1 Q E) := by
  refine ⟨fun pins s σ H Q I h => ?_⟩
  refine wpAny_Call_Name_kw (ld_glob I hg D.g ?_ hdb)
  refine PySem.W.callWith_KW0 (h₀ := X.base) I.ok.mod.kin D.F.kp hall ?_ hpl
  refine thn (hkw.run pos pins s σ H _ I h) fun ws s2 ⟨zs, H2, I2, rz, l2, q2⟩ => ⟨I2.kIn, ?_⟩
  rw [hks]
  exact run_fnN (us := []) (vs := []) G hr hb hx I2 .nil rz rfl l2 q2
end
/-! ### plain data with great numbers -/
structure PB (d : PyData) (n w : Nat) : Prop where
  lay : d.canLay0 = true
  sh : d.showable = true
  nd : d.hasDict = false
  dp : d.depth ≤ n
  wt : d.weight ≤ w
  sr : d.leavesShort 220 = true
structure PBA (ds : List PyData) (n w : Nat) : Prop where
  lay : PyData.canLayAll0 ds = true
  sh : PyData.showableAll ds = true
  nd : PyData.hasDictAll ds = false
  dp : PyData.depthAll ds ≤ n
  wt : PyData.weightAll ds ≤ w
  sr : PyData.leavesShortAll 220 ds = true
theorem log665 {i : Int} (h : i.natAbs < 10 ^ 200) : i.natAbs.log2 < 665 := by
  by_cases z : i.natAbs = 0
  · rw [z]; decide
  · exact (Nat.log2_lt z).mpr (Nat.lt_of_lt_of_le h (by decide))
theorem PB.int {i : Int} (h : i.natAbs < 10 ^ 200) : PB (.int i) 0 665 := by
  have h3 := log665 h
  refine ⟨by simp only [PyData.canLay0], ?_, by simp only [PyData.hasDict], by simp only [PyData.depth]; omega, ?_, ?_⟩
  · simp only [PyData.showable, decide_eq_true_eq]; omega
  · simp only [PyData.weight]
    split <;> omega
  · have e := int_text_length_le10 (a := i) (k := 200) (by decide) h
    simp only [PyData.leavesShort, decide_eq_true_eq, PyData.shown]
    exact decide_eq_true (Nat.le_trans (Nat.le_trans (Nat.le_of_eq (PySem.ofString_length _)) e) (by decide))
theorem PBA.nil : PBA [] 0 0 := ⟨by simp only [PyData.canLayAll0], by simp only [PyData.showableAll], by simp only [PyData.hasDictAll], by simp only [PyData.depthAll]; omega, by simp only [PyData.weightAll]; omega, by simp only [PyData.leavesShortAll]⟩
theorem PBA.cons {d : PyData} {ds : List PyData} {n m u v : Nat} (a : PB d n u) (b : PBA ds m v) : PBA (d :: ds) (max n m) (u + 1 + v) := by
  refine ⟨by simp only [PyData.canLayAll0, a.lay, b.lay, Bool.and_self], by simp only [PyData.showableAll, a.sh, b.sh, Bool.and_self], by simp only [PyData.hasDictAll, a.nd, b.nd, Bool.or_self], ?_, ?_, by simp only [PyData.leavesShortAll, a.sr, b.sr, Bool.and_self]⟩
  · have h1 := a.dp; have h2 := b.dp
    simp only [PyData.depthAll]; omega
  · have h1 := a.wt; have h2 := b.wt
    simp only [PyData.weightAll]; omega
theorem PB.tuple {ds : List PyData} {n w : Nat} (a : PBA ds n w) : PB (.tuple ds) (n + 1) w := by
  refine ⟨by simp only [PyData.canLay0, a.lay], by simp only [PyData.showable, a.sh], by simp only [PyData.hasDict, a.nd], ?_, ?_, by simp only [PyData.leavesShort, a.sr]⟩
  · have h1 := a.dp
    simp only [PyData.depth]; omega
  · have h1 := a.wt
    simp only [PyData.weight]; omega
theorem PB.mono {d : PyData} {n w m v : Nat} (a : PB d n w) (h1 : n ≤ m) (h2 : w ≤ v) : PB d m v := ⟨a.lay, a.sh, a.nd, Nat.le_trans a.dp h1, Nat.le_trans a.wt h2, a.sr⟩
theorem PBA.mono {d : List PyData} {n w m v : Nat} (a : PBA d n w) (h1 : n ≤ m) (h2 : w ≤ v) : PBA d m v := ⟨a.lay, a.sh, a.nd, Nat.le_trans a.dp h1, Nat.le_trans a.wt h2, a.sr⟩
theorem PB.short {d : PyData} {n w : Nat} (a : PB d n w) (h : w ≤ 70000) : d.shown.length ≤ sizeLine := by
  have h1 := PyData.shown_le 220 (by decide) d a.sr
  have h2 := a.wt
  rw [sizeLine_eq]
  omega
theorem pba_ints : ∀ t : List Int, (∀ i ∈ t, i.natAbs < 10 ^ 200) → PBA (dI t) 0 (t.length * 666)
  | [], _ => PBA.nil
  | i :: r, h => (PBA.cons (PB.int (h i List.mem_cons_self)) (pba_ints r fun j hj => h j (List.mem_cons_of_mem _ hj))).mono (by omega) (by show 665 + 1 + r.length * 666 ≤ (r.length + 1) * 666; omega)
theorem reprB {K : PySem.W.Frag} {p : Addr} {d : PyData} {n w : Nat} {H : Hp} {Q : VK} (hd : Dp K H (.ref p) d) (pl : PB d n w) (hn : n ≤ 40) (hw : w ≤ 70000) (q : Q (.str d.shown) H) : rRepr K [.ref p] H Q := ⟨p, d, rfl, hd, pl.sh, pl.nd, Nat.le_trans pl.dp hn, pl.short hw, q⟩
theorem pb_two {a b : List Int} (ha : ∀ i ∈ a, i.natAbs < 10 ^ 200) (hb : ∀ i ∈ b, i.natAbs < 10 ^ 200) (la : a.length ≤ 20) (lb : b.length ≤ 20) : PB (.tuple [.tuple (dI a), .tuple (dI b)]) 2 50000 :=
  (PB.tuple (PBA.cons (PB.tuple (pba_ints a ha)) (PBA.cons (PB.tuple (pba_ints b hb)) PBA.nil))).mono (by decide) (by omega)
theorem dp_two {K : PySem.W.Frag} {H : Hp} {p x y : Addr} {a b : List Int} (h : H p = some (.tup [.ref x, .ref y])) (hx : H x = some (.tup (vrow a))) (hy : H y = some (.tup (vrow b))) : Dp K H (.ref p) (.tuple [.tuple (dI a), .tuple (dI b)]) := .tup (SqT.of h) (.cons (dp_tup hx) (.cons (dp_tup hy) .nil))
theorem call_or2 {X : Cx} {c : Value} {r q : List V → Hp → VK → Prop} (a : CallR X c r) (b : CallR X c q) : CallR X c (fun xs H Q => r xs H Q ∨ q xs H Q) := fun pins s σ H xs us Q I rv h => h.elim (a pins s σ H xs us Q I rv) (b pins s σ H xs us Q I rv)
theorem pe_or2 {X : Cx} {e : Expr} {t u : TE} (a : PE X e t) (b : PE X e u) : PE X e (fun σ H Q => t σ H Q ∨ u σ H Q) := ⟨fun pins s σ H Q I h => h.elim (a.run pins s σ H Q I) (b.run pins s σ H Q I)⟩
theorem op_or2 {X : Cx} {f : Value → Value → Sem Value} {r q : R2} (a : OpR X f r) (b : OpR X f q) : OpR X f (fun x y H Q => r x y H Q ∨ q x y H Q) := fun pins s σ H x y v u Q I rx ry h => h.elim (a pins s σ H x y v u Q I rx ry) (b pins s σ H x y v u Q I rx ry)
end K1
namespace K1
open PySem PySem.Spec PyProof.Rows L2
theorem deI (x y : Int) : decide (V.int x = V.int y) = decide (x = y) := by
  by_cases z : x = y
  · rw [decide_eq_true z, decide_eq_true (by rw [z])]
  · rw [decide_eq_false z, decide_eq_false (by intro e; injection e with e; exact z e)]
/-- how the law's search for what is common stands -/
structure Ec (a b one other : Int) (k : Nat) : Prop where
  p1 : 0 < one
  p2 : 0 ≤ other
  lt : other < one
  bd : one * other * 2 ^ k ≤ a * b
  g : Int.gcd one other = Int.gcd a b
theorem Ec.init {a b : Int} (h0 : 0 ≤ b) (h1 : b < a) : Ec a b a b 0 := ⟨by omega, h0, h1, by rw [Int.pow_zero, Int.mul_one]; exact Int.le_refl _, rfl⟩
theorem Ec.step {a b one other : Int} {k : Nat} (e : Ec a b one other k) (h : 0 < other) : Ec a b other (one % other) (k + 1) := by
  have r0 := Int.emod_nonneg one (show other ≠ 0 by omega)
  have r1 := Int.emod_lt_of_pos one h
  have h3 := Int.emod_add_mul_ediv one other
  have q1 : 1 ≤ one / other := by
    have := Int.le_ediv_of_mul_le h (show 1 * other ≤ one by have := e.lt; omega)
    exact this
  have h4 : other * 1 ≤ other * (one / other) := Int.mul_le_mul_of_nonneg_left q1 (by omega)
  refine ⟨h, r0, r1, ?_, by rw [← e.g, Int.gcd_comm other, gcd_em]⟩
  have h5 : other * (2 * (one % other)) ≤ other * one := Int.mul_le_mul_of_nonneg_left (by omega) (by omega)
  have h6 : (0 : Int) ≤ 2 ^ k := Int.le_of_lt (Int.pow_pos (by decide))
  have h7 := Int.mul_le_mul_of_nonneg_right h5 h6
  have e1 : other * (one % other) * 2 ^ (k + 1) = other * (2 * (one % other)) * 2 ^ k := by
    rw [Int.pow_succ, Int.mul_left_comm other 2, Int.mul_comm (2 ^ k) 2, ← Int.mul_assoc, Int.mul_comm _ 2]
  rw [e1]
  have e2 : other * one = one * other := Int.mul_comm _ _
  rw [e2] at h7
  exact Int.le_trans h7 e.bd
theorem Ec.zero {a b one : Int} {k : Nat} (e : Ec a b one 0 k) : Ec a b one 0 (k + 1) := by
  refine ⟨e.p1, e.p2, e.lt, ?_, e.g⟩
  have := e.bd
  rw [Int.mul_zero, Int.zero_mul] at this ⊢
  exact this
theorem Ec.done {a b one other : Int} (e : Ec a b one other 200) (h : a * b < 2 ^ 200) : one = (Int.gcd a b : Int) := by
  have p1 := e.p1
  have o : other = 0 := by
    by_cases z : other = 0
    · exact z
    · have p2 := e.p2
      have h1 : 1 * 1 ≤ one * other := Int.mul_le_mul (by omega) (by omega) (by omega) (by omega)
      have h2 := Int.mul_le_mul_of_nonneg_right h1 (show (0 : Int) ≤ 2 ^ 200 from Int.le_of_lt (Int.pow_pos (by decide)))
      have := e.bd
      generalize one * other = p at *
      generalize a * b = q at *
      have e3 : (1 * 1 * 2 ^ 200 : Int) = 2 ^ 200 := by rw [Int.mul_one, Int.one_mul]
      rw [e3] at h2
      exact absurd (Int.le_trans h2 this) (Int.not_le.mpr h)
  have g := e.g
  rw [o, Int.gcd_zero_right] at g
  omega
def spCommon : Sp := fun vs H Q _ => ∃ a b : Int, vs = [.int a, .int b] ∧ 0 ≤ b ∧ b < a ∧ a ≤ 1000000 ∧ Q (.int (Int.gcd a b : Int)) H
def spGreat : Sp := fun vs H Q _ => ∃ m r t : Int, vs = [.int m, .int r, .int t] ∧ 2 ≤ m ∧ m ≤ 1000000 ∧ 0 ≤ r ∧ ∀ H', Same H H' → Q (.bl true) H'
def spPlain : Sp := fun vs H Q _ => ∃ r t : Int, vs = [.int r, .int t] ∧ 0 ≤ r ∧ r ≤ 1000 ∧ t.natAbs < 10 ^ 100 ∧ ∀ H', Same H H' → Q (.bl true) H'
theorem modB_of {m : Int} (h0 : 0 ≤ m) (h1 : m ≤ 1000000) (h2 : m ≠ 1) : modB (.int m) = true := by
  show (decide (0 ≤ m) && decide (m < 1000001) && !decide (m = 1)) = true
  rw [decide_eq_true h0, decide_eq_true (by omega), decide_eq_false h2]; rfl
theorem numB_of {r : Int} (h : 0 ≤ r) : numB (.int r) = true := decide_eq_true h
/-- rest_values of whole numbers that are none of the errors -/
theorem rv_by {K : PySem.W.Frag} {CR : Addr} {m r t : Int} {H : Hp} {Q : VK} {E : XK} (h0 : 0 ≤ m) (h1 : m ≤ 1000000) (h2 : m ≠ 1) (hr : 0 ≤ r) (hz : m = 0 → r < 1000000000) (q : ∀ o v H', Same H H' → (m = 0 → o = WRs (1 - r) t) → (m ≠ 0 → RV m (1 - r) t o) → OptV H' v o → Q v H') : spRV K CR [.int m, .int r, .int t] H Q E := by
  refine ⟨_, _, _, none, none, none, rfl, .int m, .int r, .int t, fun hf => ?_, fun _ => ⟨fun hf => ?_, fun _ => ⟨fun hf => ?_, fun m' r' t' em er et => ?_⟩⟩⟩
  · rw [modB_of h0 h1 h2] at hf; cases hf
  · rw [numB_of hr] at hf; cases hf
  · cases hf
  · injection em with em
    injection er with er
    injection et with et
    subst em er et
    exact ⟨fun z => ⟨hz z, fun v H' s' ov => q _ v H' s' (fun _ => rfl) (fun nz => absurd z nz) ov⟩, fun z o v H' s' rv ov => q o v H' s' (fun y => absurd y z) (fun _ => rv) ov⟩
theorem ar_by {K : PySem.W.Frag} {CR : Addr} {m r t : Int} {H : Hp} {Q : VK} {E : XK} {o : Option (Int × Int)} (h0 : 0 ≤ m) (h1 : m ≤ 1000000) (h2 : m ≠ 1) (hr : 0 ≤ r) (hz : m = 0 → r < 1000000000 ∧ o = WRs (1 - r) t) (hn : m ≠ 0 → RV m (1 - r) t o) (q : ∀ H', Same H H' → Q (.bl (arB m t o)) H') : spAR K CR [.int m, .int r, .int t] H Q E := by
  refine ⟨_, _, _, none, none, none, rfl, .int m, .int r, .int t, fun hf => ?_, fun _ => ⟨fun hf => ?_, fun _ => ⟨fun hf => ?_, fun m' r' t' em er et => ?_⟩⟩⟩
  · rw [modB_of h0 h1 h2] at hf; cases hf
  · rw [numB_of hr] at hf; cases hf
  · cases hf
  · injection em with em
    injection er with er
    injection et with et
    subst em er et
    exact ⟨fun z => ⟨(hz z).1, fun H' s' => by rw [← (hz z).2]; exact q H' s'⟩, fun z o' H' s' rv => by
      have : o' = o := by
        have h := hn z
        rcases rv with ⟨a1, a2⟩ | ⟨a1, f, a2, a3, a4, a5⟩ <;> rcases h with ⟨b1, b2⟩ | ⟨b1, g, b2, b3, b4, b5⟩
        · rw [a2, b2]
        · exact absurd b1 a1
        · exact absurd a1 b1
        · rw [a2, b2]
          have e1 := (b5 f).mp ((a5 f).mpr ⟨0, by omega⟩)
          obtain ⟨j, hj⟩ := e1
          generalize m / ((Int.gcd (1 - r) m : Nat) : Int) = s at *
          have j0 : j = 0 := by
            by_cases z1 : 1 ≤ j
            · have : s * 1 ≤ s * j := Int.mul_le_mul_of_nonneg_left z1 (by omega)
              omega
            · by_cases z2 : j ≤ -1
              · have : s * j ≤ s * -1 := Int.mul_le_mul_of_nonneg_left z2 (by omega)
                omega
              · omega
          rw [j0, Int.mul_zero] at hj
          rw [show f = g by omega]
      rw [this]; exact q H' s'⟩
section
variable {P : Program} {w : World} {K : PySem.W.Frag} {mg : Str → Option Value} {base : Heap}
abbrev nCm : List Str := ["_law_one", "_law_other", "_law_turn"]
theorem scCm : FnScope nCm ["_law_one", "_law_other"] (defScope sLCommon) := ⟨rfl, rfl, rfl, by decide +kernel, rfl, by decide +kernel, by decide +kernel⟩
theorem ok_common {f : Addr} {fd : FuncData} (D : Df K mg "_law_common" sLCommon ["_law_one", "_law_other"] f fd) (B : Bt mg) : FnOk P w K mg base CX0 1 f fd ["_law_one", "_law_other"] spCommon := by
  refine D.F.ok scCm (fun vs H Q E h => ?_) (fun cdv A outer s H vs Q E hr h => ?_)
  · obtain ⟨a, b, rfl, _⟩ := h
    rfl
  · obtain ⟨a, b, rfl, b0, ba, a6, q⟩ := h
    refine ⟨_, pss_cons (ps_for PassesOwn.never rfl (pi_range1 (by rfl) B.range (pa_cons pe_int pa_nil)) (pg_name (i := 2) scCm.nd rfl (.inl rfl))
        (pss_one (ps_if (pt_cmpR op_gt (pv 1) pe_int (nomark _))
          (pss_one (ps_par (i := 0) (j := 1) rfl scCm.nd rfl rfl (by decide) rfl rfl (pa_cons (pv 1) (pa_cons (pe_op op_mod (pe_callTy call_int1 (by rfl) B.int PyProof.Rows.boot_int (pa_cons (pv 0) pa_nil)) (pv 1)) pa_nil)) rfl)) pss_nil)))
      (pss_one (ps_ret (pv 0))), ?_⟩
    refine ⟨200, rfl, by decide, by decide, for_range (fun k σ H' => ∃ (one other : Int) (v2 : Option V), σ = [some (.int one), some (.int other), v2] ∧ H' = H ∧ Ec a b one other k) ⟨a, b, none, rfl, rfl, Ec.init b0 ba⟩ ?_ ?_⟩
    · rintro k σ H' hk ⟨one, other, v2, rfl, rfl, E⟩
      refine ⟨_, rfl, _, _, rfl, rfl, _, rfl, ifD (fun e => ?_) fun e => ?_⟩
      · have hp : 0 < other := of_decide_eq_true e
        refine ⟨_, rfl, _, rfl, .inl ⟨one, rfl, _, rfl, _, _, rfl, rfl, hp, _, _, rfl, ?_⟩⟩
        exact ⟨_, _, _, rfl, rfl, E.step hp⟩
      · have hp : ¬ other > 0 := of_decide_eq_false e
        have := E.p2
        obtain rfl : other = 0 := by omega
        exact ⟨_, _, _, rfl, rfl, E.zero⟩
    · rintro σ H' ⟨one, other, v2, rfl, rfl, E⟩
      have ab : a * b < 2 ^ 200 := by
        have h1 : a * b ≤ 1000000 * 1000000 := Int.mul_le_mul a6 (by omega) b0 (by decide)
        exact Int.lt_of_le_of_lt h1 (by decide +kernel)
      rw [← E.done ab] at q
      exact ⟨_, rfl, q⟩
end
end K1
namespace K1
open PySem PySem.Spec PyProof.Rows L2
theorem arB_great {m t f g : Int} (mp : 0 < m) (hg : 0 < g) (hd : m = g * (m / g)) (f0 : 0 ≤ f) (f1 : f < m / g) : arB m t (some (f, m / g)) = (decide (g = 1) && decide ((f - t) % m = 0)) := by
  show (decide (f = cby m t) && decide (m / g = m)) = _
  by_cases g1 : g = 1
  · subst g1
    rw [Int.ediv_one] at f1 ⊢
    rw [decide_eq_true (show m = m from rfl), decide_eq_true (show (1 : Int) = 1 from rfl), Bool.and_true, Bool.true_and]
    congr 1
    apply propext
    unfold cby
    rw [if_neg (by omega)]
    have h3 := Int.emod_add_mul_ediv t m
    constructor
    · intro e
      refine Int.emod_eq_zero_of_dvd ⟨-(t / m), ?_⟩
      rw [Int.mul_neg]; omega
    · intro e
      obtain ⟨k, hk⟩ := Int.dvd_of_emod_eq_zero e
      have : t = f + m * -k := by rw [Int.mul_neg]; omega
      rw [this, Int.add_mul_emod_self_left, Int.emod_eq_of_lt f0 f1]
  · have : m / g ≠ m := fun z => by
      rw [z] at hd
      have g2 : 2 ≤ g := by omega
      have : 2 * m ≤ g * m := Int.mul_le_mul_of_nonneg_right g2 (by omega)
      omega
    rw [decide_eq_false this, decide_eq_false g1, Bool.and_false, Bool.false_and]
section
variable {P : Program} {w : World} {K : PySem.W.Frag} {mg : Str → Option Value} {base : Heap}
abbrev nGr : List Str := ["_law_modulus", "_law_rings", "_law_total", "_law_common_here", "_law_told"]
theorem scGr : FnScope nGr ["_law_modulus", "_law_rings", "_law_total"] (defScope sLGreatRight) := ⟨rfl, rfl, rfl, by decide +kernel, rfl, by decide +kernel, by decide +kernel⟩
theorem ok_great {f fC fR fA CR : Addr} {fd fdC fdR fdA : FuncData} (D : Df K mg "_law_great_right" sLGreatRight ["_law_modulus", "_law_rings", "_law_total"] f fd) (DC : Df K mg "_law_common" sLCommon ["_law_one", "_law_other"] fC fdC) (DR : Df K mg "rest_values" sRestValues ["modulus", "rings", "total"] fR fdR) (DA : Df K mg "are_right" sAreRight ["modulus", "rings", "total"] fA fdA) (B : Bt mg)
    (GC : FnOk P w K mg base CX0 1 fC fdC ["_law_one", "_law_other"] spCommon) (GR : FnOk P w K mg base (L2.CX P w) 5 fR fdR ["modulus", "rings", "total"] (spRV K CR)) (GA : FnOk P w K mg base (L2.CX P w) 6 fA fdA ["modulus", "rings", "total"] (spAR K CR)) :
    FnOk P w K mg base CX0 7 f fd ["_law_modulus", "_law_rings", "_law_total"] spGreat := by
  refine D.F.ok scGr (fun vs H Q E h => ?_) (fun cdv A outer s H vs Q E hr h => ?_)
  · obtain ⟨m, r, t, rfl, _⟩ := h
    rfl
  · obtain ⟨m, r, t, rfl, m2, m6, r0, q⟩ := h
    have r1 := hr.mono (show 1 ≤ 6 by decide)
    have r5 := hr.mono (show 5 ≤ 6 by decide)
    refine ⟨_, pss_cons (ps_set (i := 3) scGr.nd rfl (.inl rfl) (pc DC GC r1 pass0 (pa_cons (pv 0) (pa_cons (pe_op op_mod (pe_callTy call_int1 (by rfl) B.int PyProof.Rows.boot_int (pa_cons (pe_op op_sub pe_int (pv 1)) pa_nil)) (pv 0)) pa_nil))))
      (pss_cons (ps_set (i := 4) scGr.nd rfl (.inl rfl) (pc DR GR r5 passF (pa_cons (pv 0) (pa_cons (pv 1) (pa_cons (pv 2) pa_nil)))))
      (pss_cons (ps_if (pt_cmpR op_ne (pe_op op_mod (pe_callTy call_int1 (by rfl) B.int PyProof.Rows.boot_int (pa_cons (pv 2) pa_nil)) (pv 3)) pe_int (nomark _))
          (pss_one (ps_ret (pe_and (pe_cmp (pc_isN (pv 4))) (pe_one (pe_cmpR op_isBl (pc DA GA hr passF (pa_cons (pv 0) (pa_cons (pv 1) (pa_cons (pv 2) pa_nil)))) pe_bl (nomark _)))))) pss_nil)
      (pss_cons (ps_if (PW.pt (pw_or (pt_cmp (pc_isN (pv 4))) (pw_or (pt_cmpR op_ne (pe_ix ix_tup (pv 4) pe_int (fun _ _ => rfl)) (pe_op op_fdiv (pv 0) (pv 3)) (nomark _)) (pw_or1 (pt_not (pt_chain op_le op_lt pe_int (pe_ix ix_tup (pv 4) pe_int (fun _ _ => rfl)) (pe_ix ix_tup (pv 4) pe_int (fun _ _ => rfl)))))))) (pss_one (ps_ret pe_bl)) pss_nil)
      (pss_cons (ps_if (pt_cmpR op_ne (pe_op op_mod (pe_callTy call_int1 (by rfl) B.int PyProof.Rows.boot_int (pa_cons (pe_op op_sub (pe_op op_mul (pe_op op_sub pe_int (pv 1)) (pe_ix ix_tup (pv 4) pe_int (fun _ _ => rfl))) (pv 2)) pa_nil)) (pv 0)) pe_int (nomark _)) (pss_one (ps_ret pe_bl)) pss_nil)
      (pss_one (ps_ret (pe_cmpR op_eq (pe_callB call_reprS (by rfl) B.repr (by decide +kernel) (pa_cons (pc DA GA hr passF (pa_cons (pv 0) (pa_cons (pv 1) (pa_cons (pv 2) pa_nil)))) pa_nil)) (pe_callB call_reprS (by rfl) B.repr (by decide +kernel) (pa_cons (pe_and (pe_cmpR op_eq (pv 3) pe_int (nomark _)) (pe_one (pe_cmpR op_eq (pe_op op_mod (pe_callTy call_int1 (by rfl) B.int PyProof.Rows.boot_int (pa_cons (pe_op op_sub (pe_ix ix_tup (pv 4) pe_int (fun _ _ => rfl)) (pv 2)) pa_nil)) (pv 0)) pe_int (nomark _)))) pa_nil)) (nomark _)))))))), ?_⟩
    have mp : 0 < m := by omega
    obtain ⟨g, a, s', eg, hg, hs', eb, em, ea, es, hc⟩ := gcd_split (b := 1 - r) mp
    have gm : g ≤ m := by
      have : g * 1 ≤ g * s' := Int.mul_le_mul_of_nonneg_left (by omega) (by omega)
      omega
    have egm : (Int.gcd m ((1 - r) % m) : Int) = g := by rw [Int.gcd_comm, gcd_em]; exact eg.symm
    have hmod0 := Int.emod_nonneg (1 - r) (show m ≠ 0 by omega)
    have hmod1 := Int.emod_lt_of_pos (1 - r) mp
    refine ⟨_, rfl, _, rfl, _, _, rfl, rfl, .inl ⟨_, rfl, _, rfl, _, _, rfl, rfl, mp, m, _, rfl, hmod0, hmod1, m6, ?_⟩⟩
    rw [egm]
    refine gn ?_
    dsimp only [List.set]
    refine ⟨_, rfl, _, rfl, _, rfl, rv_by (by omega) m6 (by omega) r0 (fun z => by omega) fun o v H1 s1 _ hrv ov => ?_⟩
    have rv := hrv (by omega)
    refine gn ?_
    dsimp only [List.set]
    refine ⟨_, rfl, .inl ⟨t, rfl, _, rfl, _, _, rfl, rfl, hg, rfl, _, rfl, ?_⟩⟩
    rw [deI]
    have arq : ∀ (H1 : Hp) (Z : VK), (∀ H', Same H1 H' → Z (.bl (arB m t o)) H') → spAR K CR [.int m, .int r, .int t] H1 Z (fun _ _ _ => False) := fun H1 Z qq => ar_by (by omega) m6 (by omega) r0 (fun z => by omega) (fun _ => rv) qq
    rcases rv with ⟨a1, rfl⟩ | ⟨a1, f, rfl, f0, f1, fx⟩
    · rw [← eg] at a1
      rw [decide_eq_false a1]
      refine iteT ?_
      obtain rfl : v = .non := ov
      refine ⟨_, rfl, _, rfl, iteT ?_⟩
      exact ⟨_, rfl, _, rfl, _, rfl, nilP (arq H1 _ fun H2 s2 => ⟨true, true, rfl, rfl, q _ (s1.trans s2)⟩)⟩
    · rw [← eg] at a1 f1 fx
      rw [decide_eq_true a1]
      refine iteF (nxP ?_)
      obtain ⟨p, ev, hp⟩ := ov
      subst ev
      rw [← eg] at hp arq
      have sm : m / g ≤ m := Int.ediv_le_self _ (by omega)
      have f0' : ∀ {u v : Int}, atI [V.int u, V.int v] 0 = some (V.int u) := fun {u v} => atI_nat (j := 0) rfl
      have f1' : ∀ {u v : Int}, atI [V.int u, V.int v] 1 = some (V.int v) := fun {u v} => atI_nat (j := 1) rfl
      refine ⟨_, rfl, _, rfl, iteF ?_⟩
      refine ⟨_, rfl, p, _, 1, .int (m / g), rfl, rfl, SqT.of hp, f1', _, rfl, _, rfl, _, _, rfl, rfl, ⟨hg, by omega⟩, neV rfl ⟨_, rfl, iteF ?_⟩⟩
      refine ⟨_, rfl, p, _, 0, .int f, rfl, rfl, SqT.of hp, f0', _, _, rfl, rfl, _, rfl, ?_⟩
      rw [decide_eq_true f0]
      refine iteT ⟨_, rfl, p, _, 1, .int (m / g), rfl, rfl, SqT.of hp, f1', _, _, rfl, rfl, _, rfl, ?_⟩
      rw [decide_eq_true f1]
      refine iteF (nxP ?_)
      refine ⟨_, rfl, _, _, rfl, rfl, _, rfl, p, _, 0, .int f, rfl, rfl, SqT.of hp, f0', _, _, rfl, rfl, .inr ⟨by omega, by omega⟩, _, rfl, _, _, rfl, rfl, .inl ⟨_, rfl, _, rfl, _, _, rfl, rfl, mp, rfl, _, rfl, ?_⟩⟩
      rw [deI, decide_eq_true (Int.emod_eq_zero_of_dvd ((fx f).mpr ⟨0, by omega⟩))]
      refine iteF (nxP ?_)
      refine ⟨_, rfl, _, rfl, _, rfl, nilP (arq H1 _ fun H2 s2 => ?_)⟩
      refine nilP ⟨_, rfl, .inr (.inl ⟨_, rfl, ?_⟩)⟩
      have hp2 := s2 _ _ hp
      have hd : m = g * (m / g) := by rw [es]; exact em
      rw [arB_great mp hg hd f0 f1]
      refine ⟨_, rfl, rfl, _, rfl, ?_⟩
      rw [deI]
      by_cases g1 : g = 1
      · rw [decide_eq_true g1, Bool.true_and]
        refine iteT ⟨_, rfl, p, _, 0, .int f, rfl, rfl, SqT.of hp2, f0', _, rfl, _, _, rfl, rfl, .inl ⟨_, rfl, _, rfl, _, _, rfl, rfl, mp, rfl, ?_⟩⟩
        rw [deI]
        exact nilP ⟨_, rfl, .inr (.inl ⟨_, rfl, eqVV rfl (q _ (s1.trans s2))⟩)⟩
      · rw [decide_eq_false g1, Bool.false_and]
        exact iteF (nilP ⟨_, rfl, .inr (.inl ⟨_, rfl, eqVV rfl (q _ (s1.trans s2))⟩)⟩)
end
end K1
namespace K1
open PySem PySem.Spec PyProof.Rows L2
def shO : Option (Int × Int) → Str | none => "None" | some (a, b) => (PyData.tuple [.int a, .int b]).shown
theorem reprO {K : PySem.W.Frag} {H : Hp} {v : V} {o : Option (Int × Int)} {Q : VK} (ov : OptV H v o) (hb : ∀ a b, o = some (a, b) → a.natAbs < 10 ^ 200 ∧ b.natAbs < 10 ^ 200) (q : Q (.str (shO o)) H) : rReprS [v] H Q ∨ rRepr K [v] H Q := by
  match o, ov with
  | none, ov =>
    obtain rfl : v = .non := ov
    exact .inl ⟨_, rfl, .inl ⟨rfl, q⟩⟩
  | some (a, b), ⟨p, ev, hp⟩ =>
    subst ev
    obtain ⟨h1, h2⟩ := hb a b rfl
    exact .inr (reprB (.tup (SqT.of hp) (.cons (.int a) (.cons (.int b) .nil))) (PB.tuple (PBA.cons (PB.int h1) (PBA.cons (PB.int h2) PBA.nil))) (by decide) (by decide) q)
theorem OptV.same {H H' : Hp} {v : V} {o : Option (Int × Int)} (h : OptV H v o) (s : Same H H') : OptV H' v o := by
  match o, h with
  | none, h => exact h
  | some (a, b), ⟨p, e, hp⟩ => exact ⟨p, e, s _ _ hp⟩
theorem asgEG {t : TT} {A B : TE} {g : TG} {u : TS} {D : Ends} {σ : L2.St} {H : Hp} (G : V → Hp → Prop) (hq : ∀ v H', G v H' → g v σ H' (u D)) (h : (∀ v H', G v H' → g v σ H' (u D)) → tIf t A B σ H fun v H' => g v σ H' (u D)) : tSeq (tAsg (tIf t A B) g) u D σ H := h hq
theorem plain1 (t : Int) : WRs 0 t = (if t = 0 then some (0, 1) else none) ∧ arB 0 t (WRs 0 t) = !decide (V.int t = V.int 0) := by
  rw [deI]
  unfold WRs
  rw [if_pos rfl]
  refine ⟨rfl, ?_⟩
  by_cases z : t = 0
  · rw [if_pos z, z]; rfl
  · rw [if_neg z, decide_eq_false z]; rfl
theorem plain0 (t : Int) : WRs 1 t = some (t, 0) ∧ arB 0 t (WRs 1 t) = true := by
  have e : WRs 1 t = some (t, 0) := by
    unfold WRs
    rw [if_neg (by decide), if_pos (Int.fmod_eq_zero_of_dvd ⟨t, by omega⟩)]
    have := Int.mul_fdiv_cancel_left (a := 1) t (by decide)
    rw [Int.one_mul] at this
    rw [this]
  refine ⟨e, ?_⟩
  rw [e]
  show (decide (t = cby 0 t) && decide ((0 : Int) = 0)) = true
  unfold cby
  rw [if_pos rfl, decide_eq_true rfl]; rfl
theorem plainN {r t : Int} (h : 2 ≤ r) (ht : t % (r - 1) = 0) : WRs (1 - r) t = some (0 - t / (r - 1), 0) ∧ arB 0 t (WRs (1 - r) t) = decide (t = 0) := by
  obtain ⟨q, hq⟩ := Int.dvd_of_emod_eq_zero ht
  have e1 : t / (r - 1) = q := Int.ediv_eq_of_eq_mul_right (by omega) hq
  have e2 : t = (1 - r) * -q := by
    rw [Int.mul_neg, ← Int.neg_mul, show -(1 - r) = r - 1 by omega]; exact hq
  have e : WRs (1 - r) t = some (0 - t / (r - 1), 0) := by
    unfold WRs
    rw [if_neg (by omega), if_pos (Int.fmod_eq_zero_of_dvd ⟨-q, e2⟩), e1]
    have : t.fdiv (1 - r) = -q := by
      rw [e2]; exact Int.mul_fdiv_cancel_left _ (by omega)
    rw [this]
    congr 2
    omega
  refine ⟨e, ?_⟩
  rw [e, e1]
  show (decide (0 - q = cby 0 t) && decide ((0 : Int) = 0)) = _
  unfold cby
  rw [if_pos rfl, decide_eq_true (show (0 : Int) = 0 from rfl), Bool.and_true]
  congr 1
  apply propext
  constructor
  · intro z
    have h1 : r * q = 0 := by
      have : (r - 1) * q = r * q - 1 * q := Int.sub_mul _ _ _
      omega
    rcases Int.mul_eq_zero.mp h1 with h2 | h2
    · omega
    · rw [h2, Int.mul_zero] at hq; exact hq
  · intro z
    rw [z] at hq
    rcases Int.mul_eq_zero.mp hq.symm with h2 | h2
    · omega
    · omega
theorem plainX {r t : Int} (h : 2 ≤ r) (ht : t % (r - 1) ≠ 0) : WRs (1 - r) t = none := by
  unfold WRs
  rw [if_neg (by omega), if_neg fun z => ht ?_]
  obtain ⟨q, hq⟩ := Int.dvd_of_fmod_eq_zero z
  refine Int.emod_eq_zero_of_dvd ⟨-q, ?_⟩
  rw [Int.mul_neg, ← Int.neg_mul, show -(r - 1) = 1 - r by omega]; exact hq
theorem div_small {t k : Int} (hk : 1 ≤ k) (h : t.natAbs < 10 ^ 100) : (0 - t / k).natAbs < 10 ^ 200 := by
  have h1 : (t / k).natAbs ≤ t.natAbs + 1 := by
    by_cases z : 0 ≤ t
    · have := Int.ediv_le_self k z
      have := Int.ediv_nonneg z (show 0 ≤ k by omega)
      omega
    · have h3 := Int.emod_add_mul_ediv t k
      have h4 := Int.emod_nonneg t (show k ≠ 0 by omega)
      have h5 := Int.emod_lt_of_pos t (show 0 < k by omega)
      have h6 : t / k ≤ 0 := by
        by_cases y : t / k ≤ 0
        · exact y
        · have : k * 1 ≤ k * (t / k) := Int.mul_le_mul_of_nonneg_left (by omega) (by omega)
          omega
      have h7 : k * (t / k) ≤ 1 * (t / k) := by
        have := Int.mul_le_mul_of_nonpos_right hk h6
        exact this
      by_cases y : t ≤ t / k
      · omega
      · have h8 : t / k + 1 ≤ t := by omega
        have h9 : t / k = -1 ∨ t / k ≤ -2 ∨ t / k = 0 := by omega
        rcases h9 with h9 | h9 | h9
        · omega
        · exfalso
          have : k * (t / k) + k ≤ t / k + 1 := by
            have e : k * (t / k) + k = k * (t / k + 1) := by rw [Int.mul_add, Int.mul_one]
            rw [e]
            have := Int.mul_le_mul_of_nonpos_right hk (show t / k + 1 ≤ 0 by omega)
            omega
          omega
        · omega
  have : (0 - t / k).natAbs = (t / k).natAbs := by omega
  rw [this]
  exact Nat.lt_of_le_of_lt h1 (Nat.lt_of_le_of_lt (show t.natAbs + 1 ≤ 10 ^ 100 by omega) (by decide +kernel))
section
variable {P : Program} {w : World} {K : PySem.W.Frag} {mg : Str → Option Value} {base : Heap}
abbrev nPl : List Str := ["_law_rings", "_law_total", "_law_told", "_law_due", "_law_fits"]
theorem scPl : FnScope nPl ["_law_rings", "_law_total"] (defScope sLPlainRight) := ⟨rfl, rfl, rfl, by decide +kernel, rfl, by decide +kernel, by decide +kernel⟩
theorem ok_plain {f fR fA CR : Addr} {fd fdR fdA : FuncData} (D : Df K mg "_law_plain_right" sLPlainRight ["_law_rings", "_law_total"] f fd) (DR : Df K mg "rest_values" sRestValues ["modulus", "rings", "total"] fR fdR) (DA : Df K mg "are_right" sAreRight ["modulus", "rings", "total"] fA fdA) (B : Bt mg)
    (GR : FnOk P w K mg base (L2.CX P w) 5 fR fdR ["modulus", "rings", "total"] (spRV K CR)) (GA : FnOk P w K mg base (L2.CX P w) 6 fA fdA ["modulus", "rings", "total"] (spAR K CR)) :
    FnG P w K mg base 7 f fd ["_law_rings", "_law_total"] spPlain := by
  have kR := kb_rv DR.F
  refine K1.okG D.F scPl (fun vs H Q E h => ?_) (fun cdv A outer s H vs Q E hr hgd h => ?_)
  · obtain ⟨r, t, rfl, _⟩ := h
    rfl
  · obtain ⟨r, t, rfl, r0, r9, ht, q⟩ := h
    have hu : (A.deeper (envOfC "_law_plain_right" (defScope sLPlainRight) s.heap.objs.size f cdv)).units + 64 < cLine := hr.units
    have r5 := hr.mono (show 5 ≤ 6 by decide)
    refine ⟨_, pss_cons (ps_set (i := 2) scPl.nd rfl (.inl rfl) (pe_callW DR GR r5 kR passF (pk_cons (pv 1) (pk_cons (pv 0) (pk_cons pe_int pk_nil)))))
      (pss_cons (ps_if (pt_cmpR op_eq (pv 0) pe_int (nomark _))
          (pss_cons (ps_set (i := 3) scPl.nd rfl (.inl rfl) (pe_ifExp (pt_cmpR op_eq (pv 1) pe_int (nomark _)) (pe_tup (pa_cons pe_int (pa_cons pe_int pa_nil))) pe_non))
          (pss_one (ps_ret (pe_and (pe_cmpR op_eq (pe_callB (call_or2 call_reprS (call_repr hgd hu)) (by rfl) B.repr (by decide +kernel) (pa_cons (pv 2) pa_nil)) (pe_callB (call_or2 call_reprS (call_repr hgd hu)) (by rfl) B.repr (by decide +kernel) (pa_cons (pv 3) pa_nil)) (nomark _))
            (pe_one (pe_cmpR op_eq (pe_callB call_reprS (by rfl) B.repr (by decide +kernel) (pa_cons (pc DA GA hr passF (pa_cons pe_int (pa_cons (pv 0) (pa_cons (pv 1) pa_nil)))) pa_nil)) (pe_callB call_reprS (by rfl) B.repr (by decide +kernel) (pa_cons (pe_cmpR op_ne (pv 1) pe_int (nomark _)) pa_nil)) (nomark _))))))) pss_nil)
      (pss_cons (ps_if (pt_cmpR op_eq (pv 0) pe_int (nomark _))
          (pss_one (ps_ret (pe_and (pe_cmpR op_eq (pe_callB (call_or2 call_reprS (call_repr hgd hu)) (by rfl) B.repr (by decide +kernel) (pa_cons (pv 2) pa_nil)) (pe_callB (call_or2 call_reprS (call_repr hgd hu)) (by rfl) B.repr (by decide +kernel) (pa_cons (pe_tup (pa_cons (pv 1) (pa_cons pe_int pa_nil))) pa_nil)) (nomark _))
            (pe_one (pe_cmpR op_isBl (pc DA GA hr passF (pa_cons pe_int (pa_cons pe_int (pa_cons (pv 1) pa_nil)))) pe_bl (nomark _)))))) pss_nil)
      (pss_cons (ps_set (i := 4) scPl.nd rfl (.inl rfl) (pe_cmpR op_eq (pe_op op_mod (pe_callTy call_int1 (by rfl) B.int PyProof.Rows.boot_int (pa_cons (pv 1) pa_nil)) (pe_op op_sub (pv 0) pe_int)) pe_int (nomark _)))
      (pss_cons (ps_if (pt_cmpR op_ne (pe_callB (call_or2 call_reprS (call_repr hgd hu)) (by rfl) B.repr (by decide +kernel) (pa_cons (pv 2) pa_nil)) (pe_callB (call_or2 call_reprS (call_repr hgd hu)) (by rfl) B.repr (by decide +kernel) (pa_cons (pe_ifExp (pt_val (pv 4)) (pe_tup (pa_cons (pe_op op_sub pe_int (pe_op op_fdiv (pv 1) (pe_op op_sub (pv 0) pe_int))) (pa_cons pe_int pa_nil))) pe_non) pa_nil)) (nomark _)) (pss_one (ps_ret pe_bl)) pss_nil)
      (pss_one (ps_ret (pe_cmpR op_eq (pe_callB call_reprS (by rfl) B.repr (by decide +kernel) (pa_cons (pc DA GA hr passF (pa_cons pe_int (pa_cons (pv 0) (pa_cons (pv 1) pa_nil)))) pa_nil)) (pe_callB call_reprS (by rfl) B.repr (by decide +kernel) (pa_cons (pe_or (pe_not (pv 4)) (pe_or (pe_cmpR op_eq (pv 1) pe_int (nomark _)) (pe_one (pe_cmpR op_eq (pv 0) pe_int (nomark _))))) pa_nil)) (nomark _)))))))), ?_⟩
    refine ⟨_, rfl, _, rfl, rfl, ?_⟩
    refine rv_by (m := 0) (r := r) (t := t) (by decide) (by decide) (by decide) r0 (fun _ => by omega) fun o v H1 s1 ho _ ov => ?_
    have eo := ho rfl
    subst eo
    refine gn ?_
    dsimp only [List.set]
    have t200 : t.natAbs < 10 ^ 200 := Nat.lt_trans ht (by decide +kernel)
    have arq : ∀ (r : Int) (H1 : Hp) (Z : VK), 0 ≤ r → r ≤ 1000 → (∀ H', Same H1 H' → Z (.bl (arB 0 t (WRs (1 - r) t))) H') → spAR K CR [.int 0, .int r, .int t] H1 Z (fun _ _ _ => False) := fun r H1 Z y0 y1 qq => ar_by (by decide) (by decide) (by decide) y0 (fun _ => ⟨by omega, rfl⟩) (fun z => absurd rfl z) qq
    refine ⟨_, rfl, rfl, _, rfl, ?_⟩
    rw [deI]
    refine ifD (fun e => ?_) fun e => ?_
    · obtain rfl : r = 1 := of_decide_eq_true e
      obtain ⟨w1, w2⟩ := plain1 t
      have one : (1 - 1 : Int) = 0 := rfl
      rw [one, w1] at ov
      refine asgEG (fun v' H' => OptV H' v' (if t = 0 then some (0, 1) else none) ∧ Same H1 H') ?_ (fun go => ?_)
      · rintro v' H2 ⟨ov', s2⟩
        refine gn ?_
        dsimp only [List.set]
        have ov2 : OptV H2 v (if t = 0 then some (0, 1) else none) := ov.same s2
        have hb : ∀ a b : Int, (if t = 0 then some ((0 : Int), (1 : Int)) else none) = some (a, b) → a.natAbs < 10 ^ 200 ∧ b.natAbs < 10 ^ 200 := fun a b e => by
          by_cases z : t = 0
          · rw [if_pos z] at e
            injection e with e
            injection e with e1 e2
            subst e1 e2
            exact ⟨by decide +kernel, by decide +kernel⟩
          · rw [if_neg z] at e; cases e
        refine ⟨_, rfl, reprO ov2 hb ⟨_, rfl, reprO ov' hb (eqVV rfl ⟨_, rfl, iteT ?_⟩)⟩⟩
        refine ⟨_, rfl, _, rfl, nilP (arq 1 H2 _ (by decide) (by decide) fun H3 s3 => ?_)⟩
        rw [one, w2]
        refine nilP ⟨_, rfl, .inr (.inl ⟨_, rfl, ?_⟩)⟩
        exact ⟨_, rfl, rfl, nilP ⟨_, rfl, .inr (.inl ⟨_, rfl, eqVV rfl (q _ ((s1.trans s2).trans s3))⟩)⟩⟩
      · refine ⟨_, rfl, rfl, _, rfl, ?_⟩
        rw [deI]
        refine ifD (fun e => ?_) fun e => ?_
        · have z := of_decide_eq_true e
          refine ⟨(by show 2 ≤ sizeLine; decide), fun p hp => go _ _ ⟨?_, same_new hp⟩⟩
          rw [if_pos z]
          exact ⟨p, rfl, upd_same⟩
        · have z := of_decide_eq_false e
          refine go _ _ ⟨?_, Same.refl _⟩
          rw [if_neg z]; rfl
    · refine nxP ⟨_, rfl, rfl, _, rfl, ?_⟩
      rw [deI]
      refine ifD (fun e2 => ?_) fun e2 => ?_
      · obtain rfl : r = 0 := of_decide_eq_true e2
        obtain ⟨w1, w2⟩ := plain0 t
        have one : (1 - 0 : Int) = 1 := rfl
        rw [one, w1] at ov
        have hb : ∀ a b : Int, some (t, (0 : Int)) = some (a, b) → a.natAbs < 10 ^ 200 ∧ b.natAbs < 10 ^ 200 := fun a b e => by
          injection e with e
          injection e with e1 e2
          subst e1 e2
          exact ⟨t200, by decide +kernel⟩
        refine ⟨_, rfl, reprO ov hb ⟨_, rfl, (by show 2 ≤ sizeLine; decide), fun p hp => ?_⟩⟩
        have s2 := same_new (o := HO.tup [V.int t, .int 0]) hp
        refine nilP (reprO (o := some (t, 0)) ⟨p, rfl, upd_same⟩ hb (eqVV rfl ⟨_, rfl, iteT ?_⟩))
        refine ⟨_, rfl, nilP (arq 0 _ _ (by decide) (by decide) fun H3 s3 => ?_)⟩
        rw [one, w2]
        exact ⟨true, true, rfl, rfl, q _ ((s1.trans s2).trans s3)⟩
      · have rn1 := of_decide_eq_false e
        have rn0 := of_decide_eq_false e2
        have r2 : 2 ≤ r := by omega
        refine nxP ⟨_, rfl, .inl ⟨t, rfl, _, rfl, _, _, rfl, rfl, _, _, rfl, rfl, by omega, rfl, ?_⟩⟩
        refine gn ?_
        dsimp only [List.set]
        rw [deI]
        by_cases ht' : t % (r - 1) = 0
        · obtain ⟨w1, w2⟩ := plainN r2 ht'
          rw [decide_eq_true ht']
          rw [w1] at ov
          have hb : ∀ a b : Int, some (0 - t / (r - 1), (0 : Int)) = some (a, b) → a.natAbs < 10 ^ 200 ∧ b.natAbs < 10 ^ 200 := fun a b e => by
            injection e with e
            injection e with e1 e2
            subst e1 e2
            exact ⟨div_small (by omega) ht, by decide +kernel⟩
          refine ⟨_, rfl, reprO ov hb ⟨_, rfl, true, rfl, iteT ⟨_, rfl, _, rfl, _, _, rfl, rfl, _, _, rfl, rfl, ⟨by omega, by omega⟩, _, _, rfl, rfl, (by show 2 ≤ sizeLine; decide), fun p hp => ?_⟩⟩⟩
          have s2 := same_new (o := HO.tup [V.int (0 - t / (r - 1)), .int 0]) hp
          refine nilP (reprO (o := some (0 - t / (r - 1), 0)) ⟨p, rfl, upd_same⟩ hb (neV rfl ⟨_, rfl, iteF (nxP ?_)⟩))
          refine ⟨_, rfl, _, rfl, nilP (arq r _ _ r0 r9 fun H3 s3 => ?_)⟩
          rw [w2]
          refine nilP ⟨_, rfl, .inr (.inl ⟨_, rfl, ?_⟩)⟩
          refine ⟨_, rfl, true, rfl, false, rfl, iteF ⟨_, rfl, rfl, _, rfl, ?_⟩⟩
          rw [deI]
          have qf := q _ ((s1.trans s2).trans s3)
          by_cases t0 : t = 0
          · rw [decide_eq_true t0]
            exact iteT (nilP ⟨_, rfl, .inr (.inl ⟨_, rfl, eqVV rfl qf⟩)⟩)
          · rw [decide_eq_false t0]
            refine iteF ⟨_, rfl, rfl, ?_⟩
            rw [deI, decide_eq_false rn0]
            exact nilP ⟨_, rfl, .inr (.inl ⟨_, rfl, eqVV rfl qf⟩)⟩
        · have w1 := plainX r2 ht'
          rw [decide_eq_false ht']
          rw [w1] at ov
          have hb : ∀ a b : Int, (none : Option (Int × Int)) = some (a, b) → a.natAbs < 10 ^ 200 ∧ b.natAbs < 10 ^ 200 := fun a b e => by cases e
          refine ⟨_, rfl, reprO ov hb ⟨_, rfl, false, rfl, iteF ?_⟩⟩
          show rReprS [V.non] H1 _ ∨ rRepr _ [V.non] H1 _
          refine reprO (o := none) (v := .non) rfl hb (neV rfl ⟨_, rfl, iteF (nxP ?_)⟩)
          refine ⟨_, rfl, _, rfl, nilP (arq r _ _ r0 r9 fun H3 s3 => ?_)⟩
          rw [w1]
          refine nilP ⟨_, rfl, .inr (.inl ⟨true, rfl, ?_⟩)⟩
          refine ⟨_, rfl, false, rfl, true, rfl, iteT ?_⟩
          exact nilP ⟨_, rfl, .inr (.inl ⟨true, rfl, eqVV rfl (q _ (s1.trans s3))⟩)⟩
end
end K1
namespace K1
open PySem PySem.Spec PyProof.Rows L2
theorem asc_eq : ∀ {a b : List Nat}, a.Pairwise (· < ·) → b.Pairwise (· < ·) → (∀ x, x ∈ a ↔ x ∈ b) → a = b
  | [], [], _, _, _ => rfl
  | [], y :: b, _, _, h => nomatch (h y).mpr List.mem_cons_self
  | x :: a, [], _, _, h => nomatch (h x).mp List.mem_cons_self
  | x :: a, y :: b, ha, hb, h => by
    rw [List.pairwise_cons] at ha hb
    have e : x = y := by
      rcases List.mem_cons.mp ((h x).mp List.mem_cons_self) with e | e
      · exact e
      · rcases List.mem_cons.mp ((h y).mpr List.mem_cons_self) with e2 | e2
        · exact e2.symm
        · have := hb.1 x e
          have := ha.1 y e2
          omega
    subst e
    rw [asc_eq ha.2 hb.2 fun z => ?_]
    constructor
    · intro hz
      rcases List.mem_cons.mp ((h z).mp (List.mem_cons_of_mem _ hz)) with e | e
      · have := ha.1 z hz; omega
      · exact e
    · intro hz
      rcases List.mem_cons.mp ((h z).mpr (List.mem_cons_of_mem _ hz)) with e | e
      · have := hb.1 z hz; omega
      · exact e
theorem eqv_nil (xs : List Int) : PyData.eqv (.list (dI xs)) (.list []) = xs.isEmpty := by
  cases xs <;> rfl
theorem shL (xs : List Int) : SeqAt.shaped (.list (dI xs)) = true := by
  have h1 : PyData.canLayAll0 (dI xs) = true := by
    induction xs with
    | nil => rfl
    | cons a r ih => simp only [dI, List.map_cons, PyData.canLayAll0, PyData.canLay0, Bool.true_and]; exact ih
  have h2 : PyData.depthAll (dI xs) ≤ 0 := by
    clear h1
    induction xs with
    | nil => exact Nat.le_refl _
    | cons a r ih => simp only [dI, List.map_cons, PyData.depthAll, PyData.depth]; have : PyData.depthAll (r.map PyData.int) ≤ 0 := ih; omega
  unfold SeqAt.shaped
  have h3 : PyData.canLay0 (.list (dI xs)) = true := by simp only [PyData.canLay0]; exact h1
  rw [h3, decide_eq_true (by simp only [PyData.depth]; omega)]; rfl
theorem vn_row (ns : List Nat) : vn ns = vrow (ns.map fun (x : Nat) => (x : Int)) := by unfold vn vrow; rw [List.map_map]; rfl
def dueK (m b t : Int) (k : Nat) : List Nat := (List.range k).filter fun (x : Nat) => decide ((b * (x : Int) - t) % m = 0)
theorem dueK_succ (m b t : Int) (k : Nat) : dueK m b t (k + 1) = dueK m b t k ++ if (b * (k : Int) - t) % m = 0 then [k] else [] := by
  unfold dueK
  rw [List.range_succ, List.filter_append]
  congr 1
  rw [List.filter_cons]
  by_cases z : (b * (k : Int) - t) % m = 0
  · rw [if_pos z, if_pos (decide_eq_true z)]; rfl
  · rw [if_neg z, if_neg (by simpa using z)]; rfl
theorem dueK_len (m b t : Int) (k : Nat) : (dueK m b t k).length ≤ k := by
  unfold dueK
  have := List.length_filter_le (fun (x : Nat) => decide ((b * (x : Int) - t) % m = 0)) (List.range k)
  rw [List.length_range] at this
  exact this
theorem dueK_mem {m b t : Int} {k x : Nat} : x ∈ dueK m b t k ↔ x < k ∧ m ∣ b * (x : Int) - t := by
  unfold dueK
  rw [List.mem_filter, List.mem_range, decide_eq_true_eq]
  exact and_congr_right fun _ => ⟨Int.dvd_of_emod_eq_zero, Int.emod_eq_zero_of_dvd⟩
theorem dueK_asc (m b t : Int) (k : Nat) : (dueK m b t k).Pairwise (· < ·) := by
  unfold dueK
  exact (List.pairwise_lt_range (n := k)).sublist List.filter_sublist
theorem shift_iff {m b t c x : Int} : m ∣ b * x - t ↔ m ∣ b * x - (t + m * c) := by
  constructor
  · rintro ⟨k, hk⟩
    exact ⟨k - c, by rw [Int.mul_sub]; omega⟩
  · rintro ⟨k, hk⟩
    exact ⟨k + c, by rw [Int.mul_add]; omega⟩
theorem due_none {m b t c : Int} {n : Nat} (hm : 0 < m) (h : (t + m * c) % (Int.gcd b m : Int) ≠ 0) : dueK m b t n = [] := by
  obtain ⟨g, a, s, eg, hg, hs, eb, em, ea, es, hc⟩ := gcd_split (b := b) hm
  rw [← eg] at h
  refine List.eq_nil_iff_forall_not_mem.mpr fun x hx => ?_
  obtain ⟨_, hd⟩ := dueK_mem.mp hx
  exact no_sol eb em h x (shift_iff.mp hd)
theorem due_some {b t c f s : Int} {n : Nat} (hn : 0 < n) (hs : 0 < s) (g : Nat) (em : (n : Int) = (g : Int) * s) (f0 : 0 ≤ f) (f1 : f < s) (hx : ∀ x, (n : Int) ∣ b * x - (t + n * c) ↔ s ∣ x - f) : dueK n b t n = (List.range g).map fun (j : Nat) => (f + s * (j : Int)).toNat := by
  refine asc_eq (dueK_asc _ _ _ _) ?_ fun x => ?_
  · rw [List.pairwise_map]
    refine (List.pairwise_lt_range (n := g)).imp fun {i j} hij => ?_
    have h1 : s * (i : Int) < s * (j : Int) := Int.mul_lt_mul_of_pos_left (by omega) hs
    have h2 : 0 ≤ s * (i : Int) := Int.mul_nonneg (by omega) (by omega)
    omega
  · rw [dueK_mem, shift_iff (c := c), hx, List.mem_map]
    constructor
    · rintro ⟨xn, j, hj⟩
      have j0 : 0 ≤ j := by
        by_cases z : 0 ≤ j
        · exact z
        · have : s * j ≤ s * -1 := Int.mul_le_mul_of_nonneg_left (by omega) (by omega)
          omega
      have jg : j < g := by
        by_cases z : j < g
        · exact z
        · have : s * (g : Int) ≤ s * j := Int.mul_le_mul_of_nonneg_left (by omega) (by omega)
          have e : (g : Int) * s = s * g := Int.mul_comm _ _
          omega
      refine ⟨j.toNat, List.mem_range.mpr (by omega), ?_⟩
      rw [show ((j.toNat : Nat) : Int) = j by omega]
      omega
    · rintro ⟨j, hj, rfl⟩
      have jg := List.mem_range.mp hj
      have h2 : 0 ≤ s * (j : Int) := Int.mul_nonneg (by omega) (by omega)
      have h3 : s * ((j : Int) + 1) ≤ s * (g : Int) := Int.mul_le_mul_of_nonneg_left (by omega) (by omega)
      have e : (g : Int) * s = s * g := Int.mul_comm _ _
      rw [Int.mul_add, Int.mul_one] at h3
      refine ⟨by omega, j, by omega⟩
/-- what is left of the due numbers without the total -/
theorem due_right {b t c f s : Int} {n : Nat} (hn : 0 < n) (hs : 0 < s) (g : Nat) (hg : 0 < g) (em : (n : Int) = (g : Int) * s) (f0 : 0 ≤ f) (f1 : f < s) (t0 : 0 ≤ t) (t1 : t < n) (ed : dueK n b t n = (List.range g).map fun (j : Nat) => (f + s * (j : Int)).toNat) :
    ((dueK n b t n).filter fun (x : Nat) => !decide ((x : Int) = t)).isEmpty = arB n (t + n * c) (some (f, s)) := by
  have ec : cby (n : Int) (t + n * c) = t := by
    unfold cby
    rw [if_neg (by omega), Int.add_mul_emod_self_left, Int.emod_eq_of_lt t0 t1]
  show _ = (decide (f = cby (n : Int) (t + n * c)) && decide (s = (n : Int)))
  rw [ec]
  have fm : f.toNat ∈ dueK n b t n := by
    rw [ed]
    exact List.mem_map.mpr ⟨0, List.mem_range.mpr hg, by show (f + s * 0).toNat = f.toNat; rw [Int.mul_zero, Int.add_zero]⟩
  by_cases h1 : f = t
  · by_cases h2 : s = (n : Int)
    · rw [decide_eq_true h1, decide_eq_true h2]
      have g1 : g = 1 := by
        rw [h2] at em
        have z : (g : Int) * n = 1 * n := by omega
        have := Int.eq_of_mul_eq_mul_right (by omega) z
        omega
      rw [ed, g1]
      have z : (f + s * ((0 : Nat) : Int)).toNat = t.toNat := by rw [show ((0 : Nat) : Int) = 0 from rfl, Int.mul_zero]; omega
      show (([(f + s * ((0 : Nat) : Int)).toNat] : List Nat).filter _).isEmpty = true
      rw [z, List.filter_cons, if_neg (by
        rw [decide_eq_true (show ((t.toNat : Nat) : Int) = t by omega)]; decide)]
      rfl
    · rw [decide_eq_false h2, Bool.and_false]
      have g2 : 2 ≤ g := by
        by_cases z : g = 1
        · rw [z] at em
          exact absurd (show s = (n : Int) by omega) h2
        · omega
      have m2 : (f + s * ((1 : Nat) : Int)).toNat ∈ (dueK n b t n).filter fun (x : Nat) => !decide ((x : Int) = t) := by
        rw [List.mem_filter]
        refine ⟨by rw [ed]; exact List.mem_map.mpr ⟨1, List.mem_range.mpr (by omega), rfl⟩, ?_⟩
        rw [show ((1 : Nat) : Int) = 1 from rfl, Int.mul_one, decide_eq_false (by omega)]; rfl
      cases e : (dueK n b t n).filter fun (x : Nat) => !decide ((x : Int) = t) with
      | nil => rw [e] at m2; cases m2
      | cons _ _ => rfl
  · rw [decide_eq_false h1, Bool.false_and]
    have m2 : f.toNat ∈ (dueK n b t n).filter fun (x : Nat) => !decide ((x : Int) = t) := by
      rw [List.mem_filter]
      refine ⟨fm, ?_⟩
      rw [decide_eq_false (by omega)]; rfl
    cases e : (dueK n b t n).filter fun (x : Nat) => !decide ((x : Int) = t) with
    | nil => rw [e] at m2; cases m2
    | cons _ _ => rfl
def spSmall : Sp := fun vs H Q _ => ∃ (b : Addr) (n : Nat) (r : Int), vs = [.ref b, .int (n : Int), .int r] ∧ BoxO H b ∧ 2 ≤ n ∧ n ≤ 20 ∧ 0 ≤ r ∧ ∀ H', Bx b H H' → Q (.bl true) H'
section
variable {P : Program} {w : World} {K : PySem.W.Frag} {mg : Str → Option Value} {base : Heap}
abbrev nSm : List Str := ["_law_box_here", "_law_modulus", "_law_rings", "_law_total", "_law_due", "_law_shifted", "_law_told", "_law_first", "_law_step", "_law_number", "_law_turn"]
theorem scSm : FnScope nSm ["_law_box_here", "_law_modulus", "_law_rings"] (defScope sLSmallRight) := ⟨rfl, rfl, rfl, by decide +kernel, rfl, by decide +kernel, by decide +kernel⟩
theorem ok_small {f fT fR fA CR : Addr} {fd fdT fdR fdA : FuncData} (D : Df K mg "_law_small_right" sLSmallRight ["_law_box_here", "_law_modulus", "_law_rings"] f fd) (DT : Df K mg "_law_take" sLTake ["_law_box_here", "_law_many"] fT fdT) (DR : Df K mg "rest_values" sRestValues ["modulus", "rings", "total"] fR fdR) (DA : Df K mg "are_right" sAreRight ["modulus", "rings", "total"] fA fdA) (B : Bt mg)
    (GT : FnOk P w K mg base CX0 1 fT fdT ["_law_box_here", "_law_many"] spTake) (GR : FnOk P w K mg base (L2.CX P w) 5 fR fdR ["modulus", "rings", "total"] (spRV K CR)) (GA : FnOk P w K mg base (L2.CX P w) 6 fA fdA ["modulus", "rings", "total"] (spAR K CR)) :
    FnG P w K mg base 7 f fd ["_law_box_here", "_law_modulus", "_law_rings"] spSmall := by
  have kA := kb_ar DA.F
  refine K1.okG D.F scSm (fun vs H Q E h => ?_) (fun cdv A outer s H vs Q E hr hgd h => ?_)
  · obtain ⟨b, n, r, rfl, _⟩ := h
    rfl
  · obtain ⟨b, n, r, rfl, hb, n2, n20, r0, q⟩ := h
    have hu : (A.deeper (envOfC "_law_small_right" (defScope sLSmallRight) s.heap.objs.size f cdv)).units + 64 < cLine := hr.units
    have r5 := hr.mono (show 5 ≤ 6 by decide)
    have r1 := hr.mono (show 1 ≤ 6 by decide)
    refine ⟨_, pss_cons (ps_for PassesOwn.never rfl (pi_range1 (by rfl) B.range (pa_cons (pv 1) pa_nil)) (pg_name (i := 3) scSm.nd rfl (.inr rfl))
        (pss_cons (ps_setLc (i := 4) (own := [("_law_number", 9)]) (g := gName 9) rfl scSm.nd rfl rfl (sw_true rfl rfl rfl rfl) (pi_range1 (by rfl) B.range (pa_cons (pv 1) pa_nil)) (blkOk_by (N := nSm) (sc := defScope sLSmallRight) (by decide +kernel)) (fun _ _ _ _ _ => pg_name (i := 9) scSm.nd rfl (Or.inl rfl))
            (fun _ _ _ _ _ => pts_one (pt_cmpR op_eq (pe_op op_mod (pe_callTy call_int1 (by rfl) B.int PyProof.Rows.boot_int (pa_cons (pe_op op_sub (pe_op op_mul (pe_op op_sub pe_int (pv 2)) (pv 9)) (pv 3)) pa_nil)) (pv 1)) pe_int (nomark _))) (fun _ _ _ _ _ => pv 9))
        (pss_cons (ps_set (i := 5) scSm.nd rfl (.inl rfl) (pe_op op_add (pv 3) (pe_op op_mul (pv 1) (pe_op op_sub (pc DT GT r1 pass0 (pa_cons (pv 0) (pa_cons pe_int pa_nil))) pe_int))))
        (pss_cons (ps_set (i := 6) scSm.nd rfl (.inl rfl) (pc DR GR r5 passF (pa_cons (pv 1) (pa_cons (pv 2) (pa_cons (pv 5) pa_nil)))))
        (pss_cons (ps_if (pt_cmpR (eqD (K := K) rfl hu) (pv 4) (pe_lst pa_nil) (nomark _))
          (pss_one (ps_if (pt_cmp (pc_notN (pv 6))) (pss_one (ps_ret pe_bl)) pss_nil))
          (pss_one (ps_if (PW.pt (pw_or (pt_not (pt_val (pe_callB call_isi (by rfl) B.isinstance (by decide +kernel) (pa_cons (pv 6) (pa_cons (pe_bltn (v := .ty "tuple") (by rfl) B.tuple PyProof.Rows.boot_tuple rfl) pa_nil))))) (pw_or (pt_cmpR op_ne (pe_callB call_len_seq (by rfl) B.len PySem.boot_len (pa_cons (pv 6) pa_nil)) pe_int (nomark _)) (pw_or (pt_val (pe_callB call_isi (by rfl) B.isinstance (by decide +kernel) (pa_cons (pe_ix ix_tup (pv 6) pe_int (fun _ _ => rfl)) (pa_cons (pe_bltn (v := .ty "bool") (by rfl) B.bool PyProof.Rows.boot_bool rfl) pa_nil))))
              (pw_or1 (pt_not (pt_val (pe_callB call_isi (by rfl) B.isinstance (by decide +kernel) (pa_cons (pe_ix ix_tup (pv 6) pe_int (fun _ _ => rfl)) (pa_cons (pe_bltn (v := .ty "int") (by rfl) B.int PyProof.Rows.boot_int rfl) pa_nil))))))))))
            (pss_one (ps_ret pe_bl))
            (pss_cons (ps_asg (pv 6) (pg_tup rfl (pgs_cons (pg_name (i := 7) scSm.nd rfl (.inr rfl)) (pgs_cons (pg_name (i := 8) scSm.nd rfl (.inr rfl)) pgs_nil))))
            (pss_cons (ps_if (PW.pt (pw_or (pt_cmpR op_lt (pv 8) pe_int (nomark _)) (pw_or (pt_cmpR op_ge (pv 7) (pv 8) (nomark _)) (pw_or1 (pt_cmpR op_ne (pe_op op_mod (pe_callTy call_int1 (by rfl) B.int PyProof.Rows.boot_int (pa_cons (pv 1) pa_nil)) (pv 8)) pe_int (nomark _)))))) (pss_one (ps_ret pe_bl)) pss_nil)
            (pss_one (ps_if (pt_cmpR op_ne (pe_callB (call_repr hgd hu) (by rfl) B.repr (by decide +kernel) (pa_cons (pv 4) pa_nil)) (pe_callB (call_repr hgd hu) (by rfl) B.repr (by decide +kernel) (pa_cons (pe_lc (own := [("_law_turn", 10)]) (g := gName 10) (tt := tYes) rfl scSm.nd (pi_range1 (by rfl) B.range (pa_cons (pe_op op_fdiv (pv 1) (pv 8)) pa_nil)) (blkOk_by (N := nSm) (sc := defScope sLSmallRight) (by decide +kernel)) (fun _ _ _ _ _ => pg_name (i := 10) scSm.nd rfl (Or.inl rfl)) (fun _ _ _ _ _ => pts_nil)
                (fun _ _ _ _ _ => pe_op op_add (pv 7) (pe_op op_mul (pv 8) (pv 10)))) pa_nil)) (nomark _)) (pss_one (ps_ret pe_bl)) pss_nil)))))))
        (pss_one (ps_if (pt_cmpR op_ne (pe_callB call_reprS (by rfl) B.repr (by decide +kernel) (pa_cons (pe_callW DA GA hr kA passF (pk_cons (pv 5) (pk_cons (pv 2) (pk_cons (pv 1) pk_nil)))) pa_nil)) (pe_callB call_reprS (by rfl) B.repr (by decide +kernel) (pa_cons (pe_cmpR (eqD (K := K) rfl hu) (pe_lc (own := [("_law_number", 9)]) (g := gName 9) rfl scSm.nd (pi_list (pv 4)) (blkOk_by (N := nSm) (sc := defScope sLSmallRight) (by decide +kernel)) (fun _ _ _ _ _ => pg_name (i := 9) scSm.nd rfl (Or.inl rfl))
            (fun _ _ _ _ _ => pts_one (pt_cmpR op_ne (pv 9) (pv 3) (nomark _))) (fun _ _ _ _ _ => pv 9)) (pe_lst pa_nil) (nomark _)) pa_nil)) (nomark _)) (pss_one (ps_ret pe_bl)) pss_nil)))))))
      (pss_one (ps_ret pe_bl)), ?_⟩
    refine ⟨_, rfl, (n : Int), rfl, by omega, by omega, for_range (fun k σ H' => ∃ (v3 v4 v5 v6 v7 v8 : Option V), σ = [some (.ref b), some (.int (n : Int)), some (.int r), v3, v4, v5, v6, v7, v8, none, none] ∧ Bx b H H')
      ⟨none, none, none, none, none, none, rfl, Bx.refl hb⟩ ?_ ?_⟩
    rotate_left
    · rintro σ H3 ⟨v3, v4, v5, v6, v7, v8, rfl, bx⟩
      exact q H3 bx
    rintro k σ H1 hk ⟨v3, v4, v5, v6, v7, v8, rfl, bx1⟩
    have kn : k < n := by omega
    have npos : (0 : Int) < (n : Int) := by omega
    -- the due numbers
    refine ⟨_, rfl, (n : Int), rfl, by omega, by omega, fun D0 hD0 => lc_range (fun i H' => Same H1 H' ∧ H' D0 = some (.lst (vn (dueK n (1 - r) k i)))) ⟨same_new hD0, by rw [upd_same]; rfl⟩ ?_ ?_⟩
    · rintro i H' hi ⟨sm, hD⟩
      have ml := dueK_len n (1 - r) k i
      have ms := dueK_succ n (1 - r) k i
      refine ⟨rfl, _, rfl, _, _, rfl, rfl, _, rfl, _, _, rfl, rfl, .inr ⟨by omega, by omega⟩, _, rfl, _, _, rfl, rfl, .inl ⟨_, rfl, _, rfl, _, _, rfl, rfl, npos, rfl, _, rfl, ?_⟩⟩
      rw [deI, Int.zero_add, Int.zero_add]
      refine ifD (fun e => ?_) fun e => ?_
      · rw [if_pos (of_decide_eq_true e)] at ms
        refine ⟨_, rfl, _, hD, szl (by rw [vn_len]; omega), fun d o eo => ?_, ?_⟩
        · rw [upd_ne (ne_of_none eo hD0)]
          exact sm _ _ eo
        · rw [upd_same, ms, vn, vn, List.map_append]; rfl
      · rw [if_neg (of_decide_eq_false e), List.append_nil] at ms
        exact ⟨sm, by rw [ms]; exact hD⟩
    rintro H2 ⟨s12, hD2⟩
    rw [show ((n : Int)).toNat = n from Int.toNat_natCast n] at hD2
    have bx2 := bx1.same s12
    have nD0 := bx1.ne hD0
    refine gn ?_
    dsimp only [List.set]
    -- the total, shifted
    refine ⟨_, rfl, _, rfl, _, rfl, b, 7, rfl, bx2.1, by decide, by decide, fun x H3 x0 x1 bx3 => ⟨_, _, rfl, rfl, _, _, rfl, rfl, .inl ⟨by omega, by omega⟩, _, _, rfl, rfl, ?_⟩⟩
    have hD3 := bx3.2 _ _ hD2 nD0
    have bx4 := bx2.trans bx3
    refine gn ?_
    dsimp only [List.set]
    rw [Int.zero_add]
    generalize hc : x - 3 = c
    -- what rest_values tells
    refine ⟨_, rfl, _, rfl, _, rfl, rv_by (m := (n : Int)) (r := r) (t := (k : Int) + n * c) (by omega) (by omega) (by omega) r0 (fun z => by omega) fun o v H4 s4 _ hrv ov => ?_⟩
    have rv := hrv (by omega)
    have hD4 := s4 _ _ hD3
    have bx5 := bx4.same s4
    refine gn ?_
    dsimp only [List.set]
    have vni : ∀ L : List Nat, vn L = vrow (L.map fun (x : Nat) => (x : Int)) := vn_row
    -- what is due, what is told
    have facts : (o = none ∧ v = .non ∧ dueK n (1 - r) k n = []) ∨ (∃ (f s' : Int) (g : Nat) (p : Addr), o = some (f, s') ∧ v = .ref p ∧ H4 p = some (.tup [.int f, .int s']) ∧ 0 ≤ f ∧ f < s' ∧ 0 < s' ∧ s' ≤ n ∧ 0 < g ∧ (n : Int) = (g : Int) * s' ∧ dueK n (1 - r) k n = (List.range g).map fun (j : Nat) => (f + s' * (j : Int)).toNat) := by
      rcases rv with ⟨a1, rfl⟩ | ⟨a1, f, rfl, f0, f1, fx⟩
      · exact .inl ⟨rfl, ov, due_none npos a1⟩
      · obtain ⟨p, ev, hp⟩ := ov
        obtain ⟨g, a, s', eg, hg, hs', eb, em, ea, es, hcc⟩ := gcd_split (b := 1 - r) npos
        rw [← eg, es] at hp f1 fx
        have sn : s' ≤ n := by
          have : 1 * s' ≤ g * s' := Int.mul_le_mul_of_nonneg_right (by omega) (by omega)
          omega
        have egn : ((g.toNat : Nat) : Int) = g := by omega
        refine .inr ⟨f, s', g.toNat, p, by rw [← eg, es], ev, hp, f0, f1, hs', sn, by omega, by rw [egn]; exact em, due_some (c := c) (by omega) hs' g.toNat (by rw [egn]; exact em) f0 f1 fx⟩
    have left : ((dueK n (1 - r) k n).filter fun (x : Nat) => !decide ((x : Int) = (k : Int))).isEmpty = arB n ((k : Int) + n * c) o := by
      rcases facts with ⟨rfl, _, e⟩ | ⟨f, s', g, p, rfl, _, _, f0, f1, hs', _, hg, em, ed⟩
      · rw [e]; rfl
      · exact due_right (c := c) (by omega) hs' g hg em f0 f1 (by omega) (by omega) ed
    have ld := dueK_len n (1 - r) k n
    have small : ∀ L : List Nat, L.length ≤ n → (∀ x ∈ L, x < n) → Pl (.list (dI (L.map fun (x : Nat) => (x : Int)))) 1 (20 * 65) := fun L hl hx =>
      (Pl.list (pla_ints _ fun i hi => by obtain ⟨x, h1, rfl⟩ := List.mem_map.mp hi; have := hx x h1; omega)).mono (by decide) (by rw [List.length_map]; omega)
    refine seqG (fun σ H' => ∃ v7 v8 : Option V, σ = [some (.ref b), some (.int (n : Int)), some (.int r), some (.int (k : Int)), some (.ref D0), some (.int ((k : Int) + n * c)), some v, v7, v8, none, none] ∧ Same H4 H') ?_ (fun go => ?_)
    · rintro σ H5 ⟨w7, w8, rfl, s5⟩
      have hD5 := s5 _ _ hD4
      refine ⟨_, rfl, _, rfl, _, rfl, rfl, ?_⟩
      refine ar_by (m := (n : Int)) (r := r) (t := (k : Int) + n * c) (o := o) (by omega) (by omega) (by omega) r0 (fun z => by omega) hrv fun H6 s6 => ?_
      have hD6 := s6 _ _ hD5
      refine nilP ⟨_, rfl, .inr (.inl ⟨_, rfl, ?_⟩)⟩
      refine ⟨_, rfl, D0, rfl, ⟨_, SqL.of hD6⟩, fun D2 hD2 => lc_list (K := K) (a := D0) (xs := vn (dueK n (1 - r) k n)) (fun i H' => Same H6 H' ∧ H' D2 = some (.lst (vn (((dueK n (1 - r) k n).take i).filter fun (x : Nat) => !decide ((x : Int) = (k : Int)))))) ⟨same_new hD2, by rw [upd_same]; rfl⟩ (fun i H' _ ⟨sm, _⟩ => SqL.of (sm _ _ hD6)) ?_ ?_⟩
      · rintro i x H' hx ⟨sm, hD⟩
        obtain ⟨y, hy, rfl⟩ := at_vn hx
        have fl := List.length_filter_le (fun (x : Nat) => !decide ((x : Int) = (k : Int))) ((dueK n (1 - r) k n).take i)
        rw [List.length_take] at fl
        refine ⟨rfl, _, rfl, _, rfl, rfl, _, rfl, ?_⟩
        rw [deI]
        by_cases z : (y : Int) = (k : Int)
        · rw [decide_eq_true z]
          refine iteF ⟨sm, ?_⟩
          rw [hD, take_succ hy, List.filter_append, List.filter_cons, if_neg (by rw [decide_eq_true z]; decide), List.filter_nil, List.append_nil]
        · rw [decide_eq_false z]
          refine iteT ⟨_, rfl, _, hD, szl (by rw [vn_len]; omega), fun d o' eo => ?_, ?_⟩
          · rw [upd_ne (ne_of_none eo hD2)]
            exact sm _ _ eo
          · rw [upd_same, take_succ hy, List.filter_append, List.filter_cons, if_pos (by rw [decide_eq_false z]; rfl), List.filter_nil, vn, vn, List.map_append]; rfl
      · rintro H7 ⟨s7, hD7⟩
        rw [vn_len, List.take_length] at hD7
        refine ⟨(by show 0 ≤ sizeLine; decide), fun e1 he1 => ?_⟩
        have w1 := same_new (o := HO.lst []) he1
        refine ⟨.list (dI (((dueK n (1 - r) k n).filter fun (x : Nat) => !decide ((x : Int) = (k : Int))).map fun (x : Nat) => (x : Int))), .list [], .lst (SqL.of (by rw [← vn_row]; exact w1 _ _ hD7)) (dp_ints _), .lst (SqL.of upd_same) .nil, shL _, by decide +kernel, ?_⟩
        rw [eqv_nil, List.isEmpty_map, left]
        refine nilP ⟨_, rfl, .inr (.inl ⟨_, rfl, neV rfl ⟨_, rfl, iteF ?_⟩⟩)⟩
        exact ⟨_, _, _, _, _, _, rfl, bx5.same ((s5.trans s6).trans (s7.trans w1))⟩
    · refine ⟨_, rfl, (by show 0 ≤ sizeLine; decide), fun e1 he1 => ?_⟩
      have w1 := same_new (o := HO.lst []) he1
      refine ⟨.list (dI ((dueK n (1 - r) k n).map fun (x : Nat) => (x : Int))), .list [], .lst (SqL.of (by rw [← vn_row]; exact w1 _ _ hD4)) (dp_ints _), .lst (SqL.of upd_same) .nil, shL _, by decide +kernel, _, rfl, ?_⟩
      rw [eqv_nil, List.isEmpty_map]
      rcases facts with ⟨rfl, rfl, e⟩ | ⟨f, s', g, p, rfl, rfl, hp, f0, f1, hs', sn, hg, em, ed⟩
      · rw [e]
        refine iteT ⟨_, rfl, _, rfl, iteF (go _ _ ⟨_, _, rfl, w1⟩)⟩
      · have ne : (dueK n (1 - r) k n).isEmpty = false := by
          rw [ed]
          cases g with
          | zero => exact absurd hg (Nat.lt_irrefl _)
          | succ g => rw [List.range_succ_eq_map]; rfl
        rw [ne]
        refine iteF ?_
        have hp2 := w1 _ _ hp
        have hD5 := w1 _ _ hD4
        generalize upd H4 e1 (.lst []) = H5 at w1 hp2 hD5 ⊢
        have f0' : ∀ {u v : Int}, atI [V.int u, V.int v] 0 = some (V.int u) := fun {u v} => atI_nat (j := 0) rfl
        refine ⟨_, rfl, _, _, _, _, _, rfl, .ty _, .base (.tup hp2), kit_T K .t, true, rfl, iteF ?_⟩
        refine ⟨_, rfl, p, _, rfl, .inr (SqT.of hp2), rfl, _, rfl, iteN (by rw [show V.int (([V.int f, V.int s'] : List V).length : Int) = V.int 2 from rfl, decide_eq_true rfl]; rfl) ?_⟩
        refine ⟨_, rfl, p, _, 0, .int f, rfl, rfl, SqT.of hp2, f0', _, _, _, _, _, rfl, .ty _, .base (.int f), kit_B K .i, false, rfl, iteF ?_⟩
        refine ⟨_, rfl, p, _, 0, .int f, rfl, rfl, SqT.of hp2, f0', _, _, _, _, _, rfl, .ty _, .base (.int f), kit_I K .i, true, rfl, iteF ?_⟩
        refine ⟨_, rfl, p, _, rfl, SqT.of hp2, rfl, _, _, rfl, _, _, rfl, rfl, ?_⟩
        dsimp only [List.set]
        refine ⟨_, rfl, _, _, rfl, rfl, _, rfl, iteN (decide_eq_false (by omega)) ?_⟩
        refine ⟨_, rfl, _, rfl, _, _, rfl, rfl, _, rfl, iteN (decide_eq_false (by omega)) ?_⟩
        have md : (n : Int) % s' = 0 := by rw [em]; exact Int.mul_emod_left _ _
        have dv : (n : Int) / s' = g := by rw [em]; exact Int.mul_ediv_cancel _ (by omega)
        have gn' : (g : Int) ≤ n := by
          have : (g : Int) * 1 ≤ (g : Int) * s' := Int.mul_le_mul_of_nonneg_left (by omega) (by omega)
          omega
        refine ⟨_, rfl, .inl ⟨_, rfl, _, rfl, _, _, rfl, rfl, hs', rfl, _, rfl, iteN (by show (!decide (V.int ((n : Int) % s') = V.int 0)) = false; rw [md]; rfl) (nxP ?_)⟩⟩
        have pls := small (dueK n (1 - r) k n) ld fun x hx => (dueK_mem.mp hx).1
        refine ⟨_, rfl, nilP (reprP (.lst (SqL.of (by rw [← vn_row]; exact hD5)) (dp_ints _)) pls (by decide) (by decide) ?_)⟩
        refine ⟨_, rfl, _, rfl, _, _, rfl, rfl, ⟨hs', by omega⟩, (n : Int) / s', rfl, by rw [dv]; omega, by rw [dv]; omega, fun D1 hD1 => lc_range (fun j H' => Same H5 H' ∧ H' D1 = some (.lst (vn ((List.range j).map fun (j : Nat) => (f + s' * (j : Int)).toNat)))) ⟨same_new hD1, by rw [upd_same]; rfl⟩ ?_ ?_⟩
        · rintro j H' hj ⟨sm, hD⟩
          rw [dv] at hj
          have j0 : 0 ≤ s' * (j : Int) := Int.mul_nonneg (by omega) (by omega)
          refine ⟨rfl, _, rfl, _, rfl, _, rfl, _, _, rfl, rfl, .inl ⟨by omega, by omega⟩, _, _, rfl, rfl, _, hD, szl (by rw [vn_len, List.length_map, List.length_range]; omega), fun d o' eo => ?_, ?_⟩
          · rw [upd_ne (ne_of_none eo hD1)]
            exact sm _ _ eo
          · have e9 : f + s' * (0 + (j : Int)) = (((f + s' * (j : Int)).toNat : Nat) : Int) := by rw [Int.zero_add]; omega
            rw [upd_same, List.range_succ, List.map_append, vn, vn, List.map_append]
            show some (HO.lst (_ ++ [V.int (f + s' * (0 + (j : Int)))])) = _
            rw [e9]; rfl
        · rintro H6 ⟨s6, hD6⟩
          rw [dv, Int.toNat_natCast, ← ed] at hD6
          refine nilP (reprP (.lst (SqL.of (by rw [← vn_row]; exact hD6)) (dp_ints _)) pls (by decide) (by decide) (neV rfl ⟨_, rfl, iteF ?_⟩))
          exact go _ _ ⟨_, _, rfl, w1.trans s6⟩
end
end K1
namespace K1
open PySem PySem.Spec PyProof.Rows L2
theorem takes_len {X : Cx} {W : WX} (tk : Takes X W) : Takes X (fun cls d σ H => σ.length = X.N.length → W cls d σ H) := fun u s' ⟨a, B, sI, pins', σ', H', cls, d, e, J, nb, up, sky, na, os, ag, w⟩ =>
  tk u s' ⟨a, B, sI, pins', σ', H', cls, d, e, J, nb, up, sky, na, os, ag, w J.len⟩
/-- isinstance(e, N) in a suite, the exception's dict with any fields -/
def rIsF (K : PySem.W.Frag) (C : Addr) (cls : Value) (d : Option Addr) (a : Addr) : List V → Hp → VK → Prop := fun xs H Q => ∃ (dd N : Addr) (fs : List (Str × V)) (b : Bool), cls = .ref C ∧ d = some dd ∧ xs = [.ref a, .ref N] ∧ H dd = some (.xd fs) ∧ PySem.W.kitOne K (.ref C) (.ref N) = some b ∧ Q (.bl b) H
theorem call_isF {X : Cx} {a C : Addr} {cls : Value} {d : Option Addr} {oe : Obj} {pn : List (Addr × Obj)} (T : ExcK X.K C) (hz : Zc cls d oe) (hf : ∃ vs, oe.data = .fields vs) : CallR (X.suite a ((a, oe) :: pn)) (.builtin "isinstance") (rIsF X.K C cls d a) := by
  intro pins s σ H xs us Q I r h
  obtain ⟨dd, N, fs, b, rfl, rfl, rfl, hx, e, q⟩ := h
  obtain ⟨u1, u2, rfl, r1, r2⟩ := vals2 r
  cases r1
  cases r2
  obtain ⟨hget, _⟩ := I.pin (a, oe) (List.mem_append.mpr (.inl List.mem_cons_self))
  obtain ⟨vs, hd⟩ := hf
  have hx' : ObjOk X.prog X.w H s.heap dd (.xd fs) := I.hok dd _ hx
  obtain ⟨mA, hns, hr⟩ := hx'
  obtain ⟨od, ho, hl⟩ := lookIn_ns hns
  have J : PySem.W.InstAt s.heap a oe C (some od) := ⟨hget, hz.1, by unfold PySem.W.notCls; rw [hd] <;> rfl, by rw [hz.2]; exact ho⟩
  exact PySem.W.kia_one (PySem.W.kitx_exc T.cl T.ga T.gt T.sb T.ca T.sp T.tk T.mo) I.kIn J e (fun z => nomatch z) fun tk => ⟨.bl b, H, I.kept (t' := tk) fun _ _ z => z, rfl, q⟩
/-- what the law's ear asks of the class -/
structure Exm (K : PySem.W.Frag) (CR N : Addr) : Prop where
  rr : PySem.W.exmOne K (.ref CR) (.ref CR) = some true
  ir : PySem.W.kitOne K (.ref CR) (.ref N) = some true
  xr : ExcK K CR
/-- x is the text that repr gives for v -/
def RS (v : V) (x : Str) : Prop := ∀ (H : Hp) (Q : VK), Q (.str x) H → rReprS [v] H Q
/-- as much, for a tuple of numbers too -/
def RSo (K : PySem.W.Frag) (H0 : Hp) (v : V) (x : Str) : Prop := ∀ (H : Hp) (Q : VK), Same H0 H → Q (.str x) H → rReprS [v] H Q ∨ rRepr K [v] H Q
/-- what the law hears of an error -/
def HE (K : PySem.W.Frag) (CR : Addr) (Q : VK) : XK := fun cls d H => ∃ dd : Addr, d = some dd ∧ cls = .ref CR ∧ ∃ v, H dd = some (.xd [("at", v)]) ∧ ∃ x, RSo K H v x ∧ ∀ p H', Same H H' → H' p = some (.tup [.str "refused", .str x, .bl true]) → Q (.ref p) H'
def TTh (K : PySem.W.Frag) (CR : Addr) : (XK → Hp → VK → Prop) → Hp → VK → Prop := fun tl H Q => tl (HE K CR Q) H fun v H' => 2 ≤ sizeLine ∧ ∀ p, H' p = none → Q (.ref p) (upd H' p (.tup [.str "told", v]))
theorem scHe : FnScope ["_law_ask", "fault"] ["_law_ask"] (defScope sLHeard) := ⟨rfl, rfl, rfl, by decide +kernel, rfl, by decide +kernel, by decide +kernel⟩
theorem call_reprZ {Z : Cx} {a : Addr} {pn : List (Addr × Obj)} (hgd : Z.A.guards = some []) (hu : Z.A.units + 64 < cLine) : CallR (Z.suite a pn) (.builtin "repr") (rRepr Z.K) := call_repr (X := Z.suite a pn) hgd hu
theorem heard_gives {X : Cx} {CR N i3 g : Addr} {k : Nat} {b3 : List Value} {q3 : Str} {cdg : Value} {q : Str} (B : Bt X.mg) (T3 : LAt.Txt X.K X.mg "Refused" q3 b3 CR i3) (hN : X.mg "NetError" = some (.ref N)) (ex : Exm X.K CR N) (g3 : X.mg "Refused" = some (.ref CR)) (hgd : X.A.guards = some []) (hr : Room (k + 2) X.A) :
    LamX.GivesTo X ["_law_ask", "fault"] "_law_heard" (defScope sLHeard) g cdg (defBody sLHeard) "_law_ask" q (TTh X.K CR) := by
  intro f c' s H Q tl act hc h
  have hu := (hr.deeper (envOfC "_law_heard" (defScope sLHeard) s.heap.objs.size g cdg)).units
  generalize hZ : (cxOf C8.CX0 X.prog X.w X.K X.mg X.base ["_law_ask", "fault"] "_law_heard" (defScope sLHeard) g cdg X.A X.stack s H C8.E0) = Z at act ⊢
  subst hZ
  refine ⟨_, pss_one (ps_try_all (n := "fault") (i := 1) (tb := fun W D σ H => ∃ Ech : XK, (∀ cls d (σ' : L2.St) H', σ'.length = 2 → Ech cls d H' → W cls d σ' H') ∧ σ[0]? = some (some (.ref f)) ∧ H c' = some (LamX.CodeO c' q) ∧ tl Ech H fun v H1 => 2 ≤ sizeLine ∧ ∀ p, H1 p = none → D.rt (.ref p) (upd H1 p (.tup [.str "told", v])))
      rfl rfl scHe.nd rfl rfl LamX.takes0 (fun W pn xe tk _ => ?_)
      (.cons (c := .ref CR) ⟨rfl, by decide, .inl g3⟩ (fun a oe cls d pn hz hf => pss_one (ps_ret (pe_tup (pa_cons pe_str (pa_cons (pe_callB (call_or2 call_reprS (call_reprZ (Z := cxOf C8.CX0 X.prog X.w X.K X.mg X.base ["_law_ask", "fault"] "_law_heard" (defScope sLHeard) g cdg X.A X.stack s H C8.E0) hgd hu)) rfl B.repr (by decide +kernel) (pa_cons (pe_by_LAt T3 hz hf (pv 1)) pa_nil)) (pa_cons (pe_callB (call_isF ex.xr hz hf) rfl B.isinstance (by decide +kernel) (pa_cons (pv 1) (pa_cons (pe_glob (v := .ref N) rfl hN rfl) pa_nil))) pa_nil)))))) .nil)), ?_⟩
  · refine ⟨fun pins s' σ H' D I h' => ?_⟩
    obtain ⟨Ech, hW, h1, h2, h3⟩ := h'
    have hp := fun p1 p2 => act (fun cls d σ H => σ.length = 2 → W cls d σ H) pn xe Ech p1 p2 (takes_len tk) (fun cls d σ' H' e hl => hW cls d σ' H' hl e)
    exact (pss_one (ps_ret (pe_tup (pa_cons pe_str (pa_cons (hp _ _) pa_nil))))).run pins s' σ H' D I ⟨h1, h2, h3⟩
  · refine ⟨HE X.K CR Q, fun cls d σ' H' hl he => ?_, rfl, hc, h⟩
    obtain ⟨dd, rfl, k⟩ := he
    obtain ⟨v0, v1, rfl⟩ : ∃ v0 v1, σ' = [v0, v1] := by
      match σ', hl with
      | [v0, v1], _ => exact ⟨v0, v1, rfl⟩
    obtain ⟨rfl, v, hx, x, rs, k⟩ := k
    refine ⟨true, ex.rr, fun _ a na => ?_, fun z => (by cases z)⟩
    refine ⟨_, rfl, rfl, rfl, dd, v, rfl, hx, ?_⟩
    unfold tNil
    dsimp only
    exact rs _ _ (Same.refl _) ⟨_, rfl, dd, N, _, true, rfl, rfl, rfl, hx, ex.ir, (by show 3 ≤ sizeLine; decide), fun p hp => k p _ (same_new hp) upd_same⟩
/-! ### the law's ear -/
structure Hd (K : PySem.W.Frag) (mg : Str → Option Value) (base : Heap) (CR : Addr) : Prop where
  B : Bt mg
  df : ∃ g fd, Df K mg "_law_heard" sLHeard ["_law_ask"] g fd
  t3 : ∃ q b i, LAt.Txt K mg "Refused" q b CR i
  ex : ∃ N, mg "NetError" = some (.ref N) ∧ Exm K CR N
theorem pHeard {X : Cx} {c P CR : Addr} {k : Nat} {qn : Str} {T : List (Addr × Str)} {params : Arguments} {body : Expr} {scope : Scope} {t : XK → TE} {p lpos pos : Pos} (hd : Hd X.K X.mg X.base CR) (TB : LamX.TabB X.base X.mg c P) (hgd : X.A.guards = some []) (hr : Room (k + 2) X.A) (hcode : X.env.code = .ref c)
    (hq : X.env.qual ++ "<lambda>" = qn) (hm : (P, qn) ∈ T) (hun : ∀ p ∈ T, p.1 = P → p.2 = qn) (hg : Gl X "_law_heard") (L : LamX.LamS X.env.scope scope) (hdef : defaultsOf params X.env = ([], []))
    (hbind : ∀ (q : Str) (cl : List (Str × Addr)) (pm cv ctv : Value), bindArgs (PySem.W.kla_fn "<lambda>" q params body scope cl pm cv ctv) ⟨[], []⟩ = pure [])
    (hbody : ∀ (A : Around) (outer : List Env) (s : Shared) (H : Hp) (E : XK) (f c' : Addr), Room k (A.deeper (LamX.lamEnv X scope s.heap.objs.size f c')) → PE (LamX.lamCx X A outer s H E scope f c') body (t E)) :
    PE X (.Call (.Name "_law_heard" p) [.Lambda params body scope lpos] [] pos) (LamX.tLam T (TTh X.K CR) t) := by
  obtain ⟨g, fd, D⟩ := hd.df
  obtain ⟨q3, b3, i3, T3⟩ := hd.t3
  obtain ⟨N, hN, ex⟩ := hd.ex
  have g3 := T3.gC
  have hb := D.b
  obtain ⟨oc, od, kV, doc, pm, an, cdv, ct, osl, rfl, lk, hcd⟩ := D.F.ex
  exact LamX.pe_lamcall (a := "_law_ask") hg D.g D.F.kp lk hcd hb scHe rfl (.inl rfl) (heard_gives hd.B T3 hN ex g3 hgd hr) TB hcode (by rw [hq]; exact hm) (fun p hp e => by rw [hq]; exact hun p hp e) hr L hdef hbind hbody
section
variable {P : Program} {w : World} {K : PySem.W.Frag} {mg : Str → Option Value} {base : Heap}
theorem FunC.okG {x qual : Str} {st : Stmt} {f : Addr} {fd : FuncData} {cdv : Value} {N ps : List Str} {k : Nat} {sp : Sp} (F : FunC K x qual st f fd cdv) (S : FnScope N ps (defScope st)) (len : ∀ vs H Q E, sp vs H Q E → vs.length = ps.length)
    (hbody : ∀ (A : Around) (outer : List Env) (s : Shared) (H : Hp) (vs : List V) (Q : VK) (E : XK), Room k (A.deeper (envOfC qual (defScope st) s.heap.objs.size f cdv)) → (A.deeper (envOfC qual (defScope st) s.heap.objs.size f cdv)).guards = some [] → sp vs H Q E →
      ∃ t, PSs (cxOf CX0 P w K mg base N qual (defScope st) f cdv A outer s H E).nox (defBody st) t ∧ t { nx := fun _ H' => Q .non H', rt := Q } (start N vs) H) : FnG P w K mg base (k + 1) f fd ps sp := by
  obtain ⟨oc, od, kV, doc, pm, an, ct, osl, rfl, lk, hcd⟩ := F.ex
  refine ⟨len, fun A outer s H args us vs Q E hr hgd e0 hb r hsp => ?_⟩
  refine LamX.run_ofS lk hcd S hr e0 hb r (len _ _ _ _ hsp) fun hr' => ?_
  obtain ⟨t, h, q⟩ := hbody A outer s H vs Q E hr' hgd hsp
  exact ⟨t, h.nox, q⟩
end
/-! ### what stays behind a step of the law: all but the source, the things at xs, and the tables of code -/
theorem BoxO.ext {b : Addr} {H1 H2 : Hp} (h : BoxO H1 b) (e : LamX.ExtN H1 H2) : BoxO H2 b := let ⟨x, y, q⟩ := h; ⟨x, y, e _ _ q (fun ps z => by cases z)⟩
theorem BoxO.nn {b p : Addr} {H : Hp} (h : BoxO H b) (hp : H p = none) : p ≠ b := (Bx.refl h).ne hp
theorem tabs_bx {b : Addr} {T : List (Addr × Str)} {H1 H2 : Hp} (t : LamX.Tabs T H1) (hb : BoxO H1 b) (x : Bx b H1 H2) : LamX.Tabs T H2 := fun p hp => by
  obtain ⟨ps, h1, h2, h3⟩ := t p hp
  refine ⟨ps, x.2 _ _ h1 (hb.ne h1 fun xs => by intro z; cases z), h2, fun pos cv hc => ?_⟩
  obtain ⟨c, e1, e2⟩ := h3 pos cv hc
  exact ⟨c, e1, x.2 _ _ e2 (hb.ne e2 fun xs => by intro z; unfold LamX.CodeO at z; cases z)⟩
theorem tabs_but {c C dx : Addr} {fs : List (Str × V)} {T : List (Addr × Str)} {H1 H2 : Hp} (t : LamX.Tabs T H1) (hc : H1 c = some (.ins C dx fs)) (x : But c H1 H2) : LamX.Tabs T H2 := fun p hp => by
  obtain ⟨ps, h1, h2, h3⟩ := t p hp
  refine ⟨ps, x _ _ h1 (ne_of h1 hc (by intro z; cases z)), h2, fun pos cv hcv => ?_⟩
  obtain ⟨d, e1, e2⟩ := h3 pos cv hcv
  exact ⟨d, e1, x _ _ e2 (ne_of e2 hc (by intro z; unfold LamX.CodeO at z; cases z))⟩
structure Lw (b : Addr) (T : List (Addr × Str)) (xs : List Addr) (H H' : Hp) : Prop where
  bx : BoxO H' b
  tb : LamX.Tabs T H'
  ks : Ks (b :: xs) H H'
section
variable {b : Addr} {T : List (Addr × Str)} {xs : List Addr} {H H1 H2 : Hp}
theorem Lw.refl (hb : BoxO H b) (t : LamX.Tabs T H) : Lw b T xs H H := ⟨hb, t, Ks.refl⟩
theorem Lw.trans (a : Lw b T xs H H1) (c : Lw b T xs H1 H2) : Lw b T xs H H2 := ⟨c.bx, c.tb, a.ks.trans c.ks⟩
theorem Lw.same (a : Lw b T xs H H1) (s : Same H1 H2) : Lw b T xs H H2 := ⟨a.bx.same s, a.tb.ext s, a.ks.same s⟩
theorem Lw.new {p : Addr} {o : HO} (a : Lw b T xs H H1) (hp : H1 p = none) : Lw b T xs H (upd H1 p o) := a.same (same_new hp)
theorem ks_bx (x : Bx b H1 H2) : Ks (b :: xs) H1 H2 := fun c o e n _ => x.2 c o e fun z => n (by rw [z]; exact List.mem_cons_self)
theorem Lw.box (a : Lw b T xs H H1) (x : Bx b H1 H2) : Lw b T xs H H2 := ⟨x.1, tabs_bx a.tb a.bx x, a.ks.trans (ks_bx x)⟩
theorem Lw.ext (a : Lw b T xs H H1) (e : LamX.ExtN H1 H2) (t : LamX.Tabs T H2) : Lw b T xs H H2 := ⟨a.bx.ext e, t, a.ks.trans fun c o q _ n => e _ _ q n⟩
theorem Lw.but {c C dx : Addr} {fs : List (Str × V)} (a : Lw b T xs H H1) (hc : H1 c = some (.ins C dx fs)) (m : c ∈ xs) (x : But c H1 H2) : Lw b T xs H H2 := by
  obtain ⟨u, v, hb⟩ := a.bx
  exact ⟨⟨u, v, x _ _ hb (ne_of hb hc (by intro z; cases z))⟩, tabs_but a.tb hc x, a.ks.trans fun d o e n _ => x d o e fun z => n (by rw [z]; exact List.mem_cons_of_mem _ m)⟩
theorem Lw.nn {p : Addr} (a : Lw b T xs H H1) (hp : H1 p = none) : p ≠ b := a.bx.nn hp
theorem But.fresh {c : Addr} (x : But c H H1) (hc : H c = none) : Same H H1 := fun d u e => x d u e (ne_of_none e hc)
end
/-! ### texts -/
theorem strOk_iff {x : Str} : PyData.strOk x = true ↔ ∀ c ∈ x.cps.toList, c < 0x110000 := by
  unfold PyData.strOk
  rw [← Array.all_toList, List.all_eq_true]
  exact ⟨fun h c hc => of_decide_eq_true (h c hc), fun h c hc => decide_eq_true (h c hc)⟩
theorem ok_int (i : Int) : PyData.strOk (PyData.int i).shown = true := strOk_iff.mpr fun c hc => by
  by_cases z : c ≠ 45 ∧ (c < 48 ∨ 57 < c)
  · exact absurd hc (shown_int_free' z i)
  · omega
theorem ok_shAll : ∀ ds : List PyData, (∀ d ∈ ds, PyData.strOk d.shown = true) → ∀ t ∈ PyData.shownAll ds, PyData.strOk t = true
  | [], _, t, ht => by
    unfold PyData.shownAll at ht
    cases ht
  | d :: r, h, t, ht => by
    unfold PyData.shownAll at ht
    rcases List.mem_cons.mp ht with e | e
    · rw [e]; exact h d List.mem_cons_self
    · exact ok_shAll r (fun x hx => h x (List.mem_cons_of_mem _ hx)) t e
theorem ok_list {ds : List PyData} (h : ∀ d ∈ ds, PyData.strOk d.shown = true) : PyData.strOk (PyData.list ds).shown = true := strOk_iff.mpr fun c hc => by
  rw [PyData.shown_list, mem_cps_append, mem_cps_append, mem_join] at hc
  rcases hc with (hc | (⟨t, ht, hc⟩ | ⟨_, hc⟩)) | hc
  · exact strOk_iff.mp (by decide +kernel : PyData.strOk "[" = true) c hc
  · exact strOk_iff.mp (ok_shAll ds h t ht) c hc
  · exact strOk_iff.mp (by decide +kernel : PyData.strOk ", " = true) c hc
  · exact strOk_iff.mp (by decide +kernel : PyData.strOk "]" = true) c hc
/-- a value with the text that repr gives for it, as long as all but xs stands -/
structure Vl (K : PySem.W.Frag) (xs : List Addr) (H : Hp) (v : V) (o : Option (List V)) (x : Str) : Prop where
  ok : PyData.strOk x = true
  sh : ∀ H' Q, Ks xs H H' → Q (.str x) H' → rReprS [v] H' Q ∨ rRepr K [v] H' Q
  rd : ∀ H', Ks xs H H' → Rw K H' v o
theorem Vl.ks {K : PySem.W.Frag} {xs : List Addr} {H H1 : Hp} {v : V} {o : Option (List V)} {x : Str} (h : Vl K xs H v o x) (k : Ks xs H H1) : Vl K xs H1 v o x := ⟨h.ok, fun H' Q k2 q => h.sh H' Q (k.trans k2) q, fun H' k2 => h.rd H' (k.trans k2)⟩
theorem Vl.rso {K : PySem.W.Frag} {xs : List Addr} {H : Hp} {v : V} {o : Option (List V)} {x : Str} (h : Vl K xs H v o x) : RSo K H v x := fun H' Q s q => h.sh H' Q (fun c o e _ _ => s _ _ e) q
theorem log64 {i : Int} (h : i.natAbs < 2 ^ 64) : i.natAbs.log2 < 1920 := by
  by_cases z : i.natAbs = 0
  · rw [z]; decide
  · have : i.natAbs.log2 < 64 := (Nat.log2_lt z).mpr h
    omega
/-- an item of a list -/
structure Im (K : PySem.W.Frag) (xs : List Addr) (H : Hp) (v : V) (d : PyData) : Prop where
  ok : PyData.strOk d.shown = true
  pl : Pl d 1 200
  rd : ∀ H', Ks xs H H' → Dp K H' v d ∧ ∃ o, KV K H' v o
inductive Ims (K : PySem.W.Frag) (xs : List Addr) (H : Hp) : List V → List PyData → Prop
  | nil : Ims K xs H [] []
  | cons {v : V} {d : PyData} {vs : List V} {ds : List PyData} (a : Im K xs H v d) (r : Ims K xs H vs ds) : Ims K xs H (v :: vs) (d :: ds)
section
variable {K : PySem.W.Frag} {xs : List Addr} {H : Hp}
theorem rw0 {H' : Hp} {v : V} (h : KV K H' v none) : Rw K H' v none := ⟨h, fun ys e => by cases e⟩
theorem vl_int {i : Int} (h : i.natAbs < 2 ^ 64) : Vl K xs H (.int i) none (toString i) := ⟨ok_int i, fun H' Q _ q => .inl ⟨_, rfl, .inr (.inr (.inl ⟨i, rfl, log64 h, q⟩))⟩, fun H' _ => rw0 (.int i)⟩
theorem vl_non : Vl K xs H .non none "None" := ⟨by decide +kernel, fun H' Q _ q => .inl ⟨_, rfl, .inl ⟨rfl, q⟩⟩, fun H' _ => rw0 .non⟩
theorem vl_true : Vl K xs H (.bl true) none "True" := ⟨by decide +kernel, fun H' Q _ q => .inl ⟨_, rfl, .inr (.inl ⟨true, rfl, q⟩)⟩, fun H' _ => rw0 (.bl true)⟩
theorem vl_str {s : Str} (h1 : PyData.strOk (reprText s) = true) (h2 : (reprText s).length ≤ sizeLine) : Vl K xs H (.str s) none (reprText s) := ⟨h1, fun H' Q _ q => .inl ⟨_, rfl, .inr (.inr (.inr ⟨s, rfl, h2, q⟩))⟩, fun H' _ => rw0 (.str s)⟩
theorem im_int {i : Int} (h : i.natAbs < 10 ^ 19) : Im K xs H (.int i) (.int i) := ⟨ok_int i, (Pl.int h).mono (by decide) (by decide), fun H' _ => ⟨.int i, none, .int i⟩⟩
theorem im_non : Im K xs H .non .none := ⟨by decide +kernel, pl_non.mono (by decide) (by decide), fun H' _ => ⟨.non, none, .non⟩⟩
theorem im_true : Im K xs H (.bl true) (.bool true) := ⟨by decide +kernel, (Pl.bl true).mono (by decide) (by decide), fun H' _ => ⟨.bl true, none, .bl true⟩⟩
theorem im_str {s : Str} (h0 : PyData.strOk (PyData.str s).shown = true) (h1 : PyData.strOk s = true) (h2 : s.cps.size ≤ 100) (h3 : (s.cps.toList.all fun c => decide (c < 16 ^ 8)) = true) : Im K xs H (.str s) (.str s) := ⟨h0, (pl_str h1 h2 h3).mono (by decide) (by decide), fun H' _ => ⟨.str s, none, .str s⟩⟩
theorem im_one {p : Addr} (hp : H p = some (.lst [.int 1])) (n : p ∉ xs) : Im K xs H (.ref p) (.list [.int 1]) :=
  ⟨by decide +kernel, (Pl.list (PlA.cons (Pl.int (i := 1) (by decide)) PlA.nil)).mono (by decide) (by decide), fun H' k => ⟨.lst (SqL.of (k.lst hp n)) (.cons (.int 1) .nil), _, .lst (k.lst hp n)⟩⟩
theorem ims_ints : ∀ t : List Int, (∀ i ∈ t, i.natAbs < 10 ^ 19) → Ims K xs H (vrow t) (dI t)
  | [], _ => .nil
  | i :: r, h => .cons (im_int (h i List.mem_cons_self)) (ims_ints r fun j hj => h j (List.mem_cons_of_mem _ hj))
theorem Ims.app {vs ws : List V} {ds es : List PyData} (a : Ims K xs H vs ds) (b : Ims K xs H ws es) : Ims K xs H (vs ++ ws) (ds ++ es) := by
  induction a with
  | nil => exact b
  | cons x _ ih => exact .cons x ih
theorem Ims.ok {vs : List V} {ds : List PyData} (a : Ims K xs H vs ds) : ∀ d ∈ ds, PyData.strOk d.shown = true := by
  induction a with
  | nil => intro d h; cases h
  | cons x _ ih =>
    intro d h
    rcases List.mem_cons.mp h with e | e
    · rw [e]; exact x.ok
    · exact ih d e
theorem Ims.pl {vs : List V} {ds : List PyData} (a : Ims K xs H vs ds) : PlA ds 1 (vs.length * 201) := by
  induction a with
  | nil => exact PlA.nil.mono (by decide) (by decide)
  | cons x _ ih => exact (PlA.cons x.pl ih).mono (by decide) (by simp only [List.length_cons]; omega)
theorem Ims.rd {vs : List V} {ds : List PyData} (a : Ims K xs H vs ds) {H' : Hp} (k : Ks xs H H') : DpAll K H' vs ds ∧ Kinds K H' vs := by
  induction a with
  | nil => exact ⟨.nil, fun x hx => by cases hx⟩
  | cons x _ ih =>
    obtain ⟨h1, h2⟩ := x.rd H' k
    refine ⟨.cons h1 ih.1, fun y hy => ?_⟩
    rcases List.mem_cons.mp hy with e | e
    · rw [e]; exact h2
    · exact ih.2 y e
theorem vl_lst {p : Addr} {vs : List V} {ds : List PyData} (hp : H p = some (.lst vs)) (n : p ∉ xs) (a : Ims K xs H vs ds) (hl : vs.length ≤ 400) : Vl K xs H (.ref p) (some vs) (PyData.list ds).shown := by
  refine ⟨ok_list a.ok, fun H' Q k q => .inr (reprP (.lst (SqL.of (k.lst hp n)) (a.rd k).1) (Pl.list a.pl) (by decide) (by omega) q), fun H' k => ⟨.lst (k.lst hp n), fun ys e => ?_⟩⟩
  obtain rfl := Option.some.inj e
  exact (a.rd k).2
/-- what is no number below n -/
def oddH (n : Int) : List V := [.int n, .int (-1), .non, .bl true, .str "0"]
theorem oddH_vl {n : Int} {v : V} (h0 : 0 ≤ n) (h1 : n ≤ 1000) (h : v ∈ oddH n) : belowB v n = false ∧ ∃ x, Vl K xs H v none x := by
  simp only [oddH, List.mem_cons, List.mem_nil_iff, or_false] at h
  rcases h with rfl | rfl | rfl | rfl | rfl
  · refine ⟨?_, _, vl_int (by omega)⟩
    show (decide (0 ≤ n) && decide (n < n)) = false
    rw [decide_eq_false (Int.lt_irrefl _), Bool.and_false]
  · exact ⟨rfl, _, vl_int (by decide)⟩
  · exact ⟨rfl, _, vl_non⟩
  · exact ⟨rfl, _, vl_true⟩
  · exact ⟨rfl, _, vl_str (by decide +kernel) (by decide +kernel)⟩
end
/-! ### what the ear tells, compared -/
theorem ear {K : PySem.W.Frag} {Q : VK} {p p2 : Addr} {H : Hp} {vs : List V} {ds : List PyData} (h1 : H p = some (.tup vs)) (h2 : H p2 = some (.tup vs)) (hd : DpAll K H vs ds) (lay : PyData.canLay0 (.tuple ds) = true) (sh : SeqAt.shaped (.tuple ds) = true) (q : Q (.bl false) H) : rNeD K (.ref p) (.ref p2) H Q :=
  ⟨_, _, .tup (SqT.of h1) hd, .tup (SqT.of h2) hd, sh, sh, qbl (by rw [SeqAt.eqv_refl _ lay]; rfl) q⟩
theorem layS {y x : Str} {b : Bool} (hy : PyData.strOk y = true) (hx : PyData.strOk x = true) : PyData.canLay0 (.tuple [.str y, .str x, .bool b]) = true := by simp only [PyData.canLay0, PyData.canLayAll0, Bool.and_self, hx, hy]
theorem shS {y x : Str} {b : Bool} (hy : PyData.strOk y = true) (hx : PyData.strOk x = true) : SeqAt.shaped (.tuple [.str y, .str x, .bool b]) = true := by
  unfold SeqAt.shaped
  rw [layS hy hx]
  simp only [PyData.depth, PyData.depthAll]
  exact (by decide : (true && decide (max 0 (max 0 (max 0 0)) + 1 ≤ 64)) = true)
theorem earS {K : PySem.W.Frag} {Q : VK} {p p2 : Addr} {H : Hp} {y x : Str} {b : Bool} (hy : PyData.strOk y = true) (hx : PyData.strOk x = true) (h1 : H p = some (.tup [.str y, .str x, .bl b])) (h2 : H p2 = some (.tup [.str y, .str x, .bl b])) (q : Q (.bl false) H) : rNeD K (.ref p) (.ref p2) H Q :=
  ear h1 h2 (.cons (.str y) (.cons (.str x) (.cons (.bl b) .nil))) (layS hy hx) (shS hy hx) q
theorem earE {K : PySem.W.Frag} {Q : VK} {p p2 : Addr} {H : Hp} {y x : Str} {b : Bool} (hy : PyData.strOk y = true) (hx : PyData.strOk x = true) (h1 : H p = some (.tup [.str y, .str x, .bl b])) (h2 : H p2 = some (.tup [.str y, .str x, .bl b])) (q : Q (.bl true) H) : rEqD K (.ref p) (.ref p2) H Q :=
  have hd : DpAll K H [V.str y, .str x, .bl b] [.str y, .str x, .bool b] := .cons (.str y) (.cons (.str x) (.cons (.bl b) .nil))
  ⟨_, _, .tup (SqT.of h1) hd, .tup (SqT.of h2) hd, shS hy hx, shS hy hx, qbl (by rw [SeqAt.eqv_refl _ (layS hy hx)]) q⟩
theorem Vl.same {K : PySem.W.Frag} {xs : List Addr} {H H1 : Hp} {v : V} {o : Option (List V)} {x : Str} (h : Vl K xs H v o x) (s : Same H H1) : Vl K xs H1 v o x := h.ks fun c o e _ _ => s _ _ e
section
variable {K : PySem.W.Frag} {CR : Addr} {Q : VK} {H : Hp} {v : V} {o : Option (List V)} {x : Str} {xs : List Addr}
theorem heR (vl : Vl K xs H v o x) (k : ∀ p H', Same H H' → H' p = some (.tup [.str "refused", .str x, .bl true]) → Q (.ref p) H') : Rz CR "at" v H (HE K CR Q) := fun d H' sm hd hx => ⟨d, rfl, rfl, v, hx, x, (vl.same sm).rso, fun p H'' s2 hp => k p H'' (sm.trans s2) hp⟩
theorem st_r : PyData.strOk ("refused" : Str) = true := by decide +kernel
end
end K1
namespace K1
open PySem PySem.Spec PyProof.Rows L2
section
variable {K : PySem.W.Frag} {CR : Addr} {Q : VK} {H : Hp} {E : XK} {v : V} {o : Option (List V)} {x : Str} {xs : List Addr}
theorem errM (hb : modB v = false) (kv : KV K H v o) (r : Rz CR "at" v H E) : spRV K CR [v, .non, .non] H Q E ∧ spAR K CR [v, .non, .non] H Q E :=
  ⟨⟨v, .non, .non, o, none, none, rfl, kv, .non, .non, fun _ => r, fun h => (by rw [hb] at h; cases h)⟩, ⟨v, .non, .non, o, none, none, rfl, kv, .non, .non, fun _ => r, fun h => (by rw [hb] at h; cases h)⟩⟩
theorem errN (hb : numB v = false) (kv : KV K H v o) (r : Rz CR "at" v H E) : spRV K CR [.int 0, v, .non] H Q E ∧ spAR K CR [.int 0, v, .non] H Q E :=
  ⟨⟨.int 0, v, .non, none, o, none, rfl, .int 0, kv, .non, fun h => (by cases h), fun _ => ⟨fun _ => r, fun h => (by rw [hb] at h; cases h)⟩⟩, ⟨.int 0, v, .non, none, o, none, rfl, .int 0, kv, .non, fun h => (by cases h), fun _ => ⟨fun _ => r, fun h => (by rw [hb] at h; cases h)⟩⟩⟩
theorem errT (hb : wholeB v = false) (kv : KV K H v o) (r : Rz CR "at" v H E) : spRV K CR [.int 7, .int 0, v] H Q E ∧ spAR K CR [.int 7, .int 0, v] H Q E :=
  ⟨⟨.int 7, .int 0, v, none, none, o, rfl, .int 7, .int 0, kv, fun h => (by cases h), fun _ => ⟨fun h => (by cases h), fun _ => ⟨fun _ => r, fun m r' t _ _ et => (by rw [et] at hb; cases hb)⟩⟩⟩,
   ⟨.int 7, .int 0, v, none, none, o, rfl, .int 7, .int 0, kv, fun h => (by cases h), fun _ => ⟨fun h => (by cases h), fun _ => ⟨fun _ => r, fun m r' t _ _ et => (by rw [et] at hb; cases hb)⟩⟩⟩⟩
theorem vl_false : Vl K xs H (.bl false) none "False" := ⟨by decide +kernel, fun H' Q _ q => .inl ⟨_, rfl, .inr (.inl ⟨false, rfl, q⟩)⟩, fun H' _ => rw0 (.bl false)⟩
theorem vl_t0 {p : Addr} (hp : H p = some (.tup [.int 0])) (n : p ∉ xs) : Vl K xs H (.ref p) (some [.int 0]) (PyData.tuple [.int 0]).shown :=
  ⟨by decide +kernel, fun H' Q k q => .inr (reprP (.tup (SqT.of (k.tup hp n)) (.cons (.int 0) .nil)) (Pl.tuple (PlA.cons (Pl.int (i := 0) (by decide)) PlA.nil)) (by decide) (by decide) q), fun H' k => ⟨.tup (k.tup hp n), fun ys e y hy => by
    obtain rfl := Option.some.inj e
    rw [List.mem_singleton.mp hy]
    exact ⟨_, .int 0⟩⟩⟩
def oddM : List V := [.int 1, .int (0 - 2), .int (10 ^ (6 : Int).toNat + 1), .non, .bl true, .str "0"]
theorem oddM_vl (h : v ∈ oddM) : modB v = false ∧ ∃ o x, Vl K xs H v o x := by
  simp only [oddM, List.mem_cons, List.mem_nil_iff, or_false] at h
  rcases h with rfl | rfl | rfl | rfl | rfl | rfl
  · exact ⟨rfl, _, _, vl_int (by decide)⟩
  · exact ⟨by decide +kernel, _, _, vl_int (by decide)⟩
  · exact ⟨by decide +kernel, _, _, vl_int (by decide +kernel)⟩
  · exact ⟨rfl, _, _, vl_non⟩
  · exact ⟨rfl, _, _, vl_true⟩
  · exact ⟨rfl, _, _, vl_str (by decide +kernel) (by decide +kernel)⟩
def oddN (t : Addr) : List V := [.int (0 - 1), .non, .bl true, .str "0", .ref t]
theorem oddN_vl {t : Addr} (ht : H t = some (.tup [.int 0])) (n : t ∉ xs) (h : v ∈ oddN t) : numB v = false ∧ ∃ o x, Vl K xs H v o x := by
  simp only [oddN, List.mem_cons, List.mem_nil_iff, or_false] at h
  rcases h with rfl | rfl | rfl | rfl | rfl
  · exact ⟨by decide +kernel, _, _, vl_int (by decide)⟩
  · exact ⟨rfl, _, _, vl_non⟩
  · exact ⟨rfl, _, _, vl_true⟩
  · exact ⟨rfl, _, _, vl_str (by decide +kernel) (by decide +kernel)⟩
  · exact ⟨rfl, _, _, vl_t0 ht n⟩
def oddT (t : Addr) : List V := [.non, .bl false, .str "0", .ref t]
theorem oddT_vl {t : Addr} (ht : H t = some (.tup [.int 0])) (n : t ∉ xs) (h : v ∈ oddT t) : wholeB v = false ∧ ∃ o x, Vl K xs H v o x := by
  simp only [oddT, List.mem_cons, List.mem_nil_iff, or_false] at h
  rcases h with rfl | rfl | rfl | rfl
  · exact ⟨rfl, _, _, vl_non⟩
  · exact ⟨rfl, _, _, vl_false⟩
  · exact ⟨rfl, _, _, vl_str (by decide +kernel) (by decide +kernel)⟩
  · exact ⟨rfl, _, _, vl_t0 ht n⟩
end
theorem nn2 {σ : L2.St} {H : Hp} {Q : List V → Hp → Prop} (h : Q [.non, .non] H) : tCons (tC .non) (tCons (tC .non) tNil) σ H Q := h
theorem nn1 {σ : L2.St} {H : Hp} {Q : List V → Hp → Prop} (h : Q [.non] H) : tCons (tC .non) tNil σ H Q := h
abbrev qNo : Str := "_law_none_right.<locals>.<lambda>"
def spNone (T : List (Addr × Str)) : Sp := fun vs H Q _ => ∃ b : Addr, vs = [.ref b] ∧ BoxO H b ∧ LamX.Tabs T H ∧ ∀ H', Lw b T [] H H' → Q (.bl true) H'
section
variable {P : Program} {w : World} {K : PySem.W.Frag} {mg : Str → Option Value} {base : Heap}
abbrev nNo : List Str := ["_law_box_here", "_law_ask", "_law_bad"]
theorem scNo : FnScope nNo ["_law_box_here"] (defScope sLNoneRight) := ⟨rfl, rfl, rfl, by decide +kernel, rfl, by decide +kernel, by decide +kernel⟩
theorem ok_none {f fK fR fA CR c_ Pt : Addr} {fd fdK fdR fdA : FuncData} {T : List (Addr × Str)} (F : FunC K "_law_none_right" "_law_none_right" sLNoneRight f fd (.ref c_)) (TB : LamX.TabB base mg c_ Pt) (hmT : (Pt, qNo) ∈ T) (hun : ∀ p ∈ T, p.1 = Pt → p.2 = qNo) (DK : Df K mg "_law_pick" sLPick ["_law_box_here", "_law_some"] fK fdK) (B : Bt mg)
    (hd : Hd K mg base CR) (DR : Df K mg "rest_values" sRestValues ["modulus", "rings", "total"] fR fdR) (DA : Df K mg "are_right" sAreRight ["modulus", "rings", "total"] fA fdA) (GK : FnOk P w K mg base CX0 2 fK fdK ["_law_box_here", "_law_some"] spPick) (GR : FnOk P w K mg base (L2.CX P w) 5 fR fdR ["modulus", "rings", "total"] (spRV K CR)) (GA : FnOk P w K mg base (L2.CX P w) 6 fA fdA ["modulus", "rings", "total"] (spAR K CR)) :
    FnG P w K mg base 9 f fd ["_law_box_here"] (spNone T) := by
  refine F.okG scNo (fun vs H Q E h => ?_) (fun A outer s H vs Q E hr hgd h => ?_)
  · obtain ⟨b, rfl, _⟩ := h
    rfl
  · obtain ⟨b, rfl, hb, hT, q⟩ := h
    have hu : (A.deeper (envOfC "_law_none_right" (defScope sLNoneRight) s.heap.objs.size f (.ref c_))).units + 64 < cLine := hr.units
    have r2 := hr.mono (show 2 ≤ 8 by decide)
    refine ⟨_, pss_cons (ps_for PassesOwn.never rfl (pi_list (pe_lst (pa_cons (pe_glob (v := .ref fR) (by rfl) DR.g rfl) (pa_cons (pe_glob (v := .ref fA) (by rfl) DA.g rfl) pa_nil)))) (pg_name (i := 1) scNo.nd rfl (.inr rfl))
      (pss_cons (ps_set (i := 2) scNo.nd rfl (.inr rfl) (pc DK GK r2 pass0 (pa_cons (pv 0) (pa_cons (pe_lst (pa_cons pe_int (pa_cons (pe_op op_sub pe_int pe_int) (pa_cons (pe_op op_add (pe_op op_pow pe_int pe_int) pe_int) (pa_cons pe_non (pa_cons pe_bl (pa_cons pe_str pa_nil))))))) pa_nil))))
      (pss_cons (ps_if (pt_cmpR (neD (K := K) rfl hu) (pHeard (k := 6) (qn := qNo) (T := T) hd TB hgd hr rfl rfl hmT hun rfl (LamX.lamS_by (by rfl)) rfl (fun _ _ _ _ _ => rfl)
          (fun A outer s H E f c' hr2 => pe_or2 (pe_callL (i := 1) GR (hr2.mono (show 5 ≤ 6 by decide)) rfl (.inr (.inr rfl)) DR.F.kp DR.b .nil (pass1 (E := E) (takes_of rfl rfl rfl rfl)) (pa_cons (pv 2) (pa_cons pe_non (pa_cons pe_non pa_nil))))
            (pe_callL (i := 1) GA hr2 rfl (.inr (.inr rfl)) DA.F.kp DA.b .nil (pass1 (E := E) (takes_of rfl rfl rfl rfl)) (pa_cons (pv 2) (pa_cons pe_non (pa_cons pe_non pa_nil))))))
        (pe_tup (pa_cons pe_str (pa_cons (pe_callB (call_or2 call_reprS (call_repr hgd hu)) (by rfl) B.repr (by decide +kernel) (pa_cons (pv 2) pa_nil)) (pa_cons pe_bl pa_nil)))) (nomark _)) (pss_one (ps_ret pe_bl)) pss_nil)
      (pss_cons (ps_set (i := 2) scNo.nd rfl (.inr rfl) (pc DK GK r2 pass0 (pa_cons (pv 0) (pa_cons (pe_lst (pa_cons (pe_op op_sub pe_int pe_int) (pa_cons pe_non (pa_cons pe_bl (pa_cons pe_str (pa_cons (pe_tup (pa_cons pe_int pa_nil)) pa_nil)))))) pa_nil))))
      (pss_cons (ps_if (pt_cmpR (neD (K := K) rfl hu) (pHeard (k := 6) (qn := qNo) (T := T) hd TB hgd hr rfl rfl hmT hun rfl (LamX.lamS_by (by rfl)) rfl (fun _ _ _ _ _ => rfl)
          (fun A outer s H E f c' hr2 => pe_or2 (pe_callL (i := 1) GR (hr2.mono (show 5 ≤ 6 by decide)) rfl (.inr (.inr rfl)) DR.F.kp DR.b .nil (pass1 (E := E) (takes_of rfl rfl rfl rfl)) (pa_cons pe_int (pa_cons (pv 2) (pa_cons pe_non pa_nil))))
            (pe_callL (i := 1) GA hr2 rfl (.inr (.inr rfl)) DA.F.kp DA.b .nil (pass1 (E := E) (takes_of rfl rfl rfl rfl)) (pa_cons pe_int (pa_cons (pv 2) (pa_cons pe_non pa_nil))))))
        (pe_tup (pa_cons pe_str (pa_cons (pe_callB (call_or2 call_reprS (call_repr hgd hu)) (by rfl) B.repr (by decide +kernel) (pa_cons (pv 2) pa_nil)) (pa_cons pe_bl pa_nil)))) (nomark _)) (pss_one (ps_ret pe_bl)) pss_nil)
      (pss_cons (ps_set (i := 2) scNo.nd rfl (.inr rfl) (pc DK GK r2 pass0 (pa_cons (pv 0) (pa_cons (pe_lst (pa_cons pe_non (pa_cons pe_bl (pa_cons pe_str (pa_cons (pe_tup (pa_cons pe_int pa_nil)) pa_nil))))) pa_nil))))
      (pss_one (ps_if (pt_cmpR (neD (K := K) rfl hu) (pHeard (k := 6) (qn := qNo) (T := T) hd TB hgd hr rfl rfl hmT hun rfl (LamX.lamS_by (by rfl)) rfl (fun _ _ _ _ _ => rfl)
          (fun A outer s H E f c' hr2 => pe_or2 (pe_callL (i := 1) GR (hr2.mono (show 5 ≤ 6 by decide)) rfl (.inr (.inr rfl)) DR.F.kp DR.b .nil (pass1 (E := E) (takes_of rfl rfl rfl rfl)) (pa_cons pe_int (pa_cons pe_int (pa_cons (pv 2) pa_nil))))
            (pe_callL (i := 1) GA hr2 rfl (.inr (.inr rfl)) DA.F.kp DA.b .nil (pass1 (E := E) (takes_of rfl rfl rfl rfl)) (pa_cons pe_int (pa_cons pe_int (pa_cons (pv 2) pa_nil))))))
        (pe_tup (pa_cons pe_str (pa_cons (pe_callB (call_or2 call_reprS (call_repr hgd hu)) (by rfl) B.repr (by decide +kernel) (pa_cons (pv 2) pa_nil)) (pa_cons pe_bl pa_nil)))) (nomark _)) (pss_one (ps_ret pe_bl)) pss_nil))))))))
      (pss_one (ps_ret pe_bl)), ?_⟩
    refine ⟨(by show 2 ≤ sizeLine; decide), fun ll hll => ?_⟩
    have L0 : Lw b T [] H (upd H ll (.lst [.ref fR, .ref fA])) := (Lw.refl hb hT).new hll
    have nll : ll ≠ b := hb.nn hll
    have hl0 : (upd H ll (.lst [.ref fR, .ref fA])) ll = some (.lst [.ref fR, .ref fA]) := upd_same
    generalize upd H ll (.lst [.ref fR, .ref fA]) = H1 at L0 hl0 ⊢
    refine ⟨ll, rfl, ⟨_, SqL.of hl0⟩, for_list (K := K) (a := ll) (xs := [V.ref fR, .ref fA]) (fun i σ H' => ∃ v1 v2 : Option V, σ = [some (.ref b), v1, v2] ∧ Lw b T [] H1 H') ⟨none, none, rfl, Lw.refl L0.bx L0.tb⟩ (fun i σ H' _ ⟨_, _, _, L⟩ => SqL.of (L.ks.lst hl0 (by rw [List.mem_singleton]; exact nll))) ?_ ?_⟩
    rotate_left
    · rintro σ H2 ⟨v1, v2, rfl, L⟩
      exact q H2 (L0.trans L)
    rintro i x σ H2 hx ⟨v1, v2, rfl, L⟩
    have xc : x = .ref fR ∨ x = .ref fA := by
      have := List.mem_of_getElem? hx
      simpa using this
    rcases xc with rfl | rfl
    all_goals (
      refine ⟨_, rfl, _, _, rfl, rfl, _, _, rfl, rfl, ⟨by decide, by decide, by decide⟩, _, _, rfl, rfl, (by show 6 ≤ sizeLine; decide), fun l1 hl1 => ?_⟩
      have La1 := L.new (o := HO.lst oddM) hl1
      refine nilP ⟨b, l1, oddM, rfl, La1.bx, upd_same, L.nn hl1, by show 1 ≤ 6; decide, by show 6 ≤ 1000; decide, fun i1 vb1 J1 hv1 bx1 => ?_⟩
      have Lb1 := La1.box bx1
      obtain ⟨bd1, o1, x1, vl1⟩ := oddM_vl (K := K) (xs := [b]) (H := J1) (List.mem_of_getElem? hv1)
      refine gn ?_
      dsimp only [List.set]
      refine ⟨Lb1.tb, fun G1 eN1 tb1 => ?_⟩
      have Lc1 := Lb1.ext eN1 tb1
      have va1 := vl1.ks (fun c o e _ n => eN1 _ _ e n : Ks [b] _ G1)
      first
        | refine .inl ⟨rfl, _, rfl, nn2 (errM bd1 (va1.rd _ Ks.refl).kv (heR va1 fun p1 E1 z1 hp1 => ?_)).1⟩
        | refine .inr ⟨rfl, _, rfl, nn2 (errM bd1 (va1.rd _ Ks.refl).kv (heR va1 fun p1 E1 z1 hp1 => ?_)).2⟩
      refine ⟨_, rfl, nilP (va1.sh _ _ (fun c o e _ _ => z1 _ _ e) ⟨(by show 3 ≤ sizeLine; decide), fun q1 hq1 => earS st_r va1.ok ((same_new hq1) _ _ hp1) upd_same ⟨_, rfl, iteF (nxP ?_)⟩⟩)⟩
      have Ld1 := (Lc1.same z1).new (o := HO.tup [.str "refused", .str x1, .bl true]) hq1
      generalize upd E1 q1 (.tup [.str "refused", .str x1, .bl true]) = F1 at Ld1 ⊢
      refine ⟨_, rfl, _, _, rfl, rfl, (by show 1 ≤ sizeLine; decide), fun t2 ht2 => ⟨(by show 5 ≤ sizeLine; decide), fun l2 hl2 => ?_⟩⟩
      have Lt2 := Ld1.new (o := HO.tup [V.int 0]) ht2
      have La2 := Lt2.new (o := HO.lst (oddN t2)) hl2
      have ht2' := same_new (o := HO.lst (oddN t2)) hl2 _ _ (upd_same : (upd F1 t2 (.tup [V.int 0])) t2 = _)
      have nt2 : t2 ∉ [b] := by rw [List.mem_singleton]; exact Ld1.nn ht2
      refine nilP ⟨b, l2, oddN t2, rfl, La2.bx, upd_same, Lt2.nn hl2, by show 1 ≤ 5; decide, by show 5 ≤ 1000; decide, fun i2 vb2 J2 hv2 bx2 => ?_⟩
      have Lb2 := La2.box bx2
      obtain ⟨bd2, o2, x2, vl2⟩ := oddN_vl (K := K) (xs := [b]) (H := J2) (bx2.tup La2.bx ht2') nt2 (List.mem_of_getElem? hv2)
      refine gn ?_
      dsimp only [List.set]
      refine ⟨Lb2.tb, fun G2 eN2 tb2 => ?_⟩
      have Lc2 := Lb2.ext eN2 tb2
      have va2 := vl2.ks (fun c o e _ n => eN2 _ _ e n : Ks [b] _ G2)
      first
        | refine .inl ⟨rfl, _, rfl, nn1 (errN bd2 (va2.rd _ Ks.refl).kv (heR va2 fun p2 E2 z2 hp2 => ?_)).1⟩
        | refine .inr ⟨rfl, _, rfl, nn1 (errN bd2 (va2.rd _ Ks.refl).kv (heR va2 fun p2 E2 z2 hp2 => ?_)).2⟩
      refine ⟨_, rfl, nilP (va2.sh _ _ (fun c o e _ _ => z2 _ _ e) ⟨(by show 3 ≤ sizeLine; decide), fun q2 hq2 => earS st_r va2.ok ((same_new hq2) _ _ hp2) upd_same ⟨_, rfl, iteF (nxP ?_)⟩⟩)⟩
      have Ld2 := (Lc2.same z2).new (o := HO.tup [.str "refused", .str x2, .bl true]) hq2
      generalize upd E2 q2 (.tup [.str "refused", .str x2, .bl true]) = F2 at Ld2 ⊢
      refine ⟨_, rfl, (by show 1 ≤ sizeLine; decide), fun t3 ht3 => ⟨(by show 4 ≤ sizeLine; decide), fun l3 hl3 => ?_⟩⟩
      have Lt3 := Ld2.new (o := HO.tup [V.int 0]) ht3
      have La3 := Lt3.new (o := HO.lst (oddT t3)) hl3
      have ht3' := same_new (o := HO.lst (oddT t3)) hl3 _ _ (upd_same : (upd F2 t3 (.tup [V.int 0])) t3 = _)
      have nt3 : t3 ∉ [b] := by rw [List.mem_singleton]; exact Ld2.nn ht3
      refine nilP ⟨b, l3, oddT t3, rfl, La3.bx, upd_same, Lt3.nn hl3, by show 1 ≤ 4; decide, by show 4 ≤ 1000; decide, fun i3 vb3 J3 hv3 bx3 => ?_⟩
      have Lb3 := La3.box bx3
      obtain ⟨bd3, o3, x3, vl3⟩ := oddT_vl (K := K) (xs := [b]) (H := J3) (bx3.tup La3.bx ht3') nt3 (List.mem_of_getElem? hv3)
      refine gn ?_
      dsimp only [List.set]
      refine ⟨Lb3.tb, fun G3 eN3 tb3 => ?_⟩
      have Lc3 := Lb3.ext eN3 tb3
      have va3 := vl3.ks (fun c o e _ n => eN3 _ _ e n : Ks [b] _ G3)
      first
        | refine .inl ⟨rfl, _, rfl, nilP (errT bd3 (va3.rd _ Ks.refl).kv (heR va3 fun p3 E3 z3 hp3 => ?_)).1⟩
        | refine .inr ⟨rfl, _, rfl, nilP (errT bd3 (va3.rd _ Ks.refl).kv (heR va3 fun p3 E3 z3 hp3 => ?_)).2⟩
      refine ⟨_, rfl, nilP (va3.sh _ _ (fun c o e _ _ => z3 _ _ e) ⟨(by show 3 ≤ sizeLine; decide), fun q3 hq3 => earS st_r va3.ok ((same_new hq3) _ _ hp3) upd_same ⟨_, rfl, iteF ?_⟩⟩)⟩
      have Ld3 := (Lc3.same z3).new (o := HO.tup [.str "refused", .str x3, .bl true]) hq3
      generalize upd E3 q3 (.tup [.str "refused", .str x3, .bl true]) = F3 at Ld3 ⊢
      exact ⟨_, _, rfl, Ld3⟩)
end
end K1
namespace K1
open PySem PySem.Spec PyProof.Rows L2
theorem flat_rep {α : Type} (x : α) : ∀ n : Nat, (List.replicate n [x]).flatten = List.replicate n x
  | 0 => rfl
  | n + 1 => by rw [List.replicate_succ, List.flatten_cons, flat_rep x n]; rfl
theorem rep_by {Q : VK} {H : Hp} {l : Addr} {x : V} (k : Nat) (h : H l = some (.lst [x])) (hk : k ≤ 100000) (q : ∀ p, H p = none → Q (.ref p) (upd H p (.lst (List.replicate k x)))) : rRep (.ref l) (.int (k : Int)) H Q :=
  ⟨l, k, [x], rfl, rfl, h, by omega, by omega, by rw [sizeLine_eq]; show 1 * (k : Int).toNat ≤ _; omega, fun p hp => by rw [flat_rep]; exact q p hp⟩
theorem drawn_pair {n o r : Int} (h0 : 0 ≤ o) (h1 : o < n) (r0 : 0 ≤ r) (r1 : r < n - 1) : 0 ≤ (o + 1 + r) % n ∧ (o + 1 + r) % n < n ∧ (o + 1 + r) % n ≠ o := by
  by_cases z : o + 1 + r < n
  · rw [Int.emod_eq_of_lt (by omega) z]; omega
  · have e : (o + 1 + r) % n = o + 1 + r - n := by
      have : (o + 1 + r) % n = (o + 1 + r - n) % n := by
        rw [show o + 1 + r = (o + 1 + r - n) + n * 1 by omega, Int.add_mul_emod_self_left]
        congr 1; omega
      rw [this, Int.emod_eq_of_lt (by omega) (by omega)]
    rw [e]; omega
/-- the first ties join each house with an earlier one -/
def Joins (n : Nat) (ts : Prs) : Prop := ∀ j, j + 1 < n → ∃ x, ts[j]? = some (j + 1, x) ∧ x ≤ j
theorem Joins.cn {n : Nat} {ts : Prs} (h : Joins n ts) : ∀ (k x : Nat), x ≤ k → x < n → Cn ts 0 x
  | 0, x, hx, _ => by
    obtain rfl : x = 0 := by omega
    exact .refl
  | k + 1, x, hx, hn => by
    cases x with
    | zero => exact .refl
    | succ j =>
      obtain ⟨y, e, hy⟩ := h j hn
      exact (h.cn k y (by omega) (by omega)).step ⟨_, List.mem_of_getElem? e, .inr ⟨rfl, rfl⟩⟩
theorem Joins.part {n : Nat} {ts : Prs} (hW : Wv n ts) (h : Joins n ts) : PartL ts 0 (List.range n) := by
  refine ⟨List.pairwise_lt_range, fun x => ?_⟩
  rw [List.mem_range]
  exact ⟨fun hx => h.cn x x (Nat.le_refl _) hx, fun c => c.lt hW (by have := hW.n1; omega)⟩
theorem tIn_all {n : Nat} {ts : Prs} (hW : Wv n ts) : (tIn ts (List.range n)).length = ts.length := by
  unfold tIn tInK
  rw [List.length_map, List.take_length, List.filter_eq_self.mpr fun q hq => ?_, List.length_zipIdx]
  have := List.mem_zipIdx' hq
  have hp : q.1 ∈ ts := by rw [this.2]; exact List.getElem_mem _
  exact decide_eq_true (List.mem_range.mpr (hW.pr _ hp).1)
theorem asc_uniq {ts : Prs} {h : Nat} {a b : List Nat} (p : PartL ts h a) (q : PartL ts h b) : a = b := asc_eq p.asc q.asc fun x => by rw [p.mem, q.mem]
theorem getD_rep {n i : Nat} {x : Int} (h : i < n) : (List.replicate n x).getD i 0 = x := by
  rw [List.getD_eq_getElem?_getD, List.getElem?_replicate, if_pos h]; rfl
theorem sum_constN (x : Int) (f : Nat → Int) : ∀ L : List Nat, (∀ i ∈ L, f i = x) → (L.map f).sum = (L.length : Int) * x
  | [], _ => by rw [List.map_nil, List.sum_nil, List.length_nil]; omega
  | a :: r, h => by
    rw [List.map_cons, List.sum_cons, sum_constN x f r fun i hi => h i (List.mem_cons_of_mem _ hi), h a List.mem_cons_self, List.length_cons]
    rw [Int.natCast_add, Int.add_mul]
    omega
/-- the book where all numbers are alike -/
theorem book_alike {m x : Int} {n : Nat} {ts : Prs} (hW : Wv n ts) : bookN m (List.replicate n x) (List.replicate ts.length x) ts (List.range n) = cby m (((n : Int) - ts.length) * x) := by
  unfold bookN
  rw [sum_constN x _ _ fun i hi => getD_rep (List.mem_range.mp hi), sum_constN x _ (tIn ts (List.range n)) fun i hi => by
    obtain ⟨p, hp, _⟩ := tIn_mem.mp hi
    exact getD_rep (lt_at hp), tIn_all hW, List.length_range, Int.sub_mul]
theorem rest_alike {n : Nat} {ts : Prs} {x : Int} (hW : Wv n ts) : restB ts (List.replicate n x) (List.replicate ts.length x) = true := by
  unfold restB
  rw [List.all_map, List.all_eq_true]
  intro t _
  show rB ts _ _ t = true
  unfold rB
  cases hp : ts[t]? with
  | none => rfl
  | some p =>
    obtain ⟨h1, h2, h3⟩ := hW.at_ hp
    dsimp only
    rw [getD_rep h1, getD_rep h2, getD_rep (lt_at hp), decide_eq_true rfl]; rfl
theorem rest_false {ts : Prs} {ss ar : List Int} {t : Nat} {p : Nat × Nat} (hp : ts[t]? = some p) (h : ss.getD p.1 0 ≠ ss.getD p.2 0 ∨ ss.getD p.2 0 ≠ ar.getD t 0) : restB ts ss ar = false := by
  cases e : restB ts ss ar with
  | false => rfl
  | true =>
    unfold restB at e
    rw [List.all_map, List.all_eq_true] at e
    have := e t (List.mem_range.mpr (lt_at hp))
    replace this : rB ts ss ar t = true := this
    unfold rB at this
    rw [hp] at this
    simp only [Bool.and_eq_true, decide_eq_true_eq] at this
    obtain ⟨e1, e2⟩ := this
    injection e1 with e1
    injection e2 with e2
    rcases h with h | h
    · exact absurd e1 h
    · exact absurd e2 h
theorem getD_setI {l : List Int} {i j : Nat} {x : Int} (h : i < l.length) : (l.set i x).getD j 0 = if j = i then x else l.getD j 0 := by
  rw [List.getD_eq_getElem?_getD, List.getElem?_set]
  by_cases e : i = j
  · rw [if_pos e, if_pos h, if_pos e.symm]; rfl
  · rw [if_neg e, if_neg (fun z => e z.symm), List.getD_eq_getElem?_getD]
/-- one house's number changed: no rest -/
theorem away_s {n : Nat} {ts : Prs} {x y : Int} {i : Nat} (hW : Wv n ts) (n2 : 2 ≤ n) (J : Joins n ts) (hi : i < n) (xy : y ≠ x) : restB ts ((List.replicate n x).set i y) (List.replicate ts.length x) = false := by
  obtain ⟨t, p, hp, hpi⟩ : ∃ (t : Nat) (p : Nat × Nat), ts[t]? = some p ∧ (p.1 = i ∨ p.2 = i) := by
    cases i with
    | zero =>
      obtain ⟨z, e, hz⟩ := J 0 (by omega)
      obtain rfl : z = 0 := by omega
      exact ⟨0, _, e, .inr rfl⟩
    | succ i =>
      obtain ⟨z, e, _⟩ := J i hi
      exact ⟨i, _, e, .inl rfl⟩
  obtain ⟨h1, h2, h3⟩ := hW.at_ hp
  refine rest_false hp (.inl ?_)
  rw [getD_setI (by rw [List.length_replicate]; exact hi), getD_setI (by rw [List.length_replicate]; exact hi), getD_rep h1, getD_rep h2]
  rcases hpi with e | e
  · rw [if_pos e, if_neg (by omega)]; exact xy
  · rw [if_neg (by omega), if_pos e]; exact fun z => xy z.symm
theorem away_a {n : Nat} {ts : Prs} {x y : Int} {i : Nat} (hW : Wv n ts) (hi : i < ts.length) (xy : y ≠ x) : restB ts (List.replicate n x) ((List.replicate ts.length x).set i y) = false := by
  obtain ⟨p, hp⟩ := ex_at hi
  obtain ⟨h1, h2, h3⟩ := hW.at_ hp
  refine rest_false hp (.inr ?_)
  rw [getD_setI (by rw [List.length_replicate]; exact hi), if_pos rfl, getD_rep h2]
  exact fun z => xy z.symm
/-- what rest_values tells of the book fits the number -/
theorem told_fits {m b x : Int} {o : Option (Int × Int)} (m0 : 0 ≤ m) (h0 : m = 0 → o = WRs b (b * x)) (h1 : m ≠ 0 → RV m b (cby m (b * x)) o) : ∃ f s : Int, o = some (f, s) ∧ ((0 < s ∧ (x - f) % s = 0) ∨ (s = 0 ∧ x - f = 0)) := by
  by_cases z : m = 0
  · rw [h0 z]
    unfold WRs
    by_cases b0 : b = 0
    · rw [if_pos b0, b0, Int.zero_mul, if_pos rfl]
      exact ⟨0, 1, rfl, .inl ⟨by decide, Int.emod_one _⟩⟩
    · rw [if_neg b0, if_pos (Int.fmod_eq_zero_of_dvd (Int.dvd_mul_right _ _)), Int.mul_fdiv_cancel_left _ b0]
      exact ⟨x, 0, rfl, .inr ⟨rfl, by omega⟩⟩
  · have mp : 0 < m := by omega
    have hd : m ∣ b * x - cby m (b * x) := by
      obtain ⟨k, hk⟩ : ∃ k, cby m (b * x) = b * x + m * k := by
        unfold cby
        rw [if_neg z]
        refine ⟨-(b * x / m), ?_⟩
        have := Int.emod_add_mul_ediv (b * x) m
        rw [Int.mul_neg]
        omega
      exact ⟨-k, by rw [hk, Int.mul_neg]; omega⟩
    obtain ⟨g, a, s, eg, hg, hs, eb, em, ea, es, hc⟩ := gcd_split (b := b) mp
    rcases h1 z with ⟨a1, _⟩ | ⟨a1, f, e, f0, f1, fx⟩
    · rw [← eg] at a1
      exact absurd hd (no_sol eb em a1 x)
    · rw [← eg, es] at e f1 fx
      exact ⟨f, s, e, .inl ⟨hs, Int.emod_eq_zero_of_dvd ((fx x).mp hd)⟩⟩
theorem other_ne {m x : Int} (m0 : 0 ≤ m) (m1 : m ≠ 1) (h : m ≠ 0 → 0 ≤ x ∧ x < m) : cby m (x + 1) ≠ x := by
  unfold cby
  by_cases z : m = 0
  · rw [if_pos z]; omega
  · rw [if_neg z]
    obtain ⟨h1, h2⟩ := h z
    by_cases y : x + 1 < m
    · rw [Int.emod_eq_of_lt (by omega) y]; omega
    · have : x + 1 = m := by omega
      rw [this, Int.emod_self]; omega
end K1
namespace K1
open PySem PySem.Spec PyProof.Rows L2
theorem asgL {t : TT} {A B : TE} {g : TG} {u : TS} {D : Ends} {σ : L2.St} {H : Hp} (G : V → Hp → Prop) (hq : ∀ v H', G v H' → g v σ H' (u D)) (h : (∀ v H', G v H' → g v σ H' (u D)) → tIf t A B σ H fun v H' => g v σ H' (u D)) : tSeq (tAsg (tIf t A B) g) u D σ H := h hq
theorem ifEG {t : TT} {A B : TE} {σ : L2.St} {H : Hp} {Q : VK} (G : V → Hp → Prop) (hq : ∀ v H', G v H' → Q v H') (h : (∀ v H', G v H' → Q v H') → tIf t A B σ H Q) : tIf t A B σ H Q := h hq
structure GoodM (m : Int) : Prop where
  m0 : 0 ≤ m
  m6 : m ≤ 1000
  m1 : m ≠ 1
def spWeb : Sp := fun vs H Q _ => ∃ (b : Addr) (m : Int), vs = [.ref b, .int m] ∧ BoxO H b ∧ GoodM m ∧ ∀ H', Bx b H H' → Q (.bl true) H'
theorem cof_ok {m : Int} {ss : List Int} (h : ∀ i ∈ ss, cntB m (.int i) = true) : cofB m ss.length (some (vrow ss)) = true := by
  unfold cofB
  rw [Bool.and_eq_true]
  refine ⟨?_, ?_⟩
  · show (decide ((ss.length : Int) ≤ ((vrow ss).length : Int)) && decide (((vrow ss).length : Int) ≤ (ss.length : Int))) = true
    rw [vrow_len, decide_eq_true (Int.le_refl _)]; rfl
  · rw [Option.getD_some, List.all_eq_true]
    intro x hx
    obtain ⟨i, hi, rfl⟩ := List.mem_map.mp hx
    exact h i hi
theorem parC {te : TE} {t : TA} {i j : Nat} {u : TS} {D : Ends} {σ : L2.St} {H : Hp} (h : te σ H fun x H1 => t σ H1 fun vs H2 => ∃ v w, x :: vs = [v, w] ∧ u D ((σ.set i (some v)).set j (some w)) H2) : tSeq (tPar i j (tCons te t)) u D σ H := h
theorem retOC {r : R2} {sp : Sp} {E : XK} {te tb : TE} {D : Ends} {σ : L2.St} {H : Hp} (h : te σ H fun x H1 => sp [x] H1 (fun y H2 => tb σ H2 fun z H3 => r y z H3 D.rt) E) : tRet (tOp r (tCall sp [] E (tCons te tNil)) tb) D σ H := h
theorem ixN_nat {i n : Nat} (h : i < n) : ixN n (i : Int) = some i := by
  unfold ixN
  rw [if_pos (by omega), if_pos (by omega)]
  simp
theorem book_small {m x : Int} {n t : Nat} (m0 : 0 ≤ m) (m6 : m ≤ 1000) (hn : n ≤ 5) (ht : t ≤ 20) (x0 : 0 ≤ x) (x1 : x ≤ 1000) : (cby m (((n : Int) - t) * x)).natAbs.log2 < 1920 := by
  have h1 : (((n : Int) - t) * x).natAbs ≤ 20 * 1000 := by
    rw [Int.natAbs_mul]
    exact Nat.mul_le_mul (by omega) (by omega)
  have h2 : (cby m (((n : Int) - t) * x)).natAbs < 10 ^ 200 := by
    refine Nat.lt_of_le_of_lt (m := 20 * 1000) ?_ (by decide +kernel)
    generalize ((n : Int) - t) * x = y at h1
    unfold cby
    split
    · exact h1
    · have := Int.emod_nonneg y (show m ≠ 0 by assumption)
      have := Int.emod_lt_of_pos y (show 0 < m by omega)
      omega
  exact Nat.lt_trans (log665 h2) (by decide)
theorem mkSameN {G : Hp} {c dx : Addr} {o1 o2 : HO} (hc : G c = none) (hd : G dx = none) (ne : dx ≠ c) : Same G (upd (upd G dx o1) c o2) := (same_new hd).trans (same_new (by rw [upd_ne ne.symm]; exact hc))
/-- a net made out of the law's lists -/
theorem mk_net {K : PySem.W.Frag} {N W CR tl sl al : Addr} {m : Int} {n : Nat} {ts : Prs} {as : List Addr} {ss ar : List Int} {σ : L2.St} {H : Hp} {Z : VK} (e1 : σ[1]? = some (some (.int m))) (e2 : σ[2]? = some (some (.int (n : Int)))) (e3 : σ[3]? = some (some (.ref tl))) (e8 : σ[8]? = some (some (.ref sl))) (e9 : σ[9]? = some (some (.ref al)))
    (hW : Wv n ts) (ht : H tl = some (.lst (as.map V.ref))) (hA : PrsA H as ts) (hs : H sl = some (.lst (vrow ss))) (ha : H al = some (.lst (vrow ar))) (ls : ss.length = n) (la : ar.length = ts.length) (hm : modB (.int m) = true) (cs : ∀ i ∈ ss, cntB m (.int i) = true) (ca : ∀ i ∈ ar, cntB m (.int i) = true)
    (q : ∀ w c H', Same H H' → NetAt N W H' c m ss ar w n ts → Z (.ref c) H') :
    tMake N (spCInit K N W CR) [] (fun _ _ _ => False) (tCons (tMake W (spWInit W) [] (fun _ _ _ => False) (tCons (tVar 2) (tCons (tVar 3) tNil))) (tCons (tVar 1) (tCons (tVar 8) (tCons (tVar 9) tNil)))) σ H Z := by
  refine ⟨_, e2, _, e3, fun w dxw hw0 hdx0 new => ?_⟩
  have smw := mkSameN (o1 := HO.own w) (o2 := HO.ins W dxw []) hw0 hdx0 new
  refine ⟨w, dxw, n, tl, as, ts, rfl, upd_same, .inl (smw _ _ ht), hA.same smw, hW, fun H4 k4 hWeb => ⟨rfl, ?_⟩⟩
  have s34 : Same H H4 := fun c o e => k4 c o (smw c o e) (ne_of_none e hw0)
  refine ⟨_, e1, _, e8, _, e9, fun c dxc hc0 hdc0 nec => ?_⟩
  have smc := mkSameN (o1 := HO.own c) (o2 := HO.ins N dxc []) hc0 hdc0 nec
  have t3 := s34.trans smc
  obtain ⟨dxw2, taw2, hww, _⟩ := id hWeb
  have nwc : w ≠ c := ne_of_none hww hc0
  have kints : ∀ {H : Hp} {t : List Int} ys, some (vrow t) = some ys → Kinds K H ys := fun ys e y hy => by
    obtain rfl := Option.some.inj e
    obtain ⟨i, _, rfl⟩ := List.mem_map.mp hy
    exact ⟨_, .int i⟩
  have cs' : cofB m n (some (vrow ss)) = true := by rw [← ls]; exact cof_ok cs
  have ca' : cofB m ts.length (some (vrow ar)) = true := by rw [← la]; exact cof_ok ca
  refine ⟨c, dxc, w, .int m, .ref sl, .ref al, none, some (vrow ss), some (vrow ar), n, ts, rfl, upd_same, hWeb.same smc, nwc, hW, .int m, ⟨.lst (t3 _ _ hs), kints⟩, ⟨.lst (t3 _ _ ha), kints⟩, fun hf => (by rw [hm] at hf; cases hf), fun m' em _ => ⟨fun hf => ?_, fun _ => ⟨fun hf => ?_, fun _ ss' ar' e1 e2 H9 b9 N9 => ⟨rfl, ?_⟩⟩⟩⟩
  · injection em with em
    rw [← em, cs'] at hf
    cases hf
  · injection em with em
    rw [← em, ca'] at hf
    cases hf
  injection em with em
  subst em
  have i1 : ss = ss' := (List.map_inj_right (fun x y h => by injection h)).mp (Option.some.inj e1)
  have i2 : ar = ar' := (List.map_inj_right (fun x y h => by injection h)).mp (Option.some.inj e2)
  subst i1 i2
  exact q w c H9 (fun d o e => b9 _ _ (t3 _ _ e) (ne_of_none (s34 _ _ e) hc0)) N9
section
variable {P : Program} {w : World} {K : PySem.W.Frag} {mg : Str → Option Value} {base : Heap}
structure Wd (P : Program) (w : World) (K : PySem.W.Frag) (mg : Str → Option Value) (base : Heap) (N W CH CR : Addr) : Prop where
  B : Bt mg
  T : NcT K mg N
  TW : WcT K mg W
  take : ∃ f fd, Df K mg "_law_take" sLTake ["_law_box_here", "_law_many"] f fd ∧ FnOk P w K mg base CX0 1 f fd ["_law_box_here", "_law_many"] spTake
  winit : ∃ f fd, Mk K W f ∧ Binds K fd ["self", "houses", "ties"] [] ∧ FnOk P w K mg base (L2.CX P w) 6 f fd ["self", "houses", "ties"] (spWInit W)
  cinit : ∃ f fd, Mk K N f ∧ Binds K fd ["self", "web", "modulus", "states", "archives"] [] ∧ FnOk P w K mg base (L2.CX P w) 5 f fd ["self", "web", "modulus", "states", "archives"] (spCInit K N W CR)
  book : ∃ f fd, Meth K N "book" f ∧ Binds K fd ["self", "house"] [] ∧ FnOk P w K mg base (L2.CX P w) 5 f fd ["self", "house"] (spBook K N W CH)
  rest : ∃ f fd, Df K mg "is_rest" sIsRest ["net"] f fd ∧ FnOk P w K mg base CX0 2 f fd ["net"] (spRest N W)
  rv : ∃ f fd, Df K mg "rest_values" sRestValues ["modulus", "rings", "total"] f fd ∧ FnOk P w K mg base (L2.CX P w) 5 f fd ["modulus", "rings", "total"] (spRV K CR)
abbrev nWb : List Str := ["_law_box_here", "_law_modulus", "_law_many", "_law_ties", "_law_at", "_law_turn", "_law_one", "_law_number", "_law_states", "_law_archives", "_law_rings", "_law_net", "_law_book", "_law_told", "_law_away", "_law_other"]
theorem scWb : FnScope nWb ["_law_box_here", "_law_modulus"] (defScope sLWebRight) := ⟨rfl, rfl, rfl, by decide +kernel, rfl, by decide +kernel, by decide +kernel⟩
theorem ok_web {f N W CH CR : Addr} {fd : FuncData} (D : Df K mg "_law_web_right" sLWebRight ["_law_box_here", "_law_modulus"] f fd) (wd : Wd P w K mg base N W CH CR) : FnG P w K mg base 8 f fd ["_law_box_here", "_law_modulus"] spWeb := by
  have B := wd.B
  have NT := wd.T
  have TW := wd.TW
  obtain ⟨_, _, DT, GT⟩ := wd.take
  obtain ⟨_, _, MW, BW, GW⟩ := wd.winit
  obtain ⟨_, _, MC, BC, GC⟩ := wd.cinit
  obtain ⟨_, _, mO, bO, GO⟩ := wd.book
  obtain ⟨_, _, DE, GE⟩ := wd.rest
  obtain ⟨_, _, DR, GR⟩ := wd.rv
  refine K1.okG D.F scWb (fun vs H Q E h => ?_) (fun cdv A outer s H vs Q E hr hgd h => ?_)
  · obtain ⟨b, m, rfl, _⟩ := h
    rfl
  · obtain ⟨b, m, rfl, hb, gm, q⟩ := h
    have hu : (A.deeper (envOfC "_law_web_right" (defScope sLWebRight) s.heap.objs.size f cdv)).units + 64 < cLine := hr.units
    have r1 := hr.mono (show 1 ≤ 7 by decide)
    have r2 := hr.mono (show 2 ≤ 7 by decide)
    have r5 := hr.mono (show 5 ≤ 7 by decide)
    have r6 := hr.mono (show 6 ≤ 7 by decide)
    refine ⟨_, pss_cons (ps_par (i := 2) (j := 3) rfl scWb.nd rfl rfl (by decide) rfl rfl (pa_cons (pe_op op_add pe_int (pc DT GT r1 pass0 (pa_cons (pv 0) (pa_cons pe_int pa_nil)))) (pa_cons (pe_lst pa_nil) pa_nil)) rfl)
      (pss_cons (ps_for PassesOwn.never rfl (pi_range2 (by rfl) B.range (pa_cons pe_int (pa_cons (pv 2) pa_nil))) (pg_name (i := 4) scWb.nd rfl (.inl rfl))
        (pss_one (ps_expr (pe_bm PySem.F.plainAttrs_list PySem.F.slot_list_append PySem.F.type_list_append mt_append (pv 3) (pa_cons (pe_tup (pa_cons (pv 4) (pa_cons (pc DT GT r1 pass0 (pa_cons (pv 0) (pa_cons (pv 4) pa_nil))) pa_nil))) pa_nil)))))
      (pss_cons (ps_for PassesOwn.never rfl (pi_range1 (by rfl) B.range (pa_cons (pc DT GT r1 pass0 (pa_cons (pv 0) (pa_cons pe_int pa_nil))) pa_nil)) (pg_name (i := 5) scWb.nd rfl (.inl rfl))
        (pss_cons (ps_set (i := 6) scWb.nd rfl (.inl rfl) (pc DT GT r1 pass0 (pa_cons (pv 0) (pa_cons (pv 2) pa_nil))))
        (pss_one (ps_expr (pe_bm PySem.F.plainAttrs_list PySem.F.slot_list_append PySem.F.type_list_append mt_append (pv 3) (pa_cons (pe_tup (pa_cons (pv 6) (pa_cons (pe_op op_mod (pe_callTy call_int1 (by rfl) B.int PyProof.Rows.boot_int (pa_cons (pe_op op_add (pe_op op_add (pv 6) pe_int) (pc DT GT r1 pass0 (pa_cons (pv 0) (pa_cons (pe_op op_sub (pv 2) pe_int) pa_nil)))) pa_nil)) (pv 2)) pa_nil))) pa_nil))))))
      (pss_cons (ps_set (i := 7) scWb.nd rfl (.inl rfl) (pc DT GT r1 pass0 (pa_cons (pv 0) (pa_cons (pe_ifExp (pt_cmpR op_gt (pv 1) pe_int (nomark _)) (pv 1) pe_int) pa_nil))))
      (pss_cons (ps_par3 (i := 8) (j := 9) (l := 10) rfl scWb.nd rfl rfl rfl (by decide) (by decide) (by decide) rfl rfl rfl (pa_cons (pe_op op_rep (pe_lst (pa_cons (pv 7) pa_nil)) (pv 2)) (pa_cons (pe_op op_rep (pe_lst (pa_cons (pv 7) pa_nil)) (pe_callB call_len_seq (by rfl) B.len PySem.boot_len (pa_cons (pv 3) pa_nil))) (pa_cons (pe_op op_add (pe_op op_sub (pe_callB call_len_seq (by rfl) B.len PySem.boot_len (pa_cons (pv 3) pa_nil)) (pv 2)) pe_int) pa_nil))) rfl)
      (pss_cons (ps_par (i := 11) (j := 12) rfl scWb.nd rfl rfl (by decide) rfl rfl (pa_cons (pe_make MC GC r6 rfl NT.g BC .nil passF (pa_cons (pe_make MW GW hr rfl TW.g BW .nil passF (pa_cons (pv 2) (pa_cons (pv 3) pa_nil))) (pa_cons (pv 1) (pa_cons (pv 8) (pa_cons (pv 9) pa_nil))))) (pa_cons (pe_op op_mul (pe_op op_sub (pv 2) (pe_callB call_len_seq (by rfl) B.len PySem.boot_len (pa_cons (pv 3) pa_nil))) (pv 7)) pa_nil)) rfl)
      (pss_cons (ps_set (i := 12) scWb.nd rfl (.inl rfl) (pe_ifExp (pt_cmpR op_gt (pv 1) pe_int (nomark _)) (pe_op op_mod (pe_callTy call_int1 (by rfl) B.int PyProof.Rows.boot_int (pa_cons (pv 12) pa_nil)) (pv 1)) (pv 12)))
      (pss_cons (ps_set (i := 13) scWb.nd rfl (.inl rfl) (pc DR GR r5 passF (pa_cons (pv 1) (pa_cons (pv 10) (pa_cons (pv 12) pa_nil)))))
      (pss_cons (ps_if (PW.pt (pw_or (pt_cmpR op_ne (pe_callB call_reprS (by rfl) B.repr (by decide +kernel) (pa_cons (pe_meth (pv 11) NT.cl mO GO r5 bO .nil passF (pa_cons pe_int pa_nil)) pa_nil)) (pe_callB call_reprS (by rfl) B.repr (by decide +kernel) (pa_cons (pv 12) pa_nil)) (nomark _)) (pw_or (pt_cmpR op_notBl (pc DE GE r2 pass0 (pa_cons (pv 11) pa_nil)) pe_bl (nomark _)) (pw_or1 (pt_cmp (pc_isN (pv 13))))))) (pss_one (ps_ret pe_bl)) pss_nil)
      (pss_cons (ps_set (i := 14) scWb.nd rfl (.inl rfl) (pe_op op_sub (pv 7) (pe_ix ix_tup (pv 13) pe_int (fun _ _ => rfl))))
      (pss_cons (ps_if (PW.pt (pw_or (PW.pt (pw_and (pt_cmpR op_gt (pe_ix ix_tup (pv 13) pe_int (fun _ _ => rfl)) pe_int (nomark _)) (pw_and1 (pt_cmpR op_ne (pe_op op_mod (pe_callTy call_int1 (by rfl) B.int PyProof.Rows.boot_int (pa_cons (pv 14) pa_nil)) (pe_ix ix_tup (pv 13) pe_int (fun _ _ => rfl))) pe_int (nomark _))))) (pw_or1 (PW.pt (pw_and (pt_cmpR op_eq (pe_ix ix_tup (pv 13) pe_int (fun _ _ => rfl)) pe_int (nomark _)) (pw_and1 (pt_cmpR op_ne (pv 14) pe_int (nomark _)))))))) (pss_one (ps_ret pe_bl)) pss_nil)
      (pss_cons (ps_set (i := 15) scWb.nd rfl (.inl rfl) (pe_ifExp (pt_cmpR op_gt (pv 1) pe_int (nomark _)) (pe_op op_mod (pe_callTy call_int1 (by rfl) B.int PyProof.Rows.boot_int (pa_cons (pe_op op_add (pv 7) pe_int) pa_nil)) (pv 1)) (pe_op op_add (pv 7) pe_int)))
      (pss_cons (ps_set (i := 4) scWb.nd rfl (.inl rfl) (pc DT GT r1 pass0 (pa_cons (pv 0) (pa_cons (pe_op op_add (pv 2) (pe_callB call_len_seq (by rfl) B.len PySem.boot_len (pa_cons (pv 3) pa_nil))) pa_nil))))
      (pss_cons (ps_if (pt_cmpR op_lt (pv 4) (pv 2) (nomark _)) (pss_one (ps_asg (pv 15) (pg_sub (pv 8) (pv 4) set_list))) (pss_one (ps_asg (pv 15) (pg_sub (pv 9) (pe_op op_sub (pv 4) (pv 2)) set_list))))
      (pss_one (ps_ret (pe_cmpR op_isBl (pc DE GE r2 pass0 (pa_cons (pe_make MC GC r6 rfl NT.g BC .nil passF (pa_cons (pe_make MW GW hr rfl TW.g BW .nil passF (pa_cons (pv 2) (pa_cons (pv 3) pa_nil))) (pa_cons (pv 1) (pa_cons (pv 8) (pa_cons (pv 9) pa_nil))))) pa_nil)) pe_bl (nomark _))))))))))))))))), ?_⟩
    have m0 := gm.m0
    have m6 := gm.m6
    -- how many houses
    refine ⟨_, rfl, b, 4, rfl, hb, by decide, by decide, fun r H1 r0 r4 bx1 => ⟨_, _, rfl, rfl, (by show 0 ≤ sizeLine; decide), fun tl htl => ⟨_, _, rfl, ?_⟩⟩⟩
    obtain ⟨n, en, n2, n5⟩ : ∃ n : Nat, 2 + r = (n : Int) ∧ 2 ≤ n ∧ n ≤ 5 := ⟨(2 + r).toNat, by omega, by omega, by omega⟩
    have bx2 := bx1.new (o := HO.lst []) htl
    have ntl : tl ≠ b := bx1.ne htl
    have ftl : H tl = none := bx1.free ntl htl
    have htl2 : (upd H1 tl (.lst [])) tl = some (.lst []) := upd_same
    generalize upd H1 tl (.lst []) = H2 at bx2 htl2 ⊢
    dsimp only [List.set]
    rw [en]
    have etn : (((n : Int) - 1).toNat) = n - 1 := by omega
    -- the first ties
    refine ⟨_, rfl, 1, (n : Int), rfl, ⟨by omega, by omega, by omega, by omega⟩, for_range (fun k σ H' => ∃ (as : List Addr) (ts : Prs) (v4 : Option V), σ = [some (.ref b), some (.int m), some (.int (n : Int)), some (.ref tl), v4, none, none, none, none, none, none, none, none, none, none, none] ∧ Bx b H H' ∧ H' tl = some (.lst (as.map V.ref)) ∧ PrsA H' as ts ∧ ts.length = k ∧ (∀ p ∈ ts, p.1 < n ∧ p.2 < n ∧ p.1 ≠ p.2) ∧ ∀ j, j < k → ∃ x, ts[j]? = some (j + 1, x) ∧ x ≤ j)
      ⟨[], [], none, rfl, bx2, htl2, ⟨rfl, fun i a t e => (by cases e)⟩, rfl, fun p hp => (by cases hp), fun j hj => absurd hj (Nat.not_lt_zero _)⟩ ?_ ?_⟩
    · rintro k σ H3 hk ⟨as, ts, v4, rfl, bx, ht, hA, ln, pr, J⟩
      have kn : k + 1 < n := by omega
      refine ⟨_, rfl, .inl ⟨rfl, _, SqL.of ht⟩, _, rfl, _, rfl, _, rfl, b, 1 + (k : Int), rfl, bx.1, by omega, by omega, fun x H4 x0 x1 bx4 => ⟨(by show 2 ≤ sizeLine; decide), fun tp htp => ?_⟩⟩
      have ht4 := bx4.2 _ _ ht ntl
      have hA4 : PrsA H4 as ts := hA.kp fun a xs e => bx4.tup bx.1 e
      have s5 := same_new (o := HO.tup [V.int (1 + (k : Int)), V.int x]) htp
      have hp5 : (upd H4 tp (.tup [V.int (1 + (k : Int)), V.int x])) tp = some (.tup (pV (k + 1, x.toNat))) := by
        rw [upd_same]
        show some (HO.tup [V.int (1 + (k : Int)), V.int x]) = some (HO.tup [V.int (((k + 1 : Nat)) : Int), V.int ((x.toNat : Nat) : Int)])
        rw [show (((k + 1 : Nat)) : Int) = 1 + (k : Int) by omega, show ((x.toNat : Nat) : Int) = x by omega]
      have bx5 := (bx.trans bx4).same s5
      have ht5 := s5 _ _ ht4
      have hA5 := hA4.same s5
      generalize upd H4 tp (.tup [V.int (1 + (k : Int)), V.int x]) = H5 at hp5 bx5 ht5 hA5 ⊢
      have las := hA5.1
      refine ⟨tl, _, _, rfl, rfl, ht5, szl (by rw [List.length_map]; omega), ?_⟩
      have kp : ∀ c ys, H5 c = some (.tup ys) → (upd H5 tl (.lst (as.map V.ref ++ [.ref tp]))) c = some (.tup ys) := fun c ys e => by rw [upd_ne (ne_of e ht5 (by intro z; cases z))]; exact e
      refine ⟨as ++ [tp], ts ++ [(k + 1, x.toNat)], _, rfl, bx5.put ftl ntl, by rw [upd_same, List.map_append]; rfl, (hA5.kp kp).snoc (kp _ _ hp5), by rw [List.length_append, ln]; rfl, fun p hp => ?_, fun j hj => ?_⟩
      · rcases List.mem_append.mp hp with z | z
        · exact pr p z
        · rw [List.mem_singleton.mp z]
          dsimp only
          omega
      · by_cases e : j = k
        · subst e
          exact ⟨x.toNat, by rw [List.getElem?_append_right (by omega), ln, Nat.sub_self]; rfl, by omega⟩
        · obtain ⟨y, e1, e2⟩ := J j (by omega)
          exact ⟨y, by rw [List.getElem?_append_left (by omega)]; exact e1, e2⟩
    rintro σ H3 ⟨as, ts, v4, rfl, bx3, ht3, hA3, ln3, pr3, J3⟩
    rw [etn] at ln3 J3
    -- more ties
    refine ⟨_, rfl, b, 5, rfl, bx3.1, by decide, by decide, fun r' H4 r0' r4' bx4 => ?_⟩
    have bx34 := bx3.trans bx4
    refine ⟨r', rfl, by omega, by omega, for_range (fun k σ H' => ∃ (as : List Addr) (ts : Prs) (v5 v6 : Option V), σ = [some (.ref b), some (.int m), some (.int (n : Int)), some (.ref tl), v4, v5, v6, none, none, none, none, none, none, none, none, none] ∧ Bx b H H' ∧ H' tl = some (.lst (as.map V.ref)) ∧ PrsA H' as ts ∧ ts.length = n - 1 + k ∧ (∀ p ∈ ts, p.1 < n ∧ p.2 < n ∧ p.1 ≠ p.2) ∧ Joins n ts)
      ⟨as, ts, _, _, rfl, bx34, bx4.2 _ _ ht3 ntl, hA3.kp fun a xs e => bx4.tup bx3.1 e, by omega, pr3, fun j hj => J3 j (by omega)⟩ ?_ ?_⟩
    · rintro k σ H5 hk ⟨as, ts, v5, v6, rfl, bx, ht, hA, ln, pr, J⟩
      refine ⟨_, rfl, _, rfl, b, (n : Int), rfl, bx.1, by omega, by omega, fun o H6 o0 o1 bx6 => ?_⟩
      refine gn ?_
      dsimp only [List.set]
      have ht6 := bx6.2 _ _ ht ntl
      refine ⟨_, rfl, .inl ⟨rfl, _, SqL.of ht6⟩, _, rfl, _, rfl, _, _, rfl, rfl, _, rfl, _, rfl, _, _, rfl, rfl, b, _, rfl, bx6.1, by omega, by omega, fun r'' H7 r0'' r1'' bx7 => ⟨_, _, rfl, rfl, .inl ⟨_, rfl, _, rfl, _, _, rfl, rfl, by omega, (by show 2 ≤ sizeLine; decide), fun tp htp => ?_⟩⟩⟩
      have ht7 := bx7.2 _ _ ht6 ntl
      have hA7 : PrsA H7 as ts := (hA.kp fun a xs e => bx6.tup bx.1 e).kp fun a xs e => bx7.tup bx6.1 e
      obtain ⟨d1, d2, d3⟩ := drawn_pair (n := (n : Int)) o0 o1 r0'' r1''
      generalize hx : (o + 1 + r'') % (n : Int) = x at d1 d2 d3
      have hx' : ((fun i j => V.int (i % j)) (o + 1 + r'') (n : Int)) = V.int x := congrArg V.int hx
      have s8 := same_new (o := HO.tup [V.int o, V.int x]) htp
      have bx8 := ((bx.trans bx6).trans bx7).same s8
      have ht8 := s8 _ _ ht7
      have hA8 := hA7.same s8
      have hp8 : (upd H7 tp (.tup [V.int o, V.int x])) tp = some (.tup (pV (o.toNat, x.toNat))) := by
        rw [upd_same]
        show some (HO.tup [V.int o, V.int x]) = some (HO.tup [V.int ((o.toNat : Nat) : Int), V.int ((x.toNat : Nat) : Int)])
        rw [show ((o.toNat : Nat) : Int) = o by omega, show ((x.toNat : Nat) : Int) = x by omega]
      try rw [hx']
      try rw [hx]
      generalize upd H7 tp (.tup [V.int o, V.int x]) = H8 at bx8 ht8 hA8 hp8 ⊢
      have las := hA8.1
      refine ⟨tl, _, _, rfl, rfl, ht8, szl (by rw [List.length_map]; omega), ?_⟩
      have kp : ∀ c ys, H8 c = some (.tup ys) → (upd H8 tl (.lst (as.map V.ref ++ [.ref tp]))) c = some (.tup ys) := fun c ys e => by rw [upd_ne (ne_of e ht8 (by intro z; cases z))]; exact e
      refine ⟨as ++ [tp], ts ++ [(o.toNat, x.toNat)], _, _, rfl, bx8.put ftl ntl, by rw [upd_same, List.map_append]; rfl, (hA8.kp kp).snoc (kp _ _ hp8), by rw [List.length_append, ln]; rfl, fun p hp => ?_, fun j hj => ?_⟩
      · rcases List.mem_append.mp hp with z | z
        · exact pr p z
        · rw [List.mem_singleton.mp z]
          dsimp only
          omega
      · obtain ⟨y, e1, e2⟩ := J j hj
        exact ⟨y, by rw [List.getElem?_append_left (lt_at e1)]; exact e1, e2⟩
    rintro σ H5 ⟨as, ts, v5, v6, rfl, bx5, ht5, hA5, ln5, pr5, J5⟩
    have hW : Wv n ts := ⟨by omega, by omega, by omega, pr5⟩
    have las := hA5.1
    clear bx34 ht3 hA3 J3 pr3 bx3 bx4
    -- the number
    refine ⟨_, rfl, ifEG (fun v H' => ∃ z : Int, v = .int z ∧ H' = H5 ∧ 1 ≤ z ∧ z ≤ 1000 ∧ (m ≠ 0 → z = m)) ?_ (fun go => ?_)⟩
    rotate_left
    · refine ⟨_, rfl, _, _, rfl, rfl, _, rfl, ifD (fun e => ?_) fun e => ?_⟩
      · have mp : 0 < m := of_decide_eq_true e
        exact ⟨_, rfl, go _ _ ⟨m, rfl, rfl, by omega, by omega, fun _ => rfl⟩⟩
      · have mp : ¬ m > 0 := of_decide_eq_false e
        exact go _ _ ⟨50, rfl, rfl, by decide, by decide, fun z => absurd (by omega) z⟩
    rintro v H5' ⟨z, rfl, rfl, z1, z2, zm⟩
    refine nilP ⟨b, z, rfl, bx5.1, by omega, by omega, fun x H6 x0 x1 bx6 => ?_⟩
    have bx7 := bx5.trans bx6
    have ht6 := bx6.2 _ _ ht5 ntl
    have hA6 : PrsA H6 as ts := hA5.kp fun a xs e => bx6.tup bx5.1 e
    refine gn ?_
    dsimp only [List.set]
    -- the numbers
    have vr : ∀ k : Nat, List.replicate k (V.int x) = vrow (List.replicate k x) := fun k => by unfold vrow; rw [List.map_replicate]
    refine ⟨_, rfl, (by show 1 ≤ sizeLine; decide), fun l1 hl1 => ⟨_, rfl, rep_by n upd_same (by omega) fun sl hsl => ?_⟩⟩
    have s1 := same_new (o := HO.lst [V.int x]) hl1
    have s2 := s1.trans (same_new (o := HO.lst (List.replicate n (V.int x))) hsl)
    refine ⟨_, rfl, (by show 1 ≤ sizeLine; decide), fun l2 hl2 => ⟨_, rfl, tl, _, rfl, .inl (SqL.of (same_new hl2 _ _ (s2 _ _ ht6))), rep_by (as.map V.ref).length upd_same (by rw [List.length_map]; omega) fun al hal => ?_⟩⟩
    have s3 := s2.trans (same_new (o := HO.lst [V.int x]) hl2)
    have s4 := s3.trans (same_new (o := HO.lst (List.replicate (as.map V.ref).length (V.int x))) hal)
    refine ⟨_, rfl, tl, _, rfl, .inl (SqL.of (s4 _ _ ht6)), _, rfl, _, _, rfl, rfl, _, _, rfl, rfl, _, _, _, rfl, ?_⟩
    have hs7 : (upd (upd (upd (upd H6 l1 (.lst [V.int x])) sl (.lst (List.replicate n (V.int x)))) l2 (.lst [V.int x])) al (.lst (List.replicate (as.map V.ref).length (V.int x)))) sl = some (.lst (vrow (List.replicate n x))) := by
      rw [same_new hal _ _ (same_new hl2 _ _ upd_same), vr]
    have ha7 : (upd (upd (upd (upd H6 l1 (.lst [V.int x])) sl (.lst (List.replicate n (V.int x)))) l2 (.lst [V.int x])) al (.lst (List.replicate (as.map V.ref).length (V.int x)))) al = some (.lst (vrow (List.replicate ts.length x))) := by
      rw [upd_same, List.length_map, las, vr]
    have ht7 := s4 _ _ ht6
    have hA7 := hA6.same s4
    have bx8 := bx7.same s4
    have nsl : sl ≠ b := (bx7.same s1).ne hsl
    have nal : al ≠ b := (bx7.same s3).ne hal
    have nsa : sl ≠ al := fun z => by rw [z, upd_same] at hs7; rw [← z] at hal; rw [same_new hl2 _ _ upd_same] at hal; cases hal
    have fsl : H5' sl = none := bx6.free nsl (s1.free hsl)
    have fal : H5' al = none := bx6.free nal (s3.free hal)
    have ftl6 : tl ≠ sl := ne_of_none (s1 _ _ ht6) hsl
    have ftl7 : tl ≠ al := ne_of_none (s3 _ _ ht6) hal
    generalize upd (upd (upd (upd H6 l1 (.lst [V.int x])) sl (.lst (List.replicate n (V.int x)))) l2 (.lst [V.int x])) al (.lst (List.replicate (as.map V.ref).length (V.int x))) = H7 at hs7 ha7 ht7 hA7 bx8 ⊢
    clear s1 s2 s3 s4 hsl hal hl1 hl2
    have lm : (as.map V.ref).length = ts.length := by rw [List.length_map, las]
    dsimp only [List.set]
    rw [lm]
    have hmB := modB_of m0 (by omega) gm.m1
    have xm : m ≠ 0 → 0 ≤ x ∧ x < m := fun y => ⟨x0, by have := zm y; omega⟩
    have cOk : ∀ y : Int, (m = 0 → y.natAbs ≤ 10 ^ 18) → (m ≠ 0 → 0 ≤ y ∧ y < m) → cntB m (.int y) = true := fun y y0 y1 => by
      unfold cntB
      by_cases e : m = 0
      · rw [if_pos e]
        have := y0 e
        show (decide (-1000000000000000000 ≤ y) && decide (y ≤ 1000000000000000000)) = true
        rw [decide_eq_true (by omega), decide_eq_true (by omega)]; rfl
      · rw [if_neg e]
        obtain ⟨g0, g1⟩ := y1 e
        show (decide (0 ≤ y) && decide (y < m)) = true
        rw [decide_eq_true g0, decide_eq_true g1]; rfl
    have cx : cntB m (.int x) = true := cOk x (fun _ => by omega) xm
    refine parC (mk_net rfl rfl rfl rfl rfl hW ht7 hA7 hs7 ha7 List.length_replicate List.length_replicate hmB (fun i hi => by rw [List.eq_of_mem_replicate hi]; exact cx) (fun i hi => by rw [List.eq_of_mem_replicate hi]; exact cx) fun wa c H8 s8 N8 => ?_)
    have bx9 := bx8.same s8
    have ht8 := s8 _ _ ht7
    refine ⟨_, rfl, _, rfl, tl, _, rfl, .inl (SqL.of ht8), _, _, rfl, rfl, _, rfl, _, _, rfl, rfl, .inl ⟨by omega, by omega⟩, _, _, rfl, ?_⟩
    dsimp only [List.set]
    rw [lm]
    -- the book
    refine asgL (fun v H' => v = .int (cby m (((n : Int) - ts.length) * x)) ∧ H' = H8) ?_ (fun go => ?_)
    rotate_left
    · refine ⟨_, rfl, _, _, rfl, rfl, _, rfl, ifD (fun e => ?_) fun e => ?_⟩
      · have mp : 0 < m := of_decide_eq_true e
        refine ⟨_, rfl, .inl ⟨_, rfl, _, rfl, _, _, rfl, rfl, mp, go _ _ ⟨?_, rfl⟩⟩⟩
        unfold cby
        rw [if_neg (by omega)]
      · have mp : ¬ m > 0 := of_decide_eq_false e
        refine ⟨_, rfl, go _ _ ⟨?_, rfl⟩⟩
        unfold cby
        rw [if_pos (by omega)]
    rintro v H8' ⟨rfl, rfl⟩
    refine gn ?_
    dsimp only [List.set]
    have er : (1 : Int) - ((ts.length : Int) - n + 1) = (n : Int) - ts.length := by omega
    refine ⟨_, rfl, _, rfl, _, rfl, rv_by (m := m) (r := (ts.length : Int) - n + 1) (t := cby m (((n : Int) - ts.length) * x)) m0 (by omega) gm.m1 (by omega) (fun _ => by omega) fun o v H9 s9 h0 h1 ov => ?_⟩
    rw [er] at h0 h1
    obtain ⟨f', s', eo, fit⟩ := told_fits (m := m) (b := (n : Int) - ts.length) (x := x) m0 (fun z => by
      have := h0 z
      unfold cby at this
      rw [if_pos z] at this
      exact this) h1
    subst eo
    obtain ⟨p, ev, hp⟩ := ov
    subst ev
    have N9 := N8.same s9
    refine gn ?_
    dsimp only [List.set]
    have bsm := book_small (m := m) (n := n) (t := ts.length) (x := x) m0 m6 n5 hW.t20 x0 (by omega)
    obtain ⟨dx, sa, aa, g1, _, _⟩ := N9.ob
    have f0' : ∀ {u v : Int}, atI [V.int u, V.int v] 0 = some (V.int u) := fun {u v} => atI_nat (j := 0) rfl
    have f1' : ∀ {u v : Int}, atI [V.int u, V.int v] 1 = some (V.int v) := fun {u v} => atI_nat (j := 1) rfl
    refine ⟨_, rfl, c, dx, _, rfl, g1, rfl, c, wa, .int 0, none, m, _, _, n, ts, rfl, N9, hW, .int _, fun hb => ?_, fun h eh hn ns H10 s10 PL => ?_⟩
    · have : (decide ((0 : Int) ≤ 0) && decide ((0 : Int) < (n : Int))) = false := hb
      rw [decide_eq_true (by omega), decide_eq_true (by omega)] at this
      cases this
    injection eh with eh
    obtain rfl : h = 0 := by omega
    obtain rfl := asc_uniq (J5.part hW) PL
    rw [book_alike hW]
    refine nilP ⟨_, rfl, .inr (.inr (.inl ⟨_, rfl, bsm, ?_⟩))⟩
    refine ⟨_, rfl, nilP ⟨_, rfl, .inr (.inr (.inl ⟨_, rfl, bsm, neV rfl ⟨_, rfl, iteF ?_⟩⟩))⟩⟩
    refine ⟨_, rfl, c, wa, m, _, _, n, ts, rfl, N9.same s10, hW, fun H11 s11 => ?_⟩
    rw [rest_alike hW]
    refine ⟨true, true, rfl, rfl, false, rfl, iteF ?_⟩
    refine ⟨_, rfl, _, rfl, iteF (nxP ?_)⟩
    have s911 := s10.trans s11
    have hp11 := s911 _ _ hp
    refine ⟨_, rfl, _, rfl, p, _, 0, .int f', rfl, rfl, SqT.of hp11, f0', _, _, rfl, rfl, ?_⟩
    refine gn ?_
    dsimp only [List.set]
    have s811 := s9.trans s911
    have bx11 := bx9.same s811
    have ht11 := s811 _ _ ht8
    have hA11 := (hA7.same s8).same s811
    have hs11 := s811 _ _ (s8 _ _ hs7)
    have ha11 := s811 _ _ (s8 _ _ ha7)
    -- what comes behind the test
    refine seqG (fun σ H' => H' = H11 ∧ σ = [some (.ref b), some (.int m), some (.int (n : Int)), some (.ref tl), v4, v5, v6, some (.int x), some (.ref sl), some (.ref al), some (.int ((ts.length : Int) - n + 1)), some (.ref c), some (.int (cby m (((n : Int) - ts.length) * x))), some (.ref p), some (.int (x - f')), none]) ?_ (fun go2 => ?_)
    rotate_left
    · rcases fit with ⟨sp, e⟩ | ⟨sz, e⟩
      · refine ⟨_, rfl, p, _, 1, .int s', rfl, rfl, SqT.of hp11, f1', _, _, rfl, rfl, _, rfl, iteY (decide_eq_true sp) ?_⟩
        refine ⟨_, rfl, .inl ⟨_, rfl, _, rfl, p, _, 1, .int s', rfl, rfl, SqT.of hp11, f1', _, _, rfl, rfl, sp, rfl, _, rfl, ?_⟩⟩
        refine iteN (by show (!decide (V.int ((x - f') % s') = V.int 0)) = false; rw [e]; rfl) ?_
        refine ⟨_, rfl, p, _, 1, .int s', rfl, rfl, SqT.of hp11, f1', rfl, _, rfl, iteN (by rw [deI]; exact decide_eq_false (by omega)) (iteF (go2 _ _ ⟨rfl, rfl⟩))⟩
      · refine ⟨_, rfl, p, _, 1, .int s', rfl, rfl, SqT.of hp11, f1', _, _, rfl, rfl, _, rfl, iteN (decide_eq_false (by omega)) (iteF ?_)⟩
        refine ⟨_, rfl, p, _, 1, .int s', rfl, rfl, SqT.of hp11, f1', rfl, _, rfl, iteY (by rw [deI]; exact decide_eq_true sz) ?_⟩
        refine ⟨_, rfl, rfl, _, rfl, iteN (by show (!decide (V.int (x - f') = V.int 0)) = false; rw [e]; rfl) (go2 _ _ ⟨rfl, rfl⟩)⟩
    rintro σ H' ⟨rfl, rfl⟩
    -- another number
    refine asgL (fun v H'' => v = .int (cby m (x + 1)) ∧ H'' = H') ?_ (fun go => ?_)
    rotate_left
    · refine ⟨_, rfl, _, _, rfl, rfl, _, rfl, ifD (fun e => ?_) fun e => ?_⟩
      · have mp : 0 < m := of_decide_eq_true e
        refine ⟨_, rfl, _, _, rfl, rfl, .inl ⟨_, rfl, _, rfl, _, _, rfl, rfl, mp, go _ _ ⟨?_, rfl⟩⟩⟩
        unfold cby
        rw [if_neg (by omega)]
      · have mp : ¬ m > 0 := of_decide_eq_false e
        refine ⟨_, rfl, _, _, rfl, rfl, go _ _ ⟨?_, rfl⟩⟩
        unfold cby
        rw [if_pos (by omega)]
    rintro v H'' ⟨rfl, rfl⟩
    refine gn ?_
    dsimp only [List.set]
    have yx := other_ne (x := x) m0 gm.m1 xm
    have cy : cntB m (.int (cby m (x + 1))) = true := cOk _ (fun z => by unfold cby; rw [if_pos z]; omega) (fun z => by
      unfold cby
      rw [if_neg z]
      exact ⟨Int.emod_nonneg _ z, Int.emod_lt_of_pos _ (by omega)⟩)
    generalize cby m (x + 1) = y at yx cy
    refine ⟨_, rfl, _, rfl, _, rfl, tl, _, rfl, .inl (SqL.of ht11), _, _, rfl, rfl, b, _, rfl, bx11.1, by omega, by omega, fun at_ H12 a0 a1 bx12 => ?_⟩
    rw [lm] at a1
    have bx13 := bx11.trans bx12
    have ht12 := bx12.2 _ _ ht11 ntl
    have hs12 := bx12.2 _ _ hs11 nsl
    have ha12 := bx12.2 _ _ ha11 nal
    have hA12 : PrsA H12 as ts := hA11.kp fun a xs e => bx12.tup bx11.1 e
    refine gn ?_
    dsimp only [List.set]
    refine seqG (fun σ H' => ∃ (ss ar : List Int) (v10 v11 v12 v13 v14 v15 : Option V), σ = [some (.ref b), some (.int m), some (.int (n : Int)), some (.ref tl), some (.int at_), v5, v6, some (.int x), some (.ref sl), some (.ref al), v10, v11, v12, v13, v14, v15] ∧ Bx b H H' ∧ H' tl = some (.lst (as.map V.ref)) ∧ PrsA H' as ts ∧ H' sl = some (.lst (vrow ss)) ∧ H' al = some (.lst (vrow ar)) ∧ ss.length = n ∧ ar.length = ts.length ∧ (∀ i ∈ ss, cntB m (.int i) = true) ∧ (∀ i ∈ ar, cntB m (.int i) = true) ∧ restB ts ss ar = false) ?_ (fun go3 => ?_)
    · rintro σ H13 ⟨ss, ar, v10, v11, v12, v13, v14, v15, rfl, bx, ht, hA, hs, ha, ls, la, cs, ca, rf⟩
      refine retOC (mk_net rfl rfl rfl rfl rfl hW ht hA hs ha ls la hmB cs ca fun w2 c2 H14 s14 N14 => ?_)
      refine ⟨c2, w2, m, ss, ar, n, ts, rfl, N14, hW, fun H15 s15 => ?_⟩
      rw [rf]
      exact ⟨false, false, rfl, rfl, q _ (bx.same (s14.trans s15))⟩
    · have csx : ∀ k, ∀ i ∈ List.replicate k x, cntB m (.int i) = true := fun k i hi => by rw [List.eq_of_mem_replicate hi]; exact cx
      have cset : ∀ (k j : Nat), ∀ i ∈ (List.replicate k x).set j y, cntB m (.int i) = true := fun k j i hi => by
        rcases List.mem_or_eq_of_mem_set hi with e | e
        · exact csx k i e
        · rw [e]; exact cy
      obtain ⟨k, rfl⟩ : ∃ k : Nat, at_ = (k : Int) := ⟨at_.toNat, by omega⟩
      refine ⟨_, rfl, _, rfl, _, _, rfl, rfl, _, rfl, ifD (fun e => ?_) fun e => ?_⟩
      · have kn : k < n := by have := of_decide_eq_true e; omega
        refine ⟨_, rfl, _, rfl, _, rfl, sl, _, (k : Int), k, rfl, rfl, hs12, ixN_nat (by rw [vrow_len, List.length_replicate]; exact kn), ?_⟩
        rw [← vrow_set]
        have kp : ∀ c ys, H12 c = some (.tup ys) → (upd H12 sl (.lst (vrow ((List.replicate n x).set k y)))) c = some (.tup ys) := fun c ys e => by rw [upd_ne (ne_of e hs12 (by intro z; cases z))]; exact e
        exact go3 _ _ ⟨_, _, _, _, _, _, _, _, rfl, bx13.put (bx5.free nsl fsl) nsl, by rw [upd_ne ftl6]; exact ht12, hA12.kp kp, upd_same, by rw [upd_ne nsa.symm]; exact ha12, by rw [List.length_set, List.length_replicate], List.length_replicate, cset n k, csx _, away_s hW n2 J5 kn yx⟩
      · have kn : ¬ (k : Int) < n := of_decide_eq_false e
        obtain ⟨j, ej⟩ : ∃ j : Nat, (k : Int) - n = (j : Int) := ⟨((k : Int) - n).toNat, by omega⟩
        have jl : j < ts.length := by omega
        refine ⟨_, rfl, _, rfl, _, rfl, _, rfl, _, _, rfl, rfl, al, _, (k : Int) - n, j, rfl, rfl, ha12, (by rw [ej]; exact ixN_nat (by rw [vrow_len, List.length_replicate]; exact jl)), ?_⟩
        rw [← vrow_set]
        have kp : ∀ c ys, H12 c = some (.tup ys) → (upd H12 al (.lst (vrow ((List.replicate ts.length x).set j y)))) c = some (.tup ys) := fun c ys e => by rw [upd_ne (ne_of e ha12 (by intro z; cases z))]; exact e
        exact go3 _ _ ⟨_, _, _, _, _, _, _, _, rfl, bx13.put (bx5.free nal fal) nal, by rw [upd_ne ftl7]; exact ht12, hA12.kp kp, by rw [upd_ne nsa]; exact hs12, upd_same, List.length_replicate, by rw [List.length_set, List.length_replicate], csx _, cset _ j, away_a hW jl yx⟩
end
end K1
namespace K1
open PySem PySem.Spec PyProof.Rows L2
theorem sqL_ks {K : PySem.W.Frag} {H H1 : Hp} {a : Addr} {xs : List V} (h : SqL K H a xs) (k : Ks [] H H1) : SqL K H1 a xs := by
  rcases h with (h | ⟨ob, h⟩) | h
  · exact .inl (.inl (k _ _ h (by simp) fun ps z => by cases z))
  · exact .inl (.inr ⟨ob, k _ _ h (by simp) fun ps z => by cases z⟩)
  · exact .inr h
structure Dn (P : Program) (w : World) (K : PySem.W.Frag) (mg : Str → Option Value) (base : Heap) (T : List (Addr × Str)) : Prop where
  B : Bt mg
  box : ∃ f fd, Df K mg "_law_box" sLBox ["_law_script", "_law_k"] f fd ∧ FnOk P w K mg base CX0 1 f fd ["_law_script", "_law_k"] (spBox K)
  take : ∃ f fd, Df K mg "_law_take" sLTake ["_law_box_here", "_law_many"] f fd ∧ FnOk P w K mg base CX0 1 f fd ["_law_box_here", "_law_many"] spTake
  pick : ∃ f fd, Df K mg "_law_pick" sLPick ["_law_box_here", "_law_some"] f fd ∧ FnOk P w K mg base CX0 2 f fd ["_law_box_here", "_law_some"] spPick
  small : ∃ f fd, Df K mg "_law_small_right" sLSmallRight ["_law_box_here", "_law_modulus", "_law_rings"] f fd ∧ FnG P w K mg base 7 f fd ["_law_box_here", "_law_modulus", "_law_rings"] spSmall
  plain : ∃ f fd, Df K mg "_law_plain_right" sLPlainRight ["_law_rings", "_law_total"] f fd ∧ FnG P w K mg base 7 f fd ["_law_rings", "_law_total"] spPlain
  great : ∃ f fd, Df K mg "_law_great_right" sLGreatRight ["_law_modulus", "_law_rings", "_law_total"] f fd ∧ FnOk P w K mg base CX0 7 f fd ["_law_modulus", "_law_rings", "_law_total"] spGreat
  web : ∃ f fd, Df K mg "_law_web_right" sLWebRight ["_law_box_here", "_law_modulus"] f fd ∧ FnG P w K mg base 8 f fd ["_law_box_here", "_law_modulus"] spWeb
  none : ∃ f fd, Df K mg "_law_none_right" sLNoneRight ["_law_box_here"] f fd ∧ FnG P w K mg base 9 f fd ["_law_box_here"] (spNone T)
abbrev nLa : List Str := ["_law_script", "_law_k", "_law_box_here", "_law_rings", "_law_modulus", "_law_sign", "_law_total"]
theorem scLa : FnScope nLa ["_law_script"] (defScope sLaw) := ⟨rfl, rfl, rfl, by decide +kernel, rfl, by decide +kernel, by decide +kernel⟩
def spLaw (K : PySem.W.Frag) (T : List (Addr × Str)) : Sp := fun vs H Q _ => ∃ (a : Addr) (ns : List Int), vs = [.ref a] ∧ SqL K H a (ns.map V.int) ∧ ns.length ≤ 63 ∧ LamX.Tabs T H ∧ ∀ H', Q (.bl true) H'
theorem great_of {v : V} (h : v ∈ [V.int (10 ^ (6 : Int).toNat), .int 999999, .int 720720, .int 65536, .int (7 * 13 * 31)]) : ∃ m, v = .int m ∧ 2 ≤ m ∧ m ≤ 1000000 := by
  simp only [List.mem_cons, List.mem_nil_iff, or_false] at h
  rcases h with rfl | rfl | rfl | rfl | rfl
  all_goals exact ⟨_, rfl, by decide +kernel, by decide +kernel⟩
theorem great2_of {v : V} (h : v ∈ [V.int 720720, .int 65536]) : ∃ m, v = .int m ∧ 2 ≤ m ∧ m ≤ 1000000 := by
  simp only [List.mem_cons, List.mem_nil_iff, or_false] at h
  rcases h with rfl | rfl
  all_goals exact ⟨_, rfl, by decide +kernel, by decide +kernel⟩
theorem cube_small {s r : Int} (hs : s = 1 ∨ s = -1) (r0 : 0 ≤ r) (r1 : r < 1000000000) : (s * r ^ (3 : Int).toNat).natAbs < 10 ^ 100 := by
  rw [Int.natAbs_mul, Int.natAbs_pow]
  have h1 : s.natAbs = 1 := by rcases hs with rfl | rfl <;> rfl
  rw [h1, Nat.one_mul]
  exact Nat.lt_of_le_of_lt (Nat.pow_le_pow_left (show r.natAbs ≤ 1000000000 by omega) _) (by decide +kernel)
section
variable {P : Program} {w : World} {K : PySem.W.Frag} {mg : Str → Option Value} {base : Heap}
theorem ok_law {f : Addr} {fd : FuncData} {T : List (Addr × Str)} (F : Fun K "law" "law" sLaw f fd) (dn : Dn P w K mg base T) : FnG P w K mg base 10 f fd ["_law_script"] (spLaw K T) := by
  have B := dn.B
  obtain ⟨_, _, DB, GB⟩ := dn.box
  obtain ⟨_, _, DT, GT⟩ := dn.take
  obtain ⟨_, _, DK, GK⟩ := dn.pick
  obtain ⟨_, _, DS, GS⟩ := dn.small
  obtain ⟨_, _, DP, GP⟩ := dn.plain
  obtain ⟨_, _, DG, GG⟩ := dn.great
  obtain ⟨_, _, DW, GW⟩ := dn.web
  obtain ⟨_, _, DN, GN⟩ := dn.none
  refine okG F scLa (fun vs H Q E h => ?_) (fun cdv A outer s H vs Q E hr hgd h => ?_)
  · obtain ⟨a, ns, rfl, _⟩ := h
    rfl
  · obtain ⟨a, ns, rfl, hS, hn, hT, q⟩ := h
    have r1 := hr.mono (show 1 ≤ 9 by decide)
    have r2 := hr.mono (show 2 ≤ 9 by decide)
    have r7 := hr.mono (show 7 ≤ 9 by decide)
    have r8 := hr.mono (show 8 ≤ 9 by decide)
    refine ⟨_, pss_cons (ps_for PassesOwn.never rfl (pi_range1 (by rfl) B.range (pa_cons pe_int pa_nil)) (pg_name (i := 1) scLa.nd rfl (.inl rfl))
        (pss_cons (ps_set (i := 2) scLa.nd rfl (.inl rfl) (pc DB GB r1 pass0 (pa_cons (pv 0) (pa_cons (pv 1) pa_nil))))
        (pss_cons (ps_par (i := 3) (j := 4) rfl scLa.nd rfl rfl (by decide) rfl rfl (pa_cons (pc DT GT r1 pass0 (pa_cons (pv 2) (pa_cons pe_int pa_nil))) (pa_cons (pe_op op_add pe_int (pc DT GT r1 pass0 (pa_cons (pv 2) (pa_cons pe_int pa_nil)))) pa_nil)) rfl)
        (pss_cons (ps_if (pt_not (pt_val (pe_callG DS GS r7 hgd (pa_cons (pv 2) (pa_cons (pv 4) (pa_cons (pv 3) pa_nil)))))) (pss_one (ps_ret pe_bl)) pss_nil)
        (pss_cons (ps_set (i := 5) scLa.nd rfl (.inl rfl) (pe_op op_sub (pe_op op_mul pe_int (pc DT GT r1 pass0 (pa_cons (pv 2) (pa_cons pe_int pa_nil)))) pe_int))
        (pss_cons (ps_for PassesOwn.never rfl (pi_tup (pe_tup (pa_cons pe_int (pa_cons (pe_op op_mul (pv 5) (pc DT GT r1 pass0 (pa_cons (pv 2) (pa_cons pe_int pa_nil)))) (pa_cons (pe_op op_mul (pv 5) (pe_op op_pow (pc DT GT r1 pass0 (pa_cons (pv 2) (pa_cons (pe_op op_pow pe_int pe_int) pa_nil))) pe_int)) (pa_cons (pe_op op_mul (pe_op op_sub (pv 3) pe_int) (pc DT GT r1 pass0 (pa_cons (pv 2) (pa_cons pe_int pa_nil)))) pa_nil)))))) (pg_name (i := 6) scLa.nd rfl (.inl rfl))
          (pss_cons (ps_if (pt_not (pt_val (pe_callG DP GP r7 hgd (pa_cons (pv 3) (pa_cons (pv 6) pa_nil))))) (pss_one (ps_ret pe_bl)) pss_nil)
          (pss_cons (ps_if (pt_not (pt_val (pc DG GG r7 pass0 (pa_cons (pc DK GK r2 pass0 (pa_cons (pv 2) (pa_cons (pe_lst (pa_cons (pe_op op_pow pe_int pe_int) (pa_cons pe_int (pa_cons pe_int (pa_cons pe_int (pa_cons (pe_op op_mul (pe_op op_mul pe_int pe_int) pe_int) pa_nil)))))) pa_nil))) (pa_cons (pe_op op_add (pv 3) (pc DT GT r1 pass0 (pa_cons (pv 2) (pa_cons pe_int pa_nil)))) (pa_cons (pv 6) pa_nil)))))) (pss_one (ps_ret pe_bl)) pss_nil)
          (pss_one (ps_if (pt_not (pt_val (pc DG GG r7 pass0 (pa_cons (pc DK GK r2 pass0 (pa_cons (pv 2) (pa_cons (pe_lst (pa_cons pe_int (pa_cons pe_int pa_nil))) pa_nil))) (pa_cons (pe_op op_add (pe_op op_pow pe_int pe_int) (pc DT GT r1 pass0 (pa_cons (pv 2) (pa_cons (pe_op op_pow pe_int pe_int) pa_nil)))) (pa_cons (pv 6) pa_nil)))))) (pss_one (ps_ret pe_bl)) pss_nil)))))
        (pss_one (ps_if (PW.pt (pw_or (pt_not (pt_val (pe_callG DW GW r8 hgd (pa_cons (pv 2) (pa_cons (pc DK GK r2 pass0 (pa_cons (pv 2) (pa_cons (pe_lst (pa_cons pe_int (pa_cons (pv 4) (pa_cons (pv 4) pa_nil)))) pa_nil))) pa_nil))))) (pw_or1 (pt_not (pt_val (pe_callG DN GN hr hgd (pa_cons (pv 2) pa_nil))))))) (pss_one (ps_ret pe_bl)) pss_nil))))))))
      (pss_one (ps_ret pe_bl)), ?_⟩
    refine ⟨3, rfl, by decide, by decide, for_range (fun i σ H' => ∃ (v1 v2 v3 v4 v5 v6 : Option V), σ = [some (.ref a), v1, v2, v3, v4, v5, v6] ∧ SqL K H' a (ns.map V.int) ∧ LamX.Tabs T H')
      ⟨none, none, none, none, none, none, rfl, hS, hT⟩ ?_ ?_⟩
    rotate_left
    · rintro σ H1 ⟨v1, v2, v3, v4, v5, v6, rfl, _, _⟩
      exact q _
    rintro i σ Ha hi ⟨v1, v2, v3, v4, v5, v6, rfl, hSa, hTa⟩
    refine ⟨_, rfl, _, rfl, a, ns, 0 + (i : Int), rfl, hSa, hn, by omega, by omega, fun b H1 s1 hb0 hb1 => ?_⟩
    refine gn ?_
    dsimp only [List.set]
    have bx0 : Bx b H1 H1 := Bx.refl hb1
    have hT1 := hTa.ext s1
    refine ⟨_, rfl, b, 8, rfl, hb1, by decide, by decide, fun r H2 r0 r8' bx2 => ⟨_, rfl, b, 11, rfl, bx2.1, by decide, by decide, fun x H3 x0 x1 bx3 => ⟨_, _, rfl, rfl, _, _, rfl, ?_⟩⟩⟩
    obtain ⟨n, en, n2, n20⟩ : ∃ n : Nat, 2 + x = (n : Int) ∧ 2 ≤ n ∧ n ≤ 12 := ⟨(2 + x).toNat, by omega, by omega, by omega⟩
    have bx4 := bx2.trans bx3
    dsimp only [List.set]
    rw [en]
    refine ⟨_, rfl, _, rfl, _, rfl, b, n, r, rfl, bx4.1, n2, by omega, r0, fun H4 bx5 => ⟨true, rfl, iteF (nxP ?_)⟩⟩
    have bx6 := bx4.trans bx5
    refine ⟨_, rfl, b, 2, rfl, bx6.1, by decide, by decide, fun sg H5 sg0 sg1 bx7 => ⟨_, _, rfl, rfl, .inl ⟨by decide, by decide⟩, _, _, rfl, rfl, ?_⟩⟩
    have bx8 := bx6.trans bx7
    refine gn ?_
    dsimp only [List.set]
    have sgn : (2 * sg - 1 = 1 ∨ 2 * sg - 1 = -1) := by omega
    generalize 2 * sg - 1 = sn at sgn
    -- the totals
    refine ⟨_, rfl, _, rfl, b, 40, rfl, bx8.1, by decide, by decide, fun y1 H6 y10 y11 bx9 => ⟨_, _, rfl, rfl, .inl ⟨by omega, by omega⟩, ?_⟩⟩
    have bx10 := bx8.trans bx9
    refine ⟨_, rfl, _, rfl, _, _, rfl, rfl, ⟨by decide, by decide, by decide⟩, b, _, rfl, bx10.1, by decide +kernel, by decide +kernel, fun y2 H7 y20 y21 bx11 => ?_⟩
    have y2s : y2 < 1000000000 := by
      have e9 : (10 : Int) ^ (9 : Int).toNat = 1000000000 := by decide +kernel
      rw [e9] at y21
      exact y21
    refine ⟨_, _, rfl, rfl, ⟨by decide, by decide, by omega⟩, _, _, rfl, rfl, .inl ⟨by omega, by omega⟩, ?_⟩
    have bx12 := bx10.trans bx11
    refine ⟨_, rfl, _, _, rfl, rfl, _, rfl, b, 100, rfl, bx12.1, by decide, by decide, fun y3 H8 y30 y31 bx13 => ⟨_, _, rfl, rfl, .inl ⟨by omega, by omega⟩, (by show 4 ≤ sizeLine; decide), fun tp htp => ?_⟩⟩
    have y3b : ((r - 1) * y3).natAbs < 10 ^ 100 := by
      rw [Int.natAbs_mul]
      exact Nat.lt_of_le_of_lt (Nat.mul_le_mul (show (r - 1).natAbs ≤ 8 by omega) (show y3.natAbs ≤ 100 by omega)) (by decide +kernel)
    have y1b : (sn * y1).natAbs < 10 ^ 100 := by
      rw [Int.natAbs_mul]
      exact Nat.lt_of_le_of_lt (Nat.mul_le_mul (show sn.natAbs ≤ 1 by omega) (show y1.natAbs ≤ 40 by omega)) (by decide +kernel)
    have y2b := cube_small sgn y20 y2s
    have bx14 := (bx12.trans bx13).new (o := HO.tup [V.int 0, .int (sn * y1), .int (sn * y2 ^ (3 : Int).toNat), .int ((r - 1) * y3)]) htp
    have htp' : (upd H8 tp (.tup [V.int 0, .int (sn * y1), .int (sn * y2 ^ (3 : Int).toNat), .int ((r - 1) * y3)])) tp = some (.tup [V.int 0, .int (sn * y1), .int (sn * y2 ^ (3 : Int).toNat), .int ((r - 1) * y3)]) := upd_same
    have tot : ∀ z ∈ [V.int 0, .int (sn * y1), .int (sn * y2 ^ (3 : Int).toNat), .int ((r - 1) * y3)], ∃ t : Int, z = .int t ∧ t.natAbs < 10 ^ 100 := fun z hz => by
      simp only [List.mem_cons, List.mem_nil_iff, or_false] at hz
      rcases hz with rfl | rfl | rfl | rfl
      · exact ⟨_, rfl, by decide +kernel⟩
      · exact ⟨_, rfl, y1b⟩
      · exact ⟨_, rfl, y2b⟩
      · exact ⟨_, rfl, y3b⟩
    generalize upd H8 tp (.tup [V.int 0, .int (sn * y1), .int (sn * y2 ^ (3 : Int).toNat), .int ((r - 1) * y3)]) = H9 at bx14 htp'
    refine ⟨tp, rfl, ⟨_, SqT.of htp'⟩, for_tup (K := K) (a := tp) (xs := [V.int 0, .int (sn * y1), .int (sn * y2 ^ (3 : Int).toNat), .int ((r - 1) * y3)]) (fun j σ H' => ∃ v6 : Option V, σ = [some (.ref a), some (.int (0 + (i : Int))), some (.ref b), some (.int r), some (.int (n : Int)), some (.int sn), v6] ∧ Bx b H9 H') ⟨_, rfl, Bx.refl bx14.1⟩ (fun j σ H' _ ⟨_, _, bx⟩ => SqT.of (bx.tup bx14.1 htp')) ?_ ?_⟩
    · rintro j z σ H' hz ⟨v6, rfl, bx⟩
      obtain ⟨t, rfl, ht⟩ := tot z (List.mem_of_getElem? hz)
      refine ⟨_, rfl, _, rfl, r, t, rfl, r0, by omega, ht, fun J1 z1 => ⟨true, rfl, iteF (nxP ?_)⟩⟩
      have b1 := bx.same z1
      refine ⟨_, rfl, _, _, rfl, rfl, ⟨by decide, by decide, by decide⟩, _, _, rfl, rfl, .inl ⟨by decide, by decide⟩, _, _, rfl, rfl, .inl ⟨by decide, by decide⟩, (by show 5 ≤ sizeLine; decide), fun l1 hl1 => ?_⟩
      have b2 := b1.new (o := HO.lst [V.int (10 ^ (6 : Int).toNat), .int 999999, .int 720720, .int 65536, .int (7 * 13 * 31)]) hl1
      refine nilP ⟨b, l1, [V.int (10 ^ (6 : Int).toNat), .int 999999, .int 720720, .int 65536, .int (7 * 13 * 31)], rfl, b2.1, upd_same, b1.ne hl1, by show 1 ≤ 5; decide, by show 5 ≤ 1000; decide, fun i1 mv J2 hmv bb => ?_⟩
      obtain ⟨m, rfl, m2, m6⟩ := great_of (List.mem_of_getElem? hmv)
      have b3 := b2.trans bb
      refine ⟨_, rfl, _, rfl, b, 3, rfl, b3.1, by decide, by decide, fun u J3 u0 u3 b4 => ⟨_, _, rfl, rfl, _, rfl, m, r + u, t, rfl, m2, m6, by omega, fun J4 z4 => ⟨true, rfl, iteF (nxP ?_)⟩⟩⟩
      have b5 := (b3.trans b4).same z4
      refine ⟨_, rfl, (by show 2 ≤ sizeLine; decide), fun l2 hl2 => ?_⟩
      have b6 := b5.new (o := HO.lst [V.int 720720, .int 65536]) hl2
      refine nilP ⟨b, l2, [V.int 720720, .int 65536], rfl, b6.1, upd_same, b5.ne hl2, by show 1 ≤ 2; decide, by show 2 ≤ 1000; decide, fun i2 mv J5 hmv bb => ?_⟩
      obtain ⟨m', rfl, m2', m6'⟩ := great2_of (List.mem_of_getElem? hmv)
      have b7 := b6.trans bb
      refine ⟨_, _, rfl, rfl, ⟨by decide, by decide, by decide⟩, _, rfl, _, _, rfl, rfl, ⟨by decide, by decide, by decide⟩, b, _, rfl, b7.1, by decide +kernel, by decide +kernel, fun u' J6 u0' u3' b8 => ⟨_, _, rfl, rfl, _, rfl, m', 10 ^ (30 : Int).toNat + u', t, rfl, m2', m6', ?_, fun J7 z7 => ⟨true, rfl, iteF ?_⟩⟩⟩
      · have : (0 : Int) ≤ 10 ^ (30 : Int).toNat := by decide +kernel
        omega
      · exact ⟨_, rfl, (b7.trans b8).same z7⟩
    rintro σ H10 ⟨v6', rfl, bx15⟩
    have bx16 := bx14.trans bx15
    -- the webs, what is none
    refine ⟨_, rfl, _, rfl, _, rfl, _, rfl, (by show 3 ≤ sizeLine; decide), fun l3 hl3 => ?_⟩
    have b17 := bx16.new (o := HO.lst [V.int 0, .int (n : Int), .int (n : Int)]) hl3
    refine nilP ⟨b, l3, [V.int 0, .int (n : Int), .int (n : Int)], rfl, b17.1, upd_same, bx16.ne hl3, by show 1 ≤ 3; decide, by show 3 ≤ 1000; decide, fun i3 mv H11 hmv b18 => ?_⟩
    obtain ⟨m, rfl, gm⟩ : ∃ m, mv = .int m ∧ GoodM m := by
      have hm := List.mem_of_getElem? hmv
      simp only [List.mem_cons, List.mem_nil_iff, or_false] at hm
      rcases hm with rfl | rfl | rfl
      · exact ⟨0, rfl, by decide, by decide, by decide⟩
      · exact ⟨_, rfl, by omega, by omega, by omega⟩
      · exact ⟨_, rfl, by omega, by omega, by omega⟩
    have b19 := b17.trans b18
    refine nilP ⟨b, m, rfl, b19.1, gm, fun H12 b20 => ⟨true, rfl, iteF ?_⟩⟩
    have b21 := b19.trans b20
    have tb := tabs_bx hT1 hb1 b21
    refine ⟨_, rfl, b, rfl, b21.1, tb, fun H13 L => ⟨true, rfl, iteF ?_⟩⟩
    have kAll : Ks [] Ha H13 := fun d o e _ nt => by
      have nb : d ≠ b := ne_of_none e hb0
      exact L.ks d o (b21.2 _ _ (s1 _ _ e) nb) (by rw [List.mem_singleton]; exact nb) nt
    exact ⟨_, _, _, _, _, _, rfl, sqL_ks hSa kAll, L.tb⟩
end
end K1
namespace K1
open PySem PySem.Spec PyProof.Rows L2
/-- the caller's call of a law that is told where nothing is being shown; some tables of code objects stand by -/
theorem call_laws {P : Program} {w : World} {K : PySem.W.Frag} {mg mb : Str → Option Value} {k : Nat} {fa a : Addr} (Ps : List (Addr × Addr)) {fd : FuncData} {x : Str} {sp : Sp} {s : Shared} {vs : List Value} {ns : List Int}
    (KX : K.In s.heap) (hmg : s.heap.Ns mainGlobals mg) (hmb : s.heap.Ns builtinsNs mb) (hbb : ∀ x : Str, x ≠ "__name__" → mb x = bootBuiltins x) (hlim : s.heap.NoLimit) (hg : s.gens = #[])
    (hPs : ∀ p ∈ Ps, s.heap.get? p.2 = some { cls := .none, data := .fields #[] } ∧ K.lookup p.2 = none ∧ PySem.W.CodeHd s.heap p.1 p.2)
    (hbm : ∃ (bm : Addr) (ob : Obj), mg "__builtins__" = some (.ref bm) ∧ bm ≠ builtinsNs ∧ s.heap.get? bm = some ob ∧ ob.cls = .type "module" ∧ ob.dict = some builtinsNs ∧ ob.data = .plain)
    (ha : s.heap.get? a = some { cls := .type "list", data := .seq vs.toArray }) (hi : IntsAre vs ns) (hl : ns.length ≤ sizeLine) (hr : Room k callerA)
    (F : ∀ base : Heap, K.In base → base.Ns mainGlobals mg → (∀ p ∈ Ps, LamX.TabB base mg p.1 p.2) → FnG P w K mg base k fa fd [x] sp) (hbind : ∀ (s : Shared) (u : Value), BindsTo s fd ⟨[u], []⟩ [(x, u)])
    (hsp : ∀ H : Hp, (∀ p ∈ Ps, H p.2 = some (.tbl #[])) → SqL K H a (ns.map V.int) → sp [.ref a] H (fun v _ => v = .bl true) fun _ _ _ => False) :
    codeAny (model P w) callerA (.call (.ref fa) ⟨[.ref a], []⟩) (fun r s' => r = .ok (.ret (.bool true)) ∧ OldK s.heap s'.heap ∧ s'.os = s.os ∧ AllBare s'.gens) s := by
  have hTS : ∀ b, b ∈ Ps.map (·.2) → s.heap.get? b = some { cls := .none, data := .fields #[] } ∧ K.lookup b = none ∧ ∃ c, PySem.W.CodeHd s.heap c b := fun b hb => by
    obtain ⟨p, hp, rfl⟩ := List.mem_map.mp hb
    obtain ⟨h1, h2, h3⟩ := hPs p hp
    exact ⟨h1, h2, _, h3⟩
  generalize hTSd : Ps.map (·.2) = TS at hTS
  have inTS : ∀ p ∈ Ps, p.2 ∈ TS := fun p hp => by rw [← hTSd]; exact List.mem_map.mpr ⟨p, hp, rfl⟩
  have nPa : ∀ b ∈ TS, b ≠ a := fun b hb z => by
    have hT := (hTS b hb).1
    rw [z, ha] at hT
    cases Option.some.inj hT
  -- told of any way to follow the script
  have told : ∀ H : Hp, (∀ b ∈ TS, H b = some (.tbl #[])) → (∀ b, b ∉ TS → H b = none ∨ (b = a ∧ K.lookup a = none ∧ ∃ o xs, H a = some (.frz o (.lst xs)))) → SqL K H a (ns.map V.int) → HOk P w H s.heap →
      codeAny (model P w) callerA (.call (.ref fa) ⟨[.ref a], []⟩) (fun r s' => r = .ok (.ret (.bool true)) ∧ OldK s.heap s'.heap ∧ s'.os = s.os ∧ AllBare s'.gens) s := by
    intro H hP hO hS hok
    have out : ∀ {b : Addr} {o : Obj}, s.heap.get? b = some o → b ∉ TS → b ≠ a → (hidT s.heap H).get? b = some o := fun {b o} e n1 n2 => hidT_get e ((hO b n1).resolve_right fun z => n2 z.1)
    have neD : ∀ {b : Addr} {o : Obj}, s.heap.get? b = some o → (∀ v n, o.data ≠ .seq v n) → (o.data ≠ .fields #[]) → b ∉ TS ∧ b ≠ a := fun {b o} e h1 h2 => ⟨fun z => by
      have hT := (hTS b z).1
      rw [hT] at e
      cases Option.some.inj e
      exact h2 rfl, fun z => by
      rw [z, ha] at e
      cases Option.some.inj e
      exact h1 _ _ rfl⟩
    have ns_ : ∀ {b : Addr} {m : Str → Option Value}, s.heap.Ns b m → (hidT s.heap H).Ns b m := fun {b m} ⟨o, es, ep, e, d, r⟩ => by
      have n := neD e (fun v n z => by rw [d] at z; cases z) (fun z => by rw [d] at z; cases z)
      exact ⟨o, es, ep, out e n.1 n.2, d, r⟩
    have kin : K.In (hidT s.heap H) := fun b o e => by
      refine hidT_get (KX b o e) ?_
      by_cases z : b ∈ TS
      · rw [(hTS b z).2.1] at e; cases e
      · refine (hO b z).resolve_right fun ⟨z1, z2, _⟩ => ?_
        rw [z1, z2] at e
        cases e
    have hM : L2.Mod K mg (hidT s.heap H) := ⟨kin, ns_ hmg, ⟨mb, ns_ hmb, hbb⟩, let ⟨mc, h1, h2⟩ := hlim; ⟨mc, ns_ h1, h2⟩⟩
    have TB : ∀ p ∈ Ps, LamX.TabB (hidT s.heap H) mg p.1 p.2 := fun p hp => by
      obtain ⟨hT, nT, hC⟩ := hPs p hp
      refine ⟨?_, ?_, fun z => ?_⟩
      · obtain ⟨o, us, file, tf, flags, tg, inF, text, tt, e, e2, e3, r⟩ := hC
        have n := neD e (fun v n z => by rw [e3] at z; cases z) (fun z => by
          rw [e3] at z
          cases z
          have := r.1
          simp at this)
        exact ⟨o, us, file, tf, flags, tg, inF, text, tt, out e n.1 n.2, e2, e3, r⟩
      · obtain ⟨bm, ob, b1, b2, b3, b4, b5, b6⟩ := hbm
        have n := neD b3 (fun v n z => by rw [b6] at z; cases z) (fun z => by rw [b6] at z; cases z)
        refine ⟨bm, ob, b1, b2, fun z => ?_, fun z => n.1 (by rw [z]; exact inTS p hp), out b3 n.1 n.2, b4, b5, b6⟩
        obtain ⟨o, es, ep, e, d, _⟩ := hmg
        rw [z, e] at b3
        cases Option.some.inj b3
        rw [d] at b6
        cases b6
      · obtain ⟨o, es, ep, e, d, _⟩ := hmg
        rw [z, hT] at e
        cases Option.some.inj e
        cases d
    have e0 : Env0 P w K mg (hidT s.heap H) callerA [] s H := ⟨rfl, hM, fun b o e => of_hidT e, Nat.le_of_eq (hidT_size _ _), trivial, fun b hb => absurd (show b ∈ ([] : List Addr) from hb) (by simp), hok, .of_eq hg⟩
    refine codeAny_mono ((F _ kin (ns_ hmg) TB).run callerA [] s H ⟨[.ref a], []⟩ [.ref a] [.ref a] _ _ hr rfl e0 (hbind s (.ref a)) (.cons rfl .nil) (hsp H (fun p hp => hP _ (inTS p hp)) hS)) fun r s' h => ?_
    cases r with
    | error e => exact (show False from h).elim
    | ok fl =>
      cases fl with
      | next => exact False.elim h
      | brk => exact False.elim h
      | cont => exact False.elim h
      | ret u =>
        obtain ⟨v, H', os, bare, un, hok', r', q⟩ := h
        obtain rfl : v = V.bl true := q
        obtain rfl : u = Value.bool true := r'
        have hm' : ∀ b ∈ TS, ∃ more, s'.heap.get? b = some { cls := .none, data := .fields more } := fun b hb => by
          obtain ⟨more, hm⟩ := un.tbls b #[] (hP b hb)
          have z := hok' b _ hm
          rw [Array.empty_append] at z
          exact ⟨more, z⟩
        have rest : ∀ b o, b ∉ TS → s.heap.get? b = some o → s'.heap.get? b = some o := fun b o n e => by
          rcases hO b n with z | ⟨z, _, ob, xs, hf⟩
          · exact un.keep b o e z (fun w => absurd (show b ∈ ([] : List Addr) from w) (by simp)) (by simp)
          · rw [z] at e ⊢
            have e1 := (hok a _ hf).1
            rw [e] at e1
            rw [Option.some.inj e1]
            exact (hok' a _ (un.frzs a ob _ hf)).1
        refine ⟨rfl, ⟨fun b o e => ?_, fun b o e => ?_⟩, os, bare⟩
        · by_cases z : b ∈ TS
          · obtain ⟨hT, _, c, hC⟩ := hTS b z
            obtain ⟨more, hm⟩ := hm' b z
            rw [hT] at e
            cases Option.some.inj e
            exact .inr (.inl ⟨(hC.tab hT).isCodeTable, rfl, #[], more, rfl, by rw [Array.empty_append]; exact hm⟩)
          · exact .inl (rest b o z e)
        · by_cases z : b ∈ TS
          · obtain ⟨more, hm⟩ := hm' b z
            exact ⟨_, hm⟩
          · exact ⟨o, rest b o z e⟩
  have rv := vals_ints hi
  have naTS : a ∉ TS := fun z => nPa a z rfl
  cases hk : K.lookup a with
  | some o =>
    have e := KX a o hk
    rw [ha] at e
    cases Option.some.inj e
    refine told (fun b => if b ∈ TS then some (.tbl #[]) else none) (fun b hb => if_pos hb) (fun b n => .inl (if_neg n)) (.inr ⟨_, vs.toArray, _, hk, rfl, rfl, rfl, by rw [List.size_toArray, hi.length]; exact hl, by simpa using rv⟩) fun b u z => ?_
    by_cases n : b ∈ TS
    · have z' : some (HO.tbl #[]) = some u := (if_pos n).symm.trans z
      cases z'
      exact (hTS b n).1
    · have z' : (none : Option HO) = some u := (if_neg n).symm.trans z
      cases z'
  | none =>
    refine told (fun b => if b ∈ TS then some (.tbl #[]) else if b = a then some (.frz { cls := .type "list", data := .seq vs.toArray } (.lst (ns.map V.int))) else none) (fun b hb => if_pos hb) (fun b n => ?_) (.inl (.inr ⟨_, (if_neg naTS).trans (if_pos rfl)⟩)) fun b u z => ?_
    · by_cases n2 : b = a
      · exact .inr ⟨n2, hk, _, _, (if_neg naTS).trans (if_pos rfl)⟩
      · exact .inl ((if_neg n).trans (if_neg n2))
    · by_cases n : b ∈ TS
      · have z' : some (HO.tbl #[]) = some u := (if_pos n).symm.trans z
        cases z'
        exact (hTS b n).1
      · by_cases n2 : b = a
        · have z' := ((if_neg n).trans (if_pos n2)).symm.trans z
          cases z'
          rw [n2]
          exact ⟨ha, by rw [List.length_map]; exact hl, vs, _, rv, ha⟩
        · have z' := ((if_neg n).trans (if_neg n2)).symm.trans z
          cases z'
end K1
namespace K1
open PySem PySem.Spec PyProof.Rows L2
abbrev T1 (Pn : Addr) : List (Addr × Str) := [(Pn, qNo)]
/-- what the top has left -/
structure Tp (K : PySem.W.Frag) (mg : Str → Option Value) (W N CW CH CR cn Pn fa fn : Addr) (fd fdn : FuncData) : Prop where
  B : Bt mg
  cw : Cw mg
  kn : Cn2 mg
  gc : Gc mg
  whole : ∃ f fd, Df K mg "is_whole" sWhole ["value"] f fd
  below : ∃ f fd, Df K mg "is_below" sBelow ["value", "limit"] f fd
  seq : ∃ f fd, Df K mg "is_sequence" sSeq ["value", "least", "most"] f fd
  fnb : ∃ f fd, Df K mg "first_not_below" sFnb ["items", "limit"] f fd
  pair : ∃ f fd, Df K mg "is_pair" sPair ["value", "houses"] f fd
  cties : ∃ f fd, Df K mg "checked_ties" sCTies ["houses", "ties"] f fd
  needH : ∃ f fd, Df K mg "need_house" sNeedH ["web", "house"] f fd
  ways : ∃ f fd, Df K mg "ways_on" sWays ["web", "house"] f fd
  fways : ∃ f fd, Df K mg "first_ways" sFWays ["web", "house", "barred"] f fd
  part : ∃ f fd, Df K mg "part_of" sPart ["web", "house"] f fd
  tiesIn : ∃ f fd, Df K mg "ties_in" sTiesIn ["web", "part"] f fd
  needM : ∃ f fd, Df K mg "need_modulus" sNeedM ["value"] f fd
  amt : ∃ f fd, Df K mg "is_amount" sAmt ["value"] f fd
  isCnt : ∃ f fd, Df K mg "is_counter" sIsCnt ["modulus", "value"] f fd
  cof : ∃ f fd, Df K mg "counters_of" sCOf ["modulus", "many", "value"] f fd
  cby : ∃ f fd, Df K mg "counted_by" sCBy ["modulus", "number"] f fd
  rest : ∃ f fd, Df K mg "is_rest" sIsRest ["net"] f fd
  alike : ∃ f fd, Df K mg "is_alike" sIsAlike ["web", "houses", "ties"] f fd
  numb : ∃ f fd, Df K mg "is_number" sIsNumber ["value"] f fd
  chk : ∃ f fd, Df K mg "check_total" sCheckTotal ["modulus", "rings", "total"] f fd
  rv : ∃ f fd, Df K mg "rest_values" sRestValues ["modulus", "rings", "total"] f fd
  wrs : ∃ f fd, Df K mg "whole_rests" sWholeRests ["times", "total"] f fd
  inv : ∃ f fd, Df K mg "inverse_by" sInverseBy ["number", "modulus"] f fd
  ar : ∃ f fd, Df K mg "are_right" sAreRight ["modulus", "rings", "total"] f fd
  box : ∃ f fd, Df K mg "_law_box" sLBox ["_law_script", "_law_k"] f fd
  take : ∃ f fd, Df K mg "_law_take" sLTake ["_law_box_here", "_law_many"] f fd
  pick : ∃ f fd, Df K mg "_law_pick" sLPick ["_law_box_here", "_law_some"] f fd
  heard : ∃ f fd, Df K mg "_law_heard" sLHeard ["_law_ask"] f fd
  small : ∃ f fd, Df K mg "_law_small_right" sLSmallRight ["_law_box_here", "_law_modulus", "_law_rings"] f fd
  plain : ∃ f fd, Df K mg "_law_plain_right" sLPlainRight ["_law_rings", "_law_total"] f fd
  common : ∃ f fd, Df K mg "_law_common" sLCommon ["_law_one", "_law_other"] f fd
  great : ∃ f fd, Df K mg "_law_great_right" sLGreatRight ["_law_modulus", "_law_rings", "_law_total"] f fd
  webR : ∃ f fd, Df K mg "_law_web_right" sLWebRight ["_law_box_here", "_law_modulus"] f fd
  noneR : FunC K "_law_none_right" "_law_none_right" sLNoneRight fn fdn (.ref cn)
  noneRD : Df K mg "_law_none_right" sLNoneRight ["_law_box_here"] fn fdn
  law : Fun K "law" "law" sLaw fa fd
  lawb : ∀ (s : Shared) (u : Value), BindsTo s fd ⟨[u], []⟩ [("_law_script", u)]
  initW : ∃ f fd, Fun K "__init__" "Web.__init__" sWInit f fd ∧ Mk K W f ∧ Binds K fd ["self", "houses", "ties"] []
  TW : WcT K mg W
  initN : ∃ f fd, Fun K "__init__" "CounterNet.__init__" sCInit f fd ∧ Mk K N f ∧ Binds K fd ["self", "web", "modulus", "states", "archives"] []
  m_N_book : ∃ f fd, Fun K "book" "CounterNet.book" sCBook f fd ∧ Meth K N "book" f ∧ Binds K fd ["self", "house"] []
  TN : NcT K mg N
  t1 : ∃ q b i, LAt.Txt K mg "BadWeb" q b CW i
  t2 : ∃ q b i, LHouse.Txt K mg "NoHouse" q b CH i
  t3 : ∃ q b i, LAt.Txt K mg "Refused" q b CR i
  ex : ∃ N, mg "NetError" = some (.ref N) ∧ Exm K CR N
  tabn : PySem.W.tabIn K "_law_none_right" = some (cn, Pn)
  nPn : K.lookup Pn = Option.none
section
variable {P : Program} {w : World} {K : PySem.W.Frag} {mg : Str → Option Value} {base : Heap}
theorem asm {W N CW CH CR cn Pn fa fn : Addr} {fd fdn : FuncData} (t : Tp K mg W N CW CH CR cn Pn fa fn fd fdn) (TBn : LamX.TabB base mg cn Pn) : FnG P w K mg base 10 fa fd ["_law_script"] (spLaw K (T1 Pn)) := by
  have B := t.B
  have cw := t.cw
  have kn := t.kn
  have gc := t.gc
  obtain ⟨_, _, dWhole⟩ := t.whole
  obtain ⟨_, _, dBelow⟩ := t.below
  obtain ⟨_, _, dSeq⟩ := t.seq
  obtain ⟨_, _, dFnb⟩ := t.fnb
  obtain ⟨_, _, dPair⟩ := t.pair
  obtain ⟨_, _, dCties⟩ := t.cties
  obtain ⟨_, _, dNeedH⟩ := t.needH
  obtain ⟨_, _, dWays⟩ := t.ways
  obtain ⟨_, _, dFways⟩ := t.fways
  obtain ⟨_, _, dPart⟩ := t.part
  obtain ⟨_, _, dTiesIn⟩ := t.tiesIn
  obtain ⟨_, _, dNeedM⟩ := t.needM
  obtain ⟨_, _, dAmt⟩ := t.amt
  obtain ⟨_, _, dIsCnt⟩ := t.isCnt
  obtain ⟨_, _, dCof⟩ := t.cof
  obtain ⟨_, _, dCby⟩ := t.cby
  obtain ⟨_, _, dRest⟩ := t.rest
  obtain ⟨_, _, dAlike⟩ := t.alike
  obtain ⟨_, _, dNumb⟩ := t.numb
  obtain ⟨_, _, dChk⟩ := t.chk
  obtain ⟨_, _, dRv⟩ := t.rv
  obtain ⟨_, _, dWrs⟩ := t.wrs
  obtain ⟨_, _, dInv⟩ := t.inv
  obtain ⟨_, _, dAr⟩ := t.ar
  obtain ⟨_, _, dBox⟩ := t.box
  obtain ⟨_, _, dTake⟩ := t.take
  obtain ⟨_, _, dPick⟩ := t.pick
  obtain ⟨_, _, dHeard⟩ := t.heard
  obtain ⟨_, _, dSmall⟩ := t.small
  obtain ⟨_, _, dPlain⟩ := t.plain
  obtain ⟨_, _, dCommon⟩ := t.common
  obtain ⟨_, _, dGreat⟩ := t.great
  obtain ⟨_, _, dWebR⟩ := t.webR
  have TW := t.TW
  obtain ⟨_, _, fiW, mkW, biW⟩ := t.initW
  have TN := t.TN
  obtain ⟨_, _, fiN, mkN, biN⟩ := t.initN
  obtain ⟨_, _, f_N_book, mt_N_book, b_N_book⟩ := t.m_N_book
  obtain ⟨_, _, _, x1⟩ := id t.t1
  obtain ⟨_, _, _, x2⟩ := id t.t2
  obtain ⟨_, _, _, x3⟩ := id t.t3
  have gWhole := ok_whole (P := P) (w := w) (base := base) dWhole B
  have gBelow := ok_below (P := P) (w := w) (base := base) dBelow dWhole B
  have gSeq := ok_seq (P := P) (w := w) (base := base) dSeq B
  have gFnb := ok_fnb (P := P) (w := w) (base := base) dFnb dBelow B gBelow
  have gPair := ok_pair (P := P) (w := w) (base := base) dPair dSeq dFnb gSeq gFnb
  have gCties := ok_cties (P := P) (w := w) (base := base) dCties dWhole dSeq dPair B cw x1 gWhole gSeq gPair
  have gWi := ok_winit (P := P) (w := w) (base := base) fiW dCties TW gCties
  have gNeedH := ok_needH (P := P) (w := w) (base := base) dNeedH dBelow TW x2 gBelow
  have gWays := ok_ways (P := P) (w := w) (base := base) dWays B TW
  have gFways := ok_fways (P := P) (w := w) (base := base) dFways dWays B gWays
  have gPart := ok_part (P := P) (w := w) (base := base) dPart dNeedH dFways B gNeedH gFways
  have gTiesIn := ok_tiesIn (P := P) (w := w) (base := base) dTiesIn B TW
  have gNeedM := ok_needM (P := P) (w := w) (base := base) dNeedM dBelow kn x3 gBelow
  have gAmt := ok_amt (P := P) (w := w) (base := base) dAmt dWhole kn gWhole
  have gIsCnt := ok_isCnt (P := P) (w := w) (base := base) dIsCnt dAmt dBelow gAmt gBelow
  have gCof := ok_cof (P := P) (w := w) (base := base) dCof dSeq dIsCnt B x3 gSeq gIsCnt
  have gCby := ok_cby (P := P) (w := w) (base := base) dCby
  have gCi := ok_cinit (P := P) (w := w) (base := base) fiN dNeedM dCof B TN TW gNeedM gCof
  have gBook := ok_cbook (P := P) (w := w) (base := base) f_N_book dPart dCby dTiesIn B TN gPart gCby gTiesIn
  have gAlike := ok_alike (P := P) (w := w) (base := base) dAlike B TW
  have gRest := ok_rest (P := P) (w := w) (base := base) dRest dAlike TN gAlike
  have gNumb := ok_numb (P := P) (w := w) (base := base) dNumb dWhole B
  have gChk := ok_chk (P := P) (w := w) (base := base) dChk dNeedM dNumb dWhole x3 gNeedM gNumb gWhole
  have gWrs := ok_wrs (P := P) (w := w) (base := base) dWrs
  have gInv := ok_inv (P := P) (w := w) (base := base) dInv
  have gRv := ok_rv (P := P) (w := w) (base := base) dRv dChk dWrs dInv B gc gChk gWrs gInv
  have gAr := ok_ar (P := P) (w := w) (base := base) dAr dRv dCby gRv gCby
  have gTake := ok_take (P := P) (w := w) (base := base) dTake B
  have gPick := ok_pick (P := P) (w := w) (base := base) dPick dTake B gTake
  have gBox := ok_box (P := P) (w := w) (base := base) dBox B
  have gCommon := ok_common (P := P) (w := w) (base := base) dCommon B
  have gGreat := ok_great (P := P) (w := w) (base := base) dGreat dCommon dRv dAr B gCommon gRv gAr
  have gPlain := ok_plain (P := P) (w := w) (base := base) dPlain dRv dAr B gRv gAr
  have gSmall := ok_small (P := P) (w := w) (base := base) dSmall dTake dRv dAr B gTake gRv gAr
  have wd : Wd P w K mg base N W CH CR := ⟨B, TN, TW, ⟨_, _, dTake, gTake⟩, ⟨_, _, mkW, biW, gWi⟩, ⟨_, _, mkN, biN, gCi⟩, ⟨_, _, mt_N_book, b_N_book, gBook⟩, ⟨_, _, dRest, gRest⟩, ⟨_, _, dRv, gRv⟩⟩
  have gWeb := ok_web (P := P) (w := w) (base := base) dWebR wd
  have hd : Hd K mg base CR := ⟨B, t.heard, t.t3, t.ex⟩
  have gNone := ok_none (T := T1 Pn) t.noneR TBn List.mem_cons_self (fun p hp _ => by rw [List.mem_singleton.mp hp]) dPick B hd dRv dAr gPick gRv gAr
  exact ok_law t.law (⟨B, ⟨_, _, dBox, gBox⟩, ⟨_, _, dTake, gTake⟩, ⟨_, _, dPick, gPick⟩, ⟨_, _, dSmall, gSmall⟩, ⟨_, _, dPlain, gPlain⟩, ⟨_, _, dGreat, gGreat⟩, ⟨_, _, dWebR, gWeb⟩, ⟨_, _, t.noneRD, gNone⟩⟩ : Dn P w K mg base (T1 Pn))
end
/-- the end: from what the top has left -/
theorem walkK {l : PySem.W.OpenLaw} {q : Program} {loose : List Str} {XP : (Str → Option Value) → Heap → Prop} {YP : World → Heap → Prop} {d : DefRec} {K : Params → PySem.W.Frag} (hn : l.most = some 63) (hdf : d.params.defaults = []) (hY : ∀ (w : World) (h : Heap), YP w h → (K w.params).In h)
    (hrn : ∃ d', (recsOf q).find? (fun e => e.name == ("_law_none_right" : Str)) = some d')
    (F : ∀ (w : World) (mg : Str → Option Value) (fa : Addr) (h : Heap), (K w.params).In h → h.Ns mainGlobals mg → mg d.name = some (.ref fa) → ∃ (W N CW CH CR cn Pn fn : Addr) (fd fdn : FuncData), Tp (K w.params) mg W N CW CH CR cn Pn fa fn fd fdn) :
    PySem.W.WalkO q loose XP YP l.row.toRowW d [] (fun f vs => PySem.call f vs) := by
  refine Att.attach_callB hn hdf fun w s₀ s₁ mg mb fa o pm cd doc a vs ns G Y ho hd hcd hmg hobj hints hlen hbits hg => ?_
  have KX := hY w _ Y
  obtain ⟨W, N, CW, CH, CR, cn, Pn, fn, fd, fdn, t⟩ := F w mg fa _ KX G.T.g hmg
  obtain ⟨d_hrn, hrn⟩ := hrn
  obtain ⟨Chrn, Thrn⟩ := PySem.W.tab_of G.T KX hrn t.tabn
  exact call_laws (k := 10) [(cn, Pn)] (x := "_law_script") (sp := spLaw (K w.params) (T1 Pn)) KX G.T.g G.T.b G.T.builtins G.T.nolimit hg (fun p hp => by
      simp only [List.mem_cons, List.mem_nil_iff, or_false] at hp
      rcases hp with rfl
      · exact ⟨Thrn, t.nPn, Chrn⟩) G.T.bmain hobj hints (Nat.le_trans hlen (by decide)) ⟨rfl, by decide, by decide⟩ (fun base _ _ TB => asm t (TB _ List.mem_cons_self)) t.lawb
    fun H hP hS => ⟨a, ns, rfl, hS, hlen, fun p hp => by
      simp only [List.mem_cons, List.mem_nil_iff, or_false] at hp
      rcases hp with rfl
      · exact .nil (hP _ List.mem_cons_self), fun _ => rfl⟩
end K1
namespace K1
open PySem PySem.Spec PyProof.Rows L2
section
variable {K : PySem.W.Frag} {h : Heap} {mg : Str → Option Value} {x qual : Str} {st : Stmt} {ps : List Str} {f C : Addr} {oc kV doc pm cdv ct : Value} {od an : Option Addr} {osl : Array (Option Value)}
theorem df_of (X : K.In h) (G : h.Ns mainGlobals mg) (a : PySem.W.nsIn K mainGlobals x = some (some (.ref f))) (l : K.lookup f = some ⟨oc, od, .func (PySem.W.fnOf x x (defArgs st) (defBody st) (defScope st) .none kV doc pm an cdv ct), osl⟩)
    (c : PySem.W.codeIn K cdv x = true) (k : PySem.W.keepIn K (.ref f) = true)
    (b : ∀ (kV doc pm : Value) (an : Option Addr) (cdv ct : Value) (us : List Value), us.length = ps.length → bindArgs (PySem.W.fnOf x x (defArgs st) (defBody st) (defScope st) .none kV doc pm an cdv ct) ⟨us, []⟩ = pure (ps.zip us)) : ∃ f fd, Df K mg x st ps f fd :=
  ⟨f, _, ⟨fun_mk l c k, PySem.W.mg_of X G a, (fun_mk l c k).binds b⟩⟩
theorem dfc_of {cc : Addr} (X : K.In h) (G : h.Ns mainGlobals mg) (a : PySem.W.nsIn K mainGlobals x = some (some (.ref f))) (l : K.lookup f = some ⟨oc, od, .func (PySem.W.fnOf x x (defArgs st) (defBody st) (defScope st) .none kV doc pm an (.ref cc) ct), osl⟩)
    (c : PySem.W.codeIn K (.ref cc) x = true) (k : PySem.W.keepIn K (.ref f) = true)
    (b : ∀ (kV doc pm : Value) (an : Option Addr) (cdv ct : Value) (us : List Value), us.length = ps.length → bindArgs (PySem.W.fnOf x x (defArgs st) (defBody st) (defScope st) .none kV doc pm an cdv ct) ⟨us, []⟩ = pure (ps.zip us)) : ∃ f fd, Df K mg x st ps f fd ∧ FunC K x x st f fd (.ref cc) :=
  ⟨f, _, ⟨fun_mk l c k, PySem.W.mg_of X G a, (fun_mk l c k).binds b⟩, ⟨oc, od, kV, doc, pm, an, ct, osl, rfl, l, c⟩, k⟩
theorem law_of {fa cc : Addr} (X : K.In h) (G : h.Ns mainGlobals mg) (e : mg "law" = some (.ref fa)) (a : PySem.W.nsIn K mainGlobals "law" = some (some (.ref f))) (l : K.lookup f = some ⟨oc, od, .func (PySem.W.fnOf "law" "law" (defArgs sLaw) (defBody sLaw) (defScope sLaw) .none kV doc pm an (.ref cc) ct), osl⟩)
    (c : PySem.W.codeIn K (.ref cc) "law" = true) (k : PySem.W.keepIn K (.ref f) = true) : ∃ fd, FunC K "law" "law" sLaw fa fd (.ref cc) ∧ ∀ (s : Shared) (u : Value), BindsTo s fd ⟨[u], []⟩ [("_law_script", u)] := by
  have z := e.symm.trans (PySem.W.mg_of X G a)
  cases Option.some.inj z
  exact ⟨_, ⟨⟨oc, od, kV, doc, pm, an, ct, osl, rfl, l, c⟩, k⟩, fun s u => .of_eq rfl⟩
theorem lawF_of {fa : Addr} (X : K.In h) (G : h.Ns mainGlobals mg) (e : mg "law" = some (.ref fa)) (a : PySem.W.nsIn K mainGlobals "law" = some (some (.ref f))) (l : K.lookup f = some ⟨oc, od, .func (PySem.W.fnOf "law" "law" (defArgs sLaw) (defBody sLaw) (defScope sLaw) .none kV doc pm an cdv ct), osl⟩)
    (c : PySem.W.codeIn K cdv "law" = true) (k : PySem.W.keepIn K (.ref f) = true) : ∃ fd, Fun K "law" "law" sLaw fa fd ∧ ∀ (s : Shared) (u : Value), BindsTo s fd ⟨[u], []⟩ [("_law_script", u)] := by
  have z := e.symm.trans (PySem.W.mg_of X G a)
  cases Option.some.inj z
  exact ⟨_, fun_mk l c k, fun s u => .of_eq rfl⟩
theorem init_W {M : Addr} (a : PySem.W.findIn K (.ref M) "__init__" = some (some (.ref f))) (i : PySem.W.isFn K (.ref f) = true) (m : PySem.W.makesIn K M = true) (kM : PySem.W.keepIn K (.ref M) = true)
    (l : K.lookup f = some ⟨oc, od, .func (PySem.W.fnOf "__init__" "Web.__init__" (defArgs sWInit) (defBody sWInit) (defScope sWInit) .none kV doc pm an cdv ct), osl⟩) (c : PySem.W.codeIn K cdv "Web.__init__" = true) (k : PySem.W.keepIn K (.ref f) = true) :
    ∃ f fd, Fun K "__init__" "Web.__init__" sWInit f fd ∧ Mk K M f ∧ Binds K fd ["self", "houses", "ties"] [] :=
  ⟨f, _, fun_mk l c k, ⟨m, a, i, kM⟩, (fun_mk l c k).binds fun _ _ _ _ _ _ us hl => match us, hl with | [_, _, _], _ => rfl⟩
theorem init_N {M : Addr} (a : PySem.W.findIn K (.ref M) "__init__" = some (some (.ref f))) (i : PySem.W.isFn K (.ref f) = true) (m : PySem.W.makesIn K M = true) (kM : PySem.W.keepIn K (.ref M) = true)
    (l : K.lookup f = some ⟨oc, od, .func (PySem.W.fnOf "__init__" "CounterNet.__init__" (defArgs sCInit) (defBody sCInit) (defScope sCInit) .none kV doc pm an cdv ct), osl⟩) (c : PySem.W.codeIn K cdv "CounterNet.__init__" = true) (k : PySem.W.keepIn K (.ref f) = true) :
    ∃ f fd, Fun K "__init__" "CounterNet.__init__" sCInit f fd ∧ Mk K M f ∧ Binds K fd ["self", "web", "modulus", "states", "archives"] [] :=
  ⟨f, _, fun_mk l c k, ⟨m, a, i, kM⟩, (fun_mk l c k).binds fun _ _ _ _ _ _ us hl => match us, hl with | [_, _, _, _, _], _ => rfl⟩
theorem meth_N_book {M : Addr} (a : PySem.W.findIn K (.ref M) "book" = some (some (.ref f))) (i : PySem.W.isFn K (.ref f) = true)
    (l : K.lookup f = some ⟨oc, od, .func (PySem.W.fnOf "book" "CounterNet.book" (defArgs sCBook) (defBody sCBook) (defScope sCBook) .none kV doc pm an cdv ct), osl⟩) (c : PySem.W.codeIn K cdv "CounterNet.book" = true) (k : PySem.W.keepIn K (.ref f) = true) :
    ∃ f fd, Fun K "book" "CounterNet.book" sCBook f fd ∧ Meth K M "book" f ∧ Binds K fd ["self", "house"] [] :=
  ⟨f, _, fun_mk l c k, ⟨a, i, k⟩, (fun_mk l c k).binds fun _ _ _ _ _ _ us hl => match us, hl with | [_, _], _ => rfl⟩
end
section
variable {K : PySem.W.Frag} {h : Heap} {mg : Str → Option Value} {cn ql nm q : Str} {C N0 N fI : Addr} {bs sub : List Value} {sn : List Str} {ab : Bool} {col : Option Bool} {dd : Option Addr} {k0 k1 k2 k3 k5 : Option Value} {oc doc pm cdv ct : Value} {od an : Option Addr} {osl : Array (Option Value)} {p1 p2 q1 q2 q3 q4 : Pos}
theorem LAt_of_ (X : K.In h) (G : h.Ns mainGlobals mg) (a : PySem.W.nsIn K mainGlobals cn = some (some (.ref C))) (xl : K.lookup C = some (excClassObj nm q C N bs (.ref N0 :: veT) true sn sub ab col dd k0 k1 k2 k3 k5 "ValueError.__new__"))
    (sa : PySem.W.findIn K (.ref C) "__setattr__" = some (some (.builtin "object.__setattr__"))) (ga : PySem.W.findIn K (.ref C) "__getattribute__" = some (some (.builtin "BaseException.__getattribute__"))) (gg : PySem.W.findIn K (.ref C) "__getattr__" = some none) (no : PySem.W.findIn K (.ref C) "at" = some none)
    (ic : PySem.W.findIn K (.ref C) "__init__" = some (some (.ref fI))) (tc : PySem.W.typeIn K (.ref fI) = some (.type "function")) (kc : PySem.W.keepIn K (.ref C) = true) (ec : PySem.W.subIn K (.ref C) (.type "BaseException") = some true) (ty : PySem.W.typeIn K (.ref C) = some (.type "type")) (hc : PySem.W.hasDictIn K C = true)
    (l : K.lookup fI = some ⟨oc, od, .func (PySem.W.fnOf "__init__" ql (LAt.iA p1 p2) (LAt.iB q1 q2 q3 q4) LAt.iS .none .none doc pm an cdv ct), osl⟩) (c : PySem.W.codeIn K cdv ql = true) : ∃ q b i, LAt.Txt K mg cn q b C i :=
  ⟨ql, _, fI, ⟨PySem.W.mg_of X G a, ⟨nm, q, N, bs, sn, sub, ab, col, dd, k0, k1, k2, k3, k5, xl⟩, mro_ve N0, sa, ga, gg, no, ic, tc, kc, ec, ty, hc, ⟨oc, od, doc, pm, an, cdv, ct, osl, p1, p2, q1, q2, q3, q4, l, c⟩⟩⟩
theorem LHouse_of_ (X : K.In h) (G : h.Ns mainGlobals mg) (a : PySem.W.nsIn K mainGlobals cn = some (some (.ref C))) (xl : K.lookup C = some (excClassObj nm q C N bs keT true sn sub ab col dd k0 k1 k2 k3 k5 "LookupError.__new__"))
    (sa : PySem.W.findIn K (.ref C) "__setattr__" = some (some (.builtin "object.__setattr__"))) (ga : PySem.W.findIn K (.ref C) "__getattribute__" = some (some (.builtin "BaseException.__getattribute__"))) (gg : PySem.W.findIn K (.ref C) "__getattr__" = some none) (no : PySem.W.findIn K (.ref C) "house" = some none)
    (ic : PySem.W.findIn K (.ref C) "__init__" = some (some (.ref fI))) (tc : PySem.W.typeIn K (.ref fI) = some (.type "function")) (kc : PySem.W.keepIn K (.ref C) = true) (ec : PySem.W.subIn K (.ref C) (.type "BaseException") = some true) (ty : PySem.W.typeIn K (.ref C) = some (.type "type")) (hc : PySem.W.hasDictIn K C = true)
    (l : K.lookup fI = some ⟨oc, od, .func (PySem.W.fnOf "__init__" ql (LHouse.iA p1 p2) (LHouse.iB q1 q2 q3 q4) LHouse.iS .none .none doc pm an cdv ct), osl⟩) (c : PySem.W.codeIn K cdv ql = true) : ∃ q b i, LHouse.Txt K mg cn q b C i :=
  ⟨ql, _, fI, ⟨PySem.W.mg_of X G a, ⟨nm, q, N, bs, sn, sub, ab, col, dd, k0, k1, k2, k3, k5, xl⟩, mro_ke, sa, ga, gg, no, ic, tc, kc, ec, ty, hc, ⟨oc, od, doc, pm, an, cdv, ct, osl, p1, p2, q1, q2, q3, q4, l, c⟩⟩⟩
end
theorem cw_of {K : PySem.W.Frag} {h : Heap} {mg : Str → Option Value} {t0 t1 : Tok} (X : K.In h) (G : h.Ns mainGlobals mg) (a0 : PySem.W.nsIn K mainGlobals "MOST_HOUSES" = some (some (.int 12 t0))) (a1 : PySem.W.nsIn K mainGlobals "MOST_TIES" = some (some (.int 20 t1))) : Cw mg :=
  ⟨⟨_, PySem.W.mg_of X G a0⟩, ⟨_, PySem.W.mg_of X G a1⟩⟩
theorem kn_of {K : PySem.W.Frag} {h : Heap} {mg : Str → Option Value} {t0 t1 : Tok} (X : K.In h) (G : h.Ns mainGlobals mg) (a0 : PySem.W.nsIn K mainGlobals "MOST_MODULUS" = some (some (.int 1000000 t0))) (a1 : PySem.W.nsIn K mainGlobals "MOST_NUMBER" = some (some (.int 1000000000000000000 t1))) : Cn2 mg :=
  ⟨⟨_, PySem.W.mg_of X G a0⟩, ⟨_, PySem.W.mg_of X G a1⟩⟩
theorem gc_of {K : PySem.W.Frag} {h : Heap} {mg : Str → Option Value} (X : K.In h) (G : h.Ns mainGlobals mg) (a0 : PySem.W.nsIn K mainGlobals "gcd" = some (some (.builtin "math.gcd"))) : Gc mg :=
  ⟨PySem.W.mg_of X G a0⟩
theorem bt_of {K : PySem.W.Frag} {h : Heap} {mg : Str → Option Value} (X : K.In h) (G : h.Ns mainGlobals mg) (z : ∀ x ∈ ([("isinstance" : Str), "int", "bool", "list", "tuple", "len", "enumerate", "range", "sorted", "set", "repr", "abs", "min", "max", "sum", "all", "any", "zip", "str", "dict", "KeyError"]), PySem.W.nsIn K mainGlobals x = some none) : Bt mg := by
  have n := fun x hx => PySem.W.mg_none_of X G (z x hx)
  exact ⟨n _ (by decide), n _ (by decide), n _ (by decide), n _ (by decide), n _ (by decide), n _ (by decide), n _ (by decide), n _ (by decide), n _ (by decide), n _ (by decide), n _ (by decide), n _ (by decide), n _ (by decide), n _ (by decide), n _ (by decide), n _ (by decide), n _ (by decide), n _ (by decide), n _ (by decide), n _ (by decide), n _ (by decide)⟩
theorem tab_mk {K : PySem.W.Frag} {x : Str} {f c Pt : Addr} {oc o1 : Value} {od o2 : Option Addr} {fd : FuncData} {osl o4 : Array (Option Value)} {vs : Array Value} (a : PySem.W.nsIn K mainGlobals x = some (some (.ref f))) (l : K.lookup f = some ⟨oc, od, .func fd, osl⟩) (hc : fd.code = .ref c)
    (lc : K.lookup c = some ⟨o1, o2, .fields vs, o4⟩) (hv : (vs[11]? : Option Value) = some (.ref Pt)) : PySem.W.tabIn K x = some (c, Pt) := by
  unfold PySem.W.tabIn
  rw [a]
  dsimp only
  rw [l]
  dsimp only
  rw [hc]
  dsimp only
  rw [lc]
  dsimp only
  rw [hv]
/-- the facts of the head, by the words that k_is answers -/
theorem tp_of {K : PySem.W.Frag} {h : Heap} {mg : Str → Option Value} {fa fN W N CW CH CR NErr : Addr} {oc kV doc pm ct cdv : Value} {od an : Option Addr} {osl : Array (Option Value)}  {cn Pn fNn : Addr} {ocn kVn docn pmn ctn o1n : Value} {odn ann o2n : Option Addr} {osln o4n : Array (Option Value)} {vsn : Array Value} (X : K.In h) (G : h.Ns mainGlobals mg)
    (B : Bt mg) (cw : Cw mg) (kn : Cn2 mg) (gc : Gc mg)
    (whole : ∃ f fd, Df K mg "is_whole" sWhole ["value"] f fd)
    (below : ∃ f fd, Df K mg "is_below" sBelow ["value", "limit"] f fd)
    (seq : ∃ f fd, Df K mg "is_sequence" sSeq ["value", "least", "most"] f fd)
    (fnb : ∃ f fd, Df K mg "first_not_below" sFnb ["items", "limit"] f fd)
    (pair : ∃ f fd, Df K mg "is_pair" sPair ["value", "houses"] f fd)
    (cties : ∃ f fd, Df K mg "checked_ties" sCTies ["houses", "ties"] f fd)
    (needH : ∃ f fd, Df K mg "need_house" sNeedH ["web", "house"] f fd)
    (ways : ∃ f fd, Df K mg "ways_on" sWays ["web", "house"] f fd)
    (fways : ∃ f fd, Df K mg "first_ways" sFWays ["web", "house", "barred"] f fd)
    (part : ∃ f fd, Df K mg "part_of" sPart ["web", "house"] f fd)
    (tiesIn : ∃ f fd, Df K mg "ties_in" sTiesIn ["web", "part"] f fd)
    (needM : ∃ f fd, Df K mg "need_modulus" sNeedM ["value"] f fd)
    (amt : ∃ f fd, Df K mg "is_amount" sAmt ["value"] f fd)
    (isCnt : ∃ f fd, Df K mg "is_counter" sIsCnt ["modulus", "value"] f fd)
    (cof : ∃ f fd, Df K mg "counters_of" sCOf ["modulus", "many", "value"] f fd)
    (cby : ∃ f fd, Df K mg "counted_by" sCBy ["modulus", "number"] f fd)
    (rest : ∃ f fd, Df K mg "is_rest" sIsRest ["net"] f fd)
    (alike : ∃ f fd, Df K mg "is_alike" sIsAlike ["web", "houses", "ties"] f fd)
    (numb : ∃ f fd, Df K mg "is_number" sIsNumber ["value"] f fd)
    (chk : ∃ f fd, Df K mg "check_total" sCheckTotal ["modulus", "rings", "total"] f fd)
    (rv : ∃ f fd, Df K mg "rest_values" sRestValues ["modulus", "rings", "total"] f fd)
    (wrs : ∃ f fd, Df K mg "whole_rests" sWholeRests ["times", "total"] f fd)
    (inv : ∃ f fd, Df K mg "inverse_by" sInverseBy ["number", "modulus"] f fd)
    (ar : ∃ f fd, Df K mg "are_right" sAreRight ["modulus", "rings", "total"] f fd)
    (box : ∃ f fd, Df K mg "_law_box" sLBox ["_law_script", "_law_k"] f fd)
    (take : ∃ f fd, Df K mg "_law_take" sLTake ["_law_box_here", "_law_many"] f fd)
    (pick : ∃ f fd, Df K mg "_law_pick" sLPick ["_law_box_here", "_law_some"] f fd)
    (heard : ∃ f fd, Df K mg "_law_heard" sLHeard ["_law_ask"] f fd)
    (small : ∃ f fd, Df K mg "_law_small_right" sLSmallRight ["_law_box_here", "_law_modulus", "_law_rings"] f fd)
    (plain : ∃ f fd, Df K mg "_law_plain_right" sLPlainRight ["_law_rings", "_law_total"] f fd)
    (common : ∃ f fd, Df K mg "_law_common" sLCommon ["_law_one", "_law_other"] f fd)
    (great : ∃ f fd, Df K mg "_law_great_right" sLGreatRight ["_law_modulus", "_law_rings", "_law_total"] f fd)
    (webR : ∃ f fd, Df K mg "_law_web_right" sLWebRight ["_law_box_here", "_law_modulus"] f fd)
    (eL : mg "law" = some (.ref fa)) (aN : PySem.W.nsIn K mainGlobals "law" = some (some (.ref fN))) (lN : K.lookup fN = some ⟨oc, od, .func (PySem.W.fnOf "law" "law" (defArgs sLaw) (defBody sLaw) (defScope sLaw) .none kV doc pm an cdv ct), osl⟩)
    (cN : PySem.W.codeIn K cdv "law" = true) (kN : PySem.W.keepIn K (.ref fN) = true)
    (aNn : PySem.W.nsIn K mainGlobals "_law_none_right" = some (some (.ref fNn))) (lNn : K.lookup fNn = some ⟨ocn, odn, .func (PySem.W.fnOf "_law_none_right" "_law_none_right" (defArgs sLNoneRight) (defBody sLNoneRight) (defScope sLNoneRight) .none kVn docn pmn ann (.ref cn) ctn), osln⟩)
    (cNn : PySem.W.codeIn K (.ref cn) "_law_none_right" = true) (kNn : PySem.W.keepIn K (.ref fNn) = true) (lcn : K.lookup cn = some ⟨o1n, o2n, .fields vsn, o4n⟩) (hvn : (vsn[11]? : Option Value) = some (.ref Pn)) (nPn : K.lookup Pn = Option.none)
    (ac_W : PySem.W.nsIn K mainGlobals "Web" = some (some (.ref W))) (pgW : PySem.W.plainGet K W Str.empty = true) (hdW : PySem.W.hasDictIn K W = true) (poW : PySem.W.plainOver K W = true) (saW : PySem.W.findIn K (.ref W) "__setattr__" = some (some (.builtin "object.__setattr__"))) (nW0 : PySem.W.findIn K (.ref W) "ties" = some Option.none) (nW1 : PySem.W.findIn K (.ref W) "houses" = some Option.none)
    (initW : ∃ f fd, Fun K "__init__" "Web.__init__" sWInit f fd ∧ Mk K W f ∧ Binds K fd ["self", "houses", "ties"] [])
    (ac_N : PySem.W.nsIn K mainGlobals "CounterNet" = some (some (.ref N))) (pgN : PySem.W.plainGet K N Str.empty = true) (hdN : PySem.W.hasDictIn K N = true) (poN : PySem.W.plainOver K N = true) (saN : PySem.W.findIn K (.ref N) "__setattr__" = some (some (.builtin "object.__setattr__"))) (nN0 : PySem.W.findIn K (.ref N) "modulus" = some Option.none) (nN1 : PySem.W.findIn K (.ref N) "states" = some Option.none) (nN2 : PySem.W.findIn K (.ref N) "archives" = some Option.none) (nN3 : PySem.W.findIn K (.ref N) "web" = some Option.none)
    (initN : ∃ f fd, Fun K "__init__" "CounterNet.__init__" sCInit f fd ∧ Mk K N f ∧ Binds K fd ["self", "web", "modulus", "states", "archives"] [])
    (m_N_book : ∃ f fd, Fun K "book" "CounterNet.book" sCBook f fd ∧ Meth K N "book" f ∧ Binds K fd ["self", "house"] [])
    (t1 : ∃ q b i, LAt.Txt K mg "BadWeb" q b CW i)
    (t2 : ∃ q b i, LHouse.Txt K mg "NoHouse" q b CH i)
    (t3 : ∃ q b i, LAt.Txt K mg "Refused" q b CR i)
    (aNE : PySem.W.nsIn K mainGlobals "NetError" = some (some (.ref NErr))) (ex : Exm K CR NErr)
    : ∃ (W N CW CH CR cn Pn fn : Addr) (fd fdn : FuncData), Tp K mg W N CW CH CR cn Pn fa fn fd fdn := by
  obtain ⟨fd, l1, l2⟩ := lawF_of X G eL aN lN cN kN
  obtain ⟨fn, fdn, dn, ln⟩ := dfc_of (ps := ["_law_box_here"]) X G aNn lNn cNn kNn fun _ _ _ _ _ _ us hl => match us, hl with | [_], _ => rfl
  exact ⟨W, N, CW, CH, CR, cn, Pn, fn, fd, fdn, ⟨B, cw, kn, gc, whole, below, seq, fnb, pair, cties, needH, ways, fways, part, tiesIn, needM, amt, isCnt, cof, cby, rest, alike, numb, chk, rv, wrs, inv, ar, box, take, pick, heard, small, plain, common, great, webR, ln, dn, l1, l2, initW, ⟨⟨pgW, hdW, poW, saW⟩, nW0, nW1, PySem.W.mg_of X G ac_W⟩, initN, m_N_book, ⟨⟨pgN, hdN, poN, saN⟩, nN0, nN1, nN2, nN3, PySem.W.mg_of X G ac_N⟩, t1, t2, t3, ⟨NErr, PySem.W.mg_of X G aNE, ex⟩, tab_mk aNn lNn rfl lcn hvn, nPn⟩⟩
end K1
open PySem PySem.W PyProof.Rows
set_option maxRecDepth 100000 in
set_option maxHeartbeats 0 in
theorem PySem.Challenge.cw_houseslessties_k29_whole_at_which_number_holds : PySem.Challenge.rw_houseslessties_k29_whole_at_which_number.Holds := by
  w_on; o_law; k_head; (case hw => w_witness2)
  k_fill
  refine K1.walkK (l := PySem.Challenge.rw_houseslessties_k29_whole_at_which_number) rfl rfl (fun w h Y => PySem.W.km_in_of Y) ?hrn ?F
  case hrn => exact ⟨_, rfl⟩
  case F =>
    intro w mg fa h KX G hmg
    refine' K1.tp_of KX G ?B ?cw ?kn ?gc ?zwhole ?zbelow ?zseq ?zfnb ?zpair ?zcties ?zneedH ?zways ?zfways ?zpart ?ztiesIn ?zneedM ?zamt ?zisCnt ?zcof ?zcby ?zrest ?zalike ?znumb ?zchk ?zrv ?zwrs ?zinv ?zar ?zbox ?ztake ?zpick ?zheard ?zsmall ?zplain ?zcommon ?zgreat ?zwebR hmg ?aN ?lN ?cN ?kN ?aNn ?lNn ?cNn ?kNn ?lcn ?hvn ?nPn ?ac_W ?pgW ?hdW ?poW ?saW ?nW0 ?nW1 ?initW ?ac_N ?pgN ?hdN ?poN ?saN ?nN0 ?nN1 ?nN2 ?nN3 ?initN ?m_N_book ?t1 ?t2 ?t3 ?aNE ?ex
    case B =>
      refine K1.bt_of KX G fun x hx => ?_
      simp only [List.mem_cons, List.mem_nil_iff, or_false] at hx
      rcases hx with rfl | rfl | rfl | rfl | rfl | rfl | rfl | rfl | rfl | rfl | rfl | rfl | rfl | rfl | rfl | rfl | rfl | rfl | rfl | rfl | rfl <;> k_is
    case cw => refine' K1.cw_of KX G ?acw0 ?acw1; (case acw0 => k_is); (case acw1 => k_is)
    case kn => refine' K1.kn_of KX G ?akn0 ?akn1; (case akn0 => k_is); (case akn1 => k_is)
    case gc => refine' K1.gc_of KX G ?agc0; (case agc0 => k_is)
    case zwhole =>
      (refine' K1.df_of (by assumption) (by assumption) ?a_0 ?l_0 ?c_0 ?k_0 ?b_0; (case a_0 => k_is); (case l_0 => k_is); (case c_0 => k_is); (case k_0 => k_is))
      case b_0 => exact fun _ _ _ _ _ _ us hl => match us, hl with | [_], _ => rfl
    case zbelow =>
      (refine' K1.df_of (by assumption) (by assumption) ?a_1 ?l_1 ?c_1 ?k_1 ?b_1; (case a_1 => k_is); (case l_1 => k_is); (case c_1 => k_is); (case k_1 => k_is))
      case b_1 => exact fun _ _ _ _ _ _ us hl => match us, hl with | [_, _], _ => rfl
    case zseq =>
      (refine' K1.df_of (by assumption) (by assumption) ?a_2 ?l_2 ?c_2 ?k_2 ?b_2; (case a_2 => k_is); (case l_2 => k_is); (case c_2 => k_is); (case k_2 => k_is))
      case b_2 => exact fun _ _ _ _ _ _ us hl => match us, hl with | [_, _, _], _ => rfl
    case zfnb =>
      (refine' K1.df_of (by assumption) (by assumption) ?a_3 ?l_3 ?c_3 ?k_3 ?b_3; (case a_3 => k_is); (case l_3 => k_is); (case c_3 => k_is); (case k_3 => k_is))
      case b_3 => exact fun _ _ _ _ _ _ us hl => match us, hl with | [_, _], _ => rfl
    case zpair =>
      (refine' K1.df_of (by assumption) (by assumption) ?a_4 ?l_4 ?c_4 ?k_4 ?b_4; (case a_4 => k_is); (case l_4 => k_is); (case c_4 => k_is); (case k_4 => k_is))
      case b_4 => exact fun _ _ _ _ _ _ us hl => match us, hl with | [_, _], _ => rfl
    case zcties =>
      (refine' K1.df_of (by assumption) (by assumption) ?a_5 ?l_5 ?c_5 ?k_5 ?b_5; (case a_5 => k_is); (case l_5 => k_is); (case c_5 => k_is); (case k_5 => k_is))
      case b_5 => exact fun _ _ _ _ _ _ us hl => match us, hl with | [_, _], _ => rfl
    case zneedH =>
      (refine' K1.df_of (by assumption) (by assumption) ?a_6 ?l_6 ?c_6 ?k_6 ?b_6; (case a_6 => k_is); (case l_6 => k_is); (case c_6 => k_is); (case k_6 => k_is))
      case b_6 => exact fun _ _ _ _ _ _ us hl => match us, hl with | [_, _], _ => rfl
    case zways =>
      (refine' K1.df_of (by assumption) (by assumption) ?a_7 ?l_7 ?c_7 ?k_7 ?b_7; (case a_7 => k_is); (case l_7 => k_is); (case c_7 => k_is); (case k_7 => k_is))
      case b_7 => exact fun _ _ _ _ _ _ us hl => match us, hl with | [_, _], _ => rfl
    case zfways =>
      (refine' K1.df_of (by assumption) (by assumption) ?a_8 ?l_8 ?c_8 ?k_8 ?b_8; (case a_8 => k_is); (case l_8 => k_is); (case c_8 => k_is); (case k_8 => k_is))
      case b_8 => exact fun _ _ _ _ _ _ us hl => match us, hl with | [_, _, _], _ => rfl
    case zpart =>
      (refine' K1.df_of (by assumption) (by assumption) ?a_9 ?l_9 ?c_9 ?k_9 ?b_9; (case a_9 => k_is); (case l_9 => k_is); (case c_9 => k_is); (case k_9 => k_is))
      case b_9 => exact fun _ _ _ _ _ _ us hl => match us, hl with | [_, _], _ => rfl
    case ztiesIn =>
      (refine' K1.df_of (by assumption) (by assumption) ?a_10 ?l_10 ?c_10 ?k_10 ?b_10; (case a_10 => k_is); (case l_10 => k_is); (case c_10 => k_is); (case k_10 => k_is))
      case b_10 => exact fun _ _ _ _ _ _ us hl => match us, hl with | [_, _], _ => rfl
    case zneedM =>
      (refine' K1.df_of (by assumption) (by assumption) ?a_11 ?l_11 ?c_11 ?k_11 ?b_11; (case a_11 => k_is); (case l_11 => k_is); (case c_11 => k_is); (case k_11 => k_is))
      case b_11 => exact fun _ _ _ _ _ _ us hl => match us, hl with | [_], _ => rfl
    case zamt =>
      (refine' K1.df_of (by assumption) (by assumption) ?a_12 ?l_12 ?c_12 ?k_12 ?b_12; (case a_12 => k_is); (case l_12 => k_is); (case c_12 => k_is); (case k_12 => k_is))
      case b_12 => exact fun _ _ _ _ _ _ us hl => match us, hl with | [_], _ => rfl
    case zisCnt =>
      (refine' K1.df_of (by assumption) (by assumption) ?a_13 ?l_13 ?c_13 ?k_13 ?b_13; (case a_13 => k_is); (case l_13 => k_is); (case c_13 => k_is); (case k_13 => k_is))
      case b_13 => exact fun _ _ _ _ _ _ us hl => match us, hl with | [_, _], _ => rfl
    case zcof =>
      (refine' K1.df_of (by assumption) (by assumption) ?a_14 ?l_14 ?c_14 ?k_14 ?b_14; (case a_14 => k_is); (case l_14 => k_is); (case c_14 => k_is); (case k_14 => k_is))
      case b_14 => exact fun _ _ _ _ _ _ us hl => match us, hl with | [_, _, _], _ => rfl
    case zcby =>
      (refine' K1.df_of (by assumption) (by assumption) ?a_15 ?l_15 ?c_15 ?k_15 ?b_15; (case a_15 => k_is); (case l_15 => k_is); (case c_15 => k_is); (case k_15 => k_is))
      case b_15 => exact fun _ _ _ _ _ _ us hl => match us, hl with | [_, _], _ => rfl
    case zrest =>
      (refine' K1.df_of (by assumption) (by assumption) ?a_16 ?l_16 ?c_16 ?k_16 ?b_16; (case a_16 => k_is); (case l_16 => k_is); (case c_16 => k_is); (case k_16 => k_is))
      case b_16 => exact fun _ _ _ _ _ _ us hl => match us, hl with | [_], _ => rfl
    case zalike =>
      (refine' K1.df_of (by assumption) (by assumption) ?a_17 ?l_17 ?c_17 ?k_17 ?b_17; (case a_17 => k_is); (case l_17 => k_is); (case c_17 => k_is); (case k_17 => k_is))
      case b_17 => exact fun _ _ _ _ _ _ us hl => match us, hl with | [_, _, _], _ => rfl
    case znumb =>
      (refine' K1.df_of (by assumption) (by assumption) ?a_18 ?l_18 ?c_18 ?k_18 ?b_18; (case a_18 => k_is); (case l_18 => k_is); (case c_18 => k_is); (case k_18 => k_is))
      case b_18 => exact fun _ _ _ _ _ _ us hl => match us, hl with | [_], _ => rfl
    case zchk =>
      (refine' K1.df_of (by assumption) (by assumption) ?a_19 ?l_19 ?c_19 ?k_19 ?b_19; (case a_19 => k_is); (case l_19 => k_is); (case c_19 => k_is); (case k_19 => k_is))
      case b_19 => exact fun _ _ _ _ _ _ us hl => match us, hl with | [_, _, _], _ => rfl
    case zrv =>
      (refine' K1.df_of (by assumption) (by assumption) ?a_20 ?l_20 ?c_20 ?k_20 ?b_20; (case a_20 => k_is); (case l_20 => k_is); (case c_20 => k_is); (case k_20 => k_is))
      case b_20 => exact fun _ _ _ _ _ _ us hl => match us, hl with | [_, _, _], _ => rfl
    case zwrs =>
      (refine' K1.df_of (by assumption) (by assumption) ?a_21 ?l_21 ?c_21 ?k_21 ?b_21; (case a_21 => k_is); (case l_21 => k_is); (case c_21 => k_is); (case k_21 => k_is))
      case b_21 => exact fun _ _ _ _ _ _ us hl => match us, hl with | [_, _], _ => rfl
    case zinv =>
      (refine' K1.df_of (by assumption) (by assumption) ?a_22 ?l_22 ?c_22 ?k_22 ?b_22; (case a_22 => k_is); (case l_22 => k_is); (case c_22 => k_is); (case k_22 => k_is))
      case b_22 => exact fun _ _ _ _ _ _ us hl => match us, hl with | [_, _], _ => rfl
    case zar =>
      (refine' K1.df_of (by assumption) (by assumption) ?a_23 ?l_23 ?c_23 ?k_23 ?b_23; (case a_23 => k_is); (case l_23 => k_is); (case c_23 => k_is); (case k_23 => k_is))
      case b_23 => exact fun _ _ _ _ _ _ us hl => match us, hl with | [_, _, _], _ => rfl
    case zbox =>
      (refine' K1.df_of (by assumption) (by assumption) ?a_24 ?l_24 ?c_24 ?k_24 ?b_24; (case a_24 => k_is); (case l_24 => k_is); (case c_24 => k_is); (case k_24 => k_is))
      case b_24 => exact fun _ _ _ _ _ _ us hl => match us, hl with | [_, _], _ => rfl
    case ztake =>
      (refine' K1.df_of (by assumption) (by assumption) ?a_25 ?l_25 ?c_25 ?k_25 ?b_25; (case a_25 => k_is); (case l_25 => k_is); (case c_25 => k_is); (case k_25 => k_is))
      case b_25 => exact fun _ _ _ _ _ _ us hl => match us, hl with | [_, _], _ => rfl
    case zpick =>
      (refine' K1.df_of (by assumption) (by assumption) ?a_26 ?l_26 ?c_26 ?k_26 ?b_26; (case a_26 => k_is); (case l_26 => k_is); (case c_26 => k_is); (case k_26 => k_is))
      case b_26 => exact fun _ _ _ _ _ _ us hl => match us, hl with | [_, _], _ => rfl
    case zheard =>
      (refine' K1.df_of (by assumption) (by assumption) ?a_27 ?l_27 ?c_27 ?k_27 ?b_27; (case a_27 => k_is); (case l_27 => k_is); (case c_27 => k_is); (case k_27 => k_is))
      case b_27 => exact fun _ _ _ _ _ _ us hl => match us, hl with | [_], _ => rfl
    case zsmall =>
      (refine' K1.df_of (by assumption) (by assumption) ?a_28 ?l_28 ?c_28 ?k_28 ?b_28; (case a_28 => k_is); (case l_28 => k_is); (case c_28 => k_is); (case k_28 => k_is))
      case b_28 => exact fun _ _ _ _ _ _ us hl => match us, hl with | [_, _, _], _ => rfl
    case zplain =>
      (refine' K1.df_of (by assumption) (by assumption) ?a_29 ?l_29 ?c_29 ?k_29 ?b_29; (case a_29 => k_is); (case l_29 => k_is); (case c_29 => k_is); (case k_29 => k_is))
      case b_29 => exact fun _ _ _ _ _ _ us hl => match us, hl with | [_, _], _ => rfl
    case zcommon =>
      (refine' K1.df_of (by assumption) (by assumption) ?a_30 ?l_30 ?c_30 ?k_30 ?b_30; (case a_30 => k_is); (case l_30 => k_is); (case c_30 => k_is); (case k_30 => k_is))
      case b_30 => exact fun _ _ _ _ _ _ us hl => match us, hl with | [_, _], _ => rfl
    case zgreat =>
      (refine' K1.df_of (by assumption) (by assumption) ?a_31 ?l_31 ?c_31 ?k_31 ?b_31; (case a_31 => k_is); (case l_31 => k_is); (case c_31 => k_is); (case k_31 => k_is))
      case b_31 => exact fun _ _ _ _ _ _ us hl => match us, hl with | [_, _, _], _ => rfl
    case zwebR =>
      (refine' K1.df_of (by assumption) (by assumption) ?a_32 ?l_32 ?c_32 ?k_32 ?b_32; (case a_32 => k_is); (case l_32 => k_is); (case c_32 => k_is); (case k_32 => k_is))
      case b_32 => exact fun _ _ _ _ _ _ us hl => match us, hl with | [_, _], _ => rfl
    (case aN => k_is); (case lN => k_is); (case cN => k_is); (case kN => k_is)
    (case aNn => k_is); (case lNn => k_is); (case cNn => k_is); (case kNn => k_is); (case lcn => k_is); (case hvn => rfl); (case nPn => kernel_rfl)
    (case ac_W => k_is); (case pgW => k_is); (case hdW => k_is); (case poW => k_is); (case saW => k_is); (case nW0 => k_is); (case nW1 => k_is)
    case initW => refine' K1.init_W ?a_IW ?i_IW ?m_IW ?kM_IW ?l_IW ?c_IW ?k_IW; (case a_IW => k_is); (case i_IW => k_is); (case m_IW => k_is); (case kM_IW => k_is); (case l_IW => k_is); (case c_IW => k_is); (case k_IW => k_is)
    (case ac_N => k_is); (case pgN => k_is); (case hdN => k_is); (case poN => k_is); (case saN => k_is); (case nN0 => k_is); (case nN1 => k_is); (case nN2 => k_is); (case nN3 => k_is)
    case initN => refine' K1.init_N ?a_IN ?i_IN ?m_IN ?kM_IN ?l_IN ?c_IN ?k_IN; (case a_IN => k_is); (case i_IN => k_is); (case m_IN => k_is); (case kM_IN => k_is); (case l_IN => k_is); (case c_IN => k_is); (case k_IN => k_is)
    case m_N_book => refine' K1.meth_N_book ?a_Nbook ?i_Nbook ?l_Nbook ?c_Nbook ?k_Nbook; (case a_Nbook => k_is); (case i_Nbook => k_is); (case l_Nbook => k_is); (case c_Nbook => k_is); (case k_Nbook => k_is)
    case t1 => (refine' K1.LAt_of_ (by assumption) (by assumption) ?a_t1 ?xl_t1 ?sa_t1 ?ga_t1 ?gg_t1 ?no_t1 ?ic_t1 ?tc_t1 ?kc_t1 ?ec_t1 ?ty_t1 ?hc_t1 ?l_t1 ?c_t1; (case a_t1 => k_is); (case xl_t1 => k_is); (case sa_t1 => k_is); (case ga_t1 => k_is); (case gg_t1 => k_is); (case no_t1 => k_is); (case ic_t1 => k_is); (case tc_t1 => k_is); (case kc_t1 => k_is); (case ec_t1 => k_is); (case ty_t1 => k_is); (case hc_t1 => k_is); (case l_t1 => k_is); (case c_t1 => k_is))
    case t2 => (refine' K1.LHouse_of_ (by assumption) (by assumption) ?a_t2 ?xl_t2 ?sa_t2 ?ga_t2 ?gg_t2 ?no_t2 ?ic_t2 ?tc_t2 ?kc_t2 ?ec_t2 ?ty_t2 ?hc_t2 ?l_t2 ?c_t2; (case a_t2 => k_is); (case xl_t2 => k_is); (case sa_t2 => k_is); (case ga_t2 => k_is); (case gg_t2 => k_is); (case no_t2 => k_is); (case ic_t2 => k_is); (case tc_t2 => k_is); (case kc_t2 => k_is); (case ec_t2 => k_is); (case ty_t2 => k_is); (case hc_t2 => k_is); (case l_t2 => k_is); (case c_t2 => k_is))
    case t3 => (refine' K1.LAt_of_ (by assumption) (by assumption) ?a_t3 ?xl_t3 ?sa_t3 ?ga_t3 ?gg_t3 ?no_t3 ?ic_t3 ?tc_t3 ?kc_t3 ?ec_t3 ?ty_t3 ?hc_t3 ?l_t3 ?c_t3; (case a_t3 => k_is); (case xl_t3 => k_is); (case sa_t3 => k_is); (case ga_t3 => k_is); (case gg_t3 => k_is); (case no_t3 => k_is); (case ic_t3 => k_is); (case tc_t3 => k_is); (case kc_t3 => k_is); (case ec_t3 => k_is); (case ty_t3 => k_is); (case hc_t3 => k_is); (case l_t3 => k_is); (case c_t3 => k_is))
    (case aNE => k_is)
    case ex =>
      refine' ⟨?e0, ?e1, ⟨?x0_0, ?x0_1, ?x0_2, ?x0_3, ?x0_4, ?x0_5, ?x0_6, ?x0_7⟩⟩
      all_goals first | k_is | kernel_rfl
