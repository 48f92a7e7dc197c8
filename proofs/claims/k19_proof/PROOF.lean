import PyProof.Rows.All
import Wide.All
import OpenK.AllK
import Wide.FinOn
import HandS.ForMost
import HandS.ForExc
import HandS.ExcInit
import PyProof.ExcBaseAll.LookupError
import KE.KExcIs
import HandS.IsInst
import KE.GoesEnum
import PyProof.ReprRoads
import PySem.Challenge.RW_houseslessties_k19_counts_that_do_no_har
import HandS.TryMany
import HandS.Lambda
import HandS.Nested
import HandS.EndTab
import HandS.DictTup
import HandS.OwnEq
import HandS.Strs
import HandS.Conv
import HandS.TupAny
import HandS.TupMul
import HandS.SortInts
import HandS.Style
import HandS.MakeKw
import HandS.Defaults
import HandS.TupLe
import HandS.SetKeys
import HandS.SetFor
import HandS.RaiseMore
import KE.KDictDisplayH
import HandS.ExcField
import HandS.WordsDict
import HandS.Zip
import HandS.Gcd
import KE.GoesZip
import KE.GoesMore
import HandS.Base
import HandS.Call
import HandS.Exc
import HandS.MakeKwOnly
import HandS.EndBits
set_option Elab.async false
set_option linter.all false
set_option maxRecDepth 100000
set_option maxHeartbeats 4000000
/-! exceptions of own classes whose base may be ValueError or KeyError: what is asked of the chain of classes stands as premises -/
namespace K1
open PySem PySem.HandSPX Builtin Builtin.ObjectAttr
/-- what the chain of classes behind the own one must be -/
structure Mro (B : String) (bm : List Value) : Prop where
  b : bm.contains (.type B) = true
  a : bm.contains (.type "AttributeError") = false
  n : bm.contains (.type "NameError") = false
  o : bm.contains (.type "object") = true
  p : ∀ self : Value, refuseLoop self "__setattr__" bm = pure ()
section
variable {prog : Program} {w : World} {A : Around} {E : Value → Shared → Prop} {R : Result → Shared → Prop} {h : Heap} {g : Array GenState} {d : Drawn} {t : Nat} {os : OsState}
variable {nm q : Str} {C N : Addr} {bs bm bmB : List Value} {hdct : Bool} {sn : List Str} {sub : List Value} {ab : Bool} {col : Option Bool} {dd : Option Addr} {k0 k1 k2 k3 k5 : Option Value} {B newId initId : String}
theorem check_newG {M : Model} (F : ExcBaseFacts B newId initId bmB) (T : Mro B bm) {rest : List Value} {Q : Unit → Shared → Prop}
    (hC : h.get? C = some (excClassObj nm q C N bs bm hdct sn sub ab col dd k0 k1 k2 k3 k5 newId)) (hq : Q () ⟨h, g, d, t, os⟩) : wpAny M A (checkBuiltinCall newId ⟨.ref C :: rest, []⟩) Q E ⟨h, g, d, t, os⟩ := by
  have hcont : (Value.ref C :: bm).contains (.type B) = true := by rw [List.contains_cons, T.b, Bool.or_true]
  have hstar := F.noStar
  simp only [checkBuiltinCall, F.newKind, F.newSplit, F.newRow]
  repeat (first | refine wpAny_loadPart_at hC ?_ | (refine wpAny_isSubtype_exc hC ?_; rw [hcont]) | refine wpAny_staticBase_exc hC ?_ | refine wpAny_madeBy_exc hC ?_ | simp only [bne_self_eq_false, Bool.false_eq_true, if_false] | wp_step)
  exact hq
theorem newG (F : ExcBaseFacts B newId initId bmB) (T : Mro B bm) {rest : List Value}
    (hC : h.get? C = some (excClassObj nm q C N bs bm hdct sn sub ab col dd k0 k1 k2 k3 k5 newId))
    (hq : R (.ok (.ret (.ref (h.objs.size + 1)))) ⟨(h.push { cls := .type "tuple", data := .seq rest.toArray }).push
      { cls := .ref C, data := .fields #[.ref h.objs.size, .none, .none, .none, .bool false, .none] }, g, d, t, os⟩) (hrest : rest.length ≤ sizeLine) :
    codeAny (model prog w) A (.builtin newId ⟨.ref C :: rest, []⟩) R ⟨h, g, d, t, os⟩ := by
  have hends := F.ends
  have hcB : (Value.ref C :: bm).contains (.type B) = true := by rw [List.contains_cons, T.b, Bool.or_true]
  have hcA : (Value.ref C :: bm).contains (.type "AttributeError") = false := by rw [List.contains_cons, T.a]; rfl
  have hcN : (Value.ref C :: bm).contains (.type "NameError") = false := by rw [List.contains_cons, T.n]; rfl
  refine codeAny_builtinAt F.entry ?_
  unfold Builtin.«BaseException.__new__»
  refine wpAt_bind ?_
  show wpAt _ _ _ (stack >>= _) _ _ _
  refine wpAt_bind (wpAt_stack fun p below => wpAt_of_wpAny ?_)
  wp_walk
  refine wpAt_of_wpAny ?_
  rw [F.owner]
  repeat (first | with_reducible refine wpAny_madeHere_exc F.canon hC ?_ | with_reducible refine wpAny_loadPart_at hC ?_ | (with_reducible refine wpAny_isSubtype_exc hC ?_; first | rw [hcB] | rw [hcA] | rw [hcN]) | wp_step)
  show R _ _
  rw [Heap.size_push]
  exact hq
theorem type_callG (F : ExcBaseFacts B newId initId bmB) (T : Mro B bm) {rest : List Value} {fI : Addr} {Q : Fin → Shared → Prop}
    (hC : h.get? C = some (excClassObj nm q C N bs bm hdct sn sub ab col dd k0 k1 k2 k3 k5 newId))
    (hi : W.Looks (model prog w) h (typeLookup (.ref C) "__init__") (some (.ref fI))) (hb : ∀ self, W.Looks (model prog w) h (bindSpecial (.ref fI) self) (.ref fI, [self])) (hrest : rest.length ≤ sizeLine)
    (hq : codeAny (model prog w) A (.call (.ref fI) ⟨.ref (h.objs.size + 1) :: rest, []⟩)
      (fun r s' => match r with | .ok (.ret v) => v = .none ∧ Q (.done (.ret (.ref (h.objs.size + 1)))) s' | .ok _ => False | .error e => E e s')
      ⟨(h.push (W.kdv_tup rest)).push (excO C h.objs.size), g, d, t, os⟩) :
    wpAny (model prog w) A (Builtin.«type.__call__» ⟨.ref C :: rest, []⟩) Q E ⟨h, g, d, t, os⟩ := by
  repeat (first | with_reducible refine wpAny_loadPart_at hC ?_ | with_reducible refine wpAny_madeBy_exc hC ?_ | wp_step)
  refine codeAny_call_builtin_code (Code.quiet_builtin _ F.quiet) (check_newG F T hC ?_)
  refine newG F T hC ?_ hrest
  show wpAny _ _ _ _ _ _
  have k : ∀ b o, h.get? b = some o → ((h.push (W.kdv_tup rest)).push (excO C h.objs.size)).get? b = some o := fun b o e => Heap.get?_push_of_some _ (Heap.get?_push_of_some _ e)
  have hC₁ := k _ _ hC
  have hget : ((h.push (W.kdv_tup rest)).push (excO C h.objs.size)).get? (h.objs.size + 1) = some (excO C h.objs.size) := by heap_get
  have hcC : (Value.ref C :: bm).contains (.ref C) = true := by simp
  have i1 := hi.keeps k
  have b1 := (hb (.ref (h.objs.size + 1))).keeps k
  unfold isInstance
  repeat (first | with_reducible refine wpAny_loadPart_at hget ?_ | (with_reducible refine wpAny_isSubtype_exc hC₁ ?_; rw [hcC]) | wp_step)
  show wpAny _ _ (typeLookup (.ref C) _) _ _ _
  refine i1.at ?_
  refine wpAny_holding (wpAny_bind (b1.at ?_))
  refine wpAny_bind (wpAny_call (codeAny_mono hq fun r s' z => ?_))
  rcases r with e | (v | _ | _ | _) <;> first | exact z | exact z.elim | skip
  obtain ⟨rfl, z⟩ := z
  first
    | exact wpAny_pure (wpAny_pure z)
    | (wp_walk; exact z)
theorem call_ownG (F : ExcBaseFacts B newId initId bmB) (T : Mro B bm) {rest : List Value} {fI : Addr}
    (hC : h.get? C = some (excClassObj nm q C N bs bm hdct sn sub ab col dd k0 k1 k2 k3 k5 newId))
    (hi : W.Looks (model prog w) h (typeLookup (.ref C) "__init__") (some (.ref fI))) (hb : ∀ self, W.Looks (model prog w) h (bindSpecial (.ref fI) self) (.ref fI, [self])) (hrest : rest.length ≤ sizeLine)
    (hq : codeAny (model prog w) (A.under (.builtin "type.__call__" ⟨.ref C :: rest, []⟩)) (.call (.ref fI) ⟨.ref (h.objs.size + 1) :: rest, []⟩) (W.InitBack (h.objs.size + 1) R)
      ⟨(h.push (W.kdv_tup rest)).push (excO C h.objs.size), g, d, t, os⟩) :
    codeAny (model prog w) A (.call (.ref C) ⟨rest, []⟩) R ⟨h, g, d, t, os⟩ := by
  have f1 := tc_lookup
  have f2 := tc_bind (.ref C)
  have hTy : (⟨h, g, d, t, os⟩ : Shared).TypeIs (.ref C) "type" := ⟨_, hC, rfl⟩
  refine codeAny_of_tree ?_
  show wpAny _ _ (callAny (.ref C) _) _ _ _
  repeat (any_goals (first | assumption | with_reducible refine wpAny_loadPart_at hC ?_ | wp_step))
  refine ⟨rfl, ?_⟩
  refine codeAny_call_builtin_at (Code.quiet_builtin _ (by decide +kernel)) entry_typeCall (wpAny_check_type_call_sub hC (type_callG F T hC hi hb hrest ?_))
  refine codeAny_mono hq fun r s' z => ?_
  rcases r with e | (v | _ | _ | _) <;> exact z
end
section
variable {prog : Program} {w : World} {A : Around} {E : Value → Shared → Prop} {R : Result → Shared → Prop} {hp : Heap} {g : Array GenState} {d : Drawn} {t : Nat} {os : OsState}
theorem exc_osaG {K : W.Frag} {name : Str} {tk : Tok} {v : Value} {x C : Addr} {fv : Array Value} {cd : ClassData} {B : String} {bm : List Value}
    (X : K.In hp) (hx : hp.get? x = some { cls := .ref C, data := .fields fv }) (hcd : W.clsIn K C = some cd) (hm : cd.mro = .ref C :: bm) (T : Mro B bm) (hh : cd.hasDict = true) (ha : W.findIn K (.ref C) name = some none)
    (hq : ∀ h' tk' dx, (∀ b o, b ≠ x → hp.get? b = some o → h'.get? b = some o) → hp.objs.size ≤ dx → dx ≠ x → h'.get? x = some { cls := .ref C, dict := some dx, data := .fields fv } →
      h'.Ns1 dx (fun y => if y = name then some v else none) → R (.ok (.ret .none)) ⟨h', g, d, tk', os⟩) :
    codeAny (model prog w) A (.call (.builtin "object.__setattr__") ⟨[.ref x, .str name tk, v], []⟩) R ⟨hp, g, d, t, os⟩ := by
  have I : W.InstAt hp x { cls := .ref C, data := .fields fv } C none := ⟨hx, rfl, rfl, trivial⟩
  have SF := F.store_object
  have ne : cd.mro.isEmpty = false := by rw [hm]; rfl
  have hob : cd.mro.contains (.type "object") = true := by rw [hm, List.contains_cons, T.o, Bool.or_true]
  have hxs : x ≠ hp.objs.size := Nat.ne_of_lt (Heap.lt_size hx)
  have sub : W.Looks (model prog w) hp (isInstance (.ref x) (.type "object")) true := I.type.andThen (W.looks_mroIn X (by unfold W.mroIn; rw [hcd, Option.bind_some, if_neg (by rw [ne]; decide), hob]))
  refine codeAny_call_builtin SF.slot.plain SF.entry (@W.check_slot (model prog w) _ _ ⟨hp, g, d, t, os⟩ "object.__setattr__" "object" "__setattr__" (.ref x) [.str name tk, v] [] _ SF.kind SF.split sub (SF.args (.ref x) (.str name tk) v) ?_)
  have hmr : W.Looks (model prog w) hp (mroOf (.ref C)) cd.mro := (W.looks_clsIn X hcd).andThen .now
  have L3 : W.Looks (model prog w) hp (storeTaker? none) none := .now
  have hcls : W.Looks (model prog w) hp (classData C) cd := W.looks_clsIn X hcd
  rw [W.osa_eq, refuse_eq]
  refine wpAny_bind (wpAny_bind (I.type.at (wpAny_bind (hmr.at ?_))))
  rw [hm, refuseLoop_ref, T.p]
  refine wpAny_pure (wpAny_bind (I.type.at (wpAny_bind ((W.looks_findIn X ha).at (wpAny_bind (L3.at ?_))))))
  show wpAny _ _ (storeInOwnDict (.ref x) (.ref C) (.str name tk) name v false) _ _ _
  obtain ⟨nm, bs, mro, ns, qn, hd, sn, sb, ab, col, del⟩ := cd
  dsimp only at hh
  subst hh
  unfold storeInOwnDict ownDictForStores
  repeat (first | with_reducible refine store_in_new ?_ ?_ | with_reducible refine wpAny_loadPart_at hx ?_ | with_reducible refine hcls.at ?_ | wp_step)
  · exact ⟨_, #[], _, (Heap.get?_update_ne _ _ _ _ hxs.symm).trans (Heap.get?_push_at rfl rfl), rfl, fun e he => absurd he (by simp), fun _ => rfl⟩
  · intro h' tk' hn' hs
    have hx₁ : (hp.push { cls := .type "dict", data := .dict #[] }).get? x = some { cls := .ref C, data := .fields fv } := Heap.get?_push_of_some _ hx
    refine hq h' tk' hp.objs.size (fun b o hb ho => ?_) (Nat.le_refl _) hxs.symm ?_ hn'
    · exact (hs.2 b (Nat.ne_of_lt (Heap.lt_size ho))).trans ((Heap.get?_update_ne _ _ _ _ hb).trans (Heap.get?_push_of_some _ ho))
    · exact (hs.2 x hxs).trans (Heap.get?_update_self _ hx₁ rfl)
end
abbrev veT : List Value := [.type "ValueError", .type "Exception", .type "BaseException", .type "object"]
abbrev keT : List Value := [.type "KeyError", .type "LookupError", .type "Exception", .type "BaseException", .type "object"]
theorem mro_ve (c : Addr) : Mro "ValueError" (.ref c :: veT) := ⟨rfl, rfl, rfl, rfl, fun self => by rw [refuseLoop_ref]; exact F.store_ValueError.passes self⟩
theorem ke_pass (self : Value) : refuseLoop self "__setattr__" keT = pure () := by kernel_rfl
theorem mro_ke : Mro "LookupError" keT := ⟨by decide +kernel, by decide +kernel, by decide +kernel, by decide +kernel, ke_pass⟩
end K1
/-! own exception classes whose __init__ stores one field -/

namespace K1
open PySem PySem.W PySem.Calls PyProof.Rows PySem.HandSPX
theorem one_le (v : Value) : [v].length ≤ sizeLine := by
  rw [sizeLine_eq]
  exact (by decide : 1 ≤ 16777216)
theorem ldE {M : Model} {s : Shared} {name : Str} {scope : Scope} {L a : Addr} {cd : Value} {m : Str → Option Value} {x : Str} {pos : Pos} {v : Value} {Q : Value → Shared → Prop} {A : Around} {E : Value → Shared → Prop} (hn : s.heap.Ns L m) (hv : m x = some v) (h : Q v s)
    (hk : scope.kind = .function := by rfl) (hl : (envOfC name scope L a cd).kindOf x = some .local := by rfl) (hd : (x == ("__debug__" : Str)) = false := by decide) :
    wpAny M A (eval (.Name x pos) (envOfC name scope L a cd)) Q E s := wpAny_Name (wpAny_loadName_local hk hl hn hv h) hd
end K1
namespace K1
open PySem PySem.Spec PyProof.Rows L2
theorem relO_one {v : V} {v' : Value} {g : Str} (r : RelV v v') (f : Str) : RelO (List.lookup f [(g, v)]) (if f = g then some v' else none) := by
  by_cases hw : f = g
  · subst hw
    rw [if_pos rfl]
    have q : List.lookup f [(f, v)] = some v := by simp [List.lookup]
    rw [q]
    exact r
  · rw [if_neg hw]
    have qw : (f == g) = false := by simpa using hw
    have q2 : List.lookup f [(g, v)] = none := by simp [List.lookup, qw]
    rw [q2]
    trivial
/-- C(e), C's __init__ storing e as the field g -/
def tMkF (g : Str) (C : Addr) (ta : TA) : L2.St → Hp → XK → Prop := fun σ H Q => ta σ H fun vs H1 => ∃ v, vs = [v] ∧ ∀ d, H1 d = none → Q (.ref C) (some d) (upd H1 d (.xd [(g, v)]))
def tRaiseF (g : Str) (C : Addr) (W : WX) (ta : TA) : TS := fun _ σ H => tMkF g C ta σ H fun cls d H' => W cls d σ H'
def tByF (g : Str) (C : Addr) (a : Addr) (cls : Value) (d : Option Addr) (te : TE) : TE := fun σ H Q => te σ H fun x H1 => x = .ref a ∧ cls = .ref C ∧ ∃ (dd : Addr) (v : V), d = some dd ∧ H1 dd = some (.xd [(g, v)]) ∧ Q v H1
end K1

namespace K1
namespace LAt
open PySem PySem.W PySem.Calls PyProof.Rows PySem.HandSPX
/-- the text of __init__ -/
def iA (p1 p2 : Pos) : Arguments := { posonlyargs := [], args := [{ arg := "self", annotation := none, pos := p1 }, { arg := "at", annotation := none, pos := p2 }], vararg := none, kwonlyargs := [], kw_defaults := [], kwarg := none, defaults := [] }
def iB (q1 q2 q3 q4 : Pos) : List Stmt := [.Assign [.Attribute (.Name "self" q1) "at" q2] (.Name "at" q3) q4]
def iS : Scope := { kind := .function, names := [(PySem.Str.ofString "self", .local), (PySem.Str.ofString "at", .local)], isGenerator := false, isCoroutine := false, more := [] }
/-- what the written part says of the class at C (named cn), of its chain bm, and of its __init__, at fI -/
structure Txt (K : Frag) (mg : Str → Option Value) (cn ql : Str) (bm : List Value) (C fI : Addr) : Prop where
  gC : mg cn = some (.ref C)
  cls : ∃ nm q N bs sn sub ab col dd k0 k1 k2 k3 k5, K.lookup C = some (excClassObj nm q C N bs bm true sn sub ab col dd k0 k1 k2 k3 k5 "ValueError.__new__")
  mr : Mro "ValueError" bm
  sa : findIn K (.ref C) "__setattr__" = some (some (.builtin "object.__setattr__"))
  ga : findIn K (.ref C) "__getattribute__" = some (some (.builtin "BaseException.__getattribute__"))
  gg : findIn K (.ref C) "__getattr__" = some none
  noN : findIn K (.ref C) "at" = some none
  iC : findIn K (.ref C) "__init__" = some (some (.ref fI))
  tC : typeIn K (.ref fI) = some (.type "function")
  kC : keepIn K (.ref C) = true
  exC : subIn K (.ref C) (.type "BaseException") = some true
  tyC : typeIn K (.ref C) = some (.type "type")
  hdC : hasDictIn K C = true
  fn : ∃ (oc : Value) (od : Option Addr) (doc pm : Value) (an : Option Addr) (cdv ct : Value) (osl : Array (Option Value)) (p1 p2 q1 q2 q3 q4 : Pos),
    K.lookup fI = some ⟨oc, od, .func (fnOf "__init__" ql (iA p1 p2) (iB q1 q2 q3 q4) iS .none .none doc pm an cdv ct), osl⟩ ∧ codeIn K cdv ql = true
/-- what __init__ leaves of a fresh exception at x -/
structure InitEnd (h h' : Heap) (x C dx t1 : Addr) (v : Value) : Prop where
  keep : ∀ b o, b ≠ x → h.get? b = some o → h'.get? b = some o
  obj : h'.get? x = some { cls := .ref C, dict := some dx, data := .fields #[.ref t1, .none, .none, .none, .bool false, .none] }
  dbig : h.objs.size ≤ dx
  dne : dx ≠ x
  ns : h'.Ns1 dx (fun y => if y = "at" then some v else none)
structure OwnMade (h h' : Heap) (e C d : Addr) (v : Value) : Prop where
  keep : ∀ b o, h.get? b = some o → h'.get? b = some o
  new : h.objs.size ≤ e
  obj : ∃ oe vs, h'.get? e = some oe ∧ oe.cls = .ref C ∧ oe.dict = some d ∧ oe.data = .fields vs ∧ vs[1]? = some .none
  dbig : h.objs.size ≤ d
  dne : d ≠ e
  ns : h'.Ns1 d (fun y => if y = "at" then some v else none)
section
variable {prog : Program} {w : World} {A : Around} {E : Value → Shared → Prop} {R : Result → Shared → Prop} {s : Shared} {K : Frag} {mg : Str → Option Value} {cn ql : Str} {bm : List Value} {C fI : Addr}
theorem init (T : Txt K mg cn ql bm C fI) {x t0 : Addr} {v : Value} (X : K.In s.heap) (hlim : s.heap.NoLimit) (hx : s.heap.get? x = some (excO C t0)) (hnx : K.lookup x = none) (hroom : A.depth < recursionLimit)
    (hq : ∀ h' tk dx, InitEnd s.heap h' x C dx t0 v → R (.ok (.ret .none)) { s with heap := h', toks := tk }) :
    codeAny (model prog w) A (.call (.ref fI) ⟨[.ref x, v], []⟩) R s := by
  obtain ⟨oc, od, doc, pm, an, cdv, ct, osl, p1, p2, q1, q2, q3, q4, ho, hcd⟩ := T.fn
  obtain ⟨nm, q, N, bs, sn, sub, ab, col, dd, k0, k1, k2, k3, k5, hC⟩ := T.cls
  have hcl : clsIn K C = some { name := nm, bases := bs, mro := .ref C :: bm, ns := N, qualname := q, hasDict := true, slotNames := sn, subclasses := sub, abstract := ab, collection := col, hasDel := false } := by unfold clsIn; rw [hC] <;> rfl
  refine Att.call_fn (binds := [("self", .ref x), ("at", v)]) X hlim ho hcd hroom (BindsTo.of_eq (by first | rfl | with_unfolding_all rfl)) (by first | rfl | decide | with_unfolding_all rfl) (fun s₁ IC => ?_) rfl rfl rfl
  obtain ⟨h₁, tk₁, rfl⟩ := IC.toInCall.same
  have k : ∀ b o, s.heap.get? b = some o → h₁.get? b = some o := IC.toInCall.keep
  have hn := IC.toInCall.ns
  have X₁ : K.In h₁ := X.keeps k
  have hx₁ := k _ _ hx
  show wpAny _ _ (execs _ _) _ _ _
  refine wpAny_execs_cons (plainObj_wpAny_Assign_Attribute ?_)
  refine ldE (v := v) hn (by first | rfl | with_unfolding_all rfl | kernel_rfl) (ldE (v := .ref x) hn (by first | rfl | with_unfolding_all rfl | kernel_rfl) ?_)
  refine set_plain X₁ (ox := excO C t0) (od := none) ⟨hx₁, rfl, rfl, trivial⟩ T.sa ?_
  refine exc_osaG X₁ hx₁ hcl rfl T.mr rfl T.noN (fun h₃ tk₃ dx k₃ dn dne hx₃ hn₃ => ?_)
  show wpAny _ _ (execs _ _) _ _ _
  have z : s.heap.objs.size < h₁.objs.size := hn.lt
  exact wpAny_execs_nil (hq h₃ tk₃ dx ⟨fun b o hb e => k₃ b o hb (k b o e), hx₃, Nat.le_of_lt (Nat.lt_of_lt_of_le z dn), dne, hn₃⟩)
theorem made (T : Txt K mg cn ql bm C fI) {v : Value} (X : K.In s.heap) (hlim : s.heap.NoLimit) (hroom : A.depth + 1 < recursionLimit)
    (hq : ∀ h' tk e d, OwnMade s.heap h' e C d v → R (.ok (.ret (.ref e))) { s with heap := h', toks := tk }) :
    codeAny (model prog w) A (.call (.ref C) ⟨[v], []⟩) R s := by
  obtain ⟨nm, q, N, bs, sn, sub, ab, col, dd, k0, k1, k2, k3, k5, hC⟩ := T.cls
  obtain ⟨hp, g, dr, tk, os⟩ := s
  have k : ∀ b o, hp.get? b = some o → ((hp.push (kdv_tup [v])).push (excO C hp.objs.size)).get? b = some o := fun b o e => Heap.get?_push_of_some _ (Heap.get?_push_of_some _ e)
  have hget : ((hp.push (kdv_tup [v])).push (excO C hp.objs.size)).get? (hp.objs.size + 1) = some (excO C hp.objs.size) := by heap_get
  have hnx : K.lookup (hp.objs.size + 1) = none := by
    cases e : K.lookup (hp.objs.size + 1) with
    | none => rfl
    | some o =>
      have z : hp.get? (hp.objs.size + 1) = some o := X _ _ e
      exact absurd (Nat.lt_of_succ_lt (Heap.lt_size z)) (Nat.lt_irrefl _)
  refine call_ownG F.excBase_ValueError T.mr (X _ _ hC) (looks_findIn X T.iC) (fun self => bind_fn X self T.tC) (one_le v) ?_
  refine init (s := ⟨(hp.push (kdv_tup [v])).push (excO C hp.objs.size), g, dr, tk, os⟩) T (X.keeps k) (hlim.keeps k) hget hnx ?_ fun h' tk' dx ⟨k', hx, dn, dne, hns⟩ => ?_
  · show A.depth + 1 < recursionLimit
    exact hroom
  · have old : ∀ b o, hp.get? b = some o → h'.get? b = some o := fun b o e => k' b o (Nat.ne_of_lt (Nat.lt_succ_of_lt (Heap.lt_size e))) (k b o e)
    have z : hp.objs.size + 1 + 1 ≤ dx := by
      first
        | (simpa only [Heap.size_push] using dn)
        | exact dn
        | (have q := dn; rw [Heap.size_push, Heap.size_push] at q; exact q)
    exact ⟨rfl, hq h' tk' (hp.objs.size + 1) dx ⟨old, Nat.le_succ _, ⟨_, _, hx, rfl, rfl, rfl, rfl⟩, Nat.le_trans (Nat.le_trans (Nat.le_succ _) (Nat.le_succ _)) z, dne, hns⟩⟩
end
end LAt
end K1
namespace K1
open PySem PySem.Spec PyProof.Rows L2
section
variable {X : Cx} {cn ql : Str} {bm : List Value} {C fI : Addr}
theorem pmk_LAt {a : Expr} {ta : TA} {p pos : Pos} {k : Nat} (T : LAt.Txt X.K X.mg cn ql bm C fI) (hr : Room k X.A) (ha : PA X [a] ta) (hg : Gl X cn := by rfl)
    (he : starEach (a :: []) X.env = (false, eval a X.env) :: starEach [] X.env := by rfl) (hpl : (backTo pos (starEach [] X.env)).any (·.1) = false := by rfl) (hdb : (cn == ("__debug__" : Str)) = false := by decide) :
    PMk X (.Call (.Name cn p) [a] [] pos) (tMkF "at" C ta) := by
  intro pins s σ H Q I h
  refine wpAny_Call_Name_kw (ld_glob I hg T.gC ?_ hdb)
  refine PySem.W.callWith_K (h₀ := X.base) I.ok.mod.kin T.kC (thn (ha.run pos pins s σ H _ I h) fun us s1 hh => ?_) he hpl
  obtain ⟨vs, H1, I1, r1, v, ev, q1⟩ := hh
  subst ev
  refine ⟨I1.kIn, ?_⟩
  cases r1 with
  | cons rv rn =>
    rename_i v' us'
    cases rn
    show wpAny _ _ (call (.ref C) [v']) _ _ _
    have hlim := I1.nolimit
    obtain ⟨hp, g, dr, tk, os⟩ := s1
    refine wpAny_call (LAt.made T I1.kIn hlim (by have := hr.dp; omega) fun h' tk' e d M => ?_)
    show MkP X pins σ Q (.ref e) ⟨h', g, dr, tk', os⟩
    obtain ⟨oe, fv, hoe, hc, hd, hdat, h1⟩ := M.obj
    have hns := M.ns
    obtain ⟨G', g1, g2⟩ := restrict h' fun b => decide (b ≠ e)
    have gk : ∀ b, b ≠ e → G'.get? b = h'.get? b := fun b hb => g1 b (decide_eq_true hb)
    have ge : G'.get? e = none := g2 e (by simp)
    have old : ∀ b o, hp.get? b = some o → G'.get? b = some o := fun b o q => (gk b (Nat.ne_of_lt (Nat.lt_of_lt_of_le (Heap.lt_size q) M.new))).trans (M.keep b o q)
    have ob : ObjOk X.prog X.w (upd H1 d (.xd [(("at" : Str), v)])) G' d (.xd [(("at" : Str), v)]) :=
      ⟨_, hns.at (fun o q => (gk d M.dne).trans q), fun f => relO_one rv f⟩
    have J : Inv X pins σ (upd H1 d (.xd [(("at" : Str), v)])) ⟨G', g, dr, tk', os⟩ := I1.laid (t' := tk') old M.dbig ob
    refine ⟨e, oe, fv, ⟨G', g, dr, tk', os⟩, _, .ref C, some d, rfl, J, fun b o q => ?_, ge, hoe, ⟨hc, hd⟩, hdat, h1, ?_, rfl, I1.bare, raises_own T.exC T.tyC, q1 d (I1.hok.fresh M.dbig)⟩
    · by_cases hb : b = e
      · have q' : G'.get? b = some o := q
        rw [hb, ge] at q'; cases q'
      · exact (gk b hb).symm.trans q
    · rw [upd_ne (Ne.symm M.dne)]
      exact I1.hok.fresh M.new
theorem ps_raise_LAt {a : Expr} {ta : TA} {W : WX} {p pos pos2 : Pos} {k : Nat} (hc : X.calm = true) (T : LAt.Txt X.K X.mg cn ql bm C fI) (hr : Room k X.A) (tk : Takes X W) (ha : PA X [a] ta) (hg : Gl X cn := by rfl)
    (he : starEach (a :: []) X.env = (false, eval a X.env) :: starEach [] X.env := by rfl) (hpl : (backTo pos (starEach [] X.env)).any (·.1) = false := by rfl) (hdb : (cn == ("__debug__" : Str)) = false := by decide) :
    PS X (.Raise (some (.Call (.Name cn p) [a] [] pos)) none pos2) (tRaiseF "at" C W ta) := ps_raise hc tk (pmk_LAt T hr ha hg he hpl hdb)
theorem pe_by_LAt {a : Addr} {oe : Obj} {cls : Value} {d : Option Addr} {pn : List (Addr × Obj)} {e : Expr} {te : TE} {pos : Pos} (T : LAt.Txt X.K X.mg cn ql bm C fI) (hz : Zc cls d oe) (hf : ∃ vs, oe.data = .fields vs) (he : PE (X.suite a ((a, oe) :: pn)) e te)
    (hb : attributeBase e "at" X.env (eval e X.env) = eval e X.env := by rfl) :
    PE (X.suite a ((a, oe) :: pn)) (.Attribute e "at" pos) (tByF "at" C a cls d te) := by
  refine ⟨fun pins s σ H Q I h => ?_⟩
  refine attr_of hb (thn (he.run pins s σ H _ I h) fun u s1 hh => ?_)
  obtain ⟨x, H1, I1, rx, ex, ec, dd, v, ed, ea, q⟩ := hh
  subst ex
  obtain rfl : u = Value.ref a := rx
  subst ec
  subst ed
  obtain ⟨ha, _⟩ := I1.pin (a, oe) (List.mem_append_left _ List.mem_cons_self)
  obtain ⟨vs, hd⟩ := hf
  have hx : ObjOk X.prog X.w H1 s1.heap dd (.xd [(("at" : Str), v)]) := I1.hok dd _ ea
  obtain ⟨mA, hns, hr⟩ := hx
  obtain ⟨od, ho, hl⟩ := lookIn_ns hns
  have l : List.lookup ("at" : Str) [(("at" : Str), v)] = some v := by simp [List.lookup]
  obtain ⟨u, hu, ru⟩ := RelO.some_of (v := v) (o := mA "at") (by rw [← l]; exact hr "at")
  have J : PySem.W.InstAt s1.heap a oe C (some od) := ⟨ha, hz.1, by unfold PySem.W.notCls; rw [hd] <;> rfl, by rw [hz.2]; exact ho⟩
  exact HandSPX.exc_get I1.kIn J T.ga T.gg T.exC (PySem.W.findObj_own T.hdC T.noN rfl (by rw [hl, hu])) (handed_of ru) ⟨v, H1, I1.tok _, ru, q⟩
end
end K1

namespace K1
namespace LState
open PySem PySem.W PySem.Calls PyProof.Rows PySem.HandSPX
/-- the text of __init__ -/
def iA (p1 p2 : Pos) : Arguments := { posonlyargs := [], args := [{ arg := "self", annotation := none, pos := p1 }, { arg := "state", annotation := none, pos := p2 }], vararg := none, kwonlyargs := [], kw_defaults := [], kwarg := none, defaults := [] }
def iB (q1 q2 q3 q4 : Pos) : List Stmt := [.Assign [.Attribute (.Name "self" q1) "state" q2] (.Name "state" q3) q4]
def iS : Scope := { kind := .function, names := [(PySem.Str.ofString "self", .local), (PySem.Str.ofString "state", .local)], isGenerator := false, isCoroutine := false, more := [] }
/-- what the written part says of the class at C (named cn), of its chain bm, and of its __init__, at fI -/
structure Txt (K : Frag) (mg : Str → Option Value) (cn ql : Str) (bm : List Value) (C fI : Addr) : Prop where
  gC : mg cn = some (.ref C)
  cls : ∃ nm q N bs sn sub ab col dd k0 k1 k2 k3 k5, K.lookup C = some (excClassObj nm q C N bs bm true sn sub ab col dd k0 k1 k2 k3 k5 "LookupError.__new__")
  mr : Mro "LookupError" bm
  sa : findIn K (.ref C) "__setattr__" = some (some (.builtin "object.__setattr__"))
  ga : findIn K (.ref C) "__getattribute__" = some (some (.builtin "BaseException.__getattribute__"))
  gg : findIn K (.ref C) "__getattr__" = some none
  noN : findIn K (.ref C) "state" = some none
  iC : findIn K (.ref C) "__init__" = some (some (.ref fI))
  tC : typeIn K (.ref fI) = some (.type "function")
  kC : keepIn K (.ref C) = true
  exC : subIn K (.ref C) (.type "BaseException") = some true
  tyC : typeIn K (.ref C) = some (.type "type")
  hdC : hasDictIn K C = true
  fn : ∃ (oc : Value) (od : Option Addr) (doc pm : Value) (an : Option Addr) (cdv ct : Value) (osl : Array (Option Value)) (p1 p2 q1 q2 q3 q4 : Pos),
    K.lookup fI = some ⟨oc, od, .func (fnOf "__init__" ql (iA p1 p2) (iB q1 q2 q3 q4) iS .none .none doc pm an cdv ct), osl⟩ ∧ codeIn K cdv ql = true
/-- what __init__ leaves of a fresh exception at x -/
structure InitEnd (h h' : Heap) (x C dx t1 : Addr) (v : Value) : Prop where
  keep : ∀ b o, b ≠ x → h.get? b = some o → h'.get? b = some o
  obj : h'.get? x = some { cls := .ref C, dict := some dx, data := .fields #[.ref t1, .none, .none, .none, .bool false, .none] }
  dbig : h.objs.size ≤ dx
  dne : dx ≠ x
  ns : h'.Ns1 dx (fun y => if y = "state" then some v else none)
structure OwnMade (h h' : Heap) (e C d : Addr) (v : Value) : Prop where
  keep : ∀ b o, h.get? b = some o → h'.get? b = some o
  new : h.objs.size ≤ e
  obj : ∃ oe vs, h'.get? e = some oe ∧ oe.cls = .ref C ∧ oe.dict = some d ∧ oe.data = .fields vs ∧ vs[1]? = some .none
  dbig : h.objs.size ≤ d
  dne : d ≠ e
  ns : h'.Ns1 d (fun y => if y = "state" then some v else none)
section
variable {prog : Program} {w : World} {A : Around} {E : Value → Shared → Prop} {R : Result → Shared → Prop} {s : Shared} {K : Frag} {mg : Str → Option Value} {cn ql : Str} {bm : List Value} {C fI : Addr}
theorem init (T : Txt K mg cn ql bm C fI) {x t0 : Addr} {v : Value} (X : K.In s.heap) (hlim : s.heap.NoLimit) (hx : s.heap.get? x = some (excO C t0)) (hnx : K.lookup x = none) (hroom : A.depth < recursionLimit)
    (hq : ∀ h' tk dx, InitEnd s.heap h' x C dx t0 v → R (.ok (.ret .none)) { s with heap := h', toks := tk }) :
    codeAny (model prog w) A (.call (.ref fI) ⟨[.ref x, v], []⟩) R s := by
  obtain ⟨oc, od, doc, pm, an, cdv, ct, osl, p1, p2, q1, q2, q3, q4, ho, hcd⟩ := T.fn
  obtain ⟨nm, q, N, bs, sn, sub, ab, col, dd, k0, k1, k2, k3, k5, hC⟩ := T.cls
  have hcl : clsIn K C = some { name := nm, bases := bs, mro := .ref C :: bm, ns := N, qualname := q, hasDict := true, slotNames := sn, subclasses := sub, abstract := ab, collection := col, hasDel := false } := by unfold clsIn; rw [hC] <;> rfl
  refine Att.call_fn (binds := [("self", .ref x), ("state", v)]) X hlim ho hcd hroom (BindsTo.of_eq (by first | rfl | with_unfolding_all rfl)) (by first | rfl | decide | with_unfolding_all rfl) (fun s₁ IC => ?_) rfl rfl rfl
  obtain ⟨h₁, tk₁, rfl⟩ := IC.toInCall.same
  have k : ∀ b o, s.heap.get? b = some o → h₁.get? b = some o := IC.toInCall.keep
  have hn := IC.toInCall.ns
  have X₁ : K.In h₁ := X.keeps k
  have hx₁ := k _ _ hx
  show wpAny _ _ (execs _ _) _ _ _
  refine wpAny_execs_cons (plainObj_wpAny_Assign_Attribute ?_)
  refine ldE (v := v) hn (by first | rfl | with_unfolding_all rfl | kernel_rfl) (ldE (v := .ref x) hn (by first | rfl | with_unfolding_all rfl | kernel_rfl) ?_)
  refine set_plain X₁ (ox := excO C t0) (od := none) ⟨hx₁, rfl, rfl, trivial⟩ T.sa ?_
  refine exc_osaG X₁ hx₁ hcl rfl T.mr rfl T.noN (fun h₃ tk₃ dx k₃ dn dne hx₃ hn₃ => ?_)
  show wpAny _ _ (execs _ _) _ _ _
  have z : s.heap.objs.size < h₁.objs.size := hn.lt
  exact wpAny_execs_nil (hq h₃ tk₃ dx ⟨fun b o hb e => k₃ b o hb (k b o e), hx₃, Nat.le_of_lt (Nat.lt_of_lt_of_le z dn), dne, hn₃⟩)
theorem made (T : Txt K mg cn ql bm C fI) {v : Value} (X : K.In s.heap) (hlim : s.heap.NoLimit) (hroom : A.depth + 1 < recursionLimit)
    (hq : ∀ h' tk e d, OwnMade s.heap h' e C d v → R (.ok (.ret (.ref e))) { s with heap := h', toks := tk }) :
    codeAny (model prog w) A (.call (.ref C) ⟨[v], []⟩) R s := by
  obtain ⟨nm, q, N, bs, sn, sub, ab, col, dd, k0, k1, k2, k3, k5, hC⟩ := T.cls
  obtain ⟨hp, g, dr, tk, os⟩ := s
  have k : ∀ b o, hp.get? b = some o → ((hp.push (kdv_tup [v])).push (excO C hp.objs.size)).get? b = some o := fun b o e => Heap.get?_push_of_some _ (Heap.get?_push_of_some _ e)
  have hget : ((hp.push (kdv_tup [v])).push (excO C hp.objs.size)).get? (hp.objs.size + 1) = some (excO C hp.objs.size) := by heap_get
  have hnx : K.lookup (hp.objs.size + 1) = none := by
    cases e : K.lookup (hp.objs.size + 1) with
    | none => rfl
    | some o =>
      have z : hp.get? (hp.objs.size + 1) = some o := X _ _ e
      exact absurd (Nat.lt_of_succ_lt (Heap.lt_size z)) (Nat.lt_irrefl _)
  refine call_ownG F.excBase_LookupError T.mr (X _ _ hC) (looks_findIn X T.iC) (fun self => bind_fn X self T.tC) (one_le v) ?_
  refine init (s := ⟨(hp.push (kdv_tup [v])).push (excO C hp.objs.size), g, dr, tk, os⟩) T (X.keeps k) (hlim.keeps k) hget hnx ?_ fun h' tk' dx ⟨k', hx, dn, dne, hns⟩ => ?_
  · show A.depth + 1 < recursionLimit
    exact hroom
  · have old : ∀ b o, hp.get? b = some o → h'.get? b = some o := fun b o e => k' b o (Nat.ne_of_lt (Nat.lt_succ_of_lt (Heap.lt_size e))) (k b o e)
    have z : hp.objs.size + 1 + 1 ≤ dx := by
      first
        | (simpa only [Heap.size_push] using dn)
        | exact dn
        | (have q := dn; rw [Heap.size_push, Heap.size_push] at q; exact q)
    exact ⟨rfl, hq h' tk' (hp.objs.size + 1) dx ⟨old, Nat.le_succ _, ⟨_, _, hx, rfl, rfl, rfl, rfl⟩, Nat.le_trans (Nat.le_trans (Nat.le_succ _) (Nat.le_succ _)) z, dne, hns⟩⟩
end
end LState
end K1
namespace K1
open PySem PySem.Spec PyProof.Rows L2
section
variable {X : Cx} {cn ql : Str} {bm : List Value} {C fI : Addr}
theorem pmk_LState {a : Expr} {ta : TA} {p pos : Pos} {k : Nat} (T : LState.Txt X.K X.mg cn ql bm C fI) (hr : Room k X.A) (ha : PA X [a] ta) (hg : Gl X cn := by rfl)
    (he : starEach (a :: []) X.env = (false, eval a X.env) :: starEach [] X.env := by rfl) (hpl : (backTo pos (starEach [] X.env)).any (·.1) = false := by rfl) (hdb : (cn == ("__debug__" : Str)) = false := by decide) :
    PMk X (.Call (.Name cn p) [a] [] pos) (tMkF "state" C ta) := by
  intro pins s σ H Q I h
  refine wpAny_Call_Name_kw (ld_glob I hg T.gC ?_ hdb)
  refine PySem.W.callWith_K (h₀ := X.base) I.ok.mod.kin T.kC (thn (ha.run pos pins s σ H _ I h) fun us s1 hh => ?_) he hpl
  obtain ⟨vs, H1, I1, r1, v, ev, q1⟩ := hh
  subst ev
  refine ⟨I1.kIn, ?_⟩
  cases r1 with
  | cons rv rn =>
    rename_i v' us'
    cases rn
    show wpAny _ _ (call (.ref C) [v']) _ _ _
    have hlim := I1.nolimit
    obtain ⟨hp, g, dr, tk, os⟩ := s1
    refine wpAny_call (LState.made T I1.kIn hlim (by have := hr.dp; omega) fun h' tk' e d M => ?_)
    show MkP X pins σ Q (.ref e) ⟨h', g, dr, tk', os⟩
    obtain ⟨oe, fv, hoe, hc, hd, hdat, h1⟩ := M.obj
    have hns := M.ns
    obtain ⟨G', g1, g2⟩ := restrict h' fun b => decide (b ≠ e)
    have gk : ∀ b, b ≠ e → G'.get? b = h'.get? b := fun b hb => g1 b (decide_eq_true hb)
    have ge : G'.get? e = none := g2 e (by simp)
    have old : ∀ b o, hp.get? b = some o → G'.get? b = some o := fun b o q => (gk b (Nat.ne_of_lt (Nat.lt_of_lt_of_le (Heap.lt_size q) M.new))).trans (M.keep b o q)
    have ob : ObjOk X.prog X.w (upd H1 d (.xd [(("state" : Str), v)])) G' d (.xd [(("state" : Str), v)]) :=
      ⟨_, hns.at (fun o q => (gk d M.dne).trans q), fun f => relO_one rv f⟩
    have J : Inv X pins σ (upd H1 d (.xd [(("state" : Str), v)])) ⟨G', g, dr, tk', os⟩ := I1.laid (t' := tk') old M.dbig ob
    refine ⟨e, oe, fv, ⟨G', g, dr, tk', os⟩, _, .ref C, some d, rfl, J, fun b o q => ?_, ge, hoe, ⟨hc, hd⟩, hdat, h1, ?_, rfl, I1.bare, raises_own T.exC T.tyC, q1 d (I1.hok.fresh M.dbig)⟩
    · by_cases hb : b = e
      · have q' : G'.get? b = some o := q
        rw [hb, ge] at q'; cases q'
      · exact (gk b hb).symm.trans q
    · rw [upd_ne (Ne.symm M.dne)]
      exact I1.hok.fresh M.new
theorem ps_raise_LState {a : Expr} {ta : TA} {W : WX} {p pos pos2 : Pos} {k : Nat} (hc : X.calm = true) (T : LState.Txt X.K X.mg cn ql bm C fI) (hr : Room k X.A) (tk : Takes X W) (ha : PA X [a] ta) (hg : Gl X cn := by rfl)
    (he : starEach (a :: []) X.env = (false, eval a X.env) :: starEach [] X.env := by rfl) (hpl : (backTo pos (starEach [] X.env)).any (·.1) = false := by rfl) (hdb : (cn == ("__debug__" : Str)) = false := by decide) :
    PS X (.Raise (some (.Call (.Name cn p) [a] [] pos)) none pos2) (tRaiseF "state" C W ta) := ps_raise hc tk (pmk_LState T hr ha hg he hpl hdb)
theorem pe_by_LState {a : Addr} {oe : Obj} {cls : Value} {d : Option Addr} {pn : List (Addr × Obj)} {e : Expr} {te : TE} {pos : Pos} (T : LState.Txt X.K X.mg cn ql bm C fI) (hz : Zc cls d oe) (hf : ∃ vs, oe.data = .fields vs) (he : PE (X.suite a ((a, oe) :: pn)) e te)
    (hb : attributeBase e "state" X.env (eval e X.env) = eval e X.env := by rfl) :
    PE (X.suite a ((a, oe) :: pn)) (.Attribute e "state" pos) (tByF "state" C a cls d te) := by
  refine ⟨fun pins s σ H Q I h => ?_⟩
  refine attr_of hb (thn (he.run pins s σ H _ I h) fun u s1 hh => ?_)
  obtain ⟨x, H1, I1, rx, ex, ec, dd, v, ed, ea, q⟩ := hh
  subst ex
  obtain rfl : u = Value.ref a := rx
  subst ec
  subst ed
  obtain ⟨ha, _⟩ := I1.pin (a, oe) (List.mem_append_left _ List.mem_cons_self)
  obtain ⟨vs, hd⟩ := hf
  have hx : ObjOk X.prog X.w H1 s1.heap dd (.xd [(("state" : Str), v)]) := I1.hok dd _ ea
  obtain ⟨mA, hns, hr⟩ := hx
  obtain ⟨od, ho, hl⟩ := lookIn_ns hns
  have l : List.lookup ("state" : Str) [(("state" : Str), v)] = some v := by simp [List.lookup]
  obtain ⟨u, hu, ru⟩ := RelO.some_of (v := v) (o := mA "state") (by rw [← l]; exact hr "state")
  have J : PySem.W.InstAt s1.heap a oe C (some od) := ⟨ha, hz.1, by unfold PySem.W.notCls; rw [hd] <;> rfl, by rw [hz.2]; exact ho⟩
  exact HandSPX.exc_get I1.kIn J T.ga T.gg T.exC (PySem.W.findObj_own T.hdC T.noN rfl (by rw [hl, hu])) (handed_of ru) ⟨v, H1, I1.tok _, ru, q⟩
end
end K1

namespace K1
namespace LDeed
open PySem PySem.W PySem.Calls PyProof.Rows PySem.HandSPX
/-- the text of __init__ -/
def iA (p1 p2 : Pos) : Arguments := { posonlyargs := [], args := [{ arg := "self", annotation := none, pos := p1 }, { arg := "deed", annotation := none, pos := p2 }], vararg := none, kwonlyargs := [], kw_defaults := [], kwarg := none, defaults := [] }
def iB (q1 q2 q3 q4 : Pos) : List Stmt := [.Assign [.Attribute (.Name "self" q1) "deed" q2] (.Name "deed" q3) q4]
def iS : Scope := { kind := .function, names := [(PySem.Str.ofString "self", .local), (PySem.Str.ofString "deed", .local)], isGenerator := false, isCoroutine := false, more := [] }
/-- what the written part says of the class at C (named cn), of its chain bm, and of its __init__, at fI -/
structure Txt (K : Frag) (mg : Str → Option Value) (cn ql : Str) (bm : List Value) (C fI : Addr) : Prop where
  gC : mg cn = some (.ref C)
  cls : ∃ nm q N bs sn sub ab col dd k0 k1 k2 k3 k5, K.lookup C = some (excClassObj nm q C N bs bm true sn sub ab col dd k0 k1 k2 k3 k5 "LookupError.__new__")
  mr : Mro "LookupError" bm
  sa : findIn K (.ref C) "__setattr__" = some (some (.builtin "object.__setattr__"))
  ga : findIn K (.ref C) "__getattribute__" = some (some (.builtin "BaseException.__getattribute__"))
  gg : findIn K (.ref C) "__getattr__" = some none
  noN : findIn K (.ref C) "deed" = some none
  iC : findIn K (.ref C) "__init__" = some (some (.ref fI))
  tC : typeIn K (.ref fI) = some (.type "function")
  kC : keepIn K (.ref C) = true
  exC : subIn K (.ref C) (.type "BaseException") = some true
  tyC : typeIn K (.ref C) = some (.type "type")
  hdC : hasDictIn K C = true
  fn : ∃ (oc : Value) (od : Option Addr) (doc pm : Value) (an : Option Addr) (cdv ct : Value) (osl : Array (Option Value)) (p1 p2 q1 q2 q3 q4 : Pos),
    K.lookup fI = some ⟨oc, od, .func (fnOf "__init__" ql (iA p1 p2) (iB q1 q2 q3 q4) iS .none .none doc pm an cdv ct), osl⟩ ∧ codeIn K cdv ql = true
/-- what __init__ leaves of a fresh exception at x -/
structure InitEnd (h h' : Heap) (x C dx t1 : Addr) (v : Value) : Prop where
  keep : ∀ b o, b ≠ x → h.get? b = some o → h'.get? b = some o
  obj : h'.get? x = some { cls := .ref C, dict := some dx, data := .fields #[.ref t1, .none, .none, .none, .bool false, .none] }
  dbig : h.objs.size ≤ dx
  dne : dx ≠ x
  ns : h'.Ns1 dx (fun y => if y = "deed" then some v else none)
structure OwnMade (h h' : Heap) (e C d : Addr) (v : Value) : Prop where
  keep : ∀ b o, h.get? b = some o → h'.get? b = some o
  new : h.objs.size ≤ e
  obj : ∃ oe vs, h'.get? e = some oe ∧ oe.cls = .ref C ∧ oe.dict = some d ∧ oe.data = .fields vs ∧ vs[1]? = some .none
  dbig : h.objs.size ≤ d
  dne : d ≠ e
  ns : h'.Ns1 d (fun y => if y = "deed" then some v else none)
section
variable {prog : Program} {w : World} {A : Around} {E : Value → Shared → Prop} {R : Result → Shared → Prop} {s : Shared} {K : Frag} {mg : Str → Option Value} {cn ql : Str} {bm : List Value} {C fI : Addr}
theorem init (T : Txt K mg cn ql bm C fI) {x t0 : Addr} {v : Value} (X : K.In s.heap) (hlim : s.heap.NoLimit) (hx : s.heap.get? x = some (excO C t0)) (hnx : K.lookup x = none) (hroom : A.depth < recursionLimit)
    (hq : ∀ h' tk dx, InitEnd s.heap h' x C dx t0 v → R (.ok (.ret .none)) { s with heap := h', toks := tk }) :
    codeAny (model prog w) A (.call (.ref fI) ⟨[.ref x, v], []⟩) R s := by
  obtain ⟨oc, od, doc, pm, an, cdv, ct, osl, p1, p2, q1, q2, q3, q4, ho, hcd⟩ := T.fn
  obtain ⟨nm, q, N, bs, sn, sub, ab, col, dd, k0, k1, k2, k3, k5, hC⟩ := T.cls
  have hcl : clsIn K C = some { name := nm, bases := bs, mro := .ref C :: bm, ns := N, qualname := q, hasDict := true, slotNames := sn, subclasses := sub, abstract := ab, collection := col, hasDel := false } := by unfold clsIn; rw [hC] <;> rfl
  refine Att.call_fn (binds := [("self", .ref x), ("deed", v)]) X hlim ho hcd hroom (BindsTo.of_eq (by first | rfl | with_unfolding_all rfl)) (by first | rfl | decide | with_unfolding_all rfl) (fun s₁ IC => ?_) rfl rfl rfl
  obtain ⟨h₁, tk₁, rfl⟩ := IC.toInCall.same
  have k : ∀ b o, s.heap.get? b = some o → h₁.get? b = some o := IC.toInCall.keep
  have hn := IC.toInCall.ns
  have X₁ : K.In h₁ := X.keeps k
  have hx₁ := k _ _ hx
  show wpAny _ _ (execs _ _) _ _ _
  refine wpAny_execs_cons (plainObj_wpAny_Assign_Attribute ?_)
  refine ldE (v := v) hn (by first | rfl | with_unfolding_all rfl | kernel_rfl) (ldE (v := .ref x) hn (by first | rfl | with_unfolding_all rfl | kernel_rfl) ?_)
  refine set_plain X₁ (ox := excO C t0) (od := none) ⟨hx₁, rfl, rfl, trivial⟩ T.sa ?_
  refine exc_osaG X₁ hx₁ hcl rfl T.mr rfl T.noN (fun h₃ tk₃ dx k₃ dn dne hx₃ hn₃ => ?_)
  show wpAny _ _ (execs _ _) _ _ _
  have z : s.heap.objs.size < h₁.objs.size := hn.lt
  exact wpAny_execs_nil (hq h₃ tk₃ dx ⟨fun b o hb e => k₃ b o hb (k b o e), hx₃, Nat.le_of_lt (Nat.lt_of_lt_of_le z dn), dne, hn₃⟩)
theorem made (T : Txt K mg cn ql bm C fI) {v : Value} (X : K.In s.heap) (hlim : s.heap.NoLimit) (hroom : A.depth + 1 < recursionLimit)
    (hq : ∀ h' tk e d, OwnMade s.heap h' e C d v → R (.ok (.ret (.ref e))) { s with heap := h', toks := tk }) :
    codeAny (model prog w) A (.call (.ref C) ⟨[v], []⟩) R s := by
  obtain ⟨nm, q, N, bs, sn, sub, ab, col, dd, k0, k1, k2, k3, k5, hC⟩ := T.cls
  obtain ⟨hp, g, dr, tk, os⟩ := s
  have k : ∀ b o, hp.get? b = some o → ((hp.push (kdv_tup [v])).push (excO C hp.objs.size)).get? b = some o := fun b o e => Heap.get?_push_of_some _ (Heap.get?_push_of_some _ e)
  have hget : ((hp.push (kdv_tup [v])).push (excO C hp.objs.size)).get? (hp.objs.size + 1) = some (excO C hp.objs.size) := by heap_get
  have hnx : K.lookup (hp.objs.size + 1) = none := by
    cases e : K.lookup (hp.objs.size + 1) with
    | none => rfl
    | some o =>
      have z : hp.get? (hp.objs.size + 1) = some o := X _ _ e
      exact absurd (Nat.lt_of_succ_lt (Heap.lt_size z)) (Nat.lt_irrefl _)
  refine call_ownG F.excBase_LookupError T.mr (X _ _ hC) (looks_findIn X T.iC) (fun self => bind_fn X self T.tC) (one_le v) ?_
  refine init (s := ⟨(hp.push (kdv_tup [v])).push (excO C hp.objs.size), g, dr, tk, os⟩) T (X.keeps k) (hlim.keeps k) hget hnx ?_ fun h' tk' dx ⟨k', hx, dn, dne, hns⟩ => ?_
  · show A.depth + 1 < recursionLimit
    exact hroom
  · have old : ∀ b o, hp.get? b = some o → h'.get? b = some o := fun b o e => k' b o (Nat.ne_of_lt (Nat.lt_succ_of_lt (Heap.lt_size e))) (k b o e)
    have z : hp.objs.size + 1 + 1 ≤ dx := by
      first
        | (simpa only [Heap.size_push] using dn)
        | exact dn
        | (have q := dn; rw [Heap.size_push, Heap.size_push] at q; exact q)
    exact ⟨rfl, hq h' tk' (hp.objs.size + 1) dx ⟨old, Nat.le_succ _, ⟨_, _, hx, rfl, rfl, rfl, rfl⟩, Nat.le_trans (Nat.le_trans (Nat.le_succ _) (Nat.le_succ _)) z, dne, hns⟩⟩
end
end LDeed
end K1
namespace K1
open PySem PySem.Spec PyProof.Rows L2
section
variable {X : Cx} {cn ql : Str} {bm : List Value} {C fI : Addr}
theorem pmk_LDeed {a : Expr} {ta : TA} {p pos : Pos} {k : Nat} (T : LDeed.Txt X.K X.mg cn ql bm C fI) (hr : Room k X.A) (ha : PA X [a] ta) (hg : Gl X cn := by rfl)
    (he : starEach (a :: []) X.env = (false, eval a X.env) :: starEach [] X.env := by rfl) (hpl : (backTo pos (starEach [] X.env)).any (·.1) = false := by rfl) (hdb : (cn == ("__debug__" : Str)) = false := by decide) :
    PMk X (.Call (.Name cn p) [a] [] pos) (tMkF "deed" C ta) := by
  intro pins s σ H Q I h
  refine wpAny_Call_Name_kw (ld_glob I hg T.gC ?_ hdb)
  refine PySem.W.callWith_K (h₀ := X.base) I.ok.mod.kin T.kC (thn (ha.run pos pins s σ H _ I h) fun us s1 hh => ?_) he hpl
  obtain ⟨vs, H1, I1, r1, v, ev, q1⟩ := hh
  subst ev
  refine ⟨I1.kIn, ?_⟩
  cases r1 with
  | cons rv rn =>
    rename_i v' us'
    cases rn
    show wpAny _ _ (call (.ref C) [v']) _ _ _
    have hlim := I1.nolimit
    obtain ⟨hp, g, dr, tk, os⟩ := s1
    refine wpAny_call (LDeed.made T I1.kIn hlim (by have := hr.dp; omega) fun h' tk' e d M => ?_)
    show MkP X pins σ Q (.ref e) ⟨h', g, dr, tk', os⟩
    obtain ⟨oe, fv, hoe, hc, hd, hdat, h1⟩ := M.obj
    have hns := M.ns
    obtain ⟨G', g1, g2⟩ := restrict h' fun b => decide (b ≠ e)
    have gk : ∀ b, b ≠ e → G'.get? b = h'.get? b := fun b hb => g1 b (decide_eq_true hb)
    have ge : G'.get? e = none := g2 e (by simp)
    have old : ∀ b o, hp.get? b = some o → G'.get? b = some o := fun b o q => (gk b (Nat.ne_of_lt (Nat.lt_of_lt_of_le (Heap.lt_size q) M.new))).trans (M.keep b o q)
    have ob : ObjOk X.prog X.w (upd H1 d (.xd [(("deed" : Str), v)])) G' d (.xd [(("deed" : Str), v)]) :=
      ⟨_, hns.at (fun o q => (gk d M.dne).trans q), fun f => relO_one rv f⟩
    have J : Inv X pins σ (upd H1 d (.xd [(("deed" : Str), v)])) ⟨G', g, dr, tk', os⟩ := I1.laid (t' := tk') old M.dbig ob
    refine ⟨e, oe, fv, ⟨G', g, dr, tk', os⟩, _, .ref C, some d, rfl, J, fun b o q => ?_, ge, hoe, ⟨hc, hd⟩, hdat, h1, ?_, rfl, I1.bare, raises_own T.exC T.tyC, q1 d (I1.hok.fresh M.dbig)⟩
    · by_cases hb : b = e
      · have q' : G'.get? b = some o := q
        rw [hb, ge] at q'; cases q'
      · exact (gk b hb).symm.trans q
    · rw [upd_ne (Ne.symm M.dne)]
      exact I1.hok.fresh M.new
theorem ps_raise_LDeed {a : Expr} {ta : TA} {W : WX} {p pos pos2 : Pos} {k : Nat} (hc : X.calm = true) (T : LDeed.Txt X.K X.mg cn ql bm C fI) (hr : Room k X.A) (tk : Takes X W) (ha : PA X [a] ta) (hg : Gl X cn := by rfl)
    (he : starEach (a :: []) X.env = (false, eval a X.env) :: starEach [] X.env := by rfl) (hpl : (backTo pos (starEach [] X.env)).any (·.1) = false := by rfl) (hdb : (cn == ("__debug__" : Str)) = false := by decide) :
    PS X (.Raise (some (.Call (.Name cn p) [a] [] pos)) none pos2) (tRaiseF "deed" C W ta) := ps_raise hc tk (pmk_LDeed T hr ha hg he hpl hdb)
theorem pe_by_LDeed {a : Addr} {oe : Obj} {cls : Value} {d : Option Addr} {pn : List (Addr × Obj)} {e : Expr} {te : TE} {pos : Pos} (T : LDeed.Txt X.K X.mg cn ql bm C fI) (hz : Zc cls d oe) (hf : ∃ vs, oe.data = .fields vs) (he : PE (X.suite a ((a, oe) :: pn)) e te)
    (hb : attributeBase e "deed" X.env (eval e X.env) = eval e X.env := by rfl) :
    PE (X.suite a ((a, oe) :: pn)) (.Attribute e "deed" pos) (tByF "deed" C a cls d te) := by
  refine ⟨fun pins s σ H Q I h => ?_⟩
  refine attr_of hb (thn (he.run pins s σ H _ I h) fun u s1 hh => ?_)
  obtain ⟨x, H1, I1, rx, ex, ec, dd, v, ed, ea, q⟩ := hh
  subst ex
  obtain rfl : u = Value.ref a := rx
  subst ec
  subst ed
  obtain ⟨ha, _⟩ := I1.pin (a, oe) (List.mem_append_left _ List.mem_cons_self)
  obtain ⟨vs, hd⟩ := hf
  have hx : ObjOk X.prog X.w H1 s1.heap dd (.xd [(("deed" : Str), v)]) := I1.hok dd _ ea
  obtain ⟨mA, hns, hr⟩ := hx
  obtain ⟨od, ho, hl⟩ := lookIn_ns hns
  have l : List.lookup ("deed" : Str) [(("deed" : Str), v)] = some v := by simp [List.lookup]
  obtain ⟨u, hu, ru⟩ := RelO.some_of (v := v) (o := mA "deed") (by rw [← l]; exact hr "deed")
  have J : PySem.W.InstAt s1.heap a oe C (some od) := ⟨ha, hz.1, by unfold PySem.W.notCls; rw [hd] <;> rfl, by rw [hz.2]; exact ho⟩
  exact HandSPX.exc_get I1.kIn J T.ga T.gg T.exC (PySem.W.findObj_own T.hdC T.noN rfl (by rw [hl, hu])) (handed_of ru) ⟨v, H1, I1.tok _, ru, q⟩
end
end K1
/-! enumerate over a tuple, repr of data of any depth, isinstance of a held exception -/
namespace K1
open PySem PySem.Spec PyProof.Rows L2
theorem meets_enum1 {v : Value} {o : Obj} {H : Heap → Prop} (B : Begins v o H) :
    Meets (Builtin.«enumerate.__new__» ⟨[.type "enumerate", v], []⟩) (fun _ R s => H s.heap ∧
      R (.ok (.ret (.ref (s.heap.push o).objs.size))) { s with heap := (s.heap.push o).push { cls := .type "enumerate", data := .fields #[.none, .bool false, .ref s.heap.objs.size, rawInt 0, .none, .none] } }) :=
  .of_wp fun prog w A R s h => by
    obtain ⟨hp, g, d, tk, os⟩ := s
    obtain ⟨h1, h⟩ := h
    have hsub := sub_enumerate
    have q1 : ∀ {A' : Around} {E : Value → Shared → Prop} {Q : Value → Shared → Prop}, Q (.ref hp.objs.size) ⟨hp.push o, g, d, tk, os⟩ → wpAny (model prog w) A' (pyIter v) Q E ⟨hp, g, d, tk, os⟩ :=
      fun q => B.iter prog w _ _ ⟨hp, g, d, tk, os⟩ _ h1 q
    wp_walk using q1
    refine wpAny_stack_any fun st => wpAny_pure ?_
    split
    · rename_i c _ _ _ _ _
      cases (c == Value.type "enumerate") <;> (wp_walk using q1; exact ⟨_, rfl, h⟩)
    · wp_walk using q1
      exact ⟨_, rfl, h⟩
theorem enum_begins1 {prog : Program} {w : World} {A : Around} {E : Value → Shared → Prop} {s : Shared} {v : Value} {o : Obj} {H : Heap → Prop} {Q : Value → Shared → Prop} (B : Begins v o H) (h1 : H s.heap)
    (h : ∀ h', IsEnum h' (s.heap.objs.size + 1) s.heap.objs.size 0 .none → h'.get? s.heap.objs.size = some o → h'.objs.size = s.heap.objs.size + 2 →
      (∀ b o, s.heap.get? b = some o → h'.get? b = some o) → Q (.ref (s.heap.objs.size + 1)) { s with heap := h' }) :
    wpAny (model prog w) A (call (.type "enumerate") [v]) Q E s := by
  refine callType_new F.called_enumerate (by decide) (F.typeCall_enumerate_1 _) (F.newCall_enumerate_1 _) (fun obj => F.args_object_init_2 obj _) F.entry_enumerate_new (meets_enum1 B) ⟨h1, ?_⟩
  have hz : (s.heap.push o).objs.size = s.heap.objs.size + 1 := Heap.size_push ..
  show _ ∧ _
  rw [hz]
  have he := Heap.get?_push_size (s.heap.push o) (o := { cls := .type "enumerate", data := .fields #[.none, .bool false, .ref s.heap.objs.size, rawInt 0, .none, .none] }) rfl
  rw [hz] at he
  exact ⟨⟨_, he, rfl⟩, h _ he (Heap.get?_push_of_some _ (Heap.get?_push_size _ B.free)) (by rw [Heap.size_push, hz]) fun b o x => Heap.get?_push_of_some _ (Heap.get?_push_of_some _ x)⟩
/-- the tuple at a, each item in a new pair -/
def IteT (K : PySem.W.Frag) (a : Addr) : It :=
  ⟨fun i H => ∃ (xs : List V) (x : V), SqT K H a xs ∧ xs[i]? = some x, fun i H v H' => ∃ T x, v = .ref T ∧ H T = none ∧ H' = upd H T (.tup [.int (i : Nat), x]) ∧ ∀ xs, SqT K H a xs → xs[i]? = some x, fun i H => ∃ xs : List V, SqT K H a xs ∧ xs.length ≤ i⟩
theorem turn_enumT {P : Program} {w : World} {K : PySem.W.Frag} {elts : List Expr} {kk : Nat} {tpos : Pos} (a e it : Addr) :
    Turn P w K (.Tuple elts kk tpos) (IteT K a) [e, it] e (fun i h => (∃ old, IsEnum h e it ((i : Nat) : Int) old) ∧ h.IsTupleIter it a i ∧ e ≠ it ∧ e ≠ a ∧ a ≠ it) where
  mem := by simp
  obj := fun i h st b hb => by
    obtain ⟨⟨old, he⟩, ⟨o, ho, hc, hd⟩, _⟩ := st
    rcases (show b = e ∨ b = it by simpa using hb) with z | z
    · rw [z]; exact ⟨_, he, fun v q => nomatch q⟩
    · rw [z]; exact ⟨o, ho, fun v q => by rw [hd] at q; cases q⟩
  keep := fun i h h' st k => let ⟨⟨old, he⟩, hi, hne⟩ := st; ⟨⟨old, k e (by simp) _ he⟩, hi.at fun o q => k it (by simp) o q, hne⟩
  item := by
    intro X hP hw hK hc i pins s σ H E I hf st hg
    subst hP hw hK
    obtain ⟨⟨old, he⟩, hit, hne, nea, nai⟩ := st
    obtain ⟨xs, x, hq, hx⟩ := hg
    obtain ⟨its, rv, p, hz⟩ := I.tuple hq
    obtain ⟨u, hu, ru⟩ := rv.get hx
    have hil' := (List.getElem?_eq_some_iff.mp hu).1
    have hel : e < s.heap.objs.size := Heap.lt_size he
    have hil : it < s.heap.objs.size := by obtain ⟨_, q, _⟩ := hit; exact Heap.lt_size q
    have D := Draws.tuple (prog := X.prog) (w := X.w) (A := X.A.in1) (show X.A.in1.handled = none from I.ok.hd hc) it a nai its.toArray
    refine wpAny_pyNext_enum_itemD D he ⟨hit, (show s.heap.IsTuple a its.toArray from p)⟩ (by simpa using hil') hne (by simp [hne, nea]) fun y h' tk hy ho hst hT hsz hk => ?_
    have ey : y = u := by
      have z : its[i]? = some y := by simpa using hy
      rw [hu] at z
      exact (Option.some.inj z).symm
    subst ey
    refine ⟨_, rfl, wpAny_letOwnedTupleGo_enum (s := { s with heap := h', toks := tk + 1 }) ho fun h'' he' sb => ?_⟩
    have hT2 : h''.get? s.heap.objs.size = some { cls := .type "tuple", data := .seq #[.int i tk, y] } := (sb.2 _ (Nat.ne_of_gt hel)).trans hT
    have new : ObjOk X.prog X.w (upd H s.heap.objs.size (.tup [.int (i : Nat), x])) h'' s.heap.objs.size (.tup [.int (i : Nat), x]) :=
      ⟨by show 2 ≤ sizeLine; decide, [.int i tk, y], .cons ⟨_, rfl⟩ (.cons ru .nil), ⟨_, hT2, rfl, _, rfl⟩⟩
    have I1 : Inv X pins σ (upd H s.heap.objs.size (.tup [.int (i : Nat), x])) { s with heap := h'', toks := tk + 1 } :=
      I.turnedNew (ch := [e, it]) (fun b ob hb q => (sb.2 b (fun z => hb (by simp [z]))).trans (hk b ob (fun z => hb (by simp [z])) (fun z => hb (by simp [z])) q)) hf (Nat.le_refl _) new
    refine ⟨.ref s.heap.objs.size, _, I1, rfl, ⟨_, x, rfl, I.hok.fresh (Nat.le_refl _), rfl, fun ys hy => by rw [I.tuple_inj hy hq]; exact hx⟩, ⟨⟨y, ?_⟩, hst.1.at fun o q => (sb.2 it (Ne.symm hne)).trans q, hne, nea, nai⟩, fun b hb => ?_⟩
    · have e1 : ((i + 1 : Nat) : Int) = (i : Int) + 1 := by omega
      rw [e1]; exact he'
    · have hb' : b < s.heap.objs.size := by
        rcases (show b = e ∨ b = it by simpa using hb) with z | z
        · rw [z]; exact hel
        · rw [z]; exact hil
      rw [upd_ne (Nat.ne_of_lt hb')]
      exact (hf b hb).1
  done := by
    intro X hP hw hK hc i pins s σ H E I hf st hg
    subst hP hw hK
    obtain ⟨⟨old, he⟩, hit, hne, nea, nai⟩ := st
    obtain ⟨xs, hq, hx⟩ := hg
    obtain ⟨its, rv, p, hz⟩ := I.tuple hq
    obtain ⟨f0, f1, f2, f3, f4, f5⟩ := hf it (by simp)
    have hl := rv.length
    have hTs : s.TypeIs (.ref e) "enumerate" := ⟨_, he, rfl⟩
    unfold pyNext
    refine wpAny_bind (wpAny_attempt (wpAny_callSpecial?_slot (name := Str.ofString "__next__") hTs F.slot_enumerate_next
      (wpAny_call_entry F.slot_enumerate_next hTs F.entry_enumerate_next ?_ (F.args_enumerate_next_1 _))))
    show wpAny _ _ (field (.ref e) 2 >>= _) _ _ _
    refine wpAny_bind (wpAny_field he rfl (x := .ref it) rfl ?_)
    refine wpAny_bind (wpAny_nextOf_tuple_end (show X.A.in1.handled = none from I.ok.hd hc) hit (show s.heap.IsTuple a its.toArray from p) (by simp; omega) fun h' y eb hx' => ?_)
    obtain ⟨o, ho, hc'⟩ := hx'
    refine wpAny_bind (wpAny_isInstance (T := "StopIteration") (b := true) ⟨o, ho, hc'⟩ isSubtype_stop ?_)
    exact wpAny_pure ⟨rfl, I.turned (t' := s.toks) (fun b o hb q => eb b o hb q) f0 f1 f3 f4 f5⟩
  self := fun A i s Q E st h => let ⟨⟨_, he⟩, _⟩ := st; wpAny_pyIter_enum he h
def iEnumA (K : PySem.W.Frag) (ta : TA) : TI := fun σ H R => ta σ H fun vs H1 => ∃ a, vs = [.ref a] ∧ ((∃ xs, SqL K H1 a xs ∧ R (Ite K a) H1) ∨ (∃ xs, SqT K H1 a xs ∧ R (IteT K a) H1))
theorem pi_enumA {X : Cx} {e : Expr} {ta : TA} {p pos tpos : Pos} {elts : List Expr} {kk : Nat} (hg : Gl X "enumerate") (hm : X.mg "enumerate" = none) (ha : PA X [e] ta) (hs : starEach [e] X.env = [(false, eval e X.env)] := by rfl) :
    PI X (.Tuple elts kk tpos) (.Call (.Name "enumerate" p) [e] [] pos) (iEnumA X.K ta) := by
  refine ⟨fun pins s σ H R I h => ?_⟩
  refine Call_ (ld_blt I hg hm boot_enumerate (PyProof.Rows.callWith_type1 (thn (ha.run pos pins s σ H _ I h) fun us s1 ⟨vs, H1, I1, r1, q1⟩ => ?_) hs rfl))
  obtain ⟨a, ex, q⟩ := q1
  subst ex
  cases r1 with
  | cons r rr =>
    cases rr
    cases r
    have big : ∀ b ∈ [s1.heap.objs.size + 1, s1.heap.objs.size], s1.heap.objs.size ≤ b := fun b hb => by
      rcases (show b = s1.heap.objs.size + 1 ∨ b = s1.heap.objs.size by simpa using hb) with z | z
      · rw [z]; exact Nat.le_add_right _ _
      · rw [z]; exact Nat.le_refl _
    rcases q with ⟨xs, hq, q⟩ | ⟨xs, hq, q⟩
    · obtain ⟨its, rv, p', hz⟩ := I1.list hq
      refine call_enumerate_list p'.isList fun h' he hit hsz hk => wpAny_pyIter_enum he ?_
      have I2 : Inv X pins σ H1 { s1 with heap := h' } := I1.kept (t' := s1.toks) hk
      exact ⟨s1.heap.objs.size + 1, [s1.heap.objs.size + 1, s1.heap.objs.size], _, _, H1, rfl, I2, turn_enum a (s1.heap.objs.size + 1) s1.heap.objs.size, ⟨⟨.none, he⟩, hit, Nat.succ_ne_self _⟩, fun b hb => I1.fpOk (big b hb) (I1.hok.fresh (big b hb)), q⟩
    · obtain ⟨its, rv, p', hz⟩ := I1.tuple hq
      have hp : s1.heap.IsTuple a its.toArray := p'
      have hal : a < s1.heap.objs.size := by obtain ⟨_, q, _⟩ := hp; exact Heap.lt_size q
      refine enum_begins1 (begins_tuple a its.toArray) hp fun h' he hit hsz hk => wpAny_pyIter_enum he ?_
      have I2 : Inv X pins σ H1 { s1 with heap := h' } := I1.kept (t' := s1.toks) hk
      exact ⟨s1.heap.objs.size + 1, [s1.heap.objs.size + 1, s1.heap.objs.size], _, _, H1, rfl, I2, turn_enumT a (s1.heap.objs.size + 1) s1.heap.objs.size, ⟨⟨.none, he⟩, ⟨_, hit, rfl, rfl⟩, Nat.succ_ne_self _, Nat.ne_of_gt (Nat.lt_succ_of_lt hal), Nat.ne_of_lt hal⟩, fun b hb => I1.fpOk (big b hb) (I1.hok.fresh (big b hb)), q⟩
section
variable {K : PySem.W.Frag} {a : Addr} {xs : List V} {g : TG} {tb : TS} {D : Ends} {σ : L2.St} {H : Hp}
theorem for_enumL (Pv : Nat → L2.St → Hp → Prop) (h0 : Pv 0 σ H) (hl : ∀ i σ H, i ≤ xs.length → Pv i σ H → SqL K H a xs)
    (hs : ∀ i x T σ H, xs[i]? = some x → H T = none → Pv i σ H → g (.ref T) σ (upd H T (.tup [.int (i : Nat), x])) fun σ2 H2 => tb { D with nx := Pv (i + 1), ct := Pv (i + 1), bk := D.nx } σ2 H2) (hd : ∀ σ H, Pv xs.length σ H → D.nx σ H) :
    ∃ W : Nat → Nat → L2.St → Hp → Prop, (∃ m, W 0 m σ H) ∧ ∀ i m σ H, W i m σ H →
      ((Ite K a).stop i H ∧ D.nx σ H) ∨ ((Ite K a).go i H ∧ ∃ N : L2.St → Hp → Prop, (∀ σ' H', N σ' H' → ∃ m', m' < m ∧ W (i + 1) m' σ' H') ∧ ∀ x H', (Ite K a).yld i H x H' → g x σ H' fun σ2 H2 => tb { D with nx := N, ct := N, bk := D.nx } σ2 H2) := by
  refine ⟨fun i m σ H => m = xs.length - i ∧ i ≤ xs.length ∧ Pv i σ H, ⟨xs.length, by simp, Nat.zero_le _, h0⟩, ?_⟩
  rintro i m σ H ⟨rfl, hi, p⟩
  have q := hl i σ H hi p
  by_cases hlt : i < xs.length
  · refine .inr ⟨⟨xs, xs[i], q, by simp [hlt]⟩, Pv (i + 1), fun σ' H' p' => ⟨xs.length - (i + 1), by omega, rfl, hlt, p'⟩, fun x H' y => ?_⟩
    obtain ⟨T, x', e1, e2, e3, e4⟩ := y
    subst e1 e3
    exact hs i x' T σ H (e4 xs q) e2 p
  · have e : i = xs.length := by omega
    subst e
    exact .inl ⟨⟨xs, q, Nat.le_refl _⟩, hd σ H p⟩
theorem for_enumT (Pv : Nat → L2.St → Hp → Prop) (h0 : Pv 0 σ H) (hl : ∀ i σ H, i ≤ xs.length → Pv i σ H → SqT K H a xs)
    (hs : ∀ i x T σ H, xs[i]? = some x → H T = none → Pv i σ H → g (.ref T) σ (upd H T (.tup [.int (i : Nat), x])) fun σ2 H2 => tb { D with nx := Pv (i + 1), ct := Pv (i + 1), bk := D.nx } σ2 H2) (hd : ∀ σ H, Pv xs.length σ H → D.nx σ H) :
    ∃ W : Nat → Nat → L2.St → Hp → Prop, (∃ m, W 0 m σ H) ∧ ∀ i m σ H, W i m σ H →
      ((IteT K a).stop i H ∧ D.nx σ H) ∨ ((IteT K a).go i H ∧ ∃ N : L2.St → Hp → Prop, (∀ σ' H', N σ' H' → ∃ m', m' < m ∧ W (i + 1) m' σ' H') ∧ ∀ x H', (IteT K a).yld i H x H' → g x σ H' fun σ2 H2 => tb { D with nx := N, ct := N, bk := D.nx } σ2 H2) := by
  refine ⟨fun i m σ H => m = xs.length - i ∧ i ≤ xs.length ∧ Pv i σ H, ⟨xs.length, by simp, Nat.zero_le _, h0⟩, ?_⟩
  rintro i m σ H ⟨rfl, hi, p⟩
  have q := hl i σ H hi p
  by_cases hlt : i < xs.length
  · refine .inr ⟨⟨xs, xs[i], q, by simp [hlt]⟩, Pv (i + 1), fun σ' H' p' => ⟨xs.length - (i + 1), by omega, rfl, hlt, p'⟩, fun x H' y => ?_⟩
    obtain ⟨T, x', e1, e2, e3, e4⟩ := y
    subst e1 e3
    exact hs i x' T σ H (e4 xs q) e2 p
  · have e : i = xs.length := by omega
    subst e
    exact .inl ⟨⟨xs, q, Nat.le_refl _⟩, hd σ H p⟩
end
/-! ### repr -/
/-- repr of what is no object -/
def rReprS : List V → Hp → VK → Prop := fun xs H Q => ∃ v, xs = [v] ∧ ((v = .non ∧ Q (.str "None") H) ∨ (∃ b : Bool, v = .bl b ∧ Q (.str (if b then "True" else "False")) H) ∨ (∃ i : Int, v = .int i ∧ i.natAbs.log2 < 1920 ∧ Q (.str (toString i)) H) ∨
  ∃ x : Str, v = .str x ∧ (reprText x).length ≤ sizeLine ∧ Q (.str (reprText x)) H)
theorem call_reprS {X : Cx} : CallR X (.builtin "repr") rReprS := by
  intro pins s σ H xs us Q I r h
  obtain ⟨v, rfl, h⟩ := h
  obtain ⟨u, rfl, rv⟩ := vals1 r
  rcases h with ⟨rfl, q⟩ | ⟨b, rfl, q⟩ | ⟨i, rfl, hz, q⟩ | ⟨x, rfl, hz, q⟩
  · cases rv
    exact PySem.P.repr_of_none ⟨.str _, H, I.tok _, ⟨_, rfl⟩, q⟩
  · cases rv
    exact PySem.P.repr_of_bool ⟨.str _, H, I.tok _, ⟨_, rfl⟩, q⟩
  · obtain ⟨t, rfl⟩ := rv
    exact PySem.P.repr_of_int hz ⟨.str _, H, I.tok _, ⟨_, rfl⟩, q⟩
  · obtain ⟨t, rfl⟩ := rv
    exact PySem.P.repr_of_str (t := t) ⟨.str _, H, I.tok _, ⟨_, rfl⟩, q⟩ hz
/-- repr of a list or tuple: plain data without dicts -/
def rRepr (K : PySem.W.Frag) : List V → Hp → VK → Prop := fun xs H Q => ∃ a d, xs = [.ref a] ∧ Dp K H (.ref a) d ∧ PyData.showable d = true ∧ PyData.hasDict d = false ∧ PyData.depth d ≤ 40 ∧ d.shown.length ≤ sizeLine ∧ Q (.str d.shown) H
theorem call_repr {X : Cx} (hg : X.A.guards = some []) (hu : X.A.units + 64 < cLine) : CallR X (.builtin "repr") (rRepr X.K) := by
  intro pins s σ H xs us Q I r h
  obtain ⟨a, d, rfl, hd, h1, h2, h3, h4, q⟩ := h
  obtain ⟨u, rfl, rv⟩ := vals1 r
  obtain ⟨as, R⟩ := Dp.reads I d _ u hd rv
  cases rv
  exact repr_of_reads' R h1 (PyData.noDict_hsm h2) hg (by omega) (fun _ _ e => e) (fun h' u' tk k => ⟨.str _, H, I.kept (t' := tk) k, ⟨_, rfl⟩, q⟩) h4
/-! ### isinstance of the exception that a suite holds, its own dict at d -/
structure ExcK (K : PySem.W.Frag) (C : Addr) : Prop where
  cl : (PySem.W.clsIn K C).isSome = true
  ga : PySem.W.findIn K (.ref C) "__getattribute__" = some (some (.builtin "BaseException.__getattribute__"))
  gt : PySem.W.findIn K (.ref C) "__getattr__" = some none
  sb : PySem.W.subIn K (.ref C) (.type "BaseException") = some true
  ca : PySem.W.findIn K (.ref C) "__class__" = some (some (.builtin "object.__class__"))
  sp : PySem.W.specialIn K (.builtin "object.__class__") "__get__" = some (some (.builtin "getset_descriptor.__get__"))
  tk : PySem.W.takesIn K (.builtin "object.__class__") = some true
  mo : PySem.W.mroIn K C (.type "object") = some true
def rIsD (K : PySem.W.Frag) (C d a : Addr) : List V → Hp → VK → Prop := fun xs H Q => ∃ (N : Addr) (g : Str) (v : V) (b : Bool), xs = [.ref a, .ref N] ∧ H d = some (.xd [(g, v)]) ∧ PySem.W.kitOne K (.ref C) (.ref N) = some b ∧ Q (.bl b) H
theorem call_isD {X : Cx} {a C d : Addr} {oe : Obj} {pn : List (Addr × Obj)} (T : ExcK X.K C) (hz : Zc (.ref C) (some d) oe) (hf : ∃ vs, oe.data = .fields vs) : CallR (X.suite a ((a, oe) :: pn)) (.builtin "isinstance") (rIsD X.K C d a) := by
  intro pins s σ H xs us Q I r h
  obtain ⟨N, g, v, b, rfl, hx, e, q⟩ := h
  obtain ⟨u1, u2, rfl, r1, r2⟩ := vals2 r
  cases r1
  cases r2
  obtain ⟨hget, _⟩ := I.pin (a, oe) (List.mem_append.mpr (.inl List.mem_cons_self))
  obtain ⟨vs, hd⟩ := hf
  have hx' : ObjOk X.prog X.w H s.heap d (.xd [(g, v)]) := I.hok d _ hx
  obtain ⟨mA, hns, hr⟩ := hx'
  obtain ⟨od, ho, hl⟩ := lookIn_ns hns
  have J : PySem.W.InstAt s.heap a oe C (some od) := ⟨hget, hz.1, by unfold PySem.W.notCls; rw [hd] <;> rfl, by rw [hz.2]; exact ho⟩
  exact PySem.W.kia_one (PySem.W.kitx_exc T.cl T.ga T.gt T.sb T.ca T.sp T.tk T.mo) I.kIn J e (fun z => nomatch z) fun tk => ⟨.bl b, H, I.kept (t' := tk) fun _ _ z => z, rfl, q⟩
/-! ### defs whose bodies show lists: they are told where nothing is being shown -/
structure FnG (P : Program) (w : World) (K : PySem.W.Frag) (mg : Str → Option Value) (base : Heap) (k : Nat) (f : Addr) (fd : FuncData) (ps : List Str) (sp : Sp) : Prop where
  len : ∀ vs H Q E, sp vs H Q E → vs.length = ps.length
  run : ∀ (A : Around) (outer : List Env) (s : Shared) (H : Hp) (args : Args) (us : List Value) (vs : List V) (Q : VK) (E : XK), Room k A → A.guards = some [] → Env0 P w K mg base A outer s H → BindsTo s fd args (ps.zip us) → Vals vs us → sp vs H Q E →
    codeAny (model P w) A (.call (.ref f) args) (CR CX0 outer P w H s Q E) s
end K1
/-! the text by places; short words for calls -/
namespace K1
open PySem PySem.Spec PyProof.Rows L2
def top (i : Nat) : Stmt := PySem.Challenge.pw_houseslessties_k19_counts_that_do_no_har.main.body.getD i (.Pass ⟨0, 0, 0, 0⟩)
abbrev sNumb : Stmt := top 11
abbrev sTimes : Stmt := top 33
abbrev sCounts : Stmt := top 34
abbrev sHarm : Stmt := top 35
abbrev sDealt : Stmt := top 37
abbrev sAny : Stmt := top 38
abbrev sOf : Stmt := top 39
abbrev sTurned : Stmt := top 40
abbrev sMach : Stmt := top 41
abbrev sLLed : Stmt := top 42
abbrev sRows : Stmt := top 43
abbrev sHarmless : Stmt := top 44
abbrev sFar : Stmt := top 45
abbrev sHeard : Stmt := top 46
abbrev sOdd : Stmt := top 47
abbrev sLaw : Stmt := top 48
abbrev sWhole : Stmt := top 10
abbrev sBelow : Stmt := top 12
abbrev sSeq : Stmt := top 13
abbrev sFnb : Stmt := top 14
abbrev sMInit : Stmt := inClass (top 19) 0
abbrev sMEq : Stmt := inClass (top 19) 1
abbrev sIsTab : Stmt := top 20
abbrev sChk : Stmt := top 21
abbrev sNeedS : Stmt := top 22
abbrev sFault : Stmt := top 23
abbrev sRow : Stmt := top 24
abbrev sMoved : Stmt := top 25
abbrev sFirst : Stmt := top 26
abbrev sOrbit : Stmt := top 27
abbrev sCPaper : Stmt := top 29
abbrev sNeedC : Stmt := top 30
abbrev sPower : Stmt := top 31
/-- a def of the text: its object, its name in the module, how its arguments bind -/
structure Df (K : PySem.W.Frag) (mg : Str → Option Value) (x : Str) (st : Stmt) (ps : List Str) (f : Addr) (fd : FuncData) : Prop where
  F : Fun K x x st f fd
  g : mg x = some (.ref f)
  b : Binds K fd ps []
section
variable {X : Cx} {CX : CXT} {k : Nat} {f : Addr} {fd : FuncData} {ps : List Str} {sp : Sp} {E : XK} {x : Str} {st : Stmt} {p pos : Pos} {e : Expr} {es : List Expr} {t : TA}
/-- x(e, ..) -/
theorem pc (D : Df X.K X.mg x st ps f fd) (G : FnOk X.prog X.w X.K X.mg X.base CX k f fd ps sp) (hr : Room k X.A) (hx : Passes CX X E) (ha : PA X (e :: es) t) (hg : Gl X x := by rfl)
    (hdb : (x == ("__debug__" : Str)) = false := by decide) (he : starEach (e :: es) X.env = (false, eval e X.env) :: starEach es X.env := by rfl) (hpl : (backTo pos (starEach es X.env)).any (·.1) = false := by rfl) :
    PE X (.Call (.Name x p) (e :: es) [] pos) (tCall sp [] E t) := pe_call G hr hg D.g D.F.kp D.b .nil hx ha hdb he hpl
end
/-- what a def that raises may let out at its caller's def -/
theorem pass1 {X : Cx} {E : XK} (tk : Takes X (fun cls d _ H => E cls d H)) : Passes (L2.CX X.prog X.w) X E := passes_call tk fun _ _ _ _ h => h
/-! ### tests by cases -/
theorem ifD {c : Bool} {A B : Prop} (h1 : c = true → A) (h2 : c = false → B) : if c = true then A else B := by
  cases c with
  | true => exact iteT (h1 rfl)
  | false => exact iteF (h2 rfl)
theorem eqv {α : Type} {P : α → Prop} {a b : α} (e : a = b) (h : P b) : P a := e ▸ h
theorem qbl {Q : VK} {H : Hp} {a b : Bool} (e : a = b) (h : Q (.bl b) H) : Q (.bl a) H := e ▸ h
/-! ### values of any kind -/
/-- what a value is: some items for a list or a tuple, none for the others -/
inductive KV (K : PySem.W.Frag) (H : Hp) : V → Option (List V) → Prop
  | int (i : Int) : KV K H (.int i) none
  | bl (b : Bool) : KV K H (.bl b) none
  | non : KV K H .non none
  | str (x : Str) : KV K H (.str x) none
  | lst {a : Addr} {xs : List V} (h : H a = some (.lst xs)) : KV K H (.ref a) (some xs)
  | tup {a : Addr} {xs : List V} (h : H a = some (.tup xs)) : KV K H (.ref a) (some xs)
theorem KV.same {K : PySem.W.Frag} {H H' : Hp} {v : V} {o : Option (List V)} (h : KV K H v o) (s : Same H H') : KV K H' v o := by
  cases h with
  | int i => exact .int i
  | bl b => exact .bl b
  | non => exact .non
  | str x => exact .str x
  | lst h => exact .lst (s _ _ h)
  | tup h => exact .tup (s _ _ h)
def wholeB : V → Bool | .int _ => true | _ => false
def boolB : V → Bool | .bl _ => true | _ => false
inductive Tg where | i | b | n | s | l | t
def Tg.nm : Tg → String | .i => "int" | .b => "bool" | .n => "NoneType" | .s => "str" | .l => "list" | .t => "tuple"
def Tg.isI : Tg → Bool | .i => true | _ => false
def Tg.isB : Tg → Bool | .b => true | _ => false
def Tg.isQ : Tg → Bool | .l => true | .t => true | _ => false
theorem KV.ty {K : PySem.W.Frag} {H : Hp} {v : V} {o : Option (List V)} (h : KV K H v o) : ∃ g : Tg, TyX K H v (.type g.nm) ∧ g.isI = wholeB v ∧ g.isB = boolB v ∧ g.isQ = o.isSome := by
  cases h with
  | int i => exact ⟨.i, .base (.int i), rfl, rfl, rfl⟩
  | bl b => exact ⟨.b, .base (.bl b), rfl, rfl, rfl⟩
  | non => exact ⟨.n, .base .non, rfl, rfl, rfl⟩
  | str x => exact ⟨.s, .base (.str x), rfl, rfl, rfl⟩
  | lst h => exact ⟨.l, .base (.lst h), rfl, rfl, rfl⟩
  | tup h => exact ⟨.t, .base (.tup h), rfl, rfl, rfl⟩
theorem kit_I (K : PySem.W.Frag) (g : Tg) : PySem.W.kitOne K (.type g.nm) (.type "int") = some (g.isI || g.isB) := by
  cases g <;> exact kit_ty (by decide +kernel)
theorem kit_B (K : PySem.W.Frag) (g : Tg) : PySem.W.kitOne K (.type g.nm) (.type "bool") = some g.isB := by
  cases g <;> exact kit_ty (by decide +kernel)
def Tg.isL : Tg → Bool | .l => true | _ => false
def Tg.isT : Tg → Bool | .t => true | _ => false
theorem kit_L (K : PySem.W.Frag) (g : Tg) : PySem.W.kitOne K (.type g.nm) (.type "list") = some g.isL := by
  cases g <;> exact kit_ty (by decide +kernel)
theorem kit_T (K : PySem.W.Frag) (g : Tg) : PySem.W.kitOne K (.type g.nm) (.type "tuple") = some g.isT := by
  cases g <;> exact kit_ty (by decide +kernel)
theorem kit_Q (K : PySem.W.Frag) (g : Tg) : PySem.W.kitAny K (.type g.nm) [.type "list", .type "tuple"] = some g.isQ := by
  refine kitAny_cons (kit_L K g) (fun e => kitAny_cons (kit_T K g) (fun e2 => ?_) fun e2 => ?_) fun e => ?_
  all_goals (cases g <;> first | rfl | (cases e; done) | (cases e2; done))
/-- the built-in names that the text uses are the built-in ones -/
structure Bt (mg : Str → Option Value) : Prop where
  isinstance : mg "isinstance" = none
  int : mg "int" = none
  bool : mg "bool" = none
  list : mg "list" = none
  tuple : mg "tuple" = none
  len : mg "len" = none
  enumerate : mg "enumerate" = none
  range : mg "range" = none
  sorted : mg "sorted" = none
  set : mg "set" = none
  repr : mg "repr" = none
  abs : mg "abs" = none
  min : mg "min" = none
  max : mg "max" = none
  all : mg "all" = none
  zip : mg "zip" = none
  lcm : mg "lcm" = some (.builtin "math.lcm")
end K1
namespace K1
open PySem PySem.Spec PyProof.Rows L2
def belowB (v : V) (lim : Int) : Bool := match v with | .int i => decide (0 ≤ i) && decide (i < lim) | _ => false
def seqB (o : Option (List V)) (least most : Int) : Bool := match o with | some xs => decide (least ≤ (xs.length : Int)) && decide ((xs.length : Int) ≤ most) | none => false
def spWhole (K : PySem.W.Frag) : Sp := fun vs H Q _ => ∃ v o, vs = [v] ∧ KV K H v o ∧ Q (.bl (wholeB v)) H
def spBelow (K : PySem.W.Frag) : Sp := fun vs H Q _ => ∃ v o lim, vs = [v, .int lim] ∧ KV K H v o ∧ Q (.bl (belowB v lim)) H
def spSeq (K : PySem.W.Frag) : Sp := fun vs H Q _ => ∃ v o least most, vs = [v, .int least, .int most] ∧ KV K H v o ∧ ∀ H', Same H H' → Q (.bl (seqB o least most)) H'
section
variable {P : Program} {w : World} {K : PySem.W.Frag} {mg : Str → Option Value} {base : Heap}
theorem scW : FnScope ["value"] ["value"] (defScope sWhole) := ⟨rfl, rfl, rfl, by decide +kernel, rfl, by decide +kernel, by decide +kernel⟩
theorem ok_whole {f : Addr} {fd : FuncData} (D : Df K mg "is_whole" sWhole ["value"] f fd) (B : Bt mg) : FnOk P w K mg base CX0 1 f fd ["value"] (spWhole K) := by
  refine D.F.ok scW (fun vs H Q E h => ?_) (fun cdv A outer s H vs Q E hr h => ?_)
  · obtain ⟨v, o, rfl, _⟩ := h
    rfl
  · obtain ⟨v, o, rfl, kv, q⟩ := h
    obtain ⟨g, ty, eI, eB, eQ⟩ := kv.ty
    refine ⟨_, pss_one (ps_ret (pe_and (pe_callB call_isi (by rfl) B.isinstance (by decide +kernel) (pa_cons (pv 0) (pa_cons (pe_bltn (v := .ty "int") (by rfl) B.int PyProof.Rows.boot_int rfl) pa_nil)))
      (pe_one (pe_not (pe_callB call_isi (by rfl) B.isinstance (by decide +kernel) (pa_cons (pv 0) (pa_cons (pe_bltn (v := .ty "bool") (by rfl) B.bool PyProof.Rows.boot_bool rfl) pa_nil))))))), ?_⟩
    refine ⟨_, rfl, _, _, _, _, _, rfl, .ty _, ty, kit_I K g, _, rfl, ifD (fun e => ?_) fun e => ?_⟩
    · refine ⟨_, rfl, _, _, _, _, _, rfl, .ty _, ty, kit_B K g, _, rfl, ?_⟩
      have z : (!g.isB) = wholeB v := by rw [← eI]; cases g <;> first | rfl | cases e
      exact qbl z q
    · have z : false = wholeB v := by rw [← eI]; cases g <;> first | rfl | cases e
      exact qbl z q
theorem scB : FnScope ["value", "limit"] ["value", "limit"] (defScope sBelow) := ⟨rfl, rfl, rfl, by decide +kernel, rfl, by decide +kernel, by decide +kernel⟩
theorem ok_below {f fW : Addr} {fd fdW : FuncData} (D : Df K mg "is_below" sBelow ["value", "limit"] f fd) (DW : Df K mg "is_whole" sWhole ["value"] fW fdW) (B : Bt mg) : FnOk P w K mg base CX0 2 f fd ["value", "limit"] (spBelow K) := by
  have GW : FnOk P w K mg base CX0 1 fW fdW ["value"] (spWhole K) := ok_whole DW B
  refine D.F.ok scB (fun vs H Q E h => ?_) (fun cdv A outer s H vs Q E hr h => ?_)
  · obtain ⟨v, o, lim, rfl, _⟩ := h
    rfl
  · obtain ⟨v, o, lim, rfl, kv, q⟩ := h
    refine ⟨_, pss_one (ps_ret (pe_and (pc DW GW hr pass0 (pa_cons (pv 0) pa_nil)) (pe_one (pe_chain op_le op_lt pe_int (pv 0) (pv 1))))), ?_⟩
    refine ⟨_, rfl, _, _, rfl, kv, _, rfl, ifD (fun e => ?_) fun e => ?_⟩
    · obtain ⟨i, rfl⟩ : ∃ i, v = .int i := by
        cases v <;> first | exact ⟨_, rfl⟩ | cases e
      refine ⟨_, rfl, _, _, rfl, rfl, _, rfl, ifD (fun e2 => ?_) fun e2 => ?_⟩
      · refine ⟨_, rfl, _, _, rfl, rfl, ?_⟩
        have z : decide (i < lim) = belowB (.int i) lim := by
          show _ = (decide (0 ≤ i) && decide (i < lim))
          rw [e2]; rfl
        exact qbl z q
      · have z : false = belowB (.int i) lim := by
          show _ = (decide (0 ≤ i) && decide (i < lim))
          rw [e2]; rfl
        exact qbl z q
    · have z : false = belowB v lim := by cases v <;> first | rfl | cases e
      exact qbl z q
theorem scS : FnScope ["value", "least", "most"] ["value", "least", "most"] (defScope sSeq) := ⟨rfl, rfl, rfl, by decide +kernel, rfl, by decide +kernel, by decide +kernel⟩
theorem ok_seq {f : Addr} {fd : FuncData} (D : Df K mg "is_sequence" sSeq ["value", "least", "most"] f fd) (B : Bt mg) : FnOk P w K mg base CX0 1 f fd ["value", "least", "most"] (spSeq K) := by
  refine D.F.ok scS (fun vs H Q E h => ?_) (fun cdv A outer s H vs Q E hr h => ?_)
  · obtain ⟨v, o, least, most, rfl, _⟩ := h
    rfl
  · obtain ⟨v, o, least, most, rfl, kv, q⟩ := h
    refine ⟨_, pss_one (ps_ret (pe_and (pe_callB call_isiT (by rfl) B.isinstance (by decide +kernel) (pa_cons (pv 0) (pa_cons (pe_tup (pa_cons (pe_bltn (v := .ty "list") (by rfl) B.list PyProof.Rows.boot_list rfl) (pa_cons (pe_bltn (v := .ty "tuple") (by rfl) B.tuple PyProof.Rows.boot_tuple rfl) pa_nil))) pa_nil)))
      (pe_one (pe_chain op_le op_le (pv 1) (pe_callB call_len_seq (by rfl) B.len PySem.boot_len (pa_cons (pv 0) pa_nil)) (pv 2))))), ?_⟩
    refine ⟨_, rfl, (by show 2 ≤ sizeLine; decide), fun p hp => ?_⟩
    have sm : Same H (upd H p (.tup [.ty "list", .ty "tuple"])) := fun b o e => by rw [upd_ne (ne_of_none e hp)]; exact e
    obtain ⟨g, ty, eI, eB, eQ⟩ := (kv.same sm).ty
    refine ⟨_, _, _, _, _, _, rfl, upd_same, .cons (.ty _) (.cons (.ty _) .nil), ty, kit_Q K g, _, rfl, ifD (fun e => ?_) fun e => ?_⟩
    · have kv2 := kv.same sm
      generalize hH1 : upd H p (.tup [.ty "list", .ty "tuple"]) = H1 at *
      rw [eQ] at e
      have q2 := q _ sm
      cases kv with
      | lst h =>
        rename_i a xs
        have h1 : H1 a = some (.lst xs) := sm _ _ h
        refine ⟨_, rfl, _, rfl, _, _, rfl, .inl (SqL.of h1), _, _, rfl, rfl, _, rfl, ifD (fun e2 => ?_) fun e2 => ?_⟩
        · refine ⟨_, rfl, _, _, rfl, rfl, qbl ?_ q2⟩
          show _ = (decide (least ≤ (xs.length : Int)) && decide ((xs.length : Int) ≤ most))
          rw [e2]; rfl
        · refine qbl ?_ q2
          show _ = (decide (least ≤ (xs.length : Int)) && decide ((xs.length : Int) ≤ most))
          rw [e2]; rfl
      | tup h =>
        rename_i a xs
        have h1 : H1 a = some (.tup xs) := sm _ _ h
        refine ⟨_, rfl, _, rfl, _, _, rfl, .inr (SqT.of h1), _, _, rfl, rfl, _, rfl, ifD (fun e2 => ?_) fun e2 => ?_⟩
        · refine ⟨_, rfl, _, _, rfl, rfl, qbl ?_ q2⟩
          show _ = (decide (least ≤ (xs.length : Int)) && decide ((xs.length : Int) ≤ most))
          rw [e2]; rfl
        · refine qbl ?_ q2
          show _ = (decide (least ≤ (xs.length : Int)) && decide ((xs.length : Int) ≤ most))
          rw [e2]; rfl
      | _ => cases e
    · rw [eQ] at e
      have z : o = none := by cases o <;> first | rfl | cases e
      subst z
      exact q _ sm
end
end K1
namespace K1
open PySem PySem.Spec PyProof.Rows L2
def fnb (xs : List V) (lim : Int) : V := match xs.findIdx? (fun x => !belowB x lim) with | some i => .int (i : Nat) | none => .non
theorem fnb_at {xs : List V} {lim : Int} {i : Nat} {x : V} (hx : xs[i]? = some x) (hn : belowB x lim = false) (hb : ∀ j y, j < i → xs[j]? = some y → belowB y lim = true) : fnb xs lim = .int (i : Nat) := by
  obtain ⟨hi, ex⟩ := List.getElem?_eq_some_iff.mp hx
  have e : xs.findIdx? (fun x => !belowB x lim) = some i := by
    rw [List.findIdx?_eq_some_iff_getElem]
    refine ⟨hi, by rw [ex, hn]; rfl, fun j hj => ?_⟩
    have hj' : j < xs.length := Nat.lt_trans hj hi
    have := hb j xs[j] hj (by simp [hj'])
    simp [this]
  unfold fnb
  rw [e]
theorem fnb_none {xs : List V} {lim : Int} (hb : ∀ j y, j < xs.length → xs[j]? = some y → belowB y lim = true) : fnb xs lim = .non := by
  have e : xs.findIdx? (fun x => !belowB x lim) = none := by
    rw [List.findIdx?_eq_none_iff]
    intro x hx
    obtain ⟨j, hj, e⟩ := List.mem_iff_getElem.mp hx
    have := hb j xs[j] hj (by simp [hj])
    rw [← e, this]; rfl
  unfold fnb
  rw [e]
/-- a list or tuple at a -/
def SeqA (H : Hp) (a : Addr) (xs : List V) : Prop := H a = some (.lst xs) ∨ H a = some (.tup xs)
theorem SeqA.same {H H' : Hp} {a : Addr} {xs : List V} (h : SeqA H a xs) (s : Same H H') : SeqA H' a xs := h.elim (fun h => .inl (s _ _ h)) fun h => .inr (s _ _ h)
theorem SeqA.kv {K : PySem.W.Frag} {H : Hp} {a : Addr} {xs : List V} (h : SeqA H a xs) : KV K H (.ref a) (some xs) := h.elim .lst .tup
/-- each item is of some kind -/
def Kinds (K : PySem.W.Frag) (H : Hp) (xs : List V) : Prop := ∀ x ∈ xs, ∃ o, KV K H x o
theorem Kinds.same {K : PySem.W.Frag} {H H' : Hp} {xs : List V} (h : Kinds K H xs) (s : Same H H') : Kinds K H' xs := fun x hx => let ⟨o, k⟩ := h x hx; ⟨o, k.same s⟩
theorem same_new {H : Hp} {p : Addr} {o : HO} (hp : H p = none) : Same H (upd H p o) := fun b u e => by rw [upd_ne (ne_of_none e hp)]; exact e
def spFnb (K : PySem.W.Frag) : Sp := fun vs H Q _ => ∃ a xs lim, vs = [.ref a, .int lim] ∧ SeqA H a xs ∧ Kinds K H xs ∧ ∀ H', Same H H' → Q (fnb xs lim) H'
section
variable {P : Program} {w : World} {K : PySem.W.Frag} {mg : Str → Option Value} {base : Heap}
theorem scF : FnScope ["items", "limit", "at", "item"] ["items", "limit"] (defScope sFnb) := ⟨rfl, rfl, rfl, by decide +kernel, rfl, by decide +kernel, by decide +kernel⟩
/-- one turn of the search, and the way behind it: the iterator is a list's or a tuple's -/
theorem ok_fnb {f fB : Addr} {fd fdB : FuncData} (D : Df K mg "first_not_below" sFnb ["items", "limit"] f fd) (DB : Df K mg "is_below" sBelow ["value", "limit"] fB fdB) (B : Bt mg)
    (GB : FnOk P w K mg base CX0 2 fB fdB ["value", "limit"] (spBelow K)) : FnOk P w K mg base CX0 3 f fd ["items", "limit"] (spFnb K) := by
  refine D.F.ok scF (fun vs H Q E h => ?_) (fun cdv A outer s H vs Q E hr h => ?_)
  · obtain ⟨a, xs, lim, rfl, _⟩ := h
    rfl
  · obtain ⟨a, xs, lim, rfl, hS, hK, q⟩ := h
    refine ⟨_, pss_cons (ps_for PassesOwn.never rfl (pi_enumA (by rfl) B.enumerate (pa_cons (pv 0) pa_nil))
        (pg_tup rfl (pgs_cons (pg_name (i := 2) scF.nd rfl (.inl rfl)) (pgs_cons (pg_name (i := 3) scF.nd rfl (.inl rfl)) pgs_nil)))
        (pss_one (ps_if (pt_not (pt_val (pc DB GB hr pass0 (pa_cons (pv 3) (pa_cons (pv 1) pa_nil))))) (pss_one (ps_ret (pv 2))) pss_nil)))
      (pss_one (ps_ret pe_non)), ?_⟩
    let Pv : Nat → L2.St → Hp → Prop := fun i σ H' => ∃ v2 v3 : Option V, σ = [some (.ref a), some (.int lim), v2, v3] ∧ Same H H' ∧ ∀ j y, j < i → xs[j]? = some y → belowB y lim = true
    have end_ : ∀ σ H', Pv xs.length σ H' → Q .non H' := fun σ H' ⟨v2, v3, _, sm, hb⟩ => by
      have := q H' sm
      rw [fnb_none hb] at this
      exact this
    refine ⟨_, rfl, a, rfl, ?_⟩
    rcases hS with hS | hS
    · refine .inl ⟨xs, SqL.of hS, for_enumL (K := K) Pv ⟨none, none, rfl, Same.refl H, fun j y hj => absurd hj (Nat.not_lt_zero _)⟩ (fun i σ H' _ ⟨_, _, _, sm, _⟩ => SqL.of (sm _ _ hS)) ?_ end_⟩
      rintro i x T σ H' hx hT ⟨v2, v3, rfl, sm, hb⟩
      have sm2 : Same H (upd H' T (.tup [.int (i : Nat), x])) := sm.trans (same_new hT)
      obtain ⟨o, kv⟩ := hK x (List.mem_of_getElem? hx)
      refine ⟨T, _, rfl, SqT.of upd_same, rfl, _, _, rfl, _, _, rfl, rfl, ?_⟩
      refine ⟨_, rfl, _, rfl, _, o, lim, rfl, kv.same sm2, _, rfl, ?_⟩
      refine ifD (fun e => ?_) fun e => ?_
      · refine ⟨_, rfl, ?_⟩
        have e' : belowB x lim = false := by simpa using e
        have := q _ sm2
        rw [fnb_at hx e' hb] at this
        exact this
      · have e' : belowB x lim = true := by simpa using e
        refine ⟨_, _, rfl, sm2, fun j y hj hy => ?_⟩
        rcases Nat.lt_succ_iff_lt_or_eq.mp hj with z | z
        · exact hb j y z hy
        · subst z
          rw [hx] at hy
          rw [← Option.some.inj hy]
          exact e'
    · refine .inr ⟨xs, SqT.of hS, for_enumT (K := K) Pv ⟨none, none, rfl, Same.refl H, fun j y hj => absurd hj (Nat.not_lt_zero _)⟩ (fun i σ H' _ ⟨_, _, _, sm, _⟩ => SqT.of (sm _ _ hS)) ?_ end_⟩
      rintro i x T σ H' hx hT ⟨v2, v3, rfl, sm, hb⟩
      have sm2 : Same H (upd H' T (.tup [.int (i : Nat), x])) := sm.trans (same_new hT)
      obtain ⟨o, kv⟩ := hK x (List.mem_of_getElem? hx)
      refine ⟨T, _, rfl, SqT.of upd_same, rfl, _, _, rfl, _, _, rfl, rfl, ?_⟩
      refine ⟨_, rfl, _, rfl, _, o, lim, rfl, kv.same sm2, _, rfl, ?_⟩
      refine ifD (fun e => ?_) fun e => ?_
      · refine ⟨_, rfl, ?_⟩
        have e' : belowB x lim = false := by simpa using e
        have := q _ sm2
        rw [fnb_at hx e' hb] at this
        exact this
      · have e' : belowB x lim = true := by simpa using e
        refine ⟨_, _, rfl, sm2, fun j y hj hy => ?_⟩
        rcases Nat.lt_succ_iff_lt_or_eq.mp hj with z | z
        · exact hb j y z hy
        · subst z
          rw [hx] at hy
          rw [← Option.some.inj hy]
          exact e'
end
end K1
namespace K1
open PySem PySem.Spec PyProof.Rows L2
/-- the module's numbers -/
structure Ct (mg : Str → Option Value) : Prop where
  tabs : ∃ t, mg "MOST_TABLES" = some (.int 8 t)
  states : ∃ t, mg "MOST_STATES" = some (.int 12 t)
  row : ∃ t, mg "MOST_ROW" = some (.int 10000 t)
/-- a walk over a list or a tuple -/
def iSeqA (K : PySem.W.Frag) (tl : TE) : TI := fun σ H R => tl σ H fun x H1 => ∃ a, x = .ref a ∧ ((∃ xs, SqL K H1 a xs ∧ R (Itl K a) H1) ∨ (∃ xs, SqT K H1 a xs ∧ R (Itt K a) H1))
theorem pi_seqA {X : Cx} {tg l : Expr} {tl : TE} (hl : PE X l tl) : PI X tg l (iSeqA X.K tl) := by
  refine ⟨fun pins s σ H R I h => ?_⟩
  refine thn (hl.run pins s σ H _ I h) fun v s1 ⟨x, H1, I1, r1, q1⟩ => ?_
  obtain ⟨a, e, q⟩ := q1
  subst e
  cases r1
  rcases q with ⟨xs, hq, q⟩ | ⟨xs, hq, q⟩
  · obtain ⟨its, rv, p, hz⟩ := I1.list hq
    refine wpAny_pyIter_list p.isList ?_
    refine ⟨s1.heap.objs.size, [s1.heap.objs.size], _, _, H1, rfl, I1.kept (t' := s1.toks) fun b o e => Heap.get?_push_of_some _ e, turn_list a _, ⟨_, Heap.get?_push_size _ rfl, rfl, rfl⟩, fun b hb => ?_, q⟩
    have e : b = s1.heap.objs.size := by simpa using hb
    subst e
    exact I1.fpOk (Nat.le_refl _) (I1.hok.fresh (Nat.le_refl _))
  · obtain ⟨its, rv, p, hz⟩ := I1.tuple hq
    refine wpAny_pyIter_tuple (show s1.heap.IsTuple a its.toArray from p) ?_
    refine ⟨s1.heap.objs.size, [s1.heap.objs.size], _, _, H1, rfl, I1.kept (t' := s1.toks) fun b o e => Heap.get?_push_of_some _ e, turn_tuple a _, ⟨_, Heap.get?_push_size _ rfl, rfl, rfl⟩, fun b hb => ?_, q⟩
    have e : b = s1.heap.objs.size := by simpa using hb
    subst e
    exact I1.fpOk (Nat.le_refl _) (I1.hok.fresh (Nat.le_refl _))
/-- a table of n states, by its items (none: no sequence) -/
def isTab (r : Option (List V)) (n : Int) : Bool := seqB r n n && match r with | some ys => decide (fnb ys n = V.non) | none => false
/-- a value and, if it is a sequence, the kinds of its items -/
structure Rw (K : PySem.W.Frag) (H : Hp) (x : V) (r : Option (List V)) : Prop where
  kv : KV K H x r
  ks : ∀ ys, r = some ys → Kinds K H ys
theorem Rw.same {K : PySem.W.Frag} {H H' : Hp} {x : V} {r : Option (List V)} (h : Rw K H x r) (s : Same H H') : Rw K H' x r := ⟨h.kv.same s, fun ys e => (h.ks ys e).same s⟩
theorem KV.seqA {K : PySem.W.Frag} {H : Hp} {x : V} {ys : List V} (h : KV K H x (some ys)) : ∃ a, x = .ref a ∧ SeqA H a ys := by
  cases h with
  | lst h => exact ⟨_, rfl, .inl h⟩
  | tup h => exact ⟨_, rfl, .inr h⟩
def spIsTab (K : PySem.W.Frag) : Sp := fun vs H Q _ => ∃ x r n, vs = [x, .int n] ∧ Rw K H x r ∧ ∀ H', Same H H' → Q (.bl (isTab r n)) H'
section
variable {P : Program} {w : World} {K : PySem.W.Frag} {mg : Str → Option Value} {base : Heap}
theorem scIT : FnScope ["value", "states"] ["value", "states"] (defScope sIsTab) := ⟨rfl, rfl, rfl, by decide +kernel, rfl, by decide +kernel, by decide +kernel⟩
theorem ok_istab {f fS fF : Addr} {fd fdS fdF : FuncData} (D : Df K mg "is_table" sIsTab ["value", "states"] f fd) (DS : Df K mg "is_sequence" sSeq ["value", "least", "most"] fS fdS) (DF : Df K mg "first_not_below" sFnb ["items", "limit"] fF fdF)
    (GS : FnOk P w K mg base CX0 1 fS fdS ["value", "least", "most"] (spSeq K)) (GF : FnOk P w K mg base CX0 3 fF fdF ["items", "limit"] (spFnb K)) : FnOk P w K mg base CX0 4 f fd ["value", "states"] (spIsTab K) := by
  refine D.F.ok scIT (fun vs H Q E h => ?_) (fun cdv A outer s H vs Q E hr h => ?_)
  · obtain ⟨x, r, n, rfl, _⟩ := h
    rfl
  · obtain ⟨x, r, n, rfl, hw, q⟩ := h
    refine ⟨_, pss_one (ps_ret (pe_and (pc DS GS (hr.mono (by decide)) pass0 (pa_cons (pv 0) (pa_cons (pv 1) (pa_cons (pv 1) pa_nil)))) (pe_one (pe_cmp (pc_isN (pc DF GF hr pass0 (pa_cons (pv 0) (pa_cons (pv 1) pa_nil)))) rfl)))), ?_⟩
    refine ⟨_, rfl, _, rfl, _, rfl, _, r, n, n, rfl, hw.kv, fun H1 sm => ⟨_, rfl, ifD (fun e => ?_) fun e => ?_⟩⟩
    · cases r with
      | none => cases e
      | some ys =>
        obtain ⟨a, rfl, hS⟩ := hw.kv.seqA
        refine ⟨_, rfl, _, rfl, a, ys, n, rfl, hS.same sm, (hw.ks ys rfl).same sm, fun H2 sm2 => qbl ?_ (q _ (sm.trans sm2))⟩
        show _ = (seqB (some ys) n n && _)
        rw [e]; rfl
    · refine qbl ?_ (q _ sm)
      show _ = (seqB r n n && _)
      rw [e]; rfl
end
end K1
namespace K1
open PySem PySem.Spec PyProof.Rows L2
/-- the items of a lot of tables, each with what it holds -/
structure Rws (K : PySem.W.Frag) (H : Hp) (xs : List V) (rs : List (Option (List V))) : Prop where
  len : xs.length = rs.length
  at_ : ∀ (i : Nat) x r, xs[i]? = some x → rs[i]? = some r → Rw K H x r
theorem Rws.same {K : PySem.W.Frag} {H H' : Hp} {xs : List V} {rs : List (Option (List V))} (h : Rws K H xs rs) (s : Same H H') : Rws K H' xs rs := ⟨h.len, fun i x r e1 e2 => (h.at_ i x r e1 e2).same s⟩
theorem Rws.get {K : PySem.W.Frag} {H : Hp} {xs : List V} {rs : List (Option (List V))} (h : Rws K H xs rs) {i : Nat} {x : V} (e : xs[i]? = some x) : ∃ r, rs[i]? = some r ∧ Rw K H x r := by
  have hi : i < rs.length := h.len ▸ (List.getElem?_eq_some_iff.mp e).1
  exact ⟨rs[i], by simp [hi], h.at_ i x _ e (by simp [hi])⟩
/-- what is told of a value that is no machine: none for a machine's tables (xs of the value, by their items) -/
def chkAt (o : Option (List (Option (List V)))) : Option Int :=
  match o with
  | none => some (-1)
  | some rs => if rs.length < 1 ∨ 8 < rs.length then some (-1) else
    match rs[0]? with
    | some (some y0) => if y0.length < 1 ∨ 12 < y0.length then some 0 else (rs.findIdx? fun r => !isTab r (y0.length : Int)).map fun i => (i : Int)
    | _ => some 0
/-- a value that may be a machine's tables; of its items nothing is known where there are too many, or none -/
inductive Mv (K : PySem.W.Frag) (H : Hp) : V → Option (List (Option (List V))) → Prop
  | no {v : V} (h : KV K H v none) : Mv K H v none
  | yes {v : V} {xs : List V} {rs : List (Option (List V))} (h : KV K H v (some xs)) (r : Rws K H xs rs) : Mv K H v (some rs)
theorem Mv.same {K : PySem.W.Frag} {H H' : Hp} {v : V} {o : Option (List (Option (List V)))} (h : Mv K H v o) (s : Same H H') : Mv K H' v o := by
  cases h with
  | no h => exact .no (h.same s)
  | yes h r => exact .yes (h.same s) (r.same s)
/-- tables that stand at ta, each as a tuple -/
def TabsAt (H : Hp) (ta : Addr) (ts : List (List V)) : Prop := ∃ as : List Addr, H ta = some (.tup (as.map V.ref)) ∧ as.length = ts.length ∧ ∀ (i : Nat) a t, as[i]? = some a → ts[i]? = some t → H a = some (.tup t)
theorem TabsAt.same {H H' : Hp} {ta : Addr} {ts : List (List V)} (h : TabsAt H ta ts) (s : Same H H') : TabsAt H' ta ts := let ⟨as, h1, h2, h3⟩ := h; ⟨as, s _ _ h1, h2, fun i a t e1 e2 => s _ _ (h3 i a t e1 e2)⟩
/-- an error of the class at C, its field f at v -/
def Rz (C : Addr) (f : Str) (v : V) (H : Hp) (E : XK) : Prop := ∀ d H', Same H H' → H d = none → H' d = some (.xd [(f, v)]) → E (.ref C) (some d) H'
/-- checked_tables: the tables, or the error -/
def spChk (K : PySem.W.Frag) (C : Addr) : Sp := fun vs H Q E => ∃ v o, vs = [v] ∧ Mv K H v o ∧ (∀ z, chkAt o = some z → Rz C "at" (.int z) H E) ∧
  (chkAt o = none → ∀ (ts : List (List V)), o = some (ts.map some) → ∀ ta H', Same H H' → TabsAt H' ta ts → Q (.ref ta) H')
theorem chk_neg {o : Option (List (Option (List V)))} (h : seqB (o.map fun rs => rs.map fun _ => V.non) 1 8 = false) : chkAt o = some (-1) := by
  cases o with
  | none => rfl
  | some rs =>
    have z : rs.length < 1 ∨ 8 < rs.length := by
      have e : (decide ((1 : Int) ≤ ((rs.map fun _ => V.non).length : Int)) && decide (((rs.map fun _ => V.non).length : Int) ≤ 8)) = false := h
      rw [List.length_map] at e
      simp only [Bool.and_eq_false_iff, decide_eq_false_iff_not] at e
      omega
    show (if rs.length < 1 ∨ 8 < rs.length then some (-1) else _) = _
    rw [if_pos z]
theorem chk_zero {rs : List (Option (List V))} {r0 : Option (List V)} (h1 : seqB (some (rs.map fun _ => V.non)) 1 8 = true) (h0 : rs[0]? = some r0) (h : seqB r0 1 12 = false) : chkAt (some rs) = some 0 := by
  have e : (decide ((1 : Int) ≤ ((rs.map fun _ => V.non).length : Int)) && decide (((rs.map fun _ => V.non).length : Int) ≤ 8)) = true := h1
  rw [List.length_map] at e
  simp only [Bool.and_eq_true, decide_eq_true_eq] at e
  have z : ¬ (rs.length < 1 ∨ 8 < rs.length) := by omega
  show (if rs.length < 1 ∨ 8 < rs.length then some (-1) else _) = _
  rw [if_neg z, h0]
  cases r0 with
  | none => rfl
  | some y0 =>
    have e : (decide ((1 : Int) ≤ (y0.length : Int)) && decide ((y0.length : Int) ≤ 12)) = false := h
    simp only [Bool.and_eq_false_iff, decide_eq_false_iff_not] at e
    have z : y0.length < 1 ∨ 12 < y0.length := by omega
    show (if y0.length < 1 ∨ 12 < y0.length then some 0 else _) = _
    rw [if_pos z]
theorem chk_in {rs : List (Option (List V))} {y0 : List V} (h1 : seqB (some (rs.map fun _ => V.non)) 1 8 = true) (h0 : rs[0]? = some (some y0)) (h : seqB (some y0) 1 12 = true) : chkAt (some rs) = (rs.findIdx? fun r => !isTab r (y0.length : Int)).map fun i => (i : Int) := by
  have e : (decide ((1 : Int) ≤ ((rs.map fun _ => V.non).length : Int)) && decide (((rs.map fun _ => V.non).length : Int) ≤ 8)) = true := h1
  rw [List.length_map] at e
  simp only [Bool.and_eq_true, decide_eq_true_eq] at e
  have z : ¬ (rs.length < 1 ∨ 8 < rs.length) := by omega
  have e2 : (decide ((1 : Int) ≤ (y0.length : Int)) && decide ((y0.length : Int) ≤ 12)) = true := h
  simp only [Bool.and_eq_true, decide_eq_true_eq] at e2
  have z2 : ¬ (y0.length < 1 ∨ 12 < y0.length) := by omega
  show (if rs.length < 1 ∨ 8 < rs.length then some (-1) else _) = _
  rw [if_neg z, h0]
  show (if y0.length < 1 ∨ 12 < y0.length then some 0 else _) = _
  rw [if_neg z2]
theorem find_at {α : Type} {rs : List α} {p : α → Bool} {i : Nat} {r : α} (hr : rs[i]? = some r) (hn : p r = true) (hb : ∀ (j : Nat) y, j < i → rs[j]? = some y → p y = false) : rs.findIdx? p = some i := by
  obtain ⟨hi, ex⟩ := List.getElem?_eq_some_iff.mp hr
  rw [List.findIdx?_eq_some_iff_getElem]
  refine ⟨hi, by rw [ex, hn], fun j hj => ?_⟩
  have hj' : j < rs.length := Nat.lt_trans hj hi
  have := hb j rs[j] hj (by simp [hj'])
  simp [this]
theorem find_none {α : Type} {rs : List α} {p : α → Bool} (hb : ∀ (j : Nat) y, j < rs.length → rs[j]? = some y → p y = false) : rs.findIdx? p = none := by
  rw [List.findIdx?_eq_none_iff]
  intro x hx
  obtain ⟨j, hj, e⟩ := List.mem_iff_getElem.mp hx
  exact e ▸ hb j rs[j] hj (by simp [hj])
theorem isTab_some {r : Option (List V)} {n : Int} (h : isTab r n = true) : ∃ ys, r = some ys := by
  cases r with
  | none => cases h
  | some ys => exact ⟨ys, rfl⟩
/-- tuple(x) -/
def rTup (K : PySem.W.Frag) : List V → Hp → VK → Prop := fun xs H Q => ∃ p ys, xs = [.ref p] ∧ ((SqL K H p ys ∧ ∀ l, H l = none → Q (.ref l) (upd H l (.tup ys))) ∨ (SqT K H p ys ∧ Q (.ref p) H))
theorem ctup {X : Cx} {K : PySem.W.Frag} (h : X.K = K) : CallR X (.type "tuple") (rTup K) := by
  subst h
  exact call_tuple_of
section
variable {P : Program} {w : World} {K : PySem.W.Frag} {mg : Str → Option Value} {base : Heap}
theorem scC : FnScope ["value", "states", "at", "table"] ["value"] (defScope sChk) := ⟨rfl, rfl, rfl, by decide +kernel, rfl, by decide +kernel, by decide +kernel⟩
theorem ok_chk {f fS fI C cI : Addr} {fd fdS fdI : FuncData} {bm : List Value} {ql : Str} (D : Df K mg "checked_tables" sChk ["value"] f fd) (DS : Df K mg "is_sequence" sSeq ["value", "least", "most"] fS fdS) (DI : Df K mg "is_table" sIsTab ["value", "states"] fI fdI)
    (B : Bt mg) (c : Ct mg) (T : LAt.Txt K mg "BadMachine" ql bm C cI) (GS : FnOk P w K mg base CX0 1 fS fdS ["value", "least", "most"] (spSeq K)) (GI : FnOk P w K mg base CX0 4 fI fdI ["value", "states"] (spIsTab K)) :
    FnOk P w K mg base (L2.CX P w) 5 f fd ["value"] (spChk K C) := by
  obtain ⟨t1, hc1⟩ := c.tabs
  obtain ⟨t2, hc2⟩ := c.states
  refine D.F.okX scC (fun vs H Q E h => ?_) (fun cdv A outer s H vs Q E hr h => ?_)
  · obtain ⟨v, o, rfl, _⟩ := h
    rfl
  · obtain ⟨v, o, rfl, hm, qE, qQ⟩ := h
    have hr1 : Room 1 _ := hr.mono (by decide)
    refine ⟨_, pss_cons (ps_if (pt_not (pt_val (pc DS GS hr1 pass0 (pa_cons (pv 0) (pa_cons pe_int (pa_cons (pe_glob (v := .int 8) (by rfl) hc1 ⟨_, rfl⟩) pa_nil)))))) (pss_one (ps_raise_LAt rfl T hr (takes_of rfl rfl rfl rfl) (pa_cons (pe_un un_neg pe_int) pa_nil))) pss_nil)
      (pss_cons (ps_if (pt_not (pt_val (pc DS GS hr1 pass0 (pa_cons (pe_ix ix_seq (pv 0) pe_int (fun _ _ => rfl)) (pa_cons pe_int (pa_cons (pe_glob (v := .int 12) (by rfl) hc2 ⟨_, rfl⟩) pa_nil)))))) (pss_one (ps_raise_LAt rfl T hr (takes_of rfl rfl rfl rfl) (pa_cons pe_int pa_nil))) pss_nil)
      (pss_cons (ps_set (i := 1) scC.nd rfl (.inl rfl) (pe_callB call_len_seq (by rfl) B.len PySem.boot_len (pa_cons (pe_ix ix_seq (pv 0) pe_int (fun _ _ => rfl)) pa_nil)))
      (pss_cons (ps_for (passes_of rfl) rfl (pi_enumA (by rfl) B.enumerate (pa_cons (pv 0) pa_nil)) (pg_tup rfl (pgs_cons (pg_name (i := 2) scC.nd rfl (.inl rfl)) (pgs_cons (pg_name (i := 3) scC.nd rfl (.inl rfl)) pgs_nil)))
        (pss_one (ps_if (pt_not (pt_val (pc DI GI hr pass0 (pa_cons (pv 3) (pa_cons (pv 1) pa_nil))))) (pss_one (ps_raise_LAt rfl T hr (takes_of rfl rfl rfl rfl) (pa_cons (pv 2) pa_nil))) pss_nil)))
      (pss_one (ps_ret (pe_callTy call_tuple_of (by rfl) B.tuple (by decide +kernel) (pa_cons
        (pe_lc (own := [("table", 3)]) (g := gName 3) (tt := tYes) rfl scC.nd (pi_seqA (pv 0)) (blkOk_by (N := ["value", "states", "at", "table"]) (sc := defScope sChk) (by decide +kernel)) (fun _ _ _ _ _ => pg_name (i := 3) scC.nd rfl (Or.inl rfl)) (fun _ _ _ _ _ => pts_nil)
          (fun _ _ _ _ _ => pe_callTy (ctup (K := K) rfl) (by rfl) B.tuple PyProof.Rows.boot_tuple (pa_cons (pv 3) pa_nil))) pa_nil))))))), ?_⟩
    cases hm with
    | no kv =>
      refine ⟨_, rfl, _, none, 1, 8, rfl, kv, fun H1 s1 => ⟨_, rfl, ?_⟩⟩
      exact iteT ⟨_, rfl, _, rfl, fun d hd => qE (-1) rfl d _ (s1.trans (same_new hd)) (s1.free hd) upd_same⟩
    | yes kv R =>
      rename_i xs rs
      have eqs : ∀ l m, seqB (some xs) l m = seqB (some (rs.map fun _ => V.non)) l m := fun l m => by
        show (_ && _) = (_ && _)
        rw [List.length_map, R.len]
      refine ⟨_, rfl, _, some xs, 1, 8, rfl, kv, fun H1 s1 => ⟨_, rfl, ifD (fun e1 => ?_) fun e1 => ?_⟩⟩
      · have e1' : seqB (some xs) 1 8 = false := by simpa using e1
        rw [eqs] at e1'
        exact ⟨_, rfl, _, rfl, fun d hd => qE (-1) (chk_neg (o := some rs) e1') d _ (s1.trans (same_new hd)) (s1.free hd) upd_same⟩
      · have e1' : seqB (some xs) 1 8 = true := by simpa using e1
        have e1r := e1'
        rw [eqs] at e1r
        have hx0 : ∃ x0, xs[0]? = some x0 := by
          have z : (decide ((1 : Int) ≤ (xs.length : Int)) && decide ((xs.length : Int) ≤ 8)) = true := e1'
          simp only [Bool.and_eq_true, decide_eq_true_eq] at z
          exact ⟨xs[0]'(by omega), by simp⟩
        obtain ⟨x0, hx0⟩ := hx0
        obtain ⟨r0, hr0, W0⟩ := R.get hx0
        obtain ⟨a, rfl, hS⟩ := kv.seqA
        have ixr : ∀ {H' : Hp} {Qv : VK}, Same H H' → Qv x0 H' → rIx K (.ref a) (.int 0) H' Qv := fun {H' Qv} sm q => by
          rcases hS.same sm with h | h
          · exact .inl ⟨a, xs, 0, x0, rfl, rfl, SqL.of h, atI_nat (j := 0) hx0, q⟩
          · exact .inr (.inl ⟨a, xs, 0, x0, rfl, rfl, SqT.of h, atI_nat (j := 0) hx0, q⟩)
        refine ⟨_, rfl, ixr s1 ?_⟩
        refine ⟨_, r0, 1, 12, rfl, W0.kv.same s1, fun H2 s2 => ⟨_, rfl, ifD (fun e2 => ?_) fun e2 => ?_⟩⟩
        · have e2' : seqB r0 1 12 = false := by simpa using e2
          exact ⟨_, rfl, fun d hd => qE 0 (chk_zero e1r hr0 e2') d _ ((s1.trans s2).trans (same_new hd)) ((s1.trans s2).free hd) upd_same⟩
        · have e2' : seqB r0 1 12 = true := by simpa using e2
          have s12 := s1.trans s2
          obtain ⟨y0, rfl⟩ : ∃ y0, r0 = some y0 := by
            cases r0 with
            | none => cases e2'
            | some y0 => exact ⟨y0, rfl⟩
          have hc := chk_in e1r hr0 e2'
          obtain ⟨a0, rfl, hS0⟩ := W0.kv.seqA
          refine ⟨_, rfl, ixr s12 ⟨a0, y0, rfl, (hS0.same s12).elim (fun h => .inl (SqL.of h)) (fun h => .inr (SqT.of h)), ?_⟩⟩
          -- the loop
          let Pv : Nat → L2.St → Hp → Prop := fun i σ H' => ∃ v2 v3 : Option V, σ = [some (.ref a), some (.int (y0.length : Int)), v2, v3] ∧ Same H H' ∧ ∀ (j : Nat) r, j < i → rs[j]? = some r → isTab r (y0.length : Int) = true
          refine ⟨_, rfl, a, rfl, ?_⟩
          have P0 : Pv 0 [some (.ref a), some (.int (y0.length : Int)), none, none] H2 := ⟨none, none, rfl, s12, fun j r hj => absurd hj (Nat.not_lt_zero _)⟩
          rcases hS with hS | hS
          · refine .inl ⟨xs, SqL.of (s12 _ _ hS), for_enumL (K := K) Pv P0 (fun i σ H' _ ⟨_, _, _, sm, _⟩ => SqL.of (sm _ _ hS)) ?_ ?_⟩
            · rintro i x T σ H' hx hT ⟨v2, v3, rfl, sm, hb⟩
              have sm2 : Same H (upd H' T (.tup [.int (i : Nat), x])) := sm.trans (same_new hT)
              obtain ⟨r, hr', W⟩ := R.get hx
              refine ⟨T, _, rfl, SqT.of upd_same, rfl, _, _, rfl, _, _, rfl, rfl, ?_⟩
              refine ⟨_, rfl, _, rfl, x, r, (y0.length : Int), rfl, W.same sm2, fun H3 s3 => ⟨_, rfl, ifD (fun e => ?_) fun e => ?_⟩⟩
              · have e' : isTab r (y0.length : Int) = false := by simpa using e
                have hz : chkAt (some rs) = some (i : Int) := by
                  rw [hc, find_at hr' (by rw [e']; rfl) fun j y hj hy => by rw [hb j y hj hy]; rfl]; rfl
                exact ⟨_, rfl, _, rfl, fun d hd => qE _ hz d _ ((sm2.trans s3).trans (same_new hd)) ((sm2.trans s3).free hd) upd_same⟩
              · have e' : isTab r (y0.length : Int) = true := by simpa using e
                refine ⟨_, _, rfl, sm2.trans s3, fun j y hj hy => ?_⟩
                rcases Nat.lt_succ_iff_lt_or_eq.mp hj with z | z
                · exact hb j y z hy
                · subst z
                  rw [hr'] at hy
                  rw [← Option.some.inj hy]
                  exact e'
            · rintro σ H' ⟨v2, v3, rfl, sm, hb⟩
              have hz : chkAt (some rs) = none := by
                rw [hc, find_none fun j y hj hy => by rw [hb j y (by rw [R.len]; exact hj) hy]; rfl]; rfl
              have hsome : ∀ (i : Nat) r, rs[i]? = some r → ∃ ys, r = some ys := fun i r hi => isTab_some (hb i r (by rw [R.len]; exact (List.getElem?_eq_some_iff.mp hi).1) hi)
              have hts : some rs = some ((rs.map fun r => r.getD []).map some) := by
                congr 1
                rw [List.map_map]
                refine (List.map_id rs).symm.trans (List.map_congr_left fun r hr => ?_)
                obtain ⟨i, hi, e⟩ := List.mem_iff_getElem.mp hr
                obtain ⟨ys, rfl⟩ := hsome i r (by rw [← e]; simp [hi])
                rfl
              have qq := qQ hz _ hts
              have gett : ∀ (i : Nat) x, xs[i]? = some x → ∃ b ys, x = .ref b ∧ rs[i]? = some (some ys) ∧ SeqA H b ys := fun i x hx => by
                obtain ⟨r, h1, W⟩ := R.get hx
                obtain ⟨ys, rfl⟩ := hsome i r h1
                obtain ⟨b, rfl, h2⟩ := W.kv.seqA
                exact ⟨b, ys, rfl, h1, h2⟩
              let Lv : Addr → Nat → Hp → Prop := fun D i H2 => ∃ as : List Addr, as.length = i ∧ Same H' H2 ∧ H2 D = some (.lst (as.map V.ref)) ∧ ∀ (j : Nat) b t, as[j]? = some b → rs[j]? = some (some t) → H2 b = some (.tup t)
              refine ⟨_, rfl, a, rfl, .inl ⟨xs, SqL.of (sm _ _ hS), fun D hD => lc_list (K := K) (a := a) (xs := xs) (Lv D) ⟨[], rfl, same_new hD, upd_same, fun j b t z => nomatch z⟩ (fun i H2 _ ⟨as, _, s5, _⟩ => SqL.of (s5 _ _ (sm _ _ hS))) ?_ ?_⟩⟩
              · rintro i x H2 hx ⟨as, hl, s5, hD2, hA⟩
                obtain ⟨b, ys, rfl, h1, h2⟩ := gett i x hx
                have nD : ∀ c o, H' c = some o → c ≠ D := fun c o e => ne_of_none e hD
                have hlen : (as.map V.ref).length < sizeLine := by
                  rw [List.length_map, hl, sizeLine_eq]
                  have := (List.getElem?_eq_some_iff.mp hx).1
                  have z : (decide ((1 : Int) ≤ (xs.length : Int)) && decide ((xs.length : Int) ≤ 8)) = true := e1'
                  simp only [Bool.and_eq_true, decide_eq_true_eq] at z
                  omega
                have fin : ∀ (l : Addr) (H3 : Hp), Same H2 H3 → H3 l = some (.tup ys) → H3 D = some (.lst (as.map V.ref)) → l ≠ D → Lv D (i + 1) (upd H3 D (.lst (as.map V.ref ++ [.ref l]))) := fun l H3 s6 hl3 hD3 hne => by
                  have keep : ∀ c o, H3 c = some o → c ≠ D → upd H3 D (.lst (as.map V.ref ++ [.ref l])) c = some o := fun c o e n => by rw [upd_ne n]; exact e
                  refine ⟨as ++ [l], by rw [List.length_append, hl]; rfl, fun c o e => keep c o (s6 _ _ (s5 _ _ e)) (nD c o e), by rw [upd_same, List.map_append]; rfl, fun j b t hb ht => ?_⟩
                  by_cases hj : j < as.length
                  · rw [List.getElem?_append_left hj] at hb
                    have z := s6 _ _ (hA j b t hb ht)
                    exact keep _ _ z (ne_of z hD3 (by intro q; cases q))
                  · have hj2 : j = as.length := by
                      have := (List.getElem?_eq_some_iff.mp hb).1
                      rw [List.length_append] at this
                      have q : ([l] : List Addr).length = 1 := rfl
                      omega
                    subst hj2
                    rw [List.getElem?_append_right (Nat.le_refl _), Nat.sub_self] at hb
                    have eb : l = b := Option.some.inj hb
                    subst eb
                    rw [hl, h1] at ht
                    rw [← Option.some.inj (Option.some.inj ht)]
                    exact keep _ _ hl3 hne
                refine ⟨rfl, _, rfl, b, ys, rfl, ?_⟩
                rcases h2 with h2 | h2
                · have hb2 := s5 _ _ (sm _ _ h2)
                  refine .inl ⟨SqL.of hb2, fun l hl2 => ?_⟩
                  have nlD : l ≠ D := fun e => by rw [e, hD2] at hl2; cases hl2
                  exact ⟨_, (upd_ne nlD.symm).trans hD2, hlen, fin l _ (same_new hl2) upd_same ((upd_ne nlD.symm).trans hD2) nlD⟩
                · have hb2 := s5 _ _ (sm _ _ h2)
                  refine .inr ⟨SqT.of hb2, ?_⟩
                  exact ⟨_, hD2, hlen, fin b _ (Same.refl _) hb2 hD2 (ne_of hb2 hD2 (by intro q; cases q))⟩
              · rintro H2 ⟨as, hl, s5, hD2, hA⟩
                refine ⟨D, _, rfl, .inl ⟨SqL.of hD2, fun ta hta => ?_⟩⟩
                have s7 : Same H (upd H2 ta (.tup (as.map V.ref))) := (sm.trans s5).trans (same_new hta)
                refine qq ta _ s7 ⟨as, upd_same, by rw [hl, List.length_map, R.len], fun j b t hb ht => ?_⟩
                have hj : rs[j]? = some (some t) := by
                  rw [List.getElem?_map] at ht
                  cases e : rs[j]? with
                  | none => rw [e] at ht; cases ht
                  | some r =>
                    obtain ⟨ys, rfl⟩ := hsome j r e
                    rw [e] at ht
                    rw [← Option.some.inj ht]; rfl
                exact same_new hta _ _ (hA j b t hb hj)
          · refine .inr ⟨xs, SqT.of (s12 _ _ hS), for_enumT (K := K) Pv P0 (fun i σ H' _ ⟨_, _, _, sm, _⟩ => SqT.of (sm _ _ hS)) ?_ ?_⟩
            · rintro i x T σ H' hx hT ⟨v2, v3, rfl, sm, hb⟩
              have sm2 : Same H (upd H' T (.tup [.int (i : Nat), x])) := sm.trans (same_new hT)
              obtain ⟨r, hr', W⟩ := R.get hx
              refine ⟨T, _, rfl, SqT.of upd_same, rfl, _, _, rfl, _, _, rfl, rfl, ?_⟩
              refine ⟨_, rfl, _, rfl, x, r, (y0.length : Int), rfl, W.same sm2, fun H3 s3 => ⟨_, rfl, ifD (fun e => ?_) fun e => ?_⟩⟩
              · have e' : isTab r (y0.length : Int) = false := by simpa using e
                have hz : chkAt (some rs) = some (i : Int) := by
                  rw [hc, find_at hr' (by rw [e']; rfl) fun j y hj hy => by rw [hb j y hj hy]; rfl]; rfl
                exact ⟨_, rfl, _, rfl, fun d hd => qE _ hz d _ ((sm2.trans s3).trans (same_new hd)) ((sm2.trans s3).free hd) upd_same⟩
              · have e' : isTab r (y0.length : Int) = true := by simpa using e
                refine ⟨_, _, rfl, sm2.trans s3, fun j y hj hy => ?_⟩
                rcases Nat.lt_succ_iff_lt_or_eq.mp hj with z | z
                · exact hb j y z hy
                · subst z
                  rw [hr'] at hy
                  rw [← Option.some.inj hy]
                  exact e'
            · rintro σ H' ⟨v2, v3, rfl, sm, hb⟩
              have hz : chkAt (some rs) = none := by
                rw [hc, find_none fun j y hj hy => by rw [hb j y (by rw [R.len]; exact hj) hy]; rfl]; rfl
              have hsome : ∀ (i : Nat) r, rs[i]? = some r → ∃ ys, r = some ys := fun i r hi => isTab_some (hb i r (by rw [R.len]; exact (List.getElem?_eq_some_iff.mp hi).1) hi)
              have hts : some rs = some ((rs.map fun r => r.getD []).map some) := by
                congr 1
                rw [List.map_map]
                refine (List.map_id rs).symm.trans (List.map_congr_left fun r hr => ?_)
                obtain ⟨i, hi, e⟩ := List.mem_iff_getElem.mp hr
                obtain ⟨ys, rfl⟩ := hsome i r (by rw [← e]; simp [hi])
                rfl
              have qq := qQ hz _ hts
              have gett : ∀ (i : Nat) x, xs[i]? = some x → ∃ b ys, x = .ref b ∧ rs[i]? = some (some ys) ∧ SeqA H b ys := fun i x hx => by
                obtain ⟨r, h1, W⟩ := R.get hx
                obtain ⟨ys, rfl⟩ := hsome i r h1
                obtain ⟨b, rfl, h2⟩ := W.kv.seqA
                exact ⟨b, ys, rfl, h1, h2⟩
              let Lv : Addr → Nat → Hp → Prop := fun D i H2 => ∃ as : List Addr, as.length = i ∧ Same H' H2 ∧ H2 D = some (.lst (as.map V.ref)) ∧ ∀ (j : Nat) b t, as[j]? = some b → rs[j]? = some (some t) → H2 b = some (.tup t)
              refine ⟨_, rfl, a, rfl, .inr ⟨xs, SqT.of (sm _ _ hS), fun D hD => lc_tup (K := K) (a := a) (xs := xs) (Lv D) ⟨[], rfl, same_new hD, upd_same, fun j b t z => nomatch z⟩ (fun i H2 _ ⟨as, _, s5, _⟩ => SqT.of (s5 _ _ (sm _ _ hS))) ?_ ?_⟩⟩
              · rintro i x H2 hx ⟨as, hl, s5, hD2, hA⟩
                obtain ⟨b, ys, rfl, h1, h2⟩ := gett i x hx
                have nD : ∀ c o, H' c = some o → c ≠ D := fun c o e => ne_of_none e hD
                have hlen : (as.map V.ref).length < sizeLine := by
                  rw [List.length_map, hl, sizeLine_eq]
                  have := (List.getElem?_eq_some_iff.mp hx).1
                  have z : (decide ((1 : Int) ≤ (xs.length : Int)) && decide ((xs.length : Int) ≤ 8)) = true := e1'
                  simp only [Bool.and_eq_true, decide_eq_true_eq] at z
                  omega
                have fin : ∀ (l : Addr) (H3 : Hp), Same H2 H3 → H3 l = some (.tup ys) → H3 D = some (.lst (as.map V.ref)) → l ≠ D → Lv D (i + 1) (upd H3 D (.lst (as.map V.ref ++ [.ref l]))) := fun l H3 s6 hl3 hD3 hne => by
                  have keep : ∀ c o, H3 c = some o → c ≠ D → upd H3 D (.lst (as.map V.ref ++ [.ref l])) c = some o := fun c o e n => by rw [upd_ne n]; exact e
                  refine ⟨as ++ [l], by rw [List.length_append, hl]; rfl, fun c o e => keep c o (s6 _ _ (s5 _ _ e)) (nD c o e), by rw [upd_same, List.map_append]; rfl, fun j b t hb ht => ?_⟩
                  by_cases hj : j < as.length
                  · rw [List.getElem?_append_left hj] at hb
                    have z := s6 _ _ (hA j b t hb ht)
                    exact keep _ _ z (ne_of z hD3 (by intro q; cases q))
                  · have hj2 : j = as.length := by
                      have := (List.getElem?_eq_some_iff.mp hb).1
                      rw [List.length_append] at this
                      have q : ([l] : List Addr).length = 1 := rfl
                      omega
                    subst hj2
                    rw [List.getElem?_append_right (Nat.le_refl _), Nat.sub_self] at hb
                    have eb : l = b := Option.some.inj hb
                    subst eb
                    rw [hl, h1] at ht
                    rw [← Option.some.inj (Option.some.inj ht)]
                    exact keep _ _ hl3 hne
                refine ⟨rfl, _, rfl, b, ys, rfl, ?_⟩
                rcases h2 with h2 | h2
                · have hb2 := s5 _ _ (sm _ _ h2)
                  refine .inl ⟨SqL.of hb2, fun l hl2 => ?_⟩
                  have nlD : l ≠ D := fun e => by rw [e, hD2] at hl2; cases hl2
                  exact ⟨_, (upd_ne nlD.symm).trans hD2, hlen, fin l _ (same_new hl2) upd_same ((upd_ne nlD.symm).trans hD2) nlD⟩
                · have hb2 := s5 _ _ (sm _ _ h2)
                  refine .inr ⟨SqT.of hb2, ?_⟩
                  exact ⟨_, hD2, hlen, fin b _ (Same.refl _) hb2 hD2 (ne_of hb2 hD2 (by intro q; cases q))⟩
              · rintro H2 ⟨as, hl, s5, hD2, hA⟩
                refine ⟨D, _, rfl, .inl ⟨SqL.of hD2, fun ta hta => ?_⟩⟩
                have s7 : Same H (upd H2 ta (.tup (as.map V.ref))) := (sm.trans s5).trans (same_new hta)
                refine qq ta _ s7 ⟨as, upd_same, by rw [hl, List.length_map, R.len], fun j b t hb ht => ?_⟩
                have hj : rs[j]? = some (some t) := by
                  rw [List.getElem?_map] at ht
                  cases e : rs[j]? with
                  | none => rw [e] at ht; cases ht
                  | some r =>
                    obtain ⟨ys, rfl⟩ := hsome j r e
                    rw [e] at ht
                    rw [← Option.some.inj ht]; rfl
                exact same_new hta _ _ (hA j b t hb hj)
end
end K1
namespace K1
open PySem PySem.Spec PyProof.Rows L2
/-! ### the machine's object -/
def mf (ta : Addr) (n k : Int) : List (Str × V) := putF "states" (.int k) (putF "deeds" (.int n) (putF "tables" (.ref ta) []))
theorem mf_t (ta : Addr) (n k : Int) : (mf ta n k).lookup ("tables" : Str) = some (.ref ta) := by
  unfold mf
  rw [lookup_putF, if_neg (by decide +kernel), lookup_putF, if_neg (by decide +kernel), lookup_putF, if_pos rfl]
theorem mf_d (ta : Addr) (n k : Int) : (mf ta n k).lookup ("deeds" : Str) = some (.int n) := by
  unfold mf
  rw [lookup_putF, if_neg (by decide +kernel), lookup_putF, if_pos rfl]
theorem mf_s (ta : Addr) (n k : Int) : (mf ta n k).lookup ("states" : Str) = some (.int k) := by
  unfold mf
  rw [lookup_putF, if_pos rfl]
/-- the machine at m, of the class at M: tables that stand at ta -/
def MachAt (M : Addr) (H : Hp) (m ta : Addr) (ts : List (List V)) : Prop :=
  (∃ (dx : Addr) (t0 : List V), ts[0]? = some t0 ∧ H m = some (.ins M dx (mf ta (ts.length : Int) (t0.length : Int)))) ∧ TabsAt H ta ts
theorem MachAt.same {M : Addr} {H H' : Hp} {m ta : Addr} {ts : List (List V)} (h : MachAt M H m ta ts) (s : Same H H') : MachAt M H' m ta ts :=
  let ⟨⟨dx, t0, h0, h1⟩, h2⟩ := h
  ⟨⟨dx, t0, h0, s _ _ h1⟩, h2.same s⟩
/-- what the walk asks of the class Machine, at M -/
structure McT (K : PySem.W.Frag) (mg : Str → Option Value) (M : Addr) : Prop where
  cl : Cls K M
  nT : NoAttr K M "tables"
  nD : NoAttr K M "deeds"
  nS : NoAttr K M "states"
  g : mg "Machine" = some (.ref M)
  ca : PySem.W.findIn K (.ref M) "__class__" = some (some (.builtin "object.__class__"))
  sp : PySem.W.specialIn K (.builtin "object.__class__") "__get__" = some (some (.builtin "getset_descriptor.__get__"))
  tk : PySem.W.takesIn K (.builtin "object.__class__") = some true
  mo : PySem.W.mroIn K M (.type "object") = some true
/-- __init__ of a fresh machine -/
def spMInit (K : PySem.W.Frag) (C M : Addr) : Sp := fun vs H Q E => ∃ m dx v o, vs = [.ref m, v] ∧ H m = some (.ins M dx []) ∧ Mv K H v o ∧ (∀ z, chkAt o = some z → Rz C "at" (.int z) H E) ∧
  (chkAt o = none → ∀ (ts : List (List V)), o = some (ts.map some) → ∀ ta H', (∀ b u, H b = some u → b ≠ m → H' b = some u) → MachAt M H' m ta ts → Q .non H')
theorem chk_first {ts : List (List V)} (h : chkAt (some (ts.map some)) = none) : ∃ t0, ts[0]? = some t0 := by
  cases ts with
  | nil =>
    have z : chkAt (some ([] : List (Option (List V)))) = some (-1) := rfl
    rw [show (([] : List (List V)).map some) = [] from rfl, z] at h
    cases h
  | cons a r => exact ⟨a, rfl⟩
section
variable {P : Program} {w : World} {K : PySem.W.Frag} {mg : Str → Option Value} {base : Heap}
theorem scMI : FnScope ["self", "tables"] ["self", "tables"] (defScope sMInit) := ⟨rfl, rfl, rfl, by decide +kernel, rfl, by decide +kernel, by decide +kernel⟩
theorem ok_minit {f fC C M : Addr} {fd fdC : FuncData} (F : Fun K "__init__" "Machine.__init__" sMInit f fd) (DC : Df K mg "checked_tables" sChk ["value"] fC fdC) (B : Bt mg) (T : McT K mg M)
    (GC : FnOk P w K mg base (L2.CX P w) 5 fC fdC ["value"] (spChk K C)) : FnOk P w K mg base (L2.CX P w) 6 f fd ["self", "tables"] (spMInit K C M) := by
  refine F.okX scMI (fun vs H Q E h => ?_) (fun cdv A outer s H vs Q E hr h => ?_)
  · obtain ⟨m, dx, v, o, rfl, _⟩ := h
    rfl
  · obtain ⟨m, dx, v, o, rfl, hm, mv, qE, qQ⟩ := h
    refine ⟨_, pss_cons (ps_fld (pv 0) (pc DC GC hr (pass1 (takes_of rfl rfl rfl rfl)) (pa_cons (pv 1) pa_nil)) rfl)
      (pss_cons (ps_fld (pv 0) (pe_callB call_len_seq (by rfl) B.len PySem.boot_len (pa_cons (pe_fld (pv 0) rfl) pa_nil)) rfl)
      (pss_one (ps_fld (pv 0) (pe_callB call_len_seq (by rfl) B.len PySem.boot_len (pa_cons (pe_ix ix_tup (pe_fld (pv 0) rfl) pe_int (fun _ _ => rfl)) pa_nil)) rfl))), ?_⟩
    refine ⟨_, rfl, v, o, rfl, mv, fun z hz d H' sm hd he => qE z hz d H' sm hd he, fun hz ts hts ta H' sm hT => ?_⟩
    subst hts
    obtain ⟨t0, h0⟩ := chk_first hz
    have hm1 := sm _ _ hm
    obtain ⟨as, ha1, ha2, ha3⟩ := hT
    have nma : m ≠ ta := ne_of hm1 ha1 (by intro q; cases q)
    have k1 : ∀ {fs : List (Str × V)}, (upd H' m (.ins M dx fs)) ta = some (.tup (as.map V.ref)) := fun {fs} => by rw [upd_ne nma.symm]; exact ha1
    obtain ⟨a0, ea0⟩ : ∃ a0, as[0]? = some a0 := by
      have : 0 < as.length := by rw [ha2]; exact (List.getElem?_eq_some_iff.mp h0).1
      exact ⟨as[0], by simp [this]⟩
    have hA0 := ha3 0 a0 t0 ea0 h0
    have nm0 : m ≠ a0 := ne_of hm1 hA0 (by intro q; cases q)
    refine ⟨_, rfl, m, M, dx, [], rfl, hm1, T.cl, T.nT, (by show 0 < 1000; decide), ?_⟩
    refine ⟨_, rfl, m, M, dx, _, _, rfl, upd_same, T.cl, T.nT, (by rw [lookup_putF, if_pos rfl]), ta, _, rfl, .inr (SqT.of k1), _, rfl, m, M, dx, _, rfl, upd_same, T.cl, T.nD, (by show 1 < 1000; decide), ?_⟩
    rw [upd_upd]
    refine ⟨_, rfl, m, M, dx, _, _, rfl, upd_same, T.cl, T.nT, (by rw [lookup_putF, if_neg (by decide +kernel), lookup_putF, if_pos rfl]), ta, _, 0, _, rfl, rfl, SqT.of k1, atI_nat (j := 0) (by rw [List.getElem?_map, ea0]; rfl), a0, t0, rfl, .inr (SqT.of (by rw [upd_ne nm0.symm]; exact hA0)), _, rfl, m, M, dx, _, rfl, upd_same, T.cl, T.nS, (by show 2 < 1000; decide), ?_⟩
    rw [upd_upd]
    refine qQ hz ts rfl ta _ (fun b u e hb => ?_) ⟨⟨dx, t0, h0, ?_⟩, as, k1, ha2, fun i a t e1 e2 => ?_⟩
    · rw [upd_ne hb]
      exact sm _ _ e
    · rw [upd_same]
      show some (HO.ins M dx (putF "states" (.int t0.length) (putF "deeds" (.int ((as.map V.ref).length : Int)) (putF "tables" (.ref ta) [])))) = _
      rw [List.length_map, ha2]
      rfl
    · have z := ha3 i a t e1 e2
      rw [upd_ne (ne_of z hm1 (by intro q; cases q))]
      exact z
end
end K1
namespace K1
open PySem PySem.Spec PyProof.Rows L2
/-- x == y by x's own __eq__: y another such instance, or a tuple -/
def rEqOwn (C : Addr) (sp : Sp) : R2 := fun x y H Q => ∃ (a : Addr) (dx : Addr) (fs : List (Str × V)), x = .ref a ∧ H a = some (.ins C dx fs) ∧ ((∃ (b dy : Addr) (gs : List (Str × V)), y = .ref b ∧ H b = some (.ins C dy gs)) ∨ ∃ (b : Addr) (ys : List V), y = .ref b ∧ H b = some (.tup ys)) ∧
  sp [x, y] H (fun v H' => ∃ k, v = .bl k ∧ Q v H') E0
theorem op_eqOwn {X : Cx} {n : Nat} {C f : Addr} {fd : FuncData} {ps : List Str} {sp : Sp} (F : FnOk X.prog X.w X.K X.mg X.base CX0 n f fd ps sp) (hr : Room n X.A)
    (hs : PySem.W.findIn X.K (.ref C) "__eq__" = some (some (.ref f))) (hf : PySem.W.isFn X.K (.ref f) = true) (hb : Binds X.K fd ps []) (nf : PySem.W.notFirst X.K C (.type "tuple") = true) : OpR X (compareOp .Eq) (rEqOwn C sp) := by
  intro pins s σ H x y v u Q I rx ry hq
  obtain ⟨a, dx, fs, rfl, ha, hy, hsp⟩ := hq
  cases rx
  show wpAny (model X.prog X.w) X.A (richCompare .Eq (.ref a) u) (EP X pins σ Q) X.xe s
  obtain ⟨mA, J, _⟩ := ins_get I.hok ha
  obtain ⟨od, J, _⟩ := J.look
  obtain ⟨m, hF⟩ := I.fr
  have tl : ∃ tb, PySem.W.Looks (model X.prog X.w) s.heap (typeOf u) tb ∧ PySem.W.notFirst X.K C tb = true := by
    rcases hy with ⟨b, dy, gs, rfl, hb'⟩ | ⟨b, ys, rfl, hb'⟩
    · cases ry
      obtain ⟨mB, J', _⟩ := ins_get I.hok hb'
      obtain ⟨od', J', _⟩ := J'.look
      exact ⟨.ref C, J'.type, by simp [PySem.W.notFirst]⟩
    · cases ry
      obtain ⟨_, its, rv, o, h1, h2, _⟩ := (show ObjOk X.prog X.w H s.heap b (.tup ys) from I.hok b _ hb')
      exact ⟨.type "tuple", h2 ▸ (PySem.W.Looks.ld h1).andThen .now, nf⟩
  obtain ⟨tb, tl, hn⟩ := tl
  refine PySem.W.cmp_K (op := .Eq) (tb := tb) hr.units0 hF I.ok.mod.kin J tl hn hs hf ?_
  have hl := F.len _ _ _ _ hsp
  have r2 : Vals [V.ref a, y] [Value.ref a, u] := .cons rfl (.cons ry .nil)
  refine wpAny_call (codeAny_mono (F.run X.A X.stack s H ⟨[.ref a, u], []⟩ [.ref a, u] [.ref a, y] _ E0 hr I.env0 (by
    have := hb s [.ref a, u] I.kIn (by simpa using hl)
    simpa using this) r2 hsp) fun r s' hq => ?_)
  cases r with
  | error e => exact (show False from hq).elim
  | ok fl =>
    cases fl with
    | ret w =>
      obtain ⟨z, H', I', rz, k, ez, q⟩ := I.after hq
      subst ez
      cases rz
      exact ⟨.bl k, H', I', rfl, q⟩
    | next => exact False.elim hq
    | brk => exact False.elim hq
    | cont => exact False.elim hq
/-! ### whole numbers by rows -/
/-- the tables of a machine as lists of whole numbers -/
abbrev Ts := List (List Int)
def vrow (t : List Int) : List V := t.map V.int
def vts (ts : Ts) : List (List V) := ts.map vrow
def dI (t : List Int) : List PyData := t.map PyData.int
def dT (ts : Ts) : PyData := .tuple (ts.map fun t => .tuple (dI t))
section
variable {K : PySem.W.Frag} {H : Hp}
theorem dp_ints : ∀ t : List Int, DpAll K H (vrow t) (dI t)
  | [] => .nil
  | i :: r => .cons (.int i) (dp_ints r)
theorem dp_tup {a : Addr} {t : List Int} (h : H a = some (.tup (vrow t))) : Dp K H (.ref a) (.tuple (dI t)) := .tup (SqT.of h) (dp_ints t)
theorem dp_refs : ∀ (as : List Addr) (ts : Ts), as.length = ts.length → (∀ (i : Nat) a t, as[i]? = some a → (vts ts)[i]? = some t → H a = some (.tup t)) → DpAll K H (as.map V.ref) (ts.map fun t => PyData.tuple (dI t))
  | [], [], _, _ => .nil
  | a :: as, t :: ts, hl, h => .cons (dp_tup (h 0 a (vrow t) rfl rfl)) (dp_refs as ts (Nat.succ.inj hl) fun i b u e1 e2 => h (i + 1) b u e1 e2)
  | [], _ :: _, hl, _ => nomatch hl
  | _ :: _, [], hl, _ => nomatch hl
theorem TabsAt.dp {ta : Addr} {ts : Ts} (h : TabsAt H ta (vts ts)) : Dp K H (.ref ta) (dT ts) := by
  obtain ⟨as, h1, h2, h3⟩ := h
  exact .tup (SqT.of h1) (dp_refs as ts (by rw [h2]; exact List.length_map _) h3)
end
/-- plain data: shown shortly, compared by what they hold -/
structure Pl (d : PyData) (n w : Nat) : Prop where
  lay : d.canLay0 = true
  sh : d.showable = true
  nd : d.hasDict = false
  dp : d.depth ≤ n
  wt : d.weight ≤ w
  sr : d.leavesShort 20 = true
structure PlA (ds : List PyData) (n w : Nat) : Prop where
  lay : PyData.canLayAll0 ds = true
  sh : PyData.showableAll ds = true
  nd : PyData.hasDictAll ds = false
  dp : PyData.depthAll ds ≤ n
  wt : PyData.weightAll ds ≤ w
  sr : PyData.leavesShortAll 20 ds = true
theorem Pl.int {i : Int} (h : i.natAbs < 10 ^ 19) : Pl (.int i) 0 64 := by
  have h3 : i.natAbs ≠ 0 → i.natAbs.log2 < 64 := fun z => (Nat.log2_lt z).mpr (Nat.lt_of_lt_of_le h (by decide))
  refine ⟨by simp only [PyData.canLay0], ?_, by simp only [PyData.hasDict], by simp only [PyData.depth]; omega, ?_, ?_⟩
  · simp only [PyData.showable, decide_eq_true_eq]
    by_cases z : i.natAbs = 0
    · rw [z]; decide
    · have := h3 z
      omega
  · simp only [PyData.weight]
    split
    · omega
    · rename_i z
      have := h3 (fun e => z (by rw [Int.natAbs_eq_zero.mp e]; rfl))
      omega
  · have e := int_text_length_le10 (a := i) (k := 19) (by decide) h
    simp only [PyData.leavesShort, decide_eq_true_eq, PyData.shown]
    exact decide_eq_true (Nat.le_trans (Nat.le_of_eq (PySem.ofString_length _)) e)
theorem Pl.bl (b : Bool) : Pl (.bool b) 0 0 := ⟨by simp only [PyData.canLay0], by simp only [PyData.showable], by simp only [PyData.hasDict], by simp only [PyData.depth]; omega, by simp only [PyData.weight]; omega, by simp only [PyData.leavesShort]⟩
theorem PlA.nil : PlA [] 0 0 := ⟨by simp only [PyData.canLayAll0], by simp only [PyData.showableAll], by simp only [PyData.hasDictAll], by simp only [PyData.depthAll]; omega, by simp only [PyData.weightAll]; omega, by simp only [PyData.leavesShortAll]⟩
theorem PlA.cons {d : PyData} {ds : List PyData} {n m u v : Nat} (a : Pl d n u) (b : PlA ds m v) : PlA (d :: ds) (max n m) (u + 1 + v) := by
  refine ⟨by simp only [PyData.canLayAll0, a.lay, b.lay, Bool.and_self], by simp only [PyData.showableAll, a.sh, b.sh, Bool.and_self], by simp only [PyData.hasDictAll, a.nd, b.nd, Bool.or_self], ?_, ?_, by simp only [PyData.leavesShortAll, a.sr, b.sr, Bool.and_self]⟩
  · have h1 := a.dp; have h2 := b.dp
    simp only [PyData.depthAll]; omega
  · have h1 := a.wt; have h2 := b.wt
    simp only [PyData.weightAll]; omega
theorem Pl.list {ds : List PyData} {n w : Nat} (a : PlA ds n w) : Pl (.list ds) (n + 1) w := by
  refine ⟨by simp only [PyData.canLay0, a.lay], by simp only [PyData.showable, a.sh], by simp only [PyData.hasDict, a.nd], ?_, ?_, by simp only [PyData.leavesShort, a.sr]⟩
  · have h1 := a.dp
    simp only [PyData.depth]; omega
  · have h1 := a.wt
    simp only [PyData.weight]; omega
theorem Pl.tuple {ds : List PyData} {n w : Nat} (a : PlA ds n w) : Pl (.tuple ds) (n + 1) w := by
  refine ⟨by simp only [PyData.canLay0, a.lay], by simp only [PyData.showable, a.sh], by simp only [PyData.hasDict, a.nd], ?_, ?_, by simp only [PyData.leavesShort, a.sr]⟩
  · have h1 := a.dp
    simp only [PyData.depth]; omega
  · have h1 := a.wt
    simp only [PyData.weight]; omega
theorem Pl.mono {d : PyData} {n w m v : Nat} (a : Pl d n w) (h1 : n ≤ m) (h2 : w ≤ v) : Pl d m v := ⟨a.lay, a.sh, a.nd, Nat.le_trans a.dp h1, Nat.le_trans a.wt h2, a.sr⟩
theorem PlA.mono {d : List PyData} {n w m v : Nat} (a : PlA d n w) (h1 : n ≤ m) (h2 : w ≤ v) : PlA d m v := ⟨a.lay, a.sh, a.nd, Nat.le_trans a.dp h1, Nat.le_trans a.wt h2, a.sr⟩
theorem Pl.shaped {d : PyData} {n w : Nat} (a : Pl d n w) (h : n ≤ 40) : SeqAt.shaped d = true := by
  have := a.dp
  unfold SeqAt.shaped
  rw [a.lay, decide_eq_true (by omega)]; rfl
theorem Pl.short {d : PyData} {n w : Nat} (a : Pl d n w) (h : w ≤ 100000) : d.shown.length ≤ sizeLine := by
  have h1 := PyData.shown_le 20 (by decide) d a.sr
  have h2 := a.wt
  rw [sizeLine_eq]
  omega
/-- rows of whole numbers below 10 ^ 19 -/
theorem pla_ints : ∀ t : List Int, (∀ i ∈ t, i.natAbs < 10 ^ 19) → PlA (dI t) 0 (t.length * 65)
  | [], _ => PlA.nil
  | i :: r, h => (PlA.cons (Pl.int (h i List.mem_cons_self)) (pla_ints r fun j hj => h j (List.mem_cons_of_mem _ hj))).mono (by omega) (by show 64 + 1 + r.length * 65 ≤ (r.length + 1) * 65; omega)
theorem pla_rows {n : Nat} : ∀ ts : Ts, (∀ t ∈ ts, t.length ≤ n ∧ ∀ i ∈ t, i.natAbs < 10 ^ 19) → PlA (ts.map fun t => PyData.tuple (dI t)) 1 (ts.length * (n * 65 + 1))
  | [], _ => PlA.nil.mono (by omega) (by omega)
  | t :: r, h => by
    obtain ⟨h1, h2⟩ := h t List.mem_cons_self
    refine (PlA.cons (Pl.tuple (pla_ints t h2)) (pla_rows r fun u hu => h u (List.mem_cons_of_mem _ hu))).mono (by omega) ?_
    show t.length * 65 + 1 + r.length * (n * 65 + 1) ≤ (r.length + 1) * (n * 65 + 1)
    rw [Nat.add_mul]
    omega
theorem pl_dT {n : Nat} {ts : Ts} (h : ∀ t ∈ ts, t.length ≤ n ∧ ∀ i ∈ t, i.natAbs < 10 ^ 19) : Pl (dT ts) 2 (ts.length * (n * 65 + 1)) := Pl.tuple (pla_rows ts h)
end K1
namespace K1
open PySem PySem.Spec PyProof.Rows L2
/-- tables that are shown and compared: few, of few states -/
def Few (ts : Ts) : Prop := ts.length ≤ 8 ∧ ∀ t ∈ ts, t.length ≤ 12 ∧ ∀ i ∈ t, i.natAbs < 10 ^ 19
theorem Few.pl {ts : Ts} (h : Few ts) : Pl (dT ts) 2 10000 := (pl_dT h.2).mono (Nat.le_refl _) (by have := h.1; have : ts.length * (12 * 65 + 1) ≤ 8 * (12 * 65 + 1) := Nat.mul_le_mul_right _ h.1; omega)
/-- machine == other: another machine with the same tables, or a tuple -/
def spMEq (M : Addr) : Sp := fun vs H Q _ => ∃ m ta ts v, vs = [.ref m, v] ∧ MachAt M H m ta (vts ts) ∧ Few ts ∧
  ((∃ m2 ta2, v = .ref m2 ∧ MachAt M H m2 ta2 (vts ts) ∧ Q (.bl true) H) ∨ (∃ a xs, v = .ref a ∧ H a = some (.tup xs) ∧ Q (.bl false) H))
/-- which answers isinstance gives of the class -/
structure McI (K : PySem.W.Frag) (M : Addr) : Prop where
  y : PySem.W.kitOne K (.ref M) (.ref M) = some true
  n : PySem.W.kitOne K (.type "tuple") (.ref M) = some false
def spNeed (M C : Addr) (fld : Str) (g : Ts → Nat) : Sp := fun vs H Q E => ∃ m ta ts v, vs = [.ref m, v] ∧ MachAt M H m ta (vts ts) ∧ (∃ (K : PySem.W.Frag) (o : Option (List V)), KV K H v o) ∧
  (belowB v (g ts : Int) = true → Q v H) ∧ (belowB v (g ts : Int) = false → Rz C fld v H E)
theorem ints_of {t0 : List V} {ts : Ts} (h : (vts ts)[0]? = some t0) : ∃ r : List Int, ts[0]? = some r ∧ t0 = vrow r := by
  rw [vts, List.getElem?_map] at h
  cases e : ts[0]? with
  | none => rw [e] at h; cases h
  | some r =>
    rw [e] at h
    exact ⟨r, rfl, (Option.some.inj h).symm⟩
/-- how many states -/
def nS (ts : Ts) : Nat := (ts[0]?.getD []).length
theorem MachAt.fs {M : Addr} {H : Hp} {m ta : Addr} {ts : Ts} (h : MachAt M H m ta (vts ts)) : ∃ dx : Addr, H m = some (.ins M dx (mf ta (ts.length : Int) (nS ts : Int))) := by
  obtain ⟨⟨dx, t0, h0, h1⟩, _⟩ := h
  obtain ⟨r, hr, rfl⟩ := ints_of h0
  refine ⟨dx, ?_⟩
  rw [h1]
  have e1 : (vts ts).length = ts.length := List.length_map _
  have e2 : (vrow r).length = nS ts := by
    unfold nS
    rw [hr]
    exact List.length_map _
  rw [e1, e2]
section
variable {P : Program} {w : World} {K : PySem.W.Frag} {mg : Str → Option Value} {base : Heap}
theorem scME : FnScope ["self", "other"] ["self", "other"] (defScope sMEq) := ⟨rfl, rfl, rfl, by decide +kernel, rfl, by decide +kernel, by decide +kernel⟩
theorem ok_meq {f M : Addr} {fd : FuncData} (F : Fun K "__eq__" "Machine.__eq__" sMEq f fd) (B : Bt mg) (T : McT K mg M) (T2 : McI K M) : FnOk P w K mg base CX0 1 f fd ["self", "other"] (spMEq M) := by
  refine F.ok scME (fun vs H Q E h => ?_) (fun cdv A outer s H vs Q E hr h => ?_)
  · obtain ⟨m, ta, ts, v, rfl, _⟩ := h
    rfl
  · obtain ⟨m, ta, ts, v, rfl, hM, hF, q⟩ := h
    refine ⟨_, pss_one (ps_ret (pe_and (pe_callB call_isi (by rfl) B.isinstance (by decide +kernel) (pa_cons (pv 1) (pa_cons (pe_glob (v := .ref M) (by rfl) T.g rfl) pa_nil)))
      (pe_one (pe_cmpR (op_eqD hr.units) (pe_fld (pv 0) rfl) (pe_fld (pv 1) rfl) (nomark _))))), ?_⟩
    obtain ⟨dx, h1⟩ := hM.fs
    rcases q with ⟨m2, ta2, rfl, hM2, q⟩ | ⟨a, xs, rfl, ha, q⟩
    · obtain ⟨dx2, h2⟩ := hM2.fs
      refine ⟨_, rfl, _, _, _, _, _, rfl, .own M, .base (.ins h2 T.cl T.ca T.sp T.tk T.mo), T2.y, _, rfl, iteT ?_⟩
      refine ⟨_, rfl, m, M, dx, _, _, rfl, h1, T.cl, T.nT, mf_t _ _ _, _, rfl, m2, M, dx2, _, _, rfl, h2, T.cl, T.nT, mf_t _ _ _, dT ts, dT ts, hM.2.dp, hM2.2.dp, hF.pl.shaped (by decide), hF.pl.shaped (by decide), qbl ?_ q⟩
      exact SeqAt.eqv_refl _ hF.pl.lay
    · refine ⟨_, rfl, _, _, _, _, _, rfl, .own M, .base (.tup ha), T2.n, _, rfl, iteF q⟩
theorem scNS : FnScope ["machine", "state"] ["machine", "state"] (defScope sNeedS) := ⟨rfl, rfl, rfl, by decide +kernel, rfl, by decide +kernel, by decide +kernel⟩
theorem ok_needS {f fB C M cI : Addr} {fd fdB : FuncData} {bm : List Value} {ql : Str} (D : Df K mg "need_state" sNeedS ["machine", "state"] f fd) (DB : Df K mg "is_below" sBelow ["value", "limit"] fB fdB) (T : McT K mg M) (TX : LState.Txt K mg "NoState" ql bm C cI)
    (GB : FnOk P w K mg base CX0 2 fB fdB ["value", "limit"] (spBelow K)) : FnOk P w K mg base (L2.CX P w) 3 f fd ["machine", "state"] (spNeed M C "state" nS) := by
  refine D.F.okX scNS (fun vs H Q E h => ?_) (fun cdv A outer s H vs Q E hr h => ?_)
  · obtain ⟨m, ta, ts, v, rfl, _⟩ := h
    rfl
  · obtain ⟨m, ta, ts, v, rfl, hM, ⟨K', o, kv⟩, q1, q2⟩ := h
    refine ⟨_, pss_cons (ps_if (pt_not (pt_val (pc DB GB hr pass0 (pa_cons (pv 1) (pa_cons (pe_fld (pv 0) rfl) pa_nil))))) (pss_one (ps_raise_LState rfl TX hr (takes_of rfl rfl rfl rfl) (pa_cons (pv 1) pa_nil))) pss_nil) (pss_one (ps_ret (pv 1))), ?_⟩
    obtain ⟨dx, h1⟩ := hM.fs
    have kv' : KV K H v o := by cases kv <;> first | exact .int _ | exact .bl _ | exact .non | exact .str _ | exact .lst (by assumption) | exact .tup (by assumption)
    refine ⟨_, rfl, _, rfl, m, M, dx, _, _, rfl, h1, T.cl, T.nS, mf_s _ _ _, v, o, _, rfl, kv', _, rfl, ifD (fun e => ?_) fun e => ?_⟩
    · exact ⟨_, rfl, _, rfl, fun d hd => q2 (by simpa using e) d _ (same_new hd) hd upd_same⟩
    · exact ⟨_, rfl, q1 (by simpa using e)⟩
end
end K1
namespace K1
open PySem PySem.Spec PyProof.Rows L2
def rowF (r : Option (List V)) (n : Int) : V := if seqB r 0 10000 = true then fnb (r.getD []) n else .int (-1)
theorem fnb_non {xs : List V} {lim : Int} (h : fnb xs lim = .non) : ∀ x ∈ xs, belowB x lim = true := by
  unfold fnb at h
  cases e : xs.findIdx? (fun x => !belowB x lim) with
  | some i => rw [e] at h; cases h
  | none =>
    rw [List.findIdx?_eq_none_iff] at e
    intro x hx
    simpa using e x hx
theorem fnb_all {xs : List V} {lim : Int} (h : ∀ x ∈ xs, belowB x lim = true) : fnb xs lim = .non := fnb_none fun j y _ hy => h y (List.mem_of_getElem? hy)
theorem rowF_non {r : Option (List V)} {n : Int} (h : rowF r n = .non) : ∃ xs, r = some xs ∧ ∀ x ∈ xs, belowB x n = true := by
  unfold rowF at h
  by_cases e : seqB r 0 10000 = true
  · rw [if_pos e] at h
    cases r with
    | none => cases e
    | some xs => exact ⟨xs, rfl, fnb_non h⟩
  · rw [if_neg e] at h
    cases h
/-- where a deed leads a state; where a row leads it -/
def stp (ts : Ts) (s d : Int) : Int := ((ts[d.toNat]?.getD [])[s.toNat]?).getD 0
def run (ts : Ts) (s : Int) (row : List Int) : Int := row.foldl (stp ts) s
/-- well made tables -/
structure Wf (ts : Ts) : Prop where
  t1 : 1 ≤ ts.length
  t8 : ts.length ≤ 8
  s1 : 1 ≤ nS ts
  s12 : nS ts ≤ 12
  row : ∀ t ∈ ts, t.length = nS ts ∧ ∀ i ∈ t, 0 ≤ i ∧ i < (nS ts : Int)
theorem Wf.few {ts : Ts} (h : Wf ts) : Few ts := ⟨h.t8, fun t ht => ⟨by rw [(h.row t ht).1]; exact h.s12, fun i hi => by
  have := (h.row t ht).2 i hi
  have := h.s12
  omega⟩⟩
theorem Wf.at_ {ts : Ts} (h : Wf ts) {s d : Int} (hd : 0 ≤ d ∧ d < ts.length) (hs : 0 ≤ s ∧ s < (nS ts : Int)) : ∃ t, ts[d.toNat]? = some t ∧ t[s.toNat]? = some (stp ts s d) ∧ 0 ≤ stp ts s d ∧ stp ts s d < (nS ts : Int) := by
  have h1 : d.toNat < ts.length := by omega
  have ht : ts[d.toNat]? = some ts[d.toNat] := by simp [h1]
  have hm : ts[d.toNat] ∈ ts := List.getElem_mem h1
  obtain ⟨r1, r2⟩ := h.row _ hm
  have h2 : s.toNat < ts[d.toNat].length := by rw [r1]; omega
  have e : stp ts s d = ts[d.toNat][s.toNat] := by
    unfold stp
    rw [ht]
    simp [h2]
  refine ⟨_, ht, by rw [e]; simp [h2], ?_⟩
  rw [e]
  exact r2 _ (List.getElem_mem h2)
theorem Wf.run {ts : Ts} (h : Wf ts) : ∀ (row : List Int) (s : Int), (∀ d ∈ row, 0 ≤ d ∧ d < (ts.length : Int)) → 0 ≤ s ∧ s < (nS ts : Int) → 0 ≤ run ts s row ∧ run ts s row < (nS ts : Int)
  | [], s, _, hs => hs
  | d :: r, s, hd, hs => by
    obtain ⟨t, _, _, h3⟩ := h.at_ (hd d List.mem_cons_self) hs
    exact Wf.run h r (stp ts s d) (fun e he => hd e (List.mem_cons_of_mem _ he)) h3
theorem run_snoc (ts : Ts) (s : Int) (row : List Int) (d : Int) : run ts s (row ++ [d]) = stp ts (run ts s row) d := by
  unfold run
  rw [List.foldl_append]; rfl
theorem take_succ {α : Type} {l : List α} {i : Nat} {x : α} (h : l[i]? = some x) : l.take (i + 1) = l.take i ++ [x] := by
  rw [List.take_add_one, h]; rfl
def spFault (K : PySem.W.Frag) (M : Addr) : Sp := fun vs H Q _ => ∃ m ta ts v r, vs = [.ref m, v] ∧ MachAt M H m ta (vts ts) ∧ Rw K H v r ∧ ∀ H', Same H H' → Q (rowF r (ts.length : Int)) H'
def spRow (K : PySem.W.Frag) (M C : Addr) : Sp := fun vs H Q E => ∃ m ta ts v r, vs = [.ref m, v] ∧ MachAt M H m ta (vts ts) ∧ Rw K H v r ∧ (rowF r (ts.length : Int) ≠ .non → Rz C "at" (rowF r (ts.length : Int)) H E) ∧
  (rowF r (ts.length : Int) = .non → ∀ xs, r = some xs → ∀ p H', Same H H' → H' p = some (.tup xs) → Q (.ref p) H')
def spMoved (M : Addr) : Sp := fun vs H Q _ => ∃ m ta ts s p row, vs = [.ref m, .int s, .ref p] ∧ MachAt M H m ta (vts ts) ∧ Wf ts ∧ (0 ≤ s ∧ s < (nS ts : Int)) ∧ H p = some (.tup (vrow row)) ∧ (∀ d ∈ row, 0 ≤ d ∧ d < (ts.length : Int)) ∧ Q (.int (run ts s row)) H
section
variable {P : Program} {w : World} {K : PySem.W.Frag} {mg : Str → Option Value} {base : Heap}
theorem scFa : FnScope ["machine", "value"] ["machine", "value"] (defScope sFault) := ⟨rfl, rfl, rfl, by decide +kernel, rfl, by decide +kernel, by decide +kernel⟩
theorem ok_fault {f fS fF M : Addr} {fd fdS fdF : FuncData} (D : Df K mg "row_fault" sFault ["machine", "value"] f fd) (DS : Df K mg "is_sequence" sSeq ["value", "least", "most"] fS fdS) (DF : Df K mg "first_not_below" sFnb ["items", "limit"] fF fdF) (c : Ct mg) (T : McT K mg M)
    (GS : FnOk P w K mg base CX0 1 fS fdS ["value", "least", "most"] (spSeq K)) (GF : FnOk P w K mg base CX0 3 fF fdF ["items", "limit"] (spFnb K)) : FnOk P w K mg base CX0 4 f fd ["machine", "value"] (spFault K M) := by
  obtain ⟨t1, hc1⟩ := c.row
  refine D.F.ok scFa (fun vs H Q E h => ?_) (fun cdv A outer s H vs Q E hr h => ?_)
  · obtain ⟨m, ta, ts, v, r, rfl, _⟩ := h
    rfl
  · obtain ⟨m, ta, ts, v, r, rfl, hM, W, q⟩ := h
    refine ⟨_, pss_cons (ps_if (pt_not (pt_val (pc DS GS (hr.mono (by decide)) pass0 (pa_cons (pv 1) (pa_cons pe_int (pa_cons (pe_glob (v := .int 10000) (by rfl) hc1 ⟨_, rfl⟩) pa_nil)))))) (pss_one (ps_ret (pe_un un_neg pe_int))) pss_nil)
      (pss_one (ps_ret (pc DF GF hr pass0 (pa_cons (pv 1) (pa_cons (pe_fld (pv 0) rfl) pa_nil))))), ?_⟩
    refine ⟨_, rfl, v, r, 0, 10000, rfl, W.kv, fun H1 s1 => ⟨_, rfl, ifD (fun e => ?_) fun e => ?_⟩⟩
    · have e' : ¬ seqB r 0 10000 = true := by simpa using e
      refine ⟨_, rfl, ?_⟩
      have := q _ s1
      unfold rowF at this
      rw [if_neg e'] at this
      exact this
    · have e' : seqB r 0 10000 = true := by simpa using e
      obtain ⟨xs, rfl⟩ : ∃ xs, r = some xs := by cases r with
        | none => cases e'
        | some xs => exact ⟨xs, rfl⟩
      obtain ⟨a, rfl, hS⟩ := W.kv.seqA
      obtain ⟨dx, h1⟩ := (hM.same s1).fs
      refine ⟨_, rfl, _, rfl, m, M, dx, _, _, rfl, h1, T.cl, T.nD, mf_d _ _ _, a, xs, _, rfl, hS.same s1, (W.ks xs rfl).same s1, fun H2 s2 => ?_⟩
      have := q _ (s1.trans s2)
      unfold rowF at this
      rw [if_pos e'] at this
      exact this
theorem scRo : FnScope ["machine", "value", "at"] ["machine", "value"] (defScope sRow) := ⟨rfl, rfl, rfl, by decide +kernel, rfl, by decide +kernel, by decide +kernel⟩
theorem ok_row {f fF C M cI : Addr} {fd fdF : FuncData} {bm : List Value} {ql : Str} (D : Df K mg "check_row" sRow ["machine", "value"] f fd) (DF : Df K mg "row_fault" sFault ["machine", "value"] fF fdF) (B : Bt mg) (TX : LAt.Txt K mg "BadRow" ql bm C cI)
    (GF : FnOk P w K mg base CX0 4 fF fdF ["machine", "value"] (spFault K M)) : FnOk P w K mg base (L2.CX P w) 5 f fd ["machine", "value"] (spRow K M C) := by
  refine D.F.okX scRo (fun vs H Q E h => ?_) (fun cdv A outer s H vs Q E hr h => ?_)
  · obtain ⟨m, ta, ts, v, r, rfl, _⟩ := h
    rfl
  · obtain ⟨m, ta, ts, v, r, rfl, hM, W, q1, q2⟩ := h
    refine ⟨_, pss_cons (ps_set (i := 2) scRo.nd rfl (.inl rfl) (pc DF GF hr pass0 (pa_cons (pv 0) (pa_cons (pv 1) pa_nil))))
      (pss_cons (ps_if (pt_cmpR op_notN (pv 2) pe_non (nomark _)) (pss_one (ps_raise_LAt rfl TX hr (takes_of rfl rfl rfl rfl) (pa_cons (pv 2) pa_nil))) pss_nil)
      (pss_one (ps_ret (pe_callTy call_tuple_of (by rfl) B.tuple (by decide +kernel) (pa_cons (pv 1) pa_nil))))), ?_⟩
    refine ⟨_, rfl, _, rfl, m, ta, ts, v, r, rfl, hM, W, fun H1 s1 => ?_⟩
    refine ⟨_, rfl, rfl, _, rfl, ifD (fun e => ?_) fun e => ?_⟩
    · have e' : rowF r (ts.length : Int) ≠ .non := by simpa using e
      exact ⟨_, rfl, _, rfl, fun d hd => q1 e' d _ (s1.trans (same_new hd)) (s1.free hd) upd_same⟩
    · have e' : rowF r (ts.length : Int) = .non := by simpa using e
      obtain ⟨xs, rfl, _⟩ := rowF_non e'
      obtain ⟨a, rfl, hS⟩ := W.kv.seqA
      refine ⟨_, rfl, a, xs, rfl, ?_⟩
      rcases hS.same s1 with h | h
      · exact .inl ⟨SqL.of h, fun l hl => q2 e' xs rfl l _ (s1.trans (same_new hl)) upd_same⟩
      · exact .inr ⟨SqT.of h, q2 e' xs rfl a _ s1 h⟩
theorem scMv : FnScope ["machine", "state", "row", "deed"] ["machine", "state", "row"] (defScope sMoved) := ⟨rfl, rfl, rfl, by decide +kernel, rfl, by decide +kernel, by decide +kernel⟩
theorem ok_moved {f M : Addr} {fd : FuncData} (D : Df K mg "moved" sMoved ["machine", "state", "row"] f fd) (T : McT K mg M) : FnOk P w K mg base CX0 1 f fd ["machine", "state", "row"] (spMoved M) := by
  refine D.F.ok scMv (fun vs H Q E h => ?_) (fun cdv A outer s H vs Q E hr h => ?_)
  · obtain ⟨m, ta, ts, v, p, row, rfl, _⟩ := h
    rfl
  · obtain ⟨m, ta, ts, s0, p, row, rfl, hM, hW, hs, hp, hd, q⟩ := h
    refine ⟨_, pss_cons (ps_for PassesOwn.never rfl (pi_tup (pv 2)) (pg_name (i := 3) scMv.nd rfl (.inl rfl)) (pss_one (ps_set (i := 1) scMv.nd rfl (.inl rfl) (pe_ix ix_tup (pe_ix ix_tup (pe_fld (pv 0) rfl) (pv 3) (fun _ _ => rfl)) (pv 1) (fun _ _ => rfl)))))
      (pss_one (ps_ret (pv 1))), ?_⟩
    refine ⟨_, rfl, p, rfl, ⟨_, SqT.of hp⟩, for_tup (K := K) (a := p) (xs := vrow row) (fun i σ H' => ∃ v3 : Option V, σ = [some (.ref m), some (.int (run ts s0 (row.take i))), some (.ref p), v3] ∧ H' = H)
      ⟨none, rfl, rfl⟩ (fun i σ H' _ ⟨_, _, e⟩ => by rw [e]; exact SqT.of hp) ?_ ?_⟩
    · rintro i y σ H' hi ⟨v3, rfl, rfl⟩
      obtain ⟨d, ed, rfl⟩ : ∃ d, row[i]? = some d ∧ y = V.int d := by
        rw [vrow, List.getElem?_map] at hi
        cases e : row[i]? with
        | none => rw [e] at hi; cases hi
        | some z =>
          rw [e] at hi
          exact ⟨z, rfl, (Option.some.inj hi).symm⟩
      have hb := hd d (List.mem_of_getElem? ed)
      have hr' := hW.run (row.take i) s0 (fun e he => hd e (List.mem_of_mem_take he)) hs
      obtain ⟨t, h1, h2, h3⟩ := hW.at_ hb hr'
      obtain ⟨dx, hm⟩ := hM.fs
      obtain ⟨as, ha1, ha2, ha3⟩ := hM.2
      have hla : d.toNat < as.length := by rw [ha2, vts, List.length_map]; omega
      have hA : as[d.toNat]? = some as[d.toNat] := by simp [hla]
      have hT := ha3 d.toNat _ (vrow t) hA (by rw [vts, List.getElem?_map, h1]; rfl)
      refine ⟨_, rfl, m, M, dx, _, _, rfl, hm, T.cl, T.nT, mf_t _ _ _, _, rfl, ta, _, d, _, rfl, rfl, SqT.of ha1, at_of (j := d.toNat) (by omega) (by rw [List.getElem?_map, hA]; rfl), ?_⟩
      refine ⟨_, rfl, _, _, _, .int (stp ts (run ts s0 (row.take i)) d), rfl, rfl, SqT.of hT, at_of (j := (run ts s0 (row.take i)).toNat) (by omega) (by rw [vrow, List.getElem?_map, h2]; rfl), ?_⟩
      refine ⟨some (.int d), ?_, rfl⟩
      rw [take_succ ed, run_snoc]
      rfl
    · rintro σ H' ⟨v3, rfl, rfl⟩
      have e : row.take (vrow row).length = row := by rw [vrow, List.length_map, List.take_length]
      rw [e]
      exact ⟨_, rfl, q⟩
end
end K1
namespace K1
open PySem PySem.Spec PyProof.Rows L2
/-! ### {k: v}, k a tuple -/
def tDispT (tk tv : TE) : TE := fun σ H Q => ∀ p, H p = none → tk σ (upd H p (.dT [])) fun x H1 => tv σ H1 fun y H2 => ∃ b k, x = .ref b ∧ H2 b = some (.tup (k.map kV)) ∧ H2 p = some (.dT []) ∧ Q (.ref p) (upd H2 p (.dT [(k, y)]))
theorem pe_dispT {X : Cx} {pos : Pos} {ke ve : Expr} {tk tv : TE} (hu : X.A.units < cLine) (hk : PE X ke tk) (hv : PE X ve tv) : PE X (.Dict [some ke] [ve] pos) (tDispT tk tv) := by
  refine ⟨fun pins s σ H Q I q => ?_⟩
  have hn := I.hok.fresh (Nat.le_refl s.heap.objs.size)
  have I1 := I.laid (a := s.heap.objs.size) (o := .dT []) (h' := s.heap.push { cls := .type "dict", data := .dict #[] }) (t' := s.toks) (fun _ _ q => Heap.get?_push_of_some _ q) (Nat.le_refl _) (dt_empty s.heap I.big)
  have P := pps_cons (pos := pos) hk hv pps_nil
  rw [arm_eval_Dict, zip_pairTrees [some ke] [ve] X.env pos rfl rfl, dictDisplay_pairs _ (by intro e; cases e) (by show 1 < 17; decide)]
  refine wpAny_bind (wpAny_standAt (wpAny_bind (wpAny_subDictH (knd := tupleKind (mixKind X.prog X.w)) (Q := fun d s' => wpAny (model X.prog X.w) X.A (pure (Value.ref d)) (EP X pins σ Q) X.xe s') hu (by show 1 ≤ 15; decide) ?_)))
  let Φ : V → V → Hp → Prop := fun x y H2 => ∃ b k, x = .ref b ∧ H2 b = some (.tup (k.map kV)) ∧ H2 s.heap.objs.size = some (.dT []) ∧ Q (.ref s.heap.objs.size) (upd H2 s.heap.objs.size (.dT [(k, y)]))
  refine thn (P.run pins _ σ _ (fun ps H2 => match ps with | [(x, y)] => Φ x y H2 | _ => False) I1 (q _ hn)) fun ws s2 hh => ?_
  obtain ⟨ps, H2, I2, rel, hh⟩ := hh
  match ps, hh with
  | [(x, y)], ⟨b, k, ex, hb, hp, q2⟩ =>
    cases rel with
    | cons r1 r2 =>
      cases r2
      rename_i u
      obtain ⟨u1, u2⟩ := u
      obtain ⟨rx, ry⟩ := r1
      subst ex
      obtain rfl : u1 = Value.ref b := rx
      obtain ⟨z, hd, xs, kt, dd⟩ := dt_of I2.hok hp
      cases kt
      refine ⟨[(k, b, u2)], ⟨rfl, rfl, key_of I2.hok hb, trivial⟩, dd, fun h' tk' dd' hs => wpAny_pure ?_⟩
      have dd2 : h'.DictOfH (tupleKind (mixKind X.prog X.w)) s.heap.objs.size [(k, b, u2)] := dd'
      have he : ∃ q, h'.get? s.heap.objs.size = some q := let ⟨q, _, _, hq, _⟩ := dd2; ⟨q, hq⟩
      obtain ⟨ob, es, ep, hq, h2, h3, h4, _, h5⟩ := dd2
      have nb : b ≠ s.heap.objs.size := ne_of hb hp (fun z => nomatch z)
      have kt2 : KT (upd H2 s.heap.objs.size (.dT [(k, y)])) [(k, y)] [(k, b, u2)] := .cons ⟨rfl, by rw [upd_ne nb]; exact hb, ry⟩ .nil
      refine ⟨.ref s.heap.objs.size, _, d_write (ob := .dT [(k, y)]) I2 (by rw [hp]; exact True.intro) hs he ⟨by show 1 ≤ sizeLine; decide, hd, _, kt2, ob, es, ep, hq, h2, h3, h4, h5⟩, rfl, q2⟩
/-! ### the keys of a dict that nobody else sees: locked for good -/
def iKeysF (td : TE) : TI := fun σ H R => td σ H fun x H1 => ∃ d kvs, x = .ref d ∧ H1 d = some (.dT kvs) ∧ ∀ o, R (Itkt d o kvs) (upd H1 d (.frz o (.dT kvs)))
theorem pi_keysF {X : Cx} {tg e : Expr} {td : TE} (he : PE X e td) : PI X tg e (iKeysF td) := by
  refine ⟨fun pins s σ H R I h => ?_⟩
  refine thn (he.run pins s σ H _ I h) fun u s1 ⟨x, H1, I1, rx, d, kvs, ex, hd0, q⟩ => ?_
  subst ex
  obtain rfl : u = Value.ref d := rx
  obtain ⟨o, I2⟩ := I1.lock hd0 trivial
  obtain ⟨hs, hgd, hx, es, ep, hdt, hsz, ent⟩ := I2.frzT upd_same
  refine iter_keys hs hgd hx hdt (pi_one (tk := s1.toks) I2 _ (turn_keysT _ hdt) ⟨_, Heap.get?_push_size _ rfl, rfl, ?_⟩ (q o))
  rw [hsz] <;> rfl
theorem lc_keysF {d : Addr} {o : Obj} {kvs : List (List Key × V)} {g : TG} {tt : TT} {te : TE} {vs : List Nat} {σ : L2.St} {H1 : Hp} {D : Addr} {Qd : Hp → Prop} (Pv : Nat → Hp → Prop) (h0 : Pv 0 (upd H1 D (.lst []))) (hl : ∀ i H, i ≤ kvs.length → Pv i H → H d = some (.frz o (.dT kvs)))
    (hs : ∀ (i : Nat) k v q H, kvs[i]? = some (k, v) → H q = some (.tup (k.map kV)) → Pv i H → g (.ref q) (wipe σ vs) H fun σ2 H2 => wipe σ2 vs = wipe σ vs ∧ tt σ2 H2 fun b H3 =>
      if b = true then te σ2 H3 fun y H4 => ∃ acc, H4 D = some (.lst acc) ∧ acc.length < sizeLine ∧ Pv (i + 1) (upd H4 D (.lst (acc ++ [y]))) else Pv (i + 1) H3) (hd : ∀ H, Pv kvs.length H → Qd H) :
    ∃ W : Nat → Nat → Hp → Prop, (∃ m, W 0 m (upd H1 D (.lst []))) ∧ ∀ i m H, W i m H →
      ((Itkt d o kvs).stop i H ∧ Qd H) ∨ ((Itkt d o kvs).go i H ∧ ∃ Nx : Hp → Prop, (∀ H', Nx H' → ∃ m', m' < m ∧ W (i + 1) m' H') ∧ ∀ x H', (Itkt d o kvs).yld i H x H' → g x (wipe σ vs) H' fun σ2 H2 => wipe σ2 vs = wipe σ vs ∧ tt σ2 H2 fun b H3 =>
        if b = true then te σ2 H3 fun y H4 => ∃ acc, H4 D = some (.lst acc) ∧ acc.length < sizeLine ∧ Nx (upd H4 D (.lst (acc ++ [y]))) else Nx H3) := by
  refine ⟨fun i m H => m = kvs.length - i ∧ i ≤ kvs.length ∧ Pv i H, ⟨kvs.length, by simp, Nat.zero_le _, h0⟩, ?_⟩
  rintro i m H ⟨rfl, hi, p⟩
  have q := hl i H hi p
  by_cases hlt : i < kvs.length
  · refine .inr ⟨⟨q, hlt⟩, Pv (i + 1), fun H' p' => ⟨kvs.length - (i + 1), by omega, rfl, hlt, p'⟩, fun x H' y => ?_⟩
    obtain ⟨e, k, v, b, e1, e2, e3⟩ := y
    subst e e2
    exact hs i k v b _ e1 e3 p
  · have e : i = kvs.length := by omega
    subst e
    exact .inl ⟨⟨q, Nat.le_refl _⟩, hd H p⟩
end K1
namespace K1
open PySem PySem.Spec PyProof.Rows L2
/-- the states to which rows lead -/
inductive Reach (ts : Ts) (s : Int) : Int → Prop
  | refl : Reach ts s s
  | step {x d : Int} (h : Reach ts s x) (hd : 0 ≤ d ∧ d < (ts.length : Int)) : Reach ts s (stp ts x d)
theorem Reach.rng {ts : Ts} (w : Wf ts) {s x : Int} (hs : 0 ≤ s ∧ s < (nS ts : Int)) (h : Reach ts s x) : 0 ≤ x ∧ x < (nS ts : Int) := by
  induction h with
  | refl => exact hs
  | step h hd ih => exact (w.at_ hd ih).choose_spec.2.2
abbrev kI (x : Int) : List Key := [Sum.inl x]
/-- the search: its dict at d, its queue at q, the states met L -/
structure BF (ts : Ts) (s0 : Int) (H : Hp) (d q : Addr) (L : List Int) (kvs : List (List Key × V)) (as : List Addr) : Prop where
  hd : H d = some (.dT kvs)
  ky : kvs.map (·.1) = L.map kI
  vl : ∀ (i : Nat) k v, kvs[i]? = some (k, v) → ∃ a xs, v = .ref a ∧ H a = some (.tup xs) ∧ xs.length ≤ i
  hq : H q = some (.lst (as.map V.ref))
  ln : as.length = L.length
  it : ∀ (i : Nat) a x, as[i]? = some a → L[i]? = some x → H a = some (.tup [.int x])
  nd : L.Nodup
  rn : ∀ x ∈ L, 0 ≤ x ∧ x < (nS ts : Int)
  rc : ∀ x ∈ L, Reach ts s0 x
  st : s0 ∈ L
theorem BF.same {ts : Ts} {s0 : Int} {H H' : Hp} {d q : Addr} {L : List Int} {kvs : List (List Key × V)} {as : List Addr} (b : BF ts s0 H d q L kvs as) (s : Same H H') : BF ts s0 H' d q L kvs as :=
  ⟨s _ _ b.hd, b.ky, fun i k v e => let ⟨a, xs, h1, h2, h3⟩ := b.vl i k v e; ⟨a, xs, h1, s _ _ h2, h3⟩, s _ _ b.hq, b.ln, fun i a x e1 e2 => s _ _ (b.it i a x e1 e2), b.nd, b.rn, b.rc, b.st⟩
/-- at most as many as there are numbers -/
theorem nodup_le : ∀ (n : Nat) (L : List Int), L.Nodup → (∀ x ∈ L, 0 ≤ x ∧ x < (n : Int)) → L.length ≤ n
  | 0, L, _, h => by
    cases L with
    | nil => exact Nat.le_refl _
    | cons a r => have := h a List.mem_cons_self; omega
  | n + 1, L, nd, h => by
    have ih := nodup_le n (L.erase (n : Int)) (nd.erase _) fun x hx => by
      have h1 := h x (List.mem_of_mem_erase hx)
      have h2 : x ≠ (n : Int) := fun e => by
        rw [e] at hx
        exact (List.Nodup.mem_erase_iff nd).mp hx |>.1 rfl
      omega
    have h3 : L.length ≤ (L.erase (n : Int)).length + 1 := by
      by_cases hm : (n : Int) ∈ L
      · rw [List.length_erase_of_mem hm]; omega
      · rw [List.erase_of_not_mem hm]; omega
    omega
theorem BF.few {ts : Ts} {s0 : Int} {H : Hp} {d q : Addr} {L : List Int} {kvs : List (List Key × V)} {as : List Addr} (b : BF ts s0 H d q L kvs as) : L.length ≤ nS ts := nodup_le _ _ b.nd b.rn
theorem BF.klen {ts : Ts} {s0 : Int} {H : Hp} {d q : Addr} {L : List Int} {kvs : List (List Key × V)} {as : List Addr} (b : BF ts s0 H d q L kvs as) : kvs.length = L.length := by
  have := congrArg List.length b.ky
  simpa using this
theorem val_some {kvs : List (List Key × V)} {k : List Key} {v : V} (h : valV kvs k = some v) : ∃ i : Nat, kvs[i]? = some (k, v) := by
  unfold valV at h
  cases e : kvs.find? (fun kv => decide (kv.1 = k)) with
  | none => rw [e] at h; cases h
  | some p =>
    rw [e] at h
    have h1 := List.find?_some e
    have h2 := List.mem_of_find?_eq_some e
    obtain ⟨i, hi, ep⟩ := List.mem_iff_getElem.mp h2
    refine ⟨i, ?_⟩
    rw [List.getElem?_eq_getElem hi, ep]
    obtain ⟨p1, p2⟩ := p
    have e1 : p1 = k := of_decide_eq_true h1
    have e2 : p2 = v := Option.some.inj h
    rw [e1, e2]
theorem val_none {kvs : List (List Key × V)} {L : List Int} (hk : kvs.map (·.1) = L.map kI) {x : Int} : valV kvs (kI x) = none ↔ x ∉ L := by
  have e := valV_any (kI x) kvs
  have h : (kvs.any fun kv => decide (kv.1 = kI x)) = true ↔ x ∈ L := by
    have z : (kvs.any fun kv => decide (kv.1 = kI x)) = ((kvs.map (·.1)).any fun k => decide (k = kI x)) := by rw [List.any_map]; rfl
    rw [z, hk, List.any_map, List.any_eq_true]
    constructor
    · rintro ⟨y, hy, e⟩
      have e' : kI y = kI x := of_decide_eq_true e
      injection e' with e1 _
      injection e1 with e1
      rw [← e1]; exact hy
    · intro hx
      exact ⟨x, hx, decide_eq_true rfl⟩
  constructor
  · intro hn hx
    rw [hn] at e
    rw [h.mpr hx] at e
    cases e
  · intro hx
    cases q : valV kvs (kI x) with
    | none => rfl
    | some v =>
      rw [q] at e
      exact absurd (h.mp e) hx
/-- a new state: into the dict and the queue -/
theorem BF.put {ts : Ts} {s0 : Int} {H : Hp} {d q : Addr} {L : List Int} {kvs : List (List Key × V)} {as : List Addr} (b : BF ts s0 H d q L kvs as) {x : Int} {e a : Addr} {xs : List V} (hx : x ∉ L) (he : H e = some (.tup [.int x])) (ha : H a = some (.tup xs)) (hl : xs.length ≤ L.length)
    (hr : 0 ≤ x ∧ x < (nS ts : Int)) (hc : Reach ts s0 x) :
    BF ts s0 (upd (upd H d (.dT (putK kvs (kI x) (.ref a)))) q (.lst (as.map V.ref ++ [.ref e]))) d q (L ++ [x]) (kvs ++ [(kI x, .ref a)]) (as ++ [e]) := by
  have ndq : d ≠ q := ne_of b.hd b.hq (by intro z; cases z)
  have keep : ∀ c ys, H c = some (.tup ys) → (upd (upd H d (.dT (putK kvs (kI x) (.ref a)))) q (.lst (as.map V.ref ++ [.ref e]))) c = some (.tup ys) := fun c ys h => by
    rw [upd_ne (ne_of h b.hq (by intro z; cases z)), upd_ne (ne_of h b.hd (by intro z; cases z))]; exact h
  refine ⟨?_, ?_, fun i k v h => ?_, ?_, ?_, fun i c y h1 h2 => ?_, ?_, fun y hy => ?_, fun y hy => ?_, List.mem_append_left _ b.st⟩
  · rw [upd_ne ndq, upd_same, putK_new _ ((val_none b.ky).mpr hx)]
  · rw [List.map_append, b.ky, List.map_append]; rfl
  · by_cases hi : i < kvs.length
    · rw [List.getElem?_append_left hi] at h
      obtain ⟨c, ys, e1, e2, e3⟩ := b.vl i k v h
      exact ⟨c, ys, e1, keep _ _ e2, e3⟩
    · have hi2 : i = kvs.length := by
        have := (List.getElem?_eq_some_iff.mp h).1
        rw [List.length_append] at this
        have z : ([(kI x, V.ref a)] : List (List Key × V)).length = 1 := rfl
        omega
      subst hi2
      rw [List.getElem?_append_right (Nat.le_refl _), Nat.sub_self] at h
      have e1 : (kI x, V.ref a) = (k, v) := Option.some.inj h
      injection e1 with _ e1
      exact ⟨a, xs, e1.symm, keep _ _ ha, by rw [b.klen]; exact hl⟩
  · rw [upd_same, List.map_append]; rfl
  · rw [List.length_append, List.length_append, b.ln]; rfl
  · by_cases hi : i < as.length
    · rw [List.getElem?_append_left hi] at h1
      rw [List.getElem?_append_left (by rw [← b.ln]; exact hi)] at h2
      exact keep _ _ (b.it i c y h1 h2)
    · have hi2 : i = as.length := by
        have := (List.getElem?_eq_some_iff.mp h1).1
        rw [List.length_append] at this
        have z : ([e] : List Addr).length = 1 := rfl
        omega
      subst hi2
      rw [List.getElem?_append_right (Nat.le_refl _), Nat.sub_self] at h1
      rw [b.ln, List.getElem?_append_right (Nat.le_refl _), Nat.sub_self] at h2
      rw [← Option.some.inj h1, ← Option.some.inj h2]
      exact keep _ _ he
  · rw [List.nodup_append]
    exact ⟨b.nd, by simp, fun y hy z hz e => by
      rw [List.mem_singleton.mp hz] at e
      rw [e] at hy
      exact hx hy⟩
  · rcases List.mem_append.mp hy with h | h
    · exact b.rn y h
    · rw [List.mem_singleton.mp h]; exact hr
  · rcases List.mem_append.mp hy with h | h
    · exact b.rc y h
    · rw [List.mem_singleton.mp h]; exact hc
/-- a key's value -/
theorem BF.look {ts : Ts} {s0 : Int} {H : Hp} {d q : Addr} {L : List Int} {kvs : List (List Key × V)} {as : List Addr} (b : BF ts s0 H d q L kvs as) {x : Int} {i : Nat} (hi : L[i]? = some x) : ∃ a xs, valV kvs (kI x) = some (.ref a) ∧ H a = some (.tup xs) ∧ xs.length ≤ i := by
  cases e : valV kvs (kI x) with
  | none => exact absurd (List.mem_of_getElem? hi) ((val_none b.ky).mp e)
  | some v =>
    obtain ⟨j, hj⟩ := val_some e
    obtain ⟨a, xs, rfl, h2, h3⟩ := b.vl j _ _ hj
    have hk : (kvs.map (·.1))[j]? = some (kI x) := by rw [List.getElem?_map, hj]; rfl
    rw [b.ky, List.getElem?_map] at hk
    cases e2 : L[j]? with
    | none => rw [e2] at hk; cases hk
    | some y =>
      rw [e2] at hk
      have e3 : kI y = kI x := Option.some.inj hk
      injection e3 with e4 _
      injection e4 with e4
      subst e4
      have hij : j = i := by
        obtain ⟨h1, e5⟩ := List.getElem?_eq_some_iff.mp e2
        obtain ⟨h2', e6⟩ := List.getElem?_eq_some_iff.mp hi
        exact (List.getElem_inj b.nd).mp (e5.trans e6.symm)
      subst hij
      exact ⟨a, xs, rfl, h2, h3⟩
theorem ixTK {X : Cx} {K : PySem.W.Frag} (h : X.K = K) : IxR X (rIxT K) := by
  subst h
  exact ix_tup
end K1
namespace K1
open PySem PySem.Spec PyProof.Rows L2
def spFirst (M : Addr) : Sp := fun vs H Q _ => ∃ m ta ts s0 p, vs = [.ref m, .ref p, .non, .non] ∧ MachAt M H m ta (vts ts) ∧ Wf ts ∧ (0 ≤ s0 ∧ s0 < (nS ts : Int)) ∧ H p = some (.tup [.int s0]) ∧
  ∀ d q L kvs as H', Same H H' → H d = none → BF ts s0 H' d q L kvs as → (∀ x ∈ L, ∀ e : Int, 0 ≤ e ∧ e < (ts.length : Int) → stp ts x e ∈ L) → Q (.ref d) H'
section
variable {P : Program} {w : World} {K : PySem.W.Frag} {mg : Str → Option Value} {base : Heap}
/-- a def with two defaults that are None -/
structure DfF (K : PySem.W.Frag) (mg : Str → Option Value) (f : Addr) (fd : FuncData) : Prop where
  F : FunD K "first_rows" "first_rows" (defArgs sFirst) (defBody sFirst) (defScope sFirst) [.non, .non] [] f fd
  g : mg "first_rows" = some (.ref f)
theorem DfF.b {f : Addr} {fd : FuncData} (D : DfF K mg f fd) : ∃ ds, Vals [.non, .non] ds ∧ Binds K fd ["machine", "states", "out", "most"] ds :=
  D.F.binds1 2 0 (by simp) rfl fun T kV doc pm an cdv ct us its h1 h2 => match us, its, h1, h2 with | [_, _], [_, _], _, _ => ⟨_, rfl, rfl⟩
abbrev nFR : List Str := ["machine", "states", "out", "most", "rows", "queue", "at", "here", "deed", "table", "ends", "state"]
theorem scFR : FnScope nFR ["machine", "states", "out", "most"] (defScope sFirst) := ⟨rfl, rfl, rfl, by decide +kernel, rfl, by decide +kernel, by decide +kernel⟩
theorem iteE {c : Bool} {A B : Prop} (e : c = true) (h : A) : if c = true then A else B := by subst e; exact iteT h
theorem iteN {c : Bool} {A B : Prop} (e : c = false) (h : B) : if c = true then A else B := by subst e; exact iteF h
/-- a test that the proof never comes to -/
theorem pt_never {X : Cx} {e : Expr} : PT X e fun _ _ _ => False := ⟨fun _ _ _ _ _ _ h => h.elim⟩
theorem ok_first {f M : Addr} {fd : FuncData} (D : DfF K mg f fd) (B : Bt mg) (T : McT K mg M) : FnOk P w K mg base CX0 1 f fd ["machine", "states", "out", "most"] (spFirst M) := by
  refine D.F.ok scFR (fun vs H Q E h => ?_) (fun cdv A outer s H vs Q E hr h => ?_)
  · obtain ⟨m, ta, ts, s0, p, rfl, _⟩ := h
    rfl
  · obtain ⟨m, ta, ts, s0, p, rfl, hM, hW, hs, hp, q⟩ := h
    have hu := hu_of hr
    suffices z : ∃ t, PSs (cxOf CX0 P w K mg base nFR "first_rows" (defScope sFirst) f cdv A outer s H E).nox (defBody sFirst) t ∧ t { nx := fun _ H' => Q .non H', rt := Q } (start nFR [.ref m, .ref p, .non, .non]) H from
      let ⟨t, h1, h2⟩ := z
      ⟨t, h1.nox, h2⟩
    refine ⟨_, pss_cons (ps_set (i := 4) scFR.nd rfl (.inl rfl) (pe_dispT (Nat.lt_of_succ_lt hu) (pv 1) (pe_tup pa_nil)))
      (pss_cons (ps_set (i := 5) scFR.nd rfl (.inl rfl) (pe_lst (pa_cons (pv 1) pa_nil)))
      (pss_cons (ps_set (i := 6) scFR.nd rfl (.inl rfl) pe_int)
      (pss_cons (ps_while PassesOwn.never (PW.pt (pw_and (pt_cmpR op_lt (pv 6) (pe_callB call_len_seq (by rfl) B.len PySem.boot_len (pa_cons (pv 5) pa_nil)) (nomark _))
          (pw_and1 (PW.pt (pw_or (pt_cmp (pc_isN (pv 2))) (pw_or1 pt_never))))))
        (pss_cons (ps_set (i := 7) scFR.nd rfl (.inl rfl) (pe_ix ix_list (pv 5) (pv 6) (fun _ _ => rfl)))
        (pss_cons (ps_for PassesOwn.never rfl (pi_enumA (by rfl) B.enumerate (pa_cons (pe_fld (pv 0) rfl) pa_nil)) (pg_tup rfl (pgs_cons (pg_name (i := 8) scFR.nd rfl (.inl rfl)) (pgs_cons (pg_name (i := 9) scFR.nd rfl (.inr rfl)) pgs_nil)))
          (pss_cons (ps_set (i := 10) scFR.nd rfl (.inl rfl) (pe_callTy call_tuple_of (by rfl) B.tuple PyProof.Rows.boot_tuple (pa_cons
              (pe_lc (own := [("state", 11)]) (g := gName 11) (tt := tYes) rfl scFR.nd (pi_tup (pv 7)) (blkOk_by (N := nFR) (sc := defScope sFirst) (by decide +kernel)) (fun _ _ _ _ _ => pg_name (i := 11) scFR.nd rfl (Or.inl rfl)) (fun _ _ _ _ _ => pts_nil)
                (fun _ _ _ _ _ => pe_ix (ixTK (K := K) rfl) (pv 9) (pv 11) (fun _ _ => rfl))) pa_nil)))
          (pss_one (ps_if (pt_cmp (pc_dnotin hu (pv 10) (pv 4))) (pss_cons (ps_dput hu (pv 4) (pv 10) (pe_op op_catA (pe_dget hu (pv 4) (pv 7) (fun _ _ => rfl)) (pe_tup (pa_cons (pv 8) pa_nil))) rfl)
            (pss_one (ps_expr (pe_bm PySem.F.plainAttrs_list PySem.F.slot_list_append PySem.F.type_list_append mt_append (pv 5) (pa_cons (pv 10) pa_nil))))) pss_nil))))
        (pss_cons (ps_if (PW.pt (pw_and (pt_cmp (pc_notN (pv 3))) (pw_and1 pt_never))) pss_never pss_nil)
        (pss_one (ps_aug (i := 6) scFR.nd rfl (.inl rfl) pe_int ip_add))))))
      (pss_one (ps_ret (pv 4)))))), ?_⟩
    intro d hd
    refine ⟨_, rfl, (by show 0 ≤ sizeLine; decide), fun e0 he0 => ?_⟩
    have hd1 : H p ≠ none := by rw [hp]; intro z; cases z
    have ned : e0 ≠ d := fun z => by rw [z, upd_same] at he0; cases he0
    have se : Same H (upd (upd H d (.dT [])) e0 (.tup [])) := (same_new hd).trans (same_new he0)
    refine ⟨p, kI s0, rfl, se _ _ hp, by rw [upd_ne ned.symm, upd_same], ?_⟩
    generalize hH1 : upd (upd (upd H d (.dT [])) e0 (.tup [])) d (.dT [(kI s0, .ref e0)]) = H1
    have s1 : Same H H1 := fun b o e => by
      rw [← hH1, upd_ne (ne_of_none e hd)]
      exact se _ _ e
    have hd1' : H1 d = some (.dT [(kI s0, .ref e0)]) := by rw [← hH1, upd_same]
    have he1 : H1 e0 = some (.tup []) := by rw [← hH1, upd_ne ned, upd_same]
    refine ⟨_, rfl, (by show 1 ≤ sizeLine; decide), fun q0 hq0 => ?_⟩
    have s2 : Same H (upd H1 q0 (.lst [.ref p])) := s1.trans (same_new hq0)
    have b0 : BF ts s0 (upd H1 q0 (.lst [.ref p])) d q0 [s0] [(kI s0, .ref e0)] [p] := by
      have sm := same_new (o := HO.lst [.ref p]) hq0
      refine ⟨sm _ _ hd1', rfl, fun i k v h => ?_, upd_same, rfl, fun i a x h1 h2 => ?_, by simp, fun x hx => ?_, fun x hx => ?_, by simp⟩
      · cases i with
        | zero =>
          have z : (kI s0, V.ref e0) = (k, v) := Option.some.inj h
          injection z with _ z
          exact ⟨e0, [], z.symm, sm _ _ he1, Nat.le_refl _⟩
        | succ i => cases h
      · cases i with
        | zero =>
          obtain rfl : p = a := Option.some.inj h1
          obtain rfl : s0 = x := Option.some.inj h2
          exact s2 _ _ hp
        | succ i => cases h1
      · rw [List.mem_singleton.mp hx]; exact hs
      · rw [List.mem_singleton.mp hx]; exact .refl
    have nd0 : H d = none := hd
    refine while_by (fun σ H' => ∃ (i : Nat) (L : List Int) (kvs : List (List Key × V)) (as : List Addr) (v5 v6 v7 v8 : Option V), σ = [some (.ref m), some (.ref p), some .non, some .non, some (.ref d), some (.ref q0), some (.int (i : Int)), v5, v6, v7, v8, none] ∧ Same H H' ∧ BF ts s0 H' d q0 L kvs as ∧ i ≤ L.length ∧
        ∀ (j : Nat) x, j < i → L[j]? = some x → ∀ e : Int, 0 ≤ e ∧ e < (ts.length : Int) → stp ts x e ∈ L)
      (fun (σ : L2.St) _ => match σ[6]? with | some (some (V.int i)) => nS ts - i.toNat | _ => 0) ⟨0, _, _, _, none, none, none, none, rfl, s2, b0, Nat.zero_le _, fun j x hj => absurd hj (Nat.not_lt_zero _)⟩ ?_
      (fun σ H Q Q' hQ ⟨v, h1, v3, h2, p, ys, h3, h4, i, j, h5, h6, k, h7, h8⟩ => by
        refine ⟨v, h1, v3, h2, p, ys, h3, h4, i, j, h5, h6, k, h7, ?_⟩
        cases k with
        | false => exact hQ _ _ h8
        | true =>
          obtain ⟨u, hu, c, hc, h9⟩ := h8
          refine ⟨u, hu, c, hc, ?_⟩
          cases c with
          | false => exact h9
          | true => exact hQ _ _ h9)
    rintro σ H' ⟨i, L, kvs, as, v5, v6, v7, v8, rfl, sm, b, hi, cl⟩
    refine ⟨_, rfl, _, rfl, q0, _, rfl, .inl (SqL.of b.hq), _, _, rfl, rfl, _, rfl, ifD (fun ec => ⟨_, rfl, _, rfl, iteE rfl (iteT ?_)⟩) fun ec => iteF ?_⟩
    · have hlt : i < L.length := by
        have z : (i : Int) < ((as.map V.ref).length : Int) := of_decide_eq_true ec
        rw [List.length_map, b.ln] at z
        omega
      obtain ⟨x, hx⟩ : ∃ x, L[i]? = some x := ⟨L[i], List.getElem?_eq_getElem hlt⟩
      obtain ⟨a, ha⟩ : ∃ a, as[i]? = some a := by
        have : i < as.length := by rw [b.ln]; exact hlt
        exact ⟨as[i], List.getElem?_eq_getElem this⟩
      have hax := b.it i a x ha hx
      have hxr := b.rn x (List.mem_of_getElem? hx)
      obtain ⟨dx, hm⟩ := hM.fs
      obtain ⟨tas, ht1, ht2, ht3⟩ := hM.2
      have ltas : tas.length = ts.length := by rw [ht2, vts, List.length_map]
      refine ⟨_, rfl, _, rfl, q0, _, (i : Int), .ref a, rfl, rfl, SqL.of b.hq, atI_nat (by rw [List.getElem?_map, ha]; rfl), ?_⟩
      refine ⟨_, rfl, m, M, dx, _, _, rfl, sm _ _ hm, T.cl, T.nT, mf_t _ _ _, ta, rfl, .inr ⟨_, SqT.of (sm _ _ ht1), for_enumT (K := K) (a := ta) (xs := tas.map V.ref)
        (fun j σ H' => ∃ (L' : List Int) (kvs : List (List Key × V)) (as : List Addr) (v6 v7 v8 : Option V), σ = [some (.ref m), some (.ref p), some .non, some .non, some (.ref d), some (.ref q0), some (.int (i : Int)), some (.ref a), v6, v7, v8, none] ∧ Same H H' ∧ BF ts s0 H' d q0 L' kvs as ∧ H' a = some (.tup [.int x]) ∧ (∃ r, L' = L ++ r) ∧ ∀ e : Int, 0 ≤ e ∧ e < (j : Int) → stp ts x e ∈ L')
        ⟨L, kvs, as, _, _, _, rfl, sm, b, hax, ⟨[], by simp⟩, fun e he => by omega⟩ (fun j σ H' _ ⟨_, _, _, _, _, _, _, sm, _⟩ => SqT.of (sm _ _ ht1)) ?_ ?_⟩⟩
      · rintro j y T0 σ H' hy hT0 ⟨L', kvs, as, v6, v7, v8, rfl, sm, b, hax, ⟨r, rfl⟩, hc⟩
        obtain ⟨tj, htj, rfl⟩ : ∃ t, tas[j]? = some t ∧ y = V.ref t := by
          rw [List.getElem?_map] at hy
          cases e : tas[j]? with
          | none => rw [e] at hy; cases hy
          | some t => rw [e] at hy; exact ⟨t, rfl, (Option.some.inj hy).symm⟩
        have hjt : j < ts.length := by rw [← ltas]; exact (List.getElem?_eq_some_iff.mp htj).1
        have hdj : 0 ≤ (j : Int) ∧ (j : Int) < (ts.length : Int) := by omega
        obtain ⟨t, h1, h2, h3⟩ := hW.at_ hdj hxr
        have h1' : ts[j]? = some t := by simpa using h1
        have hT := ht3 j tj (vrow t) htj (by rw [vts, List.getElem?_map, h1']; rfl)
        generalize hyy : stp ts x (j : Int) = yy at h2 h3
        have sT := same_new (o := HO.tup [.int (j : Nat), .ref tj]) hT0
        refine ⟨T0, _, rfl, SqT.of upd_same, rfl, _, _, rfl, _, _, rfl, rfl, ?_⟩
        generalize hH2 : upd H' T0 (.tup [.int (j : Nat), .ref tj]) = H2 at sT ⊢
        have b2 := b.same sT
        have sm2 := sm.trans sT
        have hax2 := sT _ _ hax
        -- ends
        refine ⟨_, rfl, a, rfl, ⟨_, SqT.of hax2⟩, fun D0 hD0 => lc_tup (K := K) (a := a) (xs := [.int x]) (fun k H3 => Same H2 H3 ∧ H3 D0 = some (.lst (([V.int yy]).take k))) ⟨same_new hD0, upd_same⟩ (fun k H3 _ ⟨s3, _⟩ => SqT.of (s3 _ _ hax2)) ?_ ?_⟩
        · rintro k z H3 hz ⟨s3, hD3⟩
          cases k with
          | succ k => cases hz
          | zero =>
            obtain rfl : V.int x = z := Option.some.inj hz
            refine ⟨rfl, _, rfl, _, rfl, tj, _, x, .int yy, rfl, rfl, SqT.of (s3 _ _ (sm2 _ _ hT)), at_of (j := x.toNat) (by omega) (by rw [vrow, List.getElem?_map, h2]; rfl), ?_⟩
            refine ⟨[], hD3, (by show 0 < sizeLine; decide), ?_, upd_same⟩
            intro c o e
            rw [upd_ne (ne_of_none e hD0)]
            exact s3 _ _ e
        · rintro H3 ⟨s3, hD3⟩
          refine ⟨D0, _, rfl, .inl ⟨SqL.of hD3, fun en hen => ?_⟩⟩
          have s4 := s3.trans (same_new (o := HO.tup [V.int yy]) hen)
          generalize hH4 : upd H3 en (.tup (([V.int yy]).take [V.int x].length)) = H4
          have hen4 : H4 en = some (.tup [.int yy]) := by rw [← hH4]; exact upd_same
          have s4' : Same H2 H4 := by rw [← hH4]; exact s4
          have b4 := b2.same s4'
          have sm4 := sm2.trans s4'
          have hax4 := s4' _ _ hax2
          have goal_ : ∀ (L2 : List Int) (kvs2 : List (List Key × V)) (as2 : List Addr) (H5 : Hp) (w6 w7 w8 : Option V), Same H H5 → BF ts s0 H5 d q0 L2 kvs2 as2 → H5 a = some (.tup [.int x]) → (∃ r2, L2 = L ++ r2) → (∀ z ∈ L ++ r, z ∈ L2) → yy ∈ L2 →
              ∃ (L' : List Int) (kvs : List (List Key × V)) (as : List Addr) (u6 u7 u8 : Option V), [some (V.ref m), some (V.ref p), some V.non, some V.non, some (V.ref d), some (V.ref q0), some (V.int (i : Int)), some (V.ref a), w6, w7, w8, none] = [some (V.ref m), some (V.ref p), some V.non, some V.non, some (V.ref d), some (V.ref q0), some (V.int (i : Int)), some (V.ref a), u6, u7, u8, none] ∧ Same H H5 ∧ BF ts s0 H5 d q0 L' kvs as ∧ H5 a = some (.tup [.int x]) ∧ (∃ r, L' = L ++ r) ∧ ∀ e : Int, 0 ≤ e ∧ e < ((j + 1 : Nat) : Int) → stp ts x e ∈ L' :=
            fun L2 kvs2 as2 H5 w6 w7 w8 s5 b5 ha5 hr2 hsub hin => ⟨L2, kvs2, as2, w6, w7, w8, rfl, s5, b5, ha5, hr2, fun e he => by
              by_cases z : e = (j : Int)
              · rw [z, hyy]; exact hin
              · exact hsub _ (hc e (by omega))⟩
          refine ⟨_, rfl, _, rfl, d, _, rfl, DGet.t (k := kI yy) b4.hd hen4, _, rfl, ?_⟩
          cases ev : valV kvs (kI yy) with
          | some v =>
            refine iteF ?_
            have hin : yy ∈ L ++ r := by
              by_cases z : yy ∈ L ++ r
              · exact z
              · rw [(val_none b4.ky).mpr z] at ev; cases ev
            exact goal_ _ _ _ _ _ _ _ sm4 b4 hax4 ⟨r, rfl⟩ (fun z hz => hz) hin
          | none =>
            refine iteT ?_
            have hnin := (val_none b4.ky).mp ev
            have hxi : (L ++ r)[i]? = some x := by rw [List.getElem?_append_left hlt]; exact hx
            obtain ⟨ra, rxs, hv, hra, hrl⟩ := b4.look hxi
            have hil : i < (L ++ r).length := (List.getElem?_eq_some_iff.mp hxi).1
            have hsmall : (L ++ r).length ≤ 12 := Nat.le_trans b4.few hW.s12
            refine ⟨_, rfl, _, rfl, d, .ref ra, rfl, by rw [← hv]; exact DGet.t b4.hd hax4, _, rfl, (by show 1 ≤ sizeLine; decide), fun dt hdt => ?_⟩
            have s5 := same_new (o := HO.tup [V.int (j : Nat)]) hdt
            -- whichever tuple stands for the row, the rest is the same
            have rest : ∀ (rb : Addr) (ys : List V) (H6 : Hp), Same H4 H6 → H6 rb = some (.tup ys) → ys.length ≤ (L ++ r).length → DPut H6 d (.ref en) (.ref rb) (upd H6 d (.dT (putK kvs (kI yy) (.ref rb)))) ∧
                BF ts s0 (upd (upd H6 d (.dT (putK kvs (kI yy) (.ref rb)))) q0 (.lst (as.map V.ref ++ [.ref en]))) d q0 ((L ++ r) ++ [yy]) (kvs ++ [(kI yy, .ref rb)]) (as ++ [en]) ∧ (upd H6 d (.dT (putK kvs (kI yy) (.ref rb)))) q0 = some (.lst (as.map V.ref)) ∧
                Same H (upd (upd H6 d (.dT (putK kvs (kI yy) (.ref rb)))) q0 (.lst (as.map V.ref ++ [.ref en]))) ∧ (upd (upd H6 d (.dT (putK kvs (kI yy) (.ref rb)))) q0 (.lst (as.map V.ref ++ [.ref en]))) a = some (.tup [.int x]) := fun rb ys H6 s6 hrb hyl => by
              have b6 := b4.same s6
              have hq6 := b6.hq
              have ndq : q0 ≠ d := ne_of hq6 b6.hd (by intro z; cases z)
              refine ⟨DPut.t b6.hd (s6 _ _ hen4) (by rw [b6.klen, sizeLine_eq]; omega), b6.put hnin (s6 _ _ hen4) hrb hyl h3 (hyy ▸ .step (b6.rc x (List.mem_of_getElem? hxi)) hdj), by rw [upd_ne ndq]; exact hq6, fun c o e => ?_, ?_⟩
              · have hcq : c ≠ q0 := fun z => by rw [z, s1.free hq0] at e; cases e
                rw [upd_ne hcq, upd_ne (ne_of_none e nd0)]
                exact s6 _ _ (sm4 _ _ e)
              · have z := s6 _ _ hax4
                rw [upd_ne (ne_of z hq6 (by intro z; cases z)), upd_ne (ne_of z b6.hd (by intro z; cases z))]
                exact z
            have fin : ∀ (rb : Addr) (ys : List V) (H6 : Hp), Same H4 H6 → H6 rb = some (.tup ys) → ys.length ≤ (L ++ r).length → (as.map V.ref).length < sizeLine := fun _ _ _ _ _ _ => by
              rw [List.length_map, b4.ln, sizeLine_eq]; omega
            refine ⟨ra, dt, rxs, [.int (j : Nat)], rfl, rfl, SqT.of (s5 _ _ hra), SqT.of upd_same, ?_, fun e => ?_, fun _ e => absurd e (by simp), fun _ _ pn hpn => ?_⟩
            · show rxs.length + 1 ≤ sizeLine
              rw [sizeLine_eq]; omega
            · obtain ⟨g1, g2, g3, g4, g5⟩ := rest dt [.int (j : Nat)] _ s5 upd_same (by show 1 ≤ _; omega)
              refine ⟨_, rfl, _, rfl, d, _, rfl, g1, ?_⟩
              refine ⟨_, rfl, .inl ⟨rfl, _, SqL.of g3⟩, _, rfl, q0, _, _, rfl, rfl, g3, fin dt _ _ s5 upd_same (by show 1 ≤ _; omega), ?_⟩
              exact goal_ _ _ _ _ _ _ _ g4 g2 g5 ⟨r ++ [yy], by simp⟩ (fun z hz => List.mem_append_left _ hz) (by simp)
            · have s6 := s5.trans (same_new (o := HO.tup (rxs ++ [V.int (j : Nat)])) hpn)
              have hl6 : (rxs ++ [V.int (j : Nat)]).length ≤ (L ++ r).length := by
                rw [List.length_append]
                show rxs.length + 1 ≤ _
                omega
              obtain ⟨g1, g2, g3, g4, g5⟩ := rest pn _ _ s6 upd_same hl6
              refine ⟨_, rfl, _, rfl, d, _, rfl, g1, ?_⟩
              refine ⟨_, rfl, .inl ⟨rfl, _, SqL.of g3⟩, _, rfl, q0, _, _, rfl, rfl, g3, fin pn _ _ s6 upd_same hl6, ?_⟩
              exact goal_ _ _ _ _ _ _ _ g4 g2 g5 ⟨r ++ [yy], by simp⟩ (fun z hz => List.mem_append_left _ hz) (by simp)
      · rintro σ H' ⟨L', kvs, as, v6, v7, v8, rfl, sm, b, hax, ⟨r, rfl⟩, hc⟩
        refine ⟨_, rfl, _, rfl, iteN rfl (iteF ⟨_, rfl, _, _, rfl, rfl, ?_⟩)⟩
        refine ⟨⟨i + 1, L ++ r, kvs, as, some (.ref a), v6, v7, v8, ?_, sm, b, ?_, fun j y hj hy e he => ?_⟩, ?_⟩
        · have z : ((i + 1 : Nat) : Int) = (i : Int) + 1 := by omega
          rw [z]; rfl
        · rw [List.length_append]; omega
        · rcases Nat.lt_succ_iff_lt_or_eq.mp hj with z | z
          · have hy' : L[j]? = some y := by rw [List.getElem?_append_left (by omega)] at hy; exact hy
            exact List.mem_append_left _ (cl j y z hy' e he)
          · subst z
            rw [List.getElem?_append_left hlt, hx] at hy
            rw [← Option.some.inj hy]
            refine hc e ?_
            rw [List.length_map, ltas]
            exact he
        · have hf := b.few
          rw [List.length_append] at hf
          show nS ts - ((i : Int) + 1).toNat < nS ts - (i : Int).toNat
          omega
    · have hge : i = L.length := by
        have z : ¬ ((i : Int) < ((as.map V.ref).length : Int)) := of_decide_eq_false ec
        rw [List.length_map, b.ln] at z
        omega
      refine ⟨_, rfl, q d q0 L kvs as H' sm nd0 b fun x hx e he => ?_⟩
      obtain ⟨j, hj, ej⟩ := List.mem_iff_getElem.mp hx
      exact cl j x (by omega) (by rw [← ej]; exact List.getElem?_eq_getElem hj) e he
end
end K1
namespace K1
open PySem PySem.Spec PyProof.Rows L2
theorem reach_closed {ts : Ts} {s0 : Int} {L : List Int} (h0 : s0 ∈ L) (hc : ∀ x ∈ L, ∀ e : Int, 0 ≤ e ∧ e < (ts.length : Int) → stp ts x e ∈ L) : ∀ {x : Int}, Reach ts s0 x → x ∈ L := by
  intro x h
  induction h with
  | refl => exact h0
  | step h hd ih => exact hc _ ih _ hd
theorem lt_of_le_nodup {l : List Int} (h : l.Pairwise (· ≤ ·)) (n : l.Nodup) : l.Pairwise (· < ·) := by
  have h2 : l.Pairwise (· ≠ ·) := n
  exact (h.and h2).imp fun {a b} ⟨h1, h2⟩ => by omega
def spOrbit (K : PySem.W.Frag) (M CS : Addr) : Sp := fun vs H Q E => ∃ m ta ts v, vs = [.ref m, v] ∧ MachAt M H m ta (vts ts) ∧ Wf ts ∧ (∃ o, KV K H v o) ∧ (belowB v (nS ts : Int) = false → Rz CS "state" v H E) ∧
  (belowB v (nS ts : Int) = true → ∃ s, v = .int s ∧ ∀ (ns : List Int) p H', Same H H' → ns.Pairwise (· < ·) → (∀ x, x ∈ ns ↔ Reach ts s x) → H' p = some (.tup (vrow ns)) → Q (.ref p) H')
section
variable {P : Program} {w : World} {K : PySem.W.Frag} {mg : Str → Option Value} {base : Heap}
abbrev nOr : List Str := ["machine", "state", "ends"]
theorem scOr : FnScope nOr ["machine", "state"] (defScope sOrbit) := ⟨rfl, rfl, rfl, by decide +kernel, rfl, by decide +kernel, by decide +kernel⟩
/-- first_rows(e, ..) with its defaults -/
theorem pcF {X : Cx} {CX : CXT} {k : Nat} {f : Addr} {fd : FuncData} {sp : Sp} {E : XK} {p pos : Pos} {e : Expr} {es : List Expr} {t : TA} {ds : List Value} (D : DfF X.K X.mg f fd) (G : FnOk X.prog X.w X.K X.mg X.base CX k f fd ["machine", "states", "out", "most"] sp) (hr : Room k X.A) (hx : Passes CX X E) (ha : PA X (e :: es) t)
    (hv : Vals [.non, .non] ds) (hb : Binds X.K fd ["machine", "states", "out", "most"] ds) (hg : Gl X "first_rows" := by rfl)
    (hdb : (("first_rows" : Str) == ("__debug__" : Str)) = false := by decide) (he : starEach (e :: es) X.env = (false, eval e X.env) :: starEach es X.env := by rfl) (hpl : (backTo pos (starEach es X.env)).any (·.1) = false := by rfl) :
    PE X (.Call (.Name "first_rows" p) (e :: es) [] pos) (tCall sp [.non, .non] E t) := pe_call G hr hg D.g D.F.kp hb hv hx ha hdb he hpl
theorem ok_orbit {f fN fF CS M : Addr} {fd fdN fdF : FuncData} (D : Df K mg "orbit" sOrbit ["machine", "state"] f fd) (DN : Df K mg "need_state" sNeedS ["machine", "state"] fN fdN) (DF : DfF K mg fF fdF) (B : Bt mg)
    (GN : FnOk P w K mg base (L2.CX P w) 3 fN fdN ["machine", "state"] (spNeed M CS "state" nS)) (GF : FnOk P w K mg base CX0 1 fF fdF ["machine", "states", "out", "most"] (spFirst M)) : FnOk P w K mg base (L2.CX P w) 4 f fd ["machine", "state"] (spOrbit K M CS) := by
  refine D.F.okX scOr (fun vs H Q E h => ?_) (fun cdv A outer s H vs Q E hr h => ?_)
  · obtain ⟨m, ta, ts, v, rfl, _⟩ := h
    rfl
  · obtain ⟨m, ta, ts, v, rfl, hM, hW, ⟨o, kv⟩, q1, q2⟩ := h
    obtain ⟨ds, vd, bd⟩ := DF.b
    refine ⟨_, pss_cons (ps_expr (pc DN GN hr (pass1 (takes_of rfl rfl rfl rfl)) (pa_cons (pv 0) (pa_cons (pv 1) pa_nil))))
      (pss_one (ps_ret (pe_callTy call_tuple_of (by rfl) B.tuple PyProof.Rows.boot_tuple (pa_cons (pe_callB cr_sortedI (by rfl) B.sorted PyProof.Rows.boot_sorted (pa_cons
        (pe_lc (own := [("ends", 2)]) (g := gName 2) (tt := tYes) rfl scOr.nd (pi_keysF (pcF DF GF (hr.mono (by decide)) pass0 (pa_cons (pv 0) (pa_cons (pe_tup (pa_cons (pv 1) pa_nil)) pa_nil)) vd bd)) (blkOk_by (N := nOr) (sc := defScope sOrbit) (by decide +kernel)) (fun _ _ _ _ _ => pg_name (i := 2) scOr.nd rfl (Or.inl rfl)) (fun _ _ _ _ _ => pts_nil)
          (fun _ _ _ _ _ => pe_ix (ixTK (K := K) rfl) (pv 2) pe_int (fun _ _ => rfl))) pa_nil)) pa_nil)))), ?_⟩
    refine ⟨_, rfl, _, rfl, m, ta, ts, v, rfl, hM, ⟨K, o, kv⟩, fun e => ?_, fun e => q1 e⟩
    obtain ⟨s0, rfl, q⟩ := q2 e
    have hs : 0 ≤ s0 ∧ s0 < (nS ts : Int) := by
      have z : (decide (0 ≤ s0) && decide (s0 < (nS ts : Int))) = true := e
      simpa using z
    refine ⟨_, rfl, _, rfl, (by show 1 ≤ sizeLine; decide), fun p hp => ?_⟩
    have s1 := same_new (o := HO.tup [V.int s0]) hp
    refine ⟨m, ta, ts, s0, p, rfl, hM.same s1, hW, hs, upd_same, fun d qa L kvs as H2 s2 hd b hc => ?_⟩
    have s12 := s1.trans s2
    have hd0 : H d = none := s1.free hd
    refine ⟨d, kvs, rfl, b.hd, fun od D0 hD0 => ?_⟩
    have ndD : d ≠ D0 := fun z => by rw [← z, upd_same] at hD0; cases hD0
    have hD2 : H2 D0 = none := by rw [upd_ne ndD.symm] at hD0; exact hD0
    generalize hH3 : upd H2 d (.frz od (.dT kvs)) = H3
    have hd3 : H3 d = some (.frz od (.dT kvs)) := by rw [← hH3, upd_same]
    have s3 : Same H H3 := fun c o e => by
      rw [← hH3, upd_ne (ne_of_none e hd0)]
      exact s12 _ _ e
    have hD3 : H3 D0 = none := by rw [← hH3, upd_ne ndD.symm]; exact hD2
    refine lc_keysF (fun i H' => Same H3 H' ∧ H' D0 = some (.lst ((L.take i).map V.int))) ⟨same_new hD3, upd_same⟩ (fun i H' _ ⟨s4, _⟩ => s4 _ _ hd3) ?_ ?_
    · rintro i k v qk H' hk hqk ⟨s4, hD4⟩
      obtain ⟨x, hx, rfl⟩ : ∃ x, L[i]? = some x ∧ k = kI x := by
        have z : (kvs.map (·.1))[i]? = some k := by rw [List.getElem?_map, hk]; rfl
        rw [b.ky, List.getElem?_map] at z
        cases e : L[i]? with
        | none => rw [e] at z; cases z
        | some x => rw [e] at z; exact ⟨x, rfl, (Option.some.inj z).symm⟩
      have hlen : L.length ≤ 12 := Nat.le_trans b.few hW.s12
      refine ⟨rfl, _, rfl, qk, [.int x], 0, .int x, rfl, rfl, SqT.of hqk, atI_nat (j := 0) rfl, _, hD4, ?_, ?_, ?_⟩
      · rw [List.length_map, List.length_take, sizeLine_eq]; omega
      · intro c o e
        rw [upd_ne (ne_of_none e hD3)]
        exact s4 _ _ e
      · rw [upd_same, take_succ hx, List.map_append]; rfl
    · rintro H4 ⟨s4, hD4⟩
      have eL : L.take kvs.length = L := by rw [b.klen, List.take_length]
      rw [eL] at hD4
      refine ⟨D0, L, rfl, SqL.of hD4, fun ns' p2 hperm hpw hp2 => ?_⟩
      refine ⟨p2, _, rfl, .inl ⟨SqL.of upd_same, fun p3 hp3 => ?_⟩⟩
      refine q ns' p3 _ ((s3.trans s4).trans ((same_new hp2).trans (same_new hp3))) (lt_of_le_nodup hpw (hperm.nodup_iff.mpr b.nd)) (fun x => ?_) upd_same
      rw [hperm.mem_iff]
      exact ⟨b.rc x, reach_closed b.st hc⟩
end
end K1
namespace K1
open PySem PySem.Spec PyProof.Rows L2
/-- at x the deeds a, b don't commute -/
def Bad (ts : Ts) (x a b : Int) : Prop := stp ts (stp ts x a) b ≠ stp ts (stp ts x b) a
instance {ts : Ts} {x a b : Int} : Decidable (Bad ts x a b) := inferInstanceAs (Decidable (_ ≠ _))
def In8 (ts : Ts) (d : Int) : Prop := 0 ≤ d ∧ d < (ts.length : Int)
/-- the first three of ns, a deed, a deed, at which deeds don't commute -/
def PaperIs (ts : Ts) (ns : List Int) : Option (Int × Int × Int) → Prop
  | none => ∀ x ∈ ns, ∀ a b, In8 ts a → In8 ts b → ¬ Bad ts x a b
  | some (x, a, b) => ∃ i : Nat, ns[i]? = some x ∧ In8 ts a ∧ In8 ts b ∧ Bad ts x a b ∧ (∀ (j : Nat) y, j < i → ns[j]? = some y → ∀ c d, In8 ts c → In8 ts d → ¬ Bad ts y c d) ∧ (∀ c d, In8 ts c → In8 ts d → c < a → ¬ Bad ts x c d) ∧ ∀ d, In8 ts d → d < b → ¬ Bad ts x a d
theorem paper_one {ts : Ts} {ns : List Int} : ∀ {r s : Option (Int × Int × Int)}, PaperIs ts ns r → PaperIs ts ns s → r = s
  | none, none, _, _ => rfl
  | none, some (x, a, b), h, ⟨i, h1, h2, h3, h4, _⟩ => absurd h4 (h x (List.mem_of_getElem? h1) a b h2 h3)
  | some (x, a, b), none, ⟨i, h1, h2, h3, h4, _⟩, h => absurd h4 (h x (List.mem_of_getElem? h1) a b h2 h3)
  | some (x, a, b), some (x', a', b'), ⟨i, h1, h2, h3, h4, h5, h6, h7⟩, ⟨i', k1, k2, k3, k4, k5, k6, k7⟩ => by
    have ei : i = i' := by
      rcases Nat.lt_trichotomy i i' with z | z | z
      · exact absurd h4 (k5 i x z h1 a b h2 h3)
      · exact z
      · exact absurd k4 (h5 i' x' z k1 a' b' k2 k3)
    subst ei
    have ex : x = x' := Option.some.inj (h1.symm.trans k1)
    subst ex
    have ea : a = a' := by
      rcases Int.lt_trichotomy a a' with z | z | z
      · exact absurd h4 (k6 a b h2 h3 z)
      · exact z
      · exact absurd k4 (h6 a' b' k2 k3 z)
    subst ea
    have eb : b = b' := by
      rcases Int.lt_trichotomy b b' with z | z | z
      · exact absurd h4 (k7 b h3 z)
      · exact z
      · exact absurd k4 (h7 b' k3 z)
    rw [eb]
/-- a paper as a value -/
def PapV (H : Hp) (v : V) : Option (Int × Int × Int) → Prop
  | none => v = .non
  | some (x, a, b) => ∃ p, v = .ref p ∧ H p = some (.tup [.int x, .int a, .int b])
def spCPaper (K : PySem.W.Frag) (M CS : Addr) : Sp := fun vs H Q E => ∃ m ta ts v, vs = [.ref m, v] ∧ MachAt M H m ta (vts ts) ∧ Wf ts ∧ (∃ o, KV K H v o) ∧ (belowB v (nS ts : Int) = false → Rz CS "state" v H E) ∧
  (belowB v (nS ts : Int) = true → ∃ s, v = .int s ∧ ∀ (ns : List Int) r u H', Same H H' → ns.Pairwise (· < ·) → (∀ x, x ∈ ns ↔ Reach ts s x) → PaperIs ts ns r → PapV H' u r → Q u H')
section
variable {P : Program} {w : World} {K : PySem.W.Frag} {mg : Str → Option Value} {base : Heap}
abbrev nCP : List Str := ["machine", "state", "at", "one", "other"]
theorem scCP : FnScope nCP ["machine", "state"] (defScope sCPaper) := ⟨rfl, rfl, rfl, by decide +kernel, rfl, by decide +kernel, by decide +kernel⟩
theorem ok_cpaper {f fO fM CS M : Addr} {fd fdO fdM : FuncData} (D : Df K mg "commuting_paper" sCPaper ["machine", "state"] f fd) (DO : Df K mg "orbit" sOrbit ["machine", "state"] fO fdO) (DM : Df K mg "moved" sMoved ["machine", "state", "row"] fM fdM) (B : Bt mg) (T : McT K mg M)
    (GO : FnOk P w K mg base (L2.CX P w) 4 fO fdO ["machine", "state"] (spOrbit K M CS)) (GM : FnOk P w K mg base CX0 1 fM fdM ["machine", "state", "row"] (spMoved M)) : FnOk P w K mg base (L2.CX P w) 5 f fd ["machine", "state"] (spCPaper K M CS) := by
  refine D.F.okX scCP (fun vs H Q E h => ?_) (fun cdv A outer s H vs Q E hr h => ?_)
  · obtain ⟨m, ta, ts, v, rfl, _⟩ := h
    rfl
  · obtain ⟨m, ta, ts, v, rfl, hM, hW, ⟨o, kv⟩, q1, q2⟩ := h
    have r1 := hr.mono (show 1 ≤ 4 by decide)
    refine ⟨_, pss_cons (ps_for (passes_of rfl) rfl (pi_tup (pc DO GO hr (pass1 (takes_of rfl rfl rfl rfl)) (pa_cons (pv 0) (pa_cons (pv 1) pa_nil)))) (pg_name (i := 2) scCP.nd rfl (.inl rfl))
        (pss_one (ps_for (passes_of rfl) rfl (pi_range1 (by rfl) B.range (pa_cons (pe_fld (pv 0) rfl) pa_nil)) (pg_name (i := 3) scCP.nd rfl (.inl rfl))
          (pss_one (ps_for (passes_of rfl) rfl (pi_range1 (by rfl) B.range (pa_cons (pe_fld (pv 0) rfl) pa_nil)) (pg_name (i := 4) scCP.nd rfl (.inl rfl))
            (pss_one (ps_if (pt_cmpR op_ne (pc DM GM r1 pass0 (pa_cons (pv 0) (pa_cons (pv 2) (pa_cons (pe_tup (pa_cons (pv 3) (pa_cons (pv 4) pa_nil))) pa_nil)))) (pc DM GM r1 pass0 (pa_cons (pv 0) (pa_cons (pv 2) (pa_cons (pe_tup (pa_cons (pv 4) (pa_cons (pv 3) pa_nil))) pa_nil)))) (nomark _))
              (pss_one (ps_ret (pe_tup (pa_cons (pv 2) (pa_cons (pv 3) (pa_cons (pv 4) pa_nil)))))) pss_nil)))))))
      (pss_one (ps_ret pe_non)), ?_⟩
    refine ⟨_, rfl, _, rfl, m, ta, ts, v, rfl, hM, hW, ⟨o, kv⟩, q1, fun e => ?_⟩
    obtain ⟨st, rfl, q⟩ := q2 e
    refine ⟨st, rfl, fun ns p H1 s1 asc mem hp => ?_⟩
    have hst : 0 ≤ st ∧ st < (nS ts : Int) := by
      have z : (decide (0 ≤ st) && decide (st < (nS ts : Int))) = true := e
      simpa using z
    have Q' := fun r u H' s h1 h2 => q ns r u H' s asc mem h1 h2
    refine ⟨p, rfl, ⟨_, SqT.of hp⟩, for_tup (K := K) (a := p) (xs := vrow ns) (fun i σ H' => ∃ v2 v3 v4, σ = [some (.ref m), some (.int st), v2, v3, v4] ∧ Same H1 H' ∧ ∀ (j : Nat) y, j < i → ns[j]? = some y → ∀ a b, In8 ts a → In8 ts b → ¬ Bad ts y a b) ⟨none, none, none, rfl, fun _ _ e => e, fun j y hj => absurd hj (Nat.not_lt_zero _)⟩ (fun i σ H' _ ⟨_, _, _, _, s, _⟩ => SqT.of (s _ _ hp)) ?_ ?_⟩
    · rintro i x σ H2 hx ⟨v2, v3, v4, rfl, s2, no⟩
      obtain ⟨z, hz, rfl⟩ : ∃ z, ns[i]? = some z ∧ x = V.int z := by
        rw [vrow, List.getElem?_map] at hx
        cases e : ns[i]? with
        | none => rw [e] at hx; cases hx
        | some z => rw [e] at hx; exact ⟨z, rfl, (Option.some.inj hx).symm⟩
      have hzr := ((mem z).mp (List.mem_of_getElem? hz)).rng hW hst
      obtain ⟨dx, hf⟩ := (hM.same (s1.trans s2)).fs
      refine ⟨_, rfl, m, M, dx, _, _, rfl, hf, T.cl, T.nD, mf_d _ _ _, (ts.length : Int), rfl, by have := hW.t8; omega, by have := hW.t8; omega, for_range (fun k σ H' => ∃ v3 v4, σ = [some (.ref m), some (.int st), some (.int z), v3, v4] ∧ Same H1 H' ∧ ∀ a b, In8 ts a → In8 ts b → a < (k : Int) → ¬ Bad ts z a b) ⟨_, _, rfl, s2, fun a b ha _ hk => by have := ha.1; omega⟩ ?_ ?_⟩
      · rintro k σ H3 hk ⟨v3, v4, rfl, s3, no2⟩
        have hk8 : In8 ts (0 + (k : Int)) := ⟨by omega, by omega⟩
        obtain ⟨dx, hf⟩ := (hM.same (s1.trans s3)).fs
        refine ⟨_, rfl, m, M, dx, _, _, rfl, hf, T.cl, T.nD, mf_d _ _ _, (ts.length : Int), rfl, by have := hW.t8; omega, by have := hW.t8; omega, for_range (fun l σ H' => ∃ v4, σ = [some (.ref m), some (.int st), some (.int z), some (.int (0 + (k : Int))), v4] ∧ Same H1 H' ∧ ∀ b, In8 ts b → b < (l : Int) → ¬ Bad ts z (0 + (k : Int)) b) ⟨_, rfl, s3, fun b hb hl => by have := hb.1; omega⟩ ?_ ?_⟩
        · rintro l σ H4 hl ⟨v4, rfl, s4, no3⟩
          have hl8 : In8 ts (0 + (l : Int)) := ⟨by omega, by omega⟩
          have hM4 := hM.same (s1.trans s4)
          have rows : ∀ a b : Int, In8 ts a → In8 ts b → ∀ d ∈ [a, b], 0 ≤ d ∧ d < (ts.length : Int) := fun a b ha hb d hd => by
            simp only [List.mem_cons, List.mem_nil_iff, or_false] at hd
            rcases hd with rfl | rfl
            · exact ha
            · exact hb
          refine ⟨_, rfl, _, rfl, _, rfl, _, rfl, (by show 2 ≤ sizeLine; decide), fun p1 hp1 => ⟨m, ta, ts, z, p1, [0 + (k : Int), 0 + (l : Int)], rfl, hM4.same (same_new hp1), hW, hzr, upd_same, rows _ _ hk8 hl8, ?_⟩⟩
          have s5 := s4.trans (same_new (o := HO.tup [.int (0 + (k : Int)), .int (0 + (l : Int))]) hp1)
          refine ⟨_, rfl, _, rfl, _, rfl, _, rfl, (by show 2 ≤ sizeLine; decide), fun p2 hp2 => ⟨m, ta, ts, z, p2, [0 + (l : Int), 0 + (k : Int)], rfl, (hM.same (s1.trans s5)).same (same_new hp2), hW, hzr, upd_same, rows _ _ hl8 hk8, rfl, _, rfl, ifD (fun e => ?_) fun e => ?_⟩⟩
          · have hb : Bad ts z (0 + (k : Int)) (0 + (l : Int)) := fun w => by
              rw [Bool.not_eq_true', decide_eq_false_iff_not] at e
              exact e (congrArg V.int w)
            refine ⟨_, rfl, _, rfl, _, rfl, (by show 3 ≤ sizeLine; decide), fun p3 hp3 => ?_⟩
            have s6 := s1.trans ((s5.trans (same_new (o := HO.tup [.int (0 + (l : Int)), .int (0 + (k : Int))]) hp2)).trans (same_new (o := HO.tup [.int z, .int (0 + (k : Int)), .int (0 + (l : Int))]) hp3))
            exact Q' (some (z, 0 + (k : Int), 0 + (l : Int))) _ _ s6 ⟨i, hz, hk8, hl8, hb, no, fun c d hc hd hlt => no2 c d hc hd (by omega), fun d hd hlt => no3 d hd (by omega)⟩ ⟨p3, rfl, upd_same⟩
          · have hb : ¬ Bad ts z (0 + (k : Int)) (0 + (l : Int)) := fun w => by
              rw [Bool.not_eq_false', decide_eq_true_iff] at e
              injection e with e
              exact w e
            refine ⟨_, rfl, s5.trans (same_new hp2), fun b hb8 hlt => ?_⟩
            by_cases z2 : b = 0 + (l : Int)
            · rw [z2]; exact hb
            · exact no3 b hb8 (by omega)
        · rintro σ H4 ⟨v4, rfl, s4, no3⟩
          refine ⟨_, _, rfl, s4, fun a b ha hb hlt => ?_⟩
          by_cases z2 : a = 0 + (k : Int)
          · rw [z2]; exact no3 b hb (by have := hb.2; simp only [Int.toNat_natCast]; exact this)
          · exact no2 a b ha hb (by omega)
      · rintro σ H3 ⟨v3, v4, rfl, s3, no2⟩
        refine ⟨_, _, _, rfl, s3, fun j y hj hy a b ha hb => ?_⟩
        by_cases z2 : j = i
        · subst z2
          obtain rfl : z = y := Option.some.inj (hz.symm.trans hy)
          exact no2 a b ha hb (by have := ha.2; simp only [Int.toNat_natCast]; exact this)
        · exact no j y (by omega) hy a b ha hb
    · rintro σ H2 ⟨v2, v3, v4, rfl, s2, no⟩
      refine Q' none _ _ (s1.trans s2) (fun x hx a b ha hb => ?_) rfl
      obtain ⟨j, hj, ej⟩ := List.mem_iff_getElem.mp hx
      exact no j x (by rw [vrow, List.length_map]; exact hj) (by rw [← ej]; exact List.getElem?_eq_getElem hj) a b ha hb
end
end K1
namespace K1
open PySem PySem.Spec PyProof.Rows L2
abbrev sUInit : Stmt := inClass (top 7) 0
abbrev uF (x y z : V) : List (Str × V) := [("other", z), ("one", y), ("state", x)]
def spUInit (K : PySem.W.Frag) (C : Addr) : Sp := fun vs H Q _ => ∃ a x y z, vs = [.ref a, x, y, z] ∧ OexC K C ∧ H a = some (exo a C none) ∧
  ∀ d H', (∀ c o, H c = some o → c ≠ a → H' c = some o) → H d = none → d ≠ a → H' a = some (exo a C (some d)) → H' d = some (exd d (uF x y z)) → Q .non H'
section
variable {P : Program} {w : World} {K : PySem.W.Frag} {mg : Str → Option Value} {base : Heap}
theorem scUI : FnScope ["self", "state", "one", "other"] ["self", "state", "one", "other"] (defScope sUInit) := ⟨rfl, rfl, rfl, by decide +kernel, rfl, by decide +kernel, by decide +kernel⟩
structure UnC (K : PySem.W.Frag) (mg : Str → Option Value) (C : Addr) : Prop where
  x : OexC K C
  n1 : PySem.W.findIn K (.ref C) "state" = some none
  n2 : PySem.W.findIn K (.ref C) "one" = some none
  n3 : PySem.W.findIn K (.ref C) "other" = some none
  f : XfC K C
  g : mg "Uncommuting" = some (.ref C)
theorem ok_uinit {f C : Addr} {fd : FuncData} (F : Fun K "__init__" "Uncommuting.__init__" sUInit f fd) (U : UnC K mg C) : FnOk P w K mg base CX0 1 f fd ["self", "state", "one", "other"] (spUInit K C) := by
  refine F.ok scUI (fun vs H Q E h => ?_) (fun cdv A outer s H vs Q E hr h => ?_)
  · obtain ⟨a, x, y, z, rfl, _⟩ := h
    rfl
  · obtain ⟨a, x, y, z, rfl, hx, ha, q⟩ := h
    refine ⟨_, pss_cons (ps_ost (pv 0) (pv 1)) (pss_cons (ps_ost (pv 0) (pv 2)) (pss_one (ps_ost (pv 0) (pv 3)))), ?_⟩
    refine ⟨_, rfl, _, rfl, a, C, rfl, hx, U.n1, .inl ⟨ha, fun d hd ne => ?_⟩⟩
    refine ⟨_, rfl, _, rfl, a, C, rfl, hx, U.n2, .inr ⟨d, _, upd_same, by rw [upd_ne ne, upd_same], by show 1 ≤ 900; decide, ?_⟩⟩
    refine ⟨_, rfl, _, rfl, a, C, rfl, hx, U.n3, .inr ⟨d, _, by rw [upd_ne ne.symm, upd_same], upd_same, by show 2 ≤ 900; decide, ?_⟩⟩
    refine q d _ (fun c o e n => ?_) hd ne (by rw [upd_ne ne.symm, upd_ne ne.symm, upd_same]) upd_same
    have ncd := ne_of_none e hd
    rw [upd_ne ncd, upd_ne ncd, upd_ne n, upd_ne ncd]
    exact e
/-- the error Uncommuting, its fields -/
def RzU (CU : Addr) (x a b : Int) (H : Hp) (E : XK) : Prop := ∀ d H', Same H H' → H d = none → H' d = some (.xd (uF (.int x) (.int a) (.int b))) → E (.ref CU) (some d) H'
def spNeedC (K : PySem.W.Frag) (M CS CU : Addr) : Sp := fun vs H Q E => ∃ m ta ts v, vs = [.ref m, v] ∧ MachAt M H m ta (vts ts) ∧ Wf ts ∧ (∃ o, KV K H v o) ∧ (belowB v (nS ts : Int) = false → Rz CS "state" v H E) ∧
  (belowB v (nS ts : Int) = true → ∃ s, v = .int s ∧ ∀ (ns : List Int) r H', Same H H' → ns.Pairwise (· < ·) → (∀ x, x ∈ ns ↔ Reach ts s x) → PaperIs ts ns r → (r = none → Q (.ref m) H') ∧ ∀ x a b, r = some (x, a, b) → RzU CU x a b H' E)
abbrev nNC : List Str := ["machine", "state", "paper", "at", "one", "other"]
theorem scNC : FnScope nNC ["machine", "state"] (defScope sNeedC) := ⟨rfl, rfl, rfl, by decide +kernel, rfl, by decide +kernel, by decide +kernel⟩
theorem ok_needC {f fC fI CS CU M : Addr} {fd fdC fdI : FuncData} (D : Df K mg "need_commuting" sNeedC ["machine", "state"] f fd) (DC : Df K mg "commuting_paper" sCPaper ["machine", "state"] fC fdC) (U : UnC K mg CU)
    (iC : PySem.W.findIn K (.ref CU) "__init__" = some (some (.ref fI))) (tI : PySem.W.typeIn K (.ref fI) = some (.type "function")) (bI : Binds K fdI ["self", "state", "one", "other"] [])
    (GI : FnOk P w K mg base CX0 1 fI fdI ["self", "state", "one", "other"] (spUInit K CU)) (GC : FnOk P w K mg base (L2.CX P w) 5 fC fdC ["machine", "state"] (spCPaper K M CS)) : FnOk P w K mg base (L2.CX P w) 6 f fd ["machine", "state"] (spNeedC K M CS CU) := by
  refine D.F.okX scNC (fun vs H Q E h => ?_) (fun cdv A outer s H vs Q E hr h => ?_)
  · obtain ⟨m, ta, ts, v, rfl, _⟩ := h
    rfl
  · obtain ⟨m, ta, ts, v, rfl, hM, hW, ⟨o, kv⟩, q1, q2⟩ := h
    refine ⟨_, pss_cons (ps_set (i := 2) scNC.nd rfl (.inl rfl) (pc DC GC hr (pass1 (takes_of rfl rfl rfl rfl)) (pa_cons (pv 0) (pa_cons (pv 1) pa_nil))))
      (pss_cons (ps_if (pt_cmpR op_notN (pv 2) pe_non (nomark _)) (pss_cons (ps_asg (pv 2) (pg_tup rfl (pgs_cons (pg_name (i := 3) scNC.nd rfl (.inl rfl)) (pgs_cons (pg_name (i := 4) scNC.nd rfl (.inl rfl)) (pgs_cons (pg_name (i := 5) scNC.nd rfl (.inl rfl)) pgs_nil)))))
          (pss_one (ps_raise rfl (takes_of rfl rfl rfl rfl) (pmk_oex (CX := CX0) U.x iC tI GI (hr.mono (show 2 ≤ 5 by decide)) bI .nil (fun _ _ _ _ _ _ _ h => h.elim) (by rfl) U.g (pa_cons (pv 3) (pa_cons (pv 4) (pa_cons (pv 5) pa_nil))))))) pss_nil)
      (pss_one (ps_ret (pv 0)))), ?_⟩
    refine ⟨_, rfl, _, rfl, m, ta, ts, v, rfl, hM, hW, ⟨o, kv⟩, q1, fun e => ?_⟩
    obtain ⟨st, rfl, q⟩ := q2 e
    refine ⟨st, rfl, fun ns r u H1 s1 asc mem pap pv => ?_⟩
    obtain ⟨qn, qs⟩ := q ns r H1 s1 asc mem pap
    cases r with
    | none =>
      obtain rfl : u = .non := pv
      refine ⟨_, rfl, rfl, _, rfl, iteF ⟨_, rfl, qn rfl⟩⟩
    | some t =>
      obtain ⟨x, a, b⟩ := t
      obtain ⟨p, rfl, hp⟩ := pv
      refine ⟨_, rfl, rfl, _, rfl, iteT ⟨_, rfl, p, _, rfl, SqT.of hp, rfl, _, _, rfl, _, _, rfl, _, _, rfl, rfl, ?_⟩⟩
      refine ⟨_, rfl, _, rfl, _, rfl, by show 3 ≤ 1000; decide, fun ea hea => ⟨ea, .int x, .int a, .int b, rfl, U.x, upd_same, fun d H2 k2 hd ne hea2 hd2 => ⟨rfl, d, _, hea2, hd2, ?_, ?_⟩⟩⟩
      · rw [upd_ne ne] at hd; exact hd
      · refine qs x a b rfl d _ (fun c o e => ?_) (by rw [upd_ne ne] at hd; exact hd) upd_same
        have nce := ne_of_none e hea
        have ncd : c ≠ d := fun z => by rw [z] at e; rw [upd_ne ne, e] at hd; cases hd
        rw [upd_ne ncd]
        unfold L2.del
        rw [if_neg nce]
        exact k2 c o (by rw [upd_ne nce]; exact e) nce
end
end K1
namespace K1
open PySem PySem.Spec PyProof.Rows L2
section
variable {κ : Type} [DecidableEq κ]
theorem valV_mem {k : κ} {v : V} : ∀ {kvs : List (κ × V)}, (kvs.map (·.1)).Nodup → (k, v) ∈ kvs → valV kvs k = some v
  | [], _, h => by cases h
  | (k', v') :: r, nd, h => by
    obtain ⟨n1, n2⟩ := List.nodup_cons.mp nd
    unfold valV
    rcases List.mem_cons.mp h with e | e
    · cases e
      rw [List.find?_cons_of_pos (by simp)]; rfl
    · have ne : k' ≠ k := fun z => n1 (by rw [z]; exact List.mem_map.mpr ⟨(k, v), e, rfl⟩)
      rw [List.find?_cons_of_neg (by simpa using ne)]
      exact valV_mem n2 e
theorem valV_no {k : κ} {kvs : List (κ × V)} (h : ∀ p ∈ kvs, p.1 ≠ k) : valV kvs k = none := by
  unfold valV
  rw [List.find?_eq_none.mpr fun p hp => by simpa using h p hp]; rfl
theorem putK_no {k : κ} {v : V} {kvs : List (κ × V)} (h : ∀ p ∈ kvs, p.1 ≠ k) : putK kvs k v = kvs ++ [(k, v)] := by
  unfold putK
  rw [if_neg]
  intro z
  obtain ⟨p, hp, e⟩ := List.any_eq_true.mp z
  exact h p hp (of_decide_eq_true e)
end
/-- where a row leads, done again and again -/
def trail (ts : Ts) (row : List Int) (s : Int) : Nat → Int
  | 0 => s
  | j + 1 => run ts (trail ts row s j) row
theorem trail_rng {ts : Ts} {row : List Int} {s : Int} (w : Wf ts) (hd : ∀ d ∈ row, 0 ≤ d ∧ d < (ts.length : Int)) (hs : 0 ≤ s ∧ s < (nS ts : Int)) : ∀ j, 0 ≤ trail ts row s j ∧ trail ts row s j < (nS ts : Int)
  | 0 => hs
  | j + 1 => w.run row _ hd (trail_rng w hd hs j)
def Fresh (T : Nat → Int) (n : Nat) : Prop := ∀ a b, a < b → b < n → T a ≠ T b
def PowIs (T : Nat → Int) (i p : Nat) : Prop := 0 < p ∧ T (i + p) = T i ∧ Fresh T (i + p)
def kvT (T : Nat → Int) (j : Nat) : List (Key × V) := (List.range j).map fun i => (Sum.inl (T i), V.int ((i : Nat) : Int))
theorem kvT_keys (T : Nat → Int) (j : Nat) : (kvT T j).map (·.1) = (List.range j).map fun i => (Sum.inl (T i) : Key) := by
  unfold kvT
  rw [List.map_map]; rfl
theorem kvT_nodup {T : Nat → Int} {j : Nat} (h : Fresh T j) : ((kvT T j).map (·.1)).Nodup := by
  rw [kvT_keys]
  have hp : (List.range j).Pairwise (fun a b => a < b ∧ b < j) := by
    rw [List.pairwise_iff_getElem]
    intro a b ha hb hab
    rw [List.getElem_range, List.getElem_range]
    rw [List.length_range] at hb
    exact ⟨hab, hb⟩
  refine List.pairwise_map.mpr (hp.imp fun {a b} ⟨h1, h2⟩ e => ?_)
  injection e with e
  exact h a b h1 h2 e
theorem kvT_at {T : Nat → Int} {j i : Nat} (h : Fresh T j) (hi : i < j) : valV (kvT T j) (Sum.inl (T i)) = some (.int ((i : Nat) : Int)) :=
  valV_mem (kvT_nodup h) (List.mem_map.mpr ⟨i, List.mem_range.mpr hi, rfl⟩)
theorem kvT_no {T : Nat → Int} {j : Nat} {x : Int} (h : ∀ i, i < j → T i ≠ x) : ∀ p ∈ kvT T j, p.1 ≠ (Sum.inl x : Key) := fun p hp e => by
  obtain ⟨i, hi, rfl⟩ := List.mem_map.mp hp
  injection e with e
  exact h i (List.mem_range.mp hi) e
theorem kvT_succ {T : Nat → Int} {j : Nat} (h : ∀ i, i < j → T i ≠ T j) : putK (kvT T j) (Sum.inl (T j)) (.int ((j : Nat) : Int)) = kvT T (j + 1) := by
  rw [putK_no (kvT_no h)]
  unfold kvT
  rw [List.range_succ, List.map_append]; rfl
theorem fresh_few {T : Nat → Int} {n m : Nat} (h : Fresh T n) (hr : ∀ i, 0 ≤ T i ∧ T i < (m : Int)) : n ≤ m := by
  have nd : ((List.range n).map T).Nodup := by
    have hp : (List.range n).Pairwise (fun a b => a < b ∧ b < n) := by
      rw [List.pairwise_iff_getElem]
      intro a b ha hb hab
      rw [List.getElem_range, List.getElem_range]
      rw [List.length_range] at hb
      exact ⟨hab, hb⟩
    exact List.pairwise_map.mpr (hp.imp fun {a b} ⟨h1, h2⟩ e => h a b h1 h2 e)
  have := nodup_le m _ nd fun x hx => by
    obtain ⟨i, _, rfl⟩ := List.mem_map.mp hx
    exact hr i
  rwa [List.length_map, List.length_range] at this
theorem kvT_len (T : Nat → Int) (j : Nat) : (kvT T j).length = j := by
  unfold kvT
  rw [List.length_map, List.length_range]
def meas (n : Nat) (d : Addr) : L2.St → Hp → Nat := fun _ H => match H d with | some (.dK kvs) => n + 1 - kvs.length | _ => 0
theorem meas_at {n : Nat} {d : Addr} {σ : L2.St} {H : Hp} {kvs : List (Key × V)} (h : H d = some (.dK kvs)) : meas n d σ H = n + 1 - kvs.length := by
  unfold meas
  rw [h]
def spPower (K : PySem.W.Frag) (M CS CR : Addr) : Sp := fun vs H Q E => ∃ m ta ts v rv, vs = [.ref m, v, rv] ∧ MachAt M H m ta (vts ts) ∧ Wf ts ∧ (∃ o, KV K H v o) ∧ (belowB v (nS ts : Int) = false → Rz CS "state" v H E) ∧
  (belowB v (nS ts : Int) = true → ∃ s r, v = .int s ∧ Rw K H rv r ∧ (rowF r (ts.length : Int) ≠ .non → Rz CR "at" (rowF r (ts.length : Int)) H E) ∧ (rowF r (ts.length : Int) = .non → ∃ row, r = some (vrow row) ∧ (∀ d ∈ row, 0 ≤ d ∧ d < (ts.length : Int)) ∧
    ∀ (i p : Nat) a H', Same H H' → PowIs (trail ts row s) i p → H' a = some (.tup [.int (i : Int), .int (p : Int)]) → Q (.ref a) H'))
section
variable {P : Program} {w : World} {K : PySem.W.Frag} {mg : Str → Option Value} {base : Heap}
abbrev nPw : List Str := ["machine", "state", "row", "deeds", "times"]
theorem scPw : FnScope nPw ["machine", "state", "row"] (defScope sPower) := ⟨rfl, rfl, rfl, by decide +kernel, rfl, by decide +kernel, by decide +kernel⟩
theorem ok_power {f fN fR fM CS CR M : Addr} {fd fdN fdR fdM : FuncData} (D : Df K mg "power_of" sPower ["machine", "state", "row"] f fd) (DN : Df K mg "need_state" sNeedS ["machine", "state"] fN fdN) (DR : Df K mg "check_row" sRow ["machine", "value"] fR fdR) (DM : Df K mg "moved" sMoved ["machine", "state", "row"] fM fdM) (B : Bt mg)
    (GN : FnOk P w K mg base (L2.CX P w) 3 fN fdN ["machine", "state"] (spNeed M CS "state" nS)) (GR : FnOk P w K mg base (L2.CX P w) 5 fR fdR ["machine", "value"] (spRow K M CR)) (GM : FnOk P w K mg base CX0 1 fM fdM ["machine", "state", "row"] (spMoved M)) :
    FnOk P w K mg base (L2.CX P w) 6 f fd ["machine", "state", "row"] (spPower K M CS CR) := by
  refine D.F.okX scPw (fun vs H Q E h => ?_) (fun cdv A outer s H vs Q E hr h => ?_)
  · obtain ⟨m, ta, ts, v, rv, rfl, _⟩ := h
    rfl
  · obtain ⟨m, ta, ts, v, rv, rfl, hM, hW, ⟨o, kv⟩, q1, q2⟩ := h
    have hu := hu_of hr
    refine ⟨_, pss_cons (ps_expr (pc DN GN (hr.mono (by decide)) (pass1 (takes_of rfl rfl rfl rfl)) (pa_cons (pv 0) (pa_cons (pv 1) pa_nil))))
      (pss_cons (ps_set (i := 3) scPw.nd rfl (.inl rfl) (pc DR GR hr (pass1 (takes_of rfl rfl rfl rfl)) (pa_cons (pv 0) (pa_cons (pv 2) pa_nil))))
      (pss_cons (ps_set (i := 4) scPw.nd rfl (.inl rfl) pe_dnewK)
      (pss_cons (ps_while (passes_of rfl) (pt_cmp (pc_dnotin hu (pv 1) (pv 4)))
        (pss_cons (ps_dput hu (pv 4) (pv 1) (pe_callB call_lenD (by rfl) B.len PySem.boot_len (pa_cons (pv 4) pa_nil)) rfl)
        (pss_one (ps_set (i := 1) scPw.nd rfl (.inl rfl) (pc DM GM (hr.mono (by decide)) pass0 (pa_cons (pv 0) (pa_cons (pv 1) (pa_cons (pv 3) pa_nil))))))))
      (pss_one (ps_ret (pe_tup (pa_cons (pe_dget hu (pv 4) (pv 1) (fun _ _ => rfl)) (pa_cons (pe_op op_sub (pe_callB call_lenD (by rfl) B.len PySem.boot_len (pa_cons (pv 4) pa_nil)) (pe_dget hu (pv 4) (pv 1) (fun _ _ => rfl))) pa_nil)))))))), ?_⟩
    refine ⟨_, rfl, _, rfl, m, ta, ts, v, rfl, hM, ⟨K, o, kv⟩, fun e => ?_, fun e => q1 e⟩
    obtain ⟨st, r, rfl, hrw, qr, q⟩ := q2 e
    have hst : 0 ≤ st ∧ st < (nS ts : Int) := by
      have z : (decide (0 ≤ st) && decide (st < (nS ts : Int))) = true := e
      simpa using z
    refine ⟨_, rfl, _, rfl, m, ta, ts, rv, r, rfl, hM, hrw, fun hne => qr hne, fun hn xs ex p H1 s1 hp => ?_⟩
    obtain ⟨row, rfl, hrow, q⟩ := q hn
    obtain rfl := Option.some.inj ex
    intro d hd
    have s2 : Same H (upd H1 d (.dK [])) := s1.trans (same_new hd)
    have nd : H d = none := s1.free hd
    refine while_by (fun σ H' => ∃ j : Nat, σ = [some (.ref m), some (.int (trail ts row st j)), some rv, some (.ref p), some (.ref d)] ∧ Same H H' ∧ H' p = some (.tup (vrow row)) ∧ H' d = some (.dK (kvT (trail ts row st) j)) ∧ Fresh (trail ts row st) j)
      (meas (nS ts) d) ⟨0, rfl, s2, (same_new hd) _ _ hp, upd_same, fun a b _ hb => absurd hb (Nat.not_lt_zero _)⟩ ?_
      (fun σ H Q Q' hQ ⟨v, h1, v2, h2, a, o, h3, h4, k, h5, h6⟩ => ⟨v, h1, v2, h2, a, o, h3, h4, k, h5, hQ _ _ h6⟩)
    rintro σ H2 ⟨j, rfl, s3, hp3, hd3, fr⟩
    refine ⟨_, rfl, _, rfl, d, _, rfl, DGet.k (k := Sum.inl (trail ts row st j)) hd3, _, rfl, ?_⟩
    have hjm : j ≤ nS ts := fresh_few fr (trail_rng hW hrow hst)
    have hm12 := hW.s12
    cases ev : valV (kvT (trail ts row st) j) (Sum.inl (trail ts row st j)) with
    | none =>
      refine iteT ?_
      have hno : ∀ i, i < j → trail ts row st i ≠ trail ts row st j := fun i hi z => by
        have := kvT_at fr hi
        rw [z, ev] at this
        cases this
      refine ⟨_, rfl, d, _, rfl, hd3, _, rfl, _, rfl, d, _, rfl, DPut.k (k := Sum.inl (trail ts row st j)) hd3 (by rw [kvT_len, sizeLine_eq]; omega), ?_⟩
      have npd : p ≠ d := ne_of hp3 hd3 (by intro z; cases z)
      refine ⟨_, rfl, _, rfl, _, rfl, m, ta, ts, trail ts row st j, p, row, rfl, ?_, hW, trail_rng hW hrow hst j, by rw [upd_ne npd]; exact hp3, hrow, ?_⟩
      · refine hM.same fun c o e => ?_
        rw [upd_ne (ne_of_none e nd)]
        exact s3 _ _ e
      · have hfr : Fresh (trail ts row st) (j + 1) := fun a b hab hb => by
          by_cases z : b = j
          · rw [z]; exact hno a (by omega)
          · exact fr a b hab (by omega)
        refine ⟨⟨j + 1, rfl, fun c o e => ?_, by rw [upd_ne npd]; exact hp3, ?_, hfr⟩, ?_⟩
        · rw [upd_ne (ne_of_none e nd)]
          exact s3 _ _ e
        · rw [upd_same, kvT_len, kvT_succ hno]
        · have e1 : (upd H2 d (.dK (putK (kvT (trail ts row st) j) (Sum.inl (trail ts row st j)) (.int ((kvT (trail ts row st) j).length : Nat))))) d = some (.dK (kvT (trail ts row st) (j + 1))) := by
            rw [upd_same, kvT_len, kvT_succ hno]
          have hj1 : j + 1 ≤ nS ts := fresh_few hfr (trail_rng hW hrow hst)
          rw [meas_at e1, meas_at hd3, kvT_len, kvT_len]
          omega
    | some u =>
      refine iteF ?_
      obtain ⟨i, hi, ei⟩ : ∃ i, i < j ∧ trail ts row st i = trail ts row st j := by
        refine Classical.byContradiction fun z => ?_
        have := valV_no (kvT_no (T := trail ts row st) (j := j) (x := trail ts row st j) fun i hi e => z ⟨i, hi, e⟩)
        rw [ev] at this
        cases this
      have eg : valV (kvT (trail ts row st) j) (Sum.inl (trail ts row st j)) = some (.int ((i : Nat) : Int)) := by
        rw [← ei]; exact kvT_at fr hi
      have g : DGet H2 d (.int (trail ts row st j)) (some (.int ((i : Nat) : Int))) := by
        have z := DGet.k (k := Sum.inl (trail ts row st j)) hd3
        rw [eg] at z
        exact z
      refine ⟨_, rfl, _, rfl, d, _, rfl, g, _, rfl, d, _, rfl, hd3, _, rfl, _, rfl, d, _, rfl, g, _, _, rfl, rfl, (by show 2 ≤ sizeLine; decide), fun a ha => ?_⟩
      rw [kvT_len]
      have ep : ((j : Nat) : Int) - ((i : Nat) : Int) = ((j - i : Nat) : Int) := by omega
      refine q i (j - i) a _ (s3.trans (same_new ha)) ⟨by omega, ?_, ?_⟩ (by rw [upd_same]; show some (HO.tup [V.int ((i : Nat) : Int), V.int (((j : Nat) : Int) - ((i : Nat) : Int))]) = _; rw [ep])
      · rw [show i + (j - i) = j by omega, ei]
      · rw [show i + (j - i) = j by omega]; exact fr
end
end K1
/-! ### zip of two, each a list or a tuple -/
namespace ZM
open PySem PySem.Spec PyProof.Rows L2
def Sq (t : Bool) (K : PySem.W.Frag) (H : Hp) (a : Addr) (xs : List V) : Prop := match t with | true => SqT K H a xs | false => SqL K H a xs
def itOf (t : Bool) (h : Heap) (i l : Addr) (k : Nat) : Prop := match t with | true => h.IsTupleIter i l k | false => h.IsListIter i l k
def seqOf (t : Bool) (h : Heap) (l : Addr) (xs : Array Value) : Prop := match t with | true => h.IsTuple l xs | false => h.IsList l xs
theorem drawsM {prog : Program} {w : World} {A : Around} (t : Bool) (hh : A.handled = none) (it l : Addr) (hne : l ≠ it) (items : Array Value) :
    Draws prog w A it [it, l] items.size (fun i v => items[i]? = some v) (fun i h => itOf t h it l i ∧ seqOf t h l items) := match t with
  | true => Draws.tuple hh it l hne items
  | false => Draws.list hh it l hne items
theorem itOf.obj {t : Bool} {h : Heap} {i l : Addr} {k : Nat} (x : itOf t h i l k) : ∃ o, h.get? i = some o ∧ ∀ v, o.data ≠ .cell v := by
  cases t <;> (obtain ⟨o, e, _, d⟩ := x; exact ⟨o, e, fun v q => by rw [d] at q; cases q⟩)
theorem itOf.at {t : Bool} {h h' : Heap} {i l : Addr} {k : Nat} (x : itOf t h i l k) (m : ∀ o, h.get? i = some o → h'.get? i = some o) : itOf t h' i l k := by
  cases t
  · exact Heap.IsListIter.at x m
  · exact Heap.IsTupleIter.at x m
theorem Sq.real {X : Cx} {pins : List (Addr × Obj)} {σ : L2.St} {H : Hp} {s : Shared} {t : Bool} {a : Addr} {xs : List V} (I : Inv X pins σ H s) (q : Sq t X.K H a xs) : ∃ its, Vals xs its ∧ seqOf t s.heap a its.toArray ∧ a < s.heap.objs.size := by
  cases t
  · obtain ⟨its, rv, p, _⟩ := I.list q
    exact ⟨its, rv, p.isList, p.lt⟩
  · obtain ⟨its, rv, p, _⟩ := I.tuple q
    obtain ⟨o, ho, _⟩ := id p
    exact ⟨its, rv, p, Heap.lt_size ho⟩
theorem Sq.inj {X : Cx} {pins : List (Addr × Obj)} {σ : L2.St} {H : Hp} {s : Shared} {t : Bool} {a : Addr} {xs ys : List V} (I : Inv X pins σ H s) (q : Sq t X.K H a xs) (q2 : Sq t X.K H a ys) : xs = ys := by
  cases t
  · exact I.list_inj q q2
  · exact I.tuple_inj q q2
/-- what stands at a and b as it is at each turn, the items in new pairs -/
def ItzM (K : PySem.W.Frag) (t1 t2 : Bool) (a b : Addr) : It :=
  ⟨fun i H => ∃ (xs ys : List V) (x y : V), Sq t1 K H a xs ∧ Sq t2 K H b ys ∧ xs[i]? = some x ∧ ys[i]? = some y,
    fun i H v H' => ∃ T x y, v = .ref T ∧ H T = none ∧ H' = upd H T (.tup [x, y]) ∧ (∀ xs, Sq t1 K H a xs → xs[i]? = some x) ∧ ∀ ys, Sq t2 K H b ys → ys[i]? = some y,
    fun i H => ∃ xs ys : List V, Sq t1 K H a xs ∧ Sq t2 K H b ys ∧ i ≤ xs.length ∧ i ≤ ys.length ∧ (i = xs.length ∨ i = ys.length)⟩
theorem zlt {h : Heap} {c : Addr} {o : Obj} (e : h.get? c = some o) : c ≠ h.objs.size := Nat.ne_of_lt (Heap.lt_size e)
structure Sep (z TI TO i1 i2 a b : Addr) : Prop extends ZipSep2 z TI TO i1 i2 [i1, a] [i2, b] where
  na : a ≠ i1
  nb : b ≠ i2
  n1 : i1 ≠ z
  n2 : i2 ≠ z
theorem turnM {P : Program} {w : World} {K : PySem.W.Frag} {elts : List Expr} {kk : Nat} {tpos : Pos} {a b z TI TO i1 i2 : Addr} (t1 t2 : Bool) (S : Sep z TI TO i1 i2 a b) :
    Turn P w K (.Tuple elts kk tpos) (ItzM K t1 t2 a b) [z, TI, TO, i1, i2] z (fun i h => IsZip h z TI TO .none ∧ IsTupOf2 h TI (.ref i1) (.ref i2) ∧ (∃ x y, IsTupOf2 h TO x y) ∧ itOf t1 h i1 a i ∧ itOf t2 h i2 b i) where
  mem := by simp
  obj := fun i h st c hc => by
    obtain ⟨hz, hTI, ⟨x, y, hTO⟩, h1, h2⟩ := st
    simp only [List.mem_cons, List.mem_nil_iff, or_false] at hc
    rcases hc with rfl | rfl | rfl | rfl | rfl
    · exact ⟨_, hz, fun v q => nomatch q⟩
    · exact ⟨_, hTI, fun v q => nomatch q⟩
    · exact ⟨_, hTO, fun v q => nomatch q⟩
    · exact h1.obj
    · exact h2.obj
  keep := fun i h h' st k => by
    obtain ⟨hz, hTI, ⟨x, y, hTO⟩, h1, h2⟩ := st
    exact ⟨k _ (by simp) _ hz, k _ (by simp) _ hTI, ⟨x, y, k _ (by simp) _ hTO⟩, h1.at fun o q => k _ (by simp) o q, h2.at fun o q => k _ (by simp) o q⟩
  item := by
    intro X hP hw hK hc i pins s σ H E I hf st hg
    subst hP hw hK
    obtain ⟨hz, hTI, ⟨x0, y0, hTO⟩, h1, h2⟩ := st
    obtain ⟨xs, ys, x, y, hqx, hqy, hx, hy⟩ := hg
    obtain ⟨its, rv, p, _⟩ := hqx.real I
    obtain ⟨its2, rv2, p2, _⟩ := hqy.real I
    obtain ⟨u, hu, ru⟩ := rv.get hx
    obtain ⟨u2, hu2, ru2⟩ := rv2.get hy
    have l1 : i < its.toArray.size := by simpa using (List.getElem?_eq_some_iff.mp hu).1
    have l2 : i < its2.toArray.size := by simpa using (List.getElem?_eq_some_iff.mp hu2).1
    have d1 := drawsM (prog := X.prog) (w := X.w) (A := X.A.in1) t1 (I.ok.hd hc) i1 a S.na its.toArray
    have d2 := drawsM (prog := X.prog) (w := X.w) (A := X.A.in1) t2 (I.ok.hd hc) i2 b S.nb its2.toArray
    refine wpAny_pyNext_zipD2_item S.toZipSep2 d1 d2 hz hTI hTO ⟨h1, p⟩ ⟨h2, p2⟩ l1 l2 fun v1 v2 h' tk e1 e2 z' TO' s1' s2' hT hsz hk => ?_
    obtain rfl : u = v1 := by
      have q : its[i]? = some v1 := by simpa using e1
      exact Option.some.inj (hu.symm.trans q)
    obtain rfl : u2 = v2 := by
      have q : its2[i]? = some v2 := by simpa using e2
      exact Option.some.inj (hu2.symm.trans q)
    refine ⟨_, rfl, wpAny_letOwnedTupleGo_zip (s := { s with heap := h', toks := tk }) z' fun h'' z'' sb => ?_⟩
    have nz := zlt hz
    have hT2 : h''.get? s.heap.objs.size = some { cls := .type "tuple", data := .seq #[u, u2] } := (sb.2 _ (Ne.symm nz)).trans hT
    have new : ObjOk X.prog X.w (upd H s.heap.objs.size (.tup [x, y])) h'' s.heap.objs.size (.tup [x, y]) :=
      ⟨by show 2 ≤ sizeLine; decide, [u, u2], .cons ru (.cons ru2 .nil), ⟨_, hT2, rfl, _, rfl⟩⟩
    have I1 : Inv X pins σ (upd H s.heap.objs.size (.tup [x, y])) { s with heap := h'', toks := tk } :=
      I.turnedNew (t' := tk) (ch := [z, TI, TO, i1, i2]) (fun c o hb q => (sb.2 c (fun q' => hb (by simp [q']))).trans (hk c o (fun q' => hb (by simp [q'])) (fun q' => hb (by simp [q'])) (fun q' => hb (by simp [q'])) (fun q' => hb (by simp [q'])) q)) hf (Nat.le_refl _) new
    have back : ∀ c o, c ≠ z → h'.get? c = some o → h''.get? c = some o := fun c o k q => (sb.2 c k).trans q
    refine ⟨.ref s.heap.objs.size, _, I1, rfl, ⟨_, x, y, rfl, I.hok.fresh (Nat.le_refl _), rfl, fun l hl => by rw [hl.inj I hqx]; exact hx, fun l hl => by rw [hl.inj I hqy]; exact hy⟩, ⟨z'', back _ _ S.TIz (hk _ _ S.TIz S.TITO S.TIi1 S.TIi2 hTI), ⟨u, u2, back _ _ S.TOz TO'⟩, s1'.1.at fun o q => back _ o S.n1 q, s2'.1.at fun o q => back _ o S.n2 q⟩, fun c hcm => ?_⟩
    have hlt : c ≠ s.heap.objs.size := by
      simp only [List.mem_cons, List.mem_nil_iff, or_false] at hcm
      rcases hcm with rfl | rfl | rfl | rfl | rfl
      · exact nz
      · exact zlt hTI
      · exact zlt hTO
      · obtain ⟨o, e, _⟩ := h1.obj; exact zlt e
      · obtain ⟨o, e, _⟩ := h2.obj; exact zlt e
    rw [upd_ne hlt]
    exact (hf c hcm).1
  done := by
    intro X hP hw hK hc i pins s σ H E I hf st hg
    subst hP hw hK
    obtain ⟨hz, hTI, ⟨x0, y0, hTO⟩, h1, h2⟩ := st
    obtain ⟨xs, ys, hqx, hqy, k1, k2, hend⟩ := hg
    obtain ⟨its, rv, p, _⟩ := hqx.real I
    obtain ⟨its2, rv2, p2, _⟩ := hqy.real I
    have l1 : its.toArray.size = xs.length := by have := rv.length; simp; omega
    have l2 : its2.toArray.size = ys.length := by have := rv2.length; simp; omega
    have d1 := drawsM (prog := X.prog) (w := X.w) (A := X.A.in1) t1 (I.ok.hd hc) i1 a S.na its.toArray
    have d2 := drawsM (prog := X.prog) (w := X.w) (A := X.A.in1) t2 (I.ok.hd hc) i2 b S.nb its2.toArray
    exact wpAny_pyNext_zipD2_end S.toZipSep2 d1 d2 hz hTI hTO ⟨h1, p⟩ ⟨h2, p2⟩ (by rw [l1]; exact k1) (by rw [l2]; exact k2) (by rw [l1, l2]; exact hend) fun h' tk hk =>
      ⟨rfl, I.turnedL (t' := tk) (ch := [z, TI, TO, i1, i2]) (fun c o hb q => hk c o (fun q' => hb (by simp [q'])) (fun q' => hb (by simp [q'])) (fun q' => hb (by simp [q'])) (fun q' => hb (by simp [q'])) q) hf⟩
  self := fun A i s Q E st h => wpAny_pyIter_zip st.1 h
theorem nne (x y : Nat) (h : x < y ∨ y < x) : @Ne Addr x y := fun z => by
  have z' : @Eq Nat x y := z
  omega
theorem nin (x y y2 : Nat) (h : x < y ∨ y < x) (h2 : x < y2 ∨ y2 < x) : @Membership.mem Addr (List Addr) _ [y, y2] x → False := fun m => by
  rcases List.mem_cons.mp m with z | m
  · exact nne _ _ h z
  · exact nne _ _ h2 (List.mem_singleton.mp m)
theorem sep (n a b : Nat) (ha : a < n) (hb : b < n) : Sep (n + 4) (n + 2) (n + 3) n (n + 1) a b :=
  { TIz := nne _ _ (by omega), TOz := nne _ _ (by omega), TITO := nne _ _ (by omega), TIi1 := nne _ _ (by omega), mem1 := List.mem_cons_self, zf1 := nin _ _ _ (by omega) (by omega), Tf1 := nin _ _ _ (by omega) (by omega)
    TIi2 := nne _ _ (by omega), mem2 := List.mem_cons_self, zf2 := nin _ _ _ (by omega) (by omega), Tf2 := nin _ _ _ (by omega) (by omega)
    sep1_2 := nin _ _ _ (by omega) (by omega), sep2_1 := nin _ _ _ (by omega) (by omega)
    na := nne _ _ (by omega), nb := nne _ _ (by omega), n1 := nne _ _ (by omega), n2 := nne _ _ (by omega) }
theorem beginsM (t : Bool) (l : Addr) (items : Array Value) : ∃ o, Begins (.ref l) o (fun h => seqOf t h l items) ∧ ∀ (h : Heap) (i : Addr), h.get? i = some o → itOf t h i l 0 := by
  cases t
  · exact ⟨_, begins_list l items, fun h i e => ⟨_, e, rfl, rfl⟩⟩
  · exact ⟨_, begins_tuple l items, fun h i e => ⟨_, e, rfl, rfl⟩⟩
theorem five (n c : Nat) (h : c ∈ [n + 4, n + 2, n + 3, n, n + 1]) : n ≤ c := by
  simp only [List.mem_cons, List.mem_nil_iff, or_false] at h
  omega
def iZipM (K : PySem.W.Frag) (ta : TA) : TI := fun σ H R => ta σ H fun vs H1 => ∃ t1 t2 a b xs ys, vs = [.ref a, .ref b] ∧ Sq t1 K H1 a xs ∧ Sq t2 K H1 b ys ∧ R (ItzM K t1 t2 a b) H1
theorem pi_zipM {X : Cx} {e e2 : Expr} {ta : TA} {p pos tpos : Pos} {elts : List Expr} {kk : Nat} (hg : Gl X "zip") (hm : X.mg "zip" = none) (ha : PA X [e, e2] ta)
    (hs : starEach [e, e2] X.env = (false, eval e X.env) :: starEach [e2] X.env := by rfl) (hpl : (backTo pos (starEach [e2] X.env)).any (·.1) = false := by rfl) :
    PI X (.Tuple elts kk tpos) (.Call (.Name "zip" p) [e, e2] [] pos) (iZipM X.K ta) := by
  refine ⟨fun pins s σ H R I h => ?_⟩
  have run := ha.run pos pins s σ H _ I h
  refine Call_ (ld_blt I hg hm PyProof.Rows.boot_zip ?_)
  refine PyProof.Rows.callWith_type1 (thn run ?_) hs hpl
  rintro us s1 ⟨vs, H1, I1, r1, t1, t2, a, b, xs, ys, rfl, hqx, hqy, q⟩
  cases r1 with
  | cons r rr =>
   cases rr with
   | cons r' rr =>
    cases rr
    cases r
    cases r'
    obtain ⟨its, rv, p1, la⟩ := hqx.real I1
    obtain ⟨its2, rv2, p2, lb⟩ := hqy.real I1
    obtain ⟨o1, B1, i1⟩ := beginsM t1 a its.toArray
    obtain ⟨o2, B2, i2⟩ := beginsM t2 b its2.toArray
    refine zip_begins2 B1 B2 p1 p2 fun h' hz hTI hTO g1 g2 hsz hk => wpAny_pyIter_zip hz ?_
    have I2 : Inv X pins σ H1 { s1 with heap := h' } := I1.kept (t' := s1.toks) hk
    refine ⟨_, [s1.heap.objs.size + 4, s1.heap.objs.size + 2, s1.heap.objs.size + 3, s1.heap.objs.size, s1.heap.objs.size + 1], _, _, H1, rfl, I2, turnM t1 t2 (sep _ _ _ la lb), ⟨hz, hTI, ⟨_, _, hTO⟩, i1 _ _ g1, i2 _ _ g2⟩, fun c hcm => ?_, q⟩
    have hle : s1.heap.objs.size ≤ c := five _ _ hcm
    exact I1.fpOk hle (I1.hok.fresh hle)
theorem for_zipM {K : PySem.W.Frag} {t1 t2 : Bool} {a b : Addr} {xs ys : List V} {g : TG} {tb : TS} {D : Ends} {σ : L2.St} {H : Hp} (hl : xs.length = ys.length) (Pv : Nat → L2.St → Hp → Prop) (h0 : Pv 0 σ H) (hq : ∀ i σ H, Pv i σ H → Sq t1 K H a xs ∧ Sq t2 K H b ys)
    (hs : ∀ (i : Nat) (x y : V) (T : Addr) (σ : L2.St) (H : Hp), xs[i]? = some x → ys[i]? = some y → Pv i σ H → H T = none → g (.ref T) σ (upd H T (.tup [x, y])) fun σ2 H2 => tb { D with nx := Pv (i + 1), ct := Pv (i + 1), bk := D.nx } σ2 H2) (hd : ∀ σ H, Pv xs.length σ H → D.nx σ H) :
    ∃ W : Nat → Nat → L2.St → Hp → Prop, (∃ m, W 0 m σ H) ∧ ∀ i m σ H, W i m σ H →
      ((ItzM K t1 t2 a b).stop i H ∧ D.nx σ H) ∨ ((ItzM K t1 t2 a b).go i H ∧ ∃ N : L2.St → Hp → Prop, (∀ σ' H', N σ' H' → ∃ m', m' < m ∧ W (i + 1) m' σ' H') ∧ ∀ v H', (ItzM K t1 t2 a b).yld i H v H' → g v σ H' fun σ2 H2 => tb { D with nx := N, ct := N, bk := D.nx } σ2 H2) := by
  refine ⟨fun i m σ H => m = xs.length - i ∧ i ≤ xs.length ∧ Pv i σ H, ⟨xs.length, rfl, Nat.zero_le _, h0⟩, ?_⟩
  rintro i m σ H ⟨rfl, hi, p⟩
  obtain ⟨qx, qy⟩ := hq i σ H p
  rcases Nat.lt_or_ge i xs.length with hlt | hge
  · refine .inr ⟨⟨xs, ys, _, _, qx, qy, List.getElem?_eq_getElem hlt, List.getElem?_eq_getElem (hl ▸ hlt)⟩, Pv (i + 1), fun σ' H' p' => ⟨xs.length - (i + 1), by omega, rfl, hlt, p'⟩, ?_⟩
    rintro v H' ⟨T, x', y', rfl, hT, rfl, f1, f2⟩
    exact hs i x' y' T σ H (f1 xs qx) (f2 ys qy) p hT
  · obtain rfl : i = xs.length := Nat.le_antisymm hi hge
    exact .inl ⟨⟨xs, ys, qx, qy, hi, hl ▸ hi, .inl rfl⟩, hd σ H p⟩
end ZM
namespace K1
open PySem PySem.Spec PyProof.Rows L2
def numB (v : V) : Bool := match v with | .int i => decide (0 ≤ i) | _ => false
def spNumb (K : PySem.W.Frag) : Sp := fun vs H Q _ => ∃ v o, vs = [v] ∧ KV K H v o ∧ Q (.bl (numB v)) H
def rLcm : List V → Hp → VK → Prop := fun vs H Q => ∃ a b : Nat, vs = [.int (a : Int), .int (b : Int)] ∧ a < 2 ^ 32 ∧ b < 2 ^ 32 ∧ Q (.int ((Nat.lcm a b : Nat) : Int)) H
theorem cr_lcm {X : Cx} : CallR X (.builtin "math.lcm") rLcm := by
  intro pins s σ H vs us Q I r h
  obtain ⟨a, b, rfl, ha, hb, q⟩ := h
  obtain ⟨t, u, rfl⟩ := Vals.int2 r
  have e : (Nat.lcm 1 (a : Int).natAbs).lcm (b : Int).natAbs = Nat.lcm a b := by rw [Nat.lcm_one_left]; rfl
  have hl : Nat.lcm a b ≤ 2 ^ 64 := by
    have h1 : Nat.lcm a b ≤ a * b := Nat.div_le_self _ _
    have h2 : a * b ≤ 2 ^ 32 * 2 ^ 32 := Nat.mul_le_mul (Nat.le_of_lt ha) (Nat.le_of_lt hb)
    exact Nat.le_trans h1 (Nat.le_trans h2 (by decide))
  refine PySem.W.mg_lcm_v (c := ((Nat.lcm a b : Nat) : Int)) (by show a < 2 ^ 64; omega) (by show b < 2 ^ 64; omega) (by rw [e]) ?_ ⟨.int _, H, I.tok _, ⟨_, rfl⟩, q⟩
  show (Nat.lcm a b).log2 < bitsLine
  have := PySem.W.mg_log (n := Nat.lcm a b) (k := 64) (by omega)
  exact Nat.lt_of_le_of_lt this (by decide)
theorem fnOr {P : Program} {w : World} {K : PySem.W.Frag} {mg : Str → Option Value} {base : Heap} {CX : CXT} {k : Nat} {f : Addr} {fd : FuncData} {ps : List Str} {sp sp' : Sp} (F : FnOk P w K mg base CX k f fd ps sp) (G : FnOk P w K mg base CX k f fd ps sp') :
    FnOk P w K mg base CX k f fd ps (fun vs H Q E => sp vs H Q E ∨ sp' vs H Q E) :=
  ⟨fun vs H Q E h => h.elim (F.len vs H Q E) (G.len vs H Q E), fun A outer s H args us vs Q E hr e hb hv h => h.elim (F.run A outer s H args us vs Q E hr e hb hv) (G.run A outer s H args us vs Q E hr e hb hv)⟩
def spMovedL (M : Addr) : Sp := fun vs H Q _ => ∃ m ta ts s p row, vs = [.ref m, .int s, .ref p] ∧ MachAt M H m ta (vts ts) ∧ Wf ts ∧ (0 ≤ s ∧ s < (nS ts : Int)) ∧ H p = some (.lst (vrow row)) ∧ (∀ d ∈ row, 0 ≤ d ∧ d < (ts.length : Int)) ∧ Q (.int (run ts s row)) H
/-- the row as a list or as a tuple -/
def spMovedA (M : Addr) : Sp := fun vs H Q E => spMoved M vs H Q E ∨ spMovedL M vs H Q E
section
variable {P : Program} {w : World} {K : PySem.W.Frag} {mg : Str → Option Value} {base : Heap}
theorem scNu : FnScope ["value"] ["value"] (defScope sNumb) := ⟨rfl, rfl, rfl, by decide +kernel, rfl, by decide +kernel, by decide +kernel⟩
theorem ok_numb {f fW : Addr} {fd fdW : FuncData} (D : Df K mg "is_number" sNumb ["value"] f fd) (DW : Df K mg "is_whole" sWhole ["value"] fW fdW) (B : Bt mg) : FnOk P w K mg base CX0 2 f fd ["value"] (spNumb K) := by
  have GW : FnOk P w K mg base CX0 1 fW fdW ["value"] (spWhole K) := ok_whole DW B
  refine D.F.ok scNu (fun vs H Q E h => ?_) (fun cdv A outer s H vs Q E hr h => ?_)
  · obtain ⟨v, o, rfl, _⟩ := h
    rfl
  · obtain ⟨v, o, rfl, kv, q⟩ := h
    refine ⟨_, pss_one (ps_ret (pe_and (pc DW GW hr pass0 (pa_cons (pv 0) pa_nil)) (pe_one (pe_cmpR op_ge (pv 0) pe_int (nomark _))))), ?_⟩
    refine ⟨_, rfl, _, _, rfl, kv, _, rfl, ifD (fun e => ?_) fun e => ?_⟩
    · obtain ⟨i, rfl⟩ : ∃ i, v = .int i := by
        cases v <;> first | exact ⟨_, rfl⟩ | cases e
      exact ⟨_, rfl, _, _, rfl, rfl, q⟩
    · have z : false = numB v := by cases v <;> first | rfl | cases e
      exact qbl z q
theorem ok_movedL {f M : Addr} {fd : FuncData} (D : Df K mg "moved" sMoved ["machine", "state", "row"] f fd) (T : McT K mg M) : FnOk P w K mg base CX0 1 f fd ["machine", "state", "row"] (spMovedL M) := by
  refine D.F.ok scMv (fun vs H Q E h => ?_) (fun cdv A outer s H vs Q E hr h => ?_)
  · obtain ⟨m, ta, ts, v, p, row, rfl, _⟩ := h
    rfl
  · obtain ⟨m, ta, ts, s0, p, row, rfl, hM, hW, hs, hp, hd, q⟩ := h
    refine ⟨_, pss_cons (ps_for PassesOwn.never rfl (pi_list (pv 2)) (pg_name (i := 3) scMv.nd rfl (.inl rfl)) (pss_one (ps_set (i := 1) scMv.nd rfl (.inl rfl) (pe_ix ix_tup (pe_ix ix_tup (pe_fld (pv 0) rfl) (pv 3) (fun _ _ => rfl)) (pv 1) (fun _ _ => rfl)))))
      (pss_one (ps_ret (pv 1))), ?_⟩
    refine ⟨_, rfl, p, rfl, ⟨_, SqL.of hp⟩, for_list (K := K) (a := p) (xs := vrow row) (fun i σ H' => ∃ v3 : Option V, σ = [some (.ref m), some (.int (run ts s0 (row.take i))), some (.ref p), v3] ∧ H' = H)
      ⟨none, rfl, rfl⟩ (fun i σ H' _ ⟨_, _, e⟩ => by rw [e]; exact SqL.of hp) ?_ ?_⟩
    · rintro i y σ H' hi ⟨v3, rfl, rfl⟩
      obtain ⟨d, ed, rfl⟩ : ∃ d, row[i]? = some d ∧ y = V.int d := by
        rw [vrow, List.getElem?_map] at hi
        cases e : row[i]? with
        | none => rw [e] at hi; cases hi
        | some z =>
          rw [e] at hi
          exact ⟨z, rfl, (Option.some.inj hi).symm⟩
      have hb := hd d (List.mem_of_getElem? ed)
      have hr' := hW.run (row.take i) s0 (fun e he => hd e (List.mem_of_mem_take he)) hs
      obtain ⟨t, h1, h2, h3⟩ := hW.at_ hb hr'
      obtain ⟨dx, hm⟩ := hM.fs
      obtain ⟨as, ha1, ha2, ha3⟩ := hM.2
      have hla : d.toNat < as.length := by rw [ha2, vts, List.length_map]; omega
      have hA : as[d.toNat]? = some as[d.toNat] := by simp [hla]
      have hT := ha3 d.toNat _ (vrow t) hA (by rw [vts, List.getElem?_map, h1]; rfl)
      refine ⟨_, rfl, m, M, dx, _, _, rfl, hm, T.cl, T.nT, mf_t _ _ _, _, rfl, ta, _, d, _, rfl, rfl, SqT.of ha1, at_of (j := d.toNat) (by omega) (by rw [List.getElem?_map, hA]; rfl), ?_⟩
      refine ⟨_, rfl, _, _, _, .int (stp ts (run ts s0 (row.take i)) d), rfl, rfl, SqT.of hT, at_of (j := (run ts s0 (row.take i)).toNat) (by omega) (by rw [vrow, List.getElem?_map, h2]; rfl), ?_⟩
      refine ⟨some (.int d), ?_, rfl⟩
      rw [take_succ ed, run_snoc]
      rfl
    · rintro σ H' ⟨v3, rfl, rfl⟩
      have e : row.take (vrow row).length = row := by rw [vrow, List.length_map, List.take_length]
      rw [e]
      exact ⟨_, rfl, q⟩
theorem ok_movedA {f M : Addr} {fd : FuncData} (D : Df K mg "moved" sMoved ["machine", "state", "row"] f fd) (T : McT K mg M) : FnOk P w K mg base CX0 1 f fd ["machine", "state", "row"] (spMovedA M) := fnOr (ok_moved D T) (ok_movedL D T)
end
end K1
namespace K1
open PySem PySem.Spec PyProof.Rows L2
/-! ### powers -/
/-- the like time within the first round -/
def red (i p n : Nat) : Nat := if n < i then n else i + (n - i) % p
theorem trail_add (ts : Ts) (row : List Int) (s : Int) {a b : Nat} (h : trail ts row s a = trail ts row s b) : ∀ k, trail ts row s (a + k) = trail ts row s (b + k)
  | 0 => h
  | k + 1 => by show run ts (trail ts row s (a + k)) row = run ts (trail ts row s (b + k)) row; rw [trail_add ts row s h k]
theorem pow_round {ts : Ts} {row : List Int} {s : Int} {i p : Nat} (h : PowIs (trail ts row s) i p) : ∀ r k, trail ts row s (i + k + p * r) = trail ts row s (i + k)
  | 0, k => by rw [Nat.mul_zero, Nat.add_zero]
  | r + 1, k => by
    have e : i + k + p * (r + 1) = (i + p) + (k + p * r) := by rw [Nat.mul_succ]; omega
    rw [e, trail_add ts row s h.2.1 (k + p * r), show i + (k + p * r) = i + k + p * r by omega]
    exact pow_round h r k
theorem pow_red {ts : Ts} {row : List Int} {s : Int} {i p : Nat} (h : PowIs (trail ts row s) i p) (n : Nat) : trail ts row s n = trail ts row s (red i p n) := by
  unfold red
  by_cases z : n < i
  · rw [if_pos z]
  · rw [if_neg z]
    have e : n = i + (n - i) % p + p * ((n - i) / p) := by have := Nat.mod_add_div (n - i) p; omega
    rw [e]
    have := pow_round h ((n - i) / p) ((n - i) % p)
    rw [this]
    have e2 : i + (n - i) % p + p * ((n - i) / p) - i = (n - i) % p + p * ((n - i) / p) := by omega
    rw [e2, Nat.add_mul_mod_self_left, Nat.mod_mod]
theorem red_lt {i p : Nat} (hp : 0 < p) (n : Nat) : red i p n < i + p := by
  unfold red
  by_cases z : n < i
  · rw [if_pos z]; omega
  · rw [if_neg z]
    have := Nat.mod_lt (n - i) hp
    omega
theorem pow_eq {ts : Ts} {row : List Int} {s : Int} {i p : Nat} (h : PowIs (trail ts row s) i p) (n m : Nat) : trail ts row s n = trail ts row s m ↔ red i p n = red i p m := by
  refine ⟨fun e => ?_, fun e => by rw [pow_red h n, pow_red h m, e]⟩
  rw [pow_red h n, pow_red h m] at e
  rcases Nat.lt_trichotomy (red i p n) (red i p m) with z | z | z
  · exact absurd e (h.2.2 _ _ z (red_lt h.1 m))
  · exact z
  · exact absurd e.symm (h.2.2 _ _ z (red_lt h.1 n))
/-- a deed c more times than once leads where once does -/
theorem pow_low {ts : Ts} {row : List Int} {s : Int} {i p : Nat} (h : PowIs (trail ts row s) i p) (hi : i ≤ 1) (c : Nat) : trail ts row s (c + 1) = trail ts row s 1 ↔ p ∣ c := by
  have hp := h.1
  rw [pow_eq h]
  unfold red
  rw [if_neg (by omega), if_neg (by omega)]
  rcases (by omega : i = 0 ∨ i = 1) with rfl | rfl
  · rw [Nat.zero_add, Nat.zero_add, Nat.sub_zero, Nat.sub_zero]
    refine ⟨fun e => ?_, fun ⟨q, e⟩ => by rw [e, Nat.add_comm, Nat.add_mul_mod_self_left]⟩
    have e2 : ((c + 1) - 1) % p = 0 := Nat.sub_mod_eq_zero_of_mod_eq e
    exact Nat.dvd_of_mod_eq_zero (by simpa using e2)
  · rw [Nat.add_sub_cancel, Nat.sub_self, Nat.zero_mod]
    exact ⟨fun e => Nat.dvd_of_mod_eq_zero (by omega), fun d => by rw [Nat.mod_eq_zero_of_dvd d]⟩
theorem pow_high {ts : Ts} {row : List Int} {s : Int} {i p : Nat} (h : PowIs (trail ts row s) i p) (hi : 1 < i) (c : Nat) : trail ts row s (c + 1) = trail ts row s 1 ↔ c = 0 := by
  rw [pow_eq h]
  unfold red
  rw [if_pos hi]
  by_cases z : c + 1 < i
  · rw [if_pos z]; omega
  · rw [if_neg z]
    have := Nat.mod_lt (c + 1 - i) h.1
    omega
/-- what the told period means: from 1 on do no harm to the deeds -/
def HarmIs (ts : Ts) (s : Int) (h : Nat) : Prop := ∀ c : Nat, (∀ d, In8 ts d → trail ts [d] s (c + 1) = trail ts [d] s 1) ↔ c = 0 ∨ (0 < h ∧ h ∣ c)
/-- the deeds ahead of k -/
def HarmTo (ts : Ts) (s : Int) (k a : Nat) : Prop := 0 < a ∧ a ≤ 12 ^ k ∧ ∀ c : Nat, (∀ d : Int, 0 ≤ d ∧ d < (k : Int) → trail ts [d] s (c + 1) = trail ts [d] s 1) ↔ a ∣ c
theorem harm_zero (ts : Ts) (s : Int) : HarmTo ts s 0 1 := ⟨by decide, by decide, fun c => ⟨fun _ => Nat.one_dvd c, fun _ d hd => by omega⟩⟩
theorem harm_succ {ts : Ts} {s : Int} {k a i p : Nat} (h : HarmTo ts s k a) (hp : PowIs (trail ts [(k : Int)] s) i p) (hi : i ≤ 1) (p12 : p ≤ 12) : HarmTo ts s (k + 1) (Nat.lcm a p) := by
  obtain ⟨h1, h2, h3⟩ := h
  refine ⟨Nat.lcm_pos h1 hp.1, ?_, fun c => ?_⟩
  · have e1 : Nat.lcm a p ≤ a * p := Nat.div_le_self _ _
    have e2 : a * p ≤ 12 ^ k * 12 := Nat.mul_le_mul h2 p12
    rw [Nat.pow_succ]
    omega
  · constructor
    · intro e
      exact Nat.lcm_dvd ((h3 c).mp fun d hd => e d ⟨hd.1, by omega⟩) ((pow_low hp hi c).mp (e k ⟨by omega, by omega⟩))
    · intro e d hd
      by_cases z : d = (k : Int)
      · subst z
        exact (pow_low hp hi c).mpr (Nat.dvd_trans (Nat.dvd_lcm_right a p) e)
      · exact (h3 c).mpr (Nat.dvd_trans (Nat.dvd_lcm_left a p) e) d ⟨hd.1, by omega⟩
theorem harm_done {ts : Ts} {s : Int} {a : Nat} (h : HarmTo ts s ts.length a) : HarmIs ts s a := fun c => by
  obtain ⟨h1, _, h3⟩ := h
  constructor
  · intro e
    exact .inr ⟨h1, (h3 c).mp fun d hd => e d hd⟩
  · rintro (rfl | ⟨_, e⟩) d hd
    · rfl
    · exact (h3 c).mpr e d hd
theorem harm_none {ts : Ts} {s : Int} {d : Int} {i p : Nat} (hd : In8 ts d) (hp : PowIs (trail ts [d] s) i p) (hi : 1 < i) : HarmIs ts s 0 := fun c => by
  constructor
  · intro e
    exact .inl ((pow_high hp hi c).mp (e d hd))
  · rintro (rfl | ⟨e, _⟩) d hd
    · rfl
    · exact absurd e (Nat.lt_irrefl 0)
end K1
namespace K1
open PySem PySem.Spec PyProof.Rows L2
def spTimes (K : PySem.W.Frag) (M CS CR CF : Addr) : Sp := fun vs H Q E => ∃ m ta ts v rv tv, vs = [.ref m, v, rv, tv] ∧ MachAt M H m ta (vts ts) ∧ Wf ts ∧ (∃ o, KV K H v o) ∧ (∃ o, KV K H tv o) ∧ (belowB v (nS ts : Int) = false → Rz CS "state" v H E) ∧
  (belowB v (nS ts : Int) = true → ∃ s r, v = .int s ∧ Rw K H rv r ∧ (rowF r (ts.length : Int) ≠ .non → Rz CR "at" (rowF r (ts.length : Int)) H E) ∧ (rowF r (ts.length : Int) = .non → ∃ row, r = some (vrow row) ∧ (∀ d ∈ row, 0 ≤ d ∧ d < (ts.length : Int)) ∧
    (numB tv = false → Rz CF "at" tv H E) ∧ ∀ (t : Nat), tv = .int (t : Int) → ∀ H', Same H H' → Q (.int (trail ts row s t)) H'))
theorem Rz.same {C : Addr} {f : Str} {v : V} {H H' : Hp} {E : XK} (h : Rz C f v H E) (s : Same H H') : Rz C f v H' E := fun d H2 s2 hd hx => h d H2 (s.trans s2) (s.free hd) hx
theorem num_nat {v : V} (h : numB v = true) : ∃ t : Nat, v = .int (t : Int) := by
  cases v with
  | int i =>
    have z : 0 ≤ i := of_decide_eq_true h
    exact ⟨i.toNat, by rw [Int.toNat_of_nonneg z]⟩
  | _ => cases h
section
variable {P : Program} {w : World} {K : PySem.W.Frag} {mg : Str → Option Value} {base : Heap}
abbrev nTi : List Str := ["machine", "state", "row", "times", "index", "period", "few", "_"]
theorem scTi : FnScope nTi ["machine", "state", "row", "times"] (defScope sTimes) := ⟨rfl, rfl, rfl, by decide +kernel, rfl, by decide +kernel, by decide +kernel⟩
theorem ok_times {f fP fN fM CS CR CF M cI : Addr} {fd fdP fdN fdM : FuncData} {bm : List Value} {ql : Str} (D : Df K mg "led_times" sTimes ["machine", "state", "row", "times"] f fd) (DP : Df K mg "power_of" sPower ["machine", "state", "row"] fP fdP) (DN : Df K mg "is_number" sNumb ["value"] fN fdN) (DM : Df K mg "moved" sMoved ["machine", "state", "row"] fM fdM) (B : Bt mg) (TX : LAt.Txt K mg "Refused" ql bm CF cI)
    (GP : FnOk P w K mg base (L2.CX P w) 6 fP fdP ["machine", "state", "row"] (spPower K M CS CR)) (GN : FnOk P w K mg base CX0 2 fN fdN ["value"] (spNumb K)) (GM : FnOk P w K mg base CX0 1 fM fdM ["machine", "state", "row"] (spMovedA M)) :
    FnOk P w K mg base (L2.CX P w) 7 f fd ["machine", "state", "row", "times"] (spTimes K M CS CR CF) := by
  refine D.F.okX scTi (fun vs H Q E h => ?_) (fun cdv A outer s H vs Q E hr h => ?_)
  · obtain ⟨m, ta, ts, v, rv, tv, rfl, _⟩ := h
    rfl
  · obtain ⟨m, ta, ts, v, rv, tv, rfl, hM, hW, ⟨o, kv⟩, ⟨o2, kt⟩, q1, q2⟩ := h
    refine ⟨_, pss_cons (ps_asg (pc DP GP hr (pass1 (takes_of rfl rfl rfl rfl)) (pa_cons (pv 0) (pa_cons (pv 1) (pa_cons (pv 2) pa_nil)))) (pg_tup rfl (pgs_cons (pg_name (i := 4) scTi.nd rfl (.inl rfl)) (pgs_cons (pg_name (i := 5) scTi.nd rfl (.inl rfl)) pgs_nil))))
      (pss_cons (ps_if (pt_not (pt_val (pc DN GN (hr.mono (by decide)) pass0 (pa_cons (pv 3) pa_nil)))) (pss_one (ps_raise_LAt rfl TX hr (takes_of rfl rfl rfl rfl) (pa_cons (pv 3) pa_nil))) pss_nil)
      (pss_cons (ps_set (i := 6) scTi.nd rfl (.inl rfl) (pe_ifExp (pt_cmpR op_lt (pv 3) (pv 4) (nomark _)) (pv 3) (pe_op op_add (pv 4) (pe_op op_mod (pe_op op_sub (pv 3) (pv 4)) (pv 5)))))
      (pss_cons (ps_for (passes_of rfl) rfl (pi_range1 (by rfl) B.range (pa_cons (pv 6) pa_nil)) (pg_name (i := 7) scTi.nd rfl (.inl rfl))
        (pss_one (ps_set (i := 1) scTi.nd rfl (.inl rfl) (pc DM GM (hr.mono (by decide)) pass0 (pa_cons (pv 0) (pa_cons (pv 1) (pa_cons (pv 2) pa_nil)))))))
      (pss_one (ps_ret (pv 1)))))), ?_⟩
    refine ⟨_, rfl, _, rfl, _, rfl, m, ta, ts, v, rv, rfl, hM, hW, ⟨o, kv⟩, q1, fun e => ?_⟩
    obtain ⟨st, r, rfl, hrw, qr, q⟩ := q2 e
    have hst : 0 ≤ st ∧ st < (nS ts : Int) := by
      have z : (decide (0 ≤ st) && decide (st < (nS ts : Int))) = true := e
      simpa using z
    refine ⟨st, r, rfl, hrw, qr, fun hn => ?_⟩
    obtain ⟨row, rfl, hd, qf, qt⟩ := q hn
    refine ⟨row, rfl, hd, fun i p a H1 s1 hp ha => ⟨a, _, rfl, SqT.of ha, rfl, _, _, rfl, _, _, rfl, rfl, ?_⟩⟩
    have few : i + p ≤ nS ts := fresh_few hp.2.2 (trail_rng hW hd hst)
    have h12 := hW.s12
    refine ⟨_, rfl, tv, o2, rfl, kt.same s1, _, rfl, ifD (fun e1 => ?_) fun e1 => ?_⟩
    · exact ⟨_, rfl, _, rfl, fun d hd => (qf (by simpa using e1)).same s1 d _ (same_new hd) hd upd_same⟩
    · obtain ⟨t, rfl⟩ := num_nat (by simpa using e1)
      have hred := red_lt hp.1 (i := i) t
      have heq := (pow_red hp t).symm
      obtain ⟨b, rfl, hS⟩ := hrw.kv.seqA
      have hM1 := hM.same s1
      have hS1 := hS.same s1
      have hI : 0 < (p : Int) := by have := hp.1; omega
      refine ⟨_, rfl, _, rfl, _, _, rfl, rfl, _, rfl, ?_⟩
      rcases Nat.lt_or_ge t i with z | z
      · have hk : 0 ≤ (t : Int) ∧ (t : Int) < (i : Int) + p ∧ trail ts row st (t : Int).toNat = trail ts row st t := ⟨by omega, by omega, by rw [Int.toNat_natCast]⟩
        refine iteE (decide_eq_true (by omega)) ⟨_, rfl, ?_⟩
        refine ⟨_, rfl, _, rfl, by omega, by omega, for_range (fun k σ H' => ∃ v6 v7, σ = [some (.ref m), some (.int (trail ts row st k)), some (.ref b), some (.int (t : Int)), some (.int (i : Int)), some (.int (p : Int)), v6, v7] ∧ H' = H1) ⟨_, none, rfl, rfl⟩ ?_ ?_⟩
        · rintro k σ H' hk2 ⟨v6, v7, rfl, rfl⟩
          refine ⟨_, rfl, _, rfl, _, rfl, ?_⟩
          rcases hS1 with hl | htt
          · exact .inr ⟨m, ta, ts, _, b, row, rfl, hM1, hW, trail_rng hW hd hst k, hl, hd, _, _, rfl, rfl⟩
          · exact .inl ⟨m, ta, ts, _, b, row, rfl, hM1, hW, trail_rng hW hd hst k, htt, hd, _, _, rfl, rfl⟩
        · rintro σ H' ⟨v6, v7, rfl, rfl⟩
          refine ⟨_, rfl, ?_⟩
          first | rw [hk.2.2] | (rw [Int.sub_zero, hk.2.2])
          exact qt t rfl _ s1
      · have e2 : ((i : Int) + ((t : Int) - i) % p) = ((red i p t : Nat) : Int) := by
          unfold red
          rw [if_neg (by omega)]
          have : ((t : Int) - i) = ((t - i : Nat) : Int) := by omega
          rw [this]
          rfl
        have hk : 0 ≤ ((i : Int) + ((t : Int) - i) % p) ∧ ((i : Int) + ((t : Int) - i) % p) < (i : Int) + p ∧ trail ts row st ((i : Int) + ((t : Int) - i) % p).toNat = trail ts row st t := by
          rw [e2]
          exact ⟨by omega, by omega, by rw [Int.toNat_natCast]; exact heq⟩
        refine iteN (decide_eq_false (by omega)) ⟨_, rfl, _, rfl, _, rfl, _, _, rfl, rfl, _, rfl, _, _, rfl, rfl, hI, _, _, rfl, rfl, ?_⟩
        refine ⟨_, rfl, _, rfl, by omega, by omega, for_range (fun k σ H' => ∃ v6 v7, σ = [some (.ref m), some (.int (trail ts row st k)), some (.ref b), some (.int (t : Int)), some (.int (i : Int)), some (.int (p : Int)), v6, v7] ∧ H' = H1) ⟨_, none, rfl, rfl⟩ ?_ ?_⟩
        · rintro k σ H' hk2 ⟨v6, v7, rfl, rfl⟩
          refine ⟨_, rfl, _, rfl, _, rfl, ?_⟩
          rcases hS1 with hl | htt
          · exact .inr ⟨m, ta, ts, _, b, row, rfl, hM1, hW, trail_rng hW hd hst k, hl, hd, _, _, rfl, rfl⟩
          · exact .inl ⟨m, ta, ts, _, b, row, rfl, hM1, hW, trail_rng hW hd hst k, htt, hd, _, _, rfl, rfl⟩
        · rintro σ H' ⟨v6, v7, rfl, rfl⟩
          refine ⟨_, rfl, ?_⟩
          first | rw [hk.2.2] | (rw [Int.sub_zero, hk.2.2])
          exact qt t rfl _ s1
end
end K1
namespace K1
open PySem PySem.Spec PyProof.Rows L2
theorem rowF_ok {row : List Int} {n : Nat} (hl : row.length ≤ 10000) (h : ∀ d ∈ row, 0 ≤ d ∧ d < (n : Int)) : rowF (some (vrow row)) (n : Int) = .non := by
  unfold rowF
  rw [if_pos (by
    show (decide ((0 : Int) ≤ ((vrow row).length : Int)) && decide (((vrow row).length : Int) ≤ 10000)) = true
    rw [vrow, List.length_map, decide_eq_true (by omega), decide_eq_true (by omega)]; rfl)]
  refine fnb_all fun x hx => ?_
  obtain ⟨i, hi, rfl⟩ := List.mem_map.mp hx
  obtain ⟨h1, h2⟩ := h i hi
  show (decide (0 ≤ i) && decide (i < (n : Int))) = true
  rw [decide_eq_true h1, decide_eq_true h2]; rfl
theorem kindsR {K : PySem.W.Frag} {H : Hp} {row : List Int} : ∀ ys, some (vrow row) = some ys → Kinds K H ys := fun ys e y hy => by
  obtain rfl := Option.some.inj e
  obtain ⟨j, _, rfl⟩ := List.mem_map.mp hy
  exact ⟨_, .int j⟩
theorem belowI {i : Int} {n : Nat} (h : 0 ≤ i ∧ i < (n : Int)) : belowB (.int i) (n : Int) = true := by
  show (decide (0 ≤ i) && decide (i < (n : Int))) = true
  rw [decide_eq_true h.1, decide_eq_true h.2]; rfl
/-- counts of so many deeds -/
def cntB (o : Option (List V)) (n : Nat) : Bool := match o with | some cs => decide (cs.length = n) && (cs.map numB).all id | none => false
def ledC (ts : Ts) (s : Int) (l : List (Int × Nat)) : Int := l.foldl (fun st x => trail ts [x.1] st x.2) s
theorem ledC_snoc (ts : Ts) (s : Int) (l : List (Int × Nat)) (d : Int) (t : Nat) : ledC ts s (l ++ [(d, t)]) = trail ts [d] (ledC ts s l) t := by
  unfold ledC
  rw [List.foldl_append]; rfl
abbrev vns (cs : List Nat) : List V := cs.map fun (t : Nat) => V.int (t : Int)
theorem cnt_nats {o : Option (List V)} {n : Nat} (h : cntB o n = true) : ∃ cs : List Nat, o = some (vns cs) ∧ cs.length = n := by
  cases o with
  | none => cases h
  | some xs =>
    have z : (decide (xs.length = n) && (xs.map numB).all id) = true := h
    rw [Bool.and_eq_true, decide_eq_true_iff] at z
    obtain ⟨z1, z2⟩ := z
    have : ∀ xs : List V, (xs.map numB).all id = true → ∃ cs : List Nat, xs = vns cs := by
      intro xs
      induction xs with
      | nil => exact fun _ => ⟨[], rfl⟩
      | cons x xs ih =>
        intro h
        rw [List.map_cons, List.all_cons, Bool.and_eq_true] at h
        obtain ⟨t, rfl⟩ := num_nat h.1
        obtain ⟨cs, rfl⟩ := ih h.2
        exact ⟨t :: cs, rfl⟩
    obtain ⟨cs, rfl⟩ := this xs z2
    exact ⟨cs, rfl, by rw [← z1, List.length_map]⟩
def spCounts (K : PySem.W.Frag) (M CS CR CF : Addr) : Sp := fun vs H Q E => ∃ m ta ts v rv cv oc, vs = [.ref m, v, rv, cv] ∧ MachAt M H m ta (vts ts) ∧ Wf ts ∧ (∃ o, KV K H v o) ∧ Rw K H cv oc ∧ (belowB v (nS ts : Int) = false → Rz CS "state" v H E) ∧
  (belowB v (nS ts : Int) = true → ∃ s r, v = .int s ∧ Rw K H rv r ∧ (rowF r (ts.length : Int) ≠ .non → Rz CR "at" (rowF r (ts.length : Int)) H E) ∧ (rowF r (ts.length : Int) = .non → ∃ row, r = some (vrow row) ∧ (∀ d ∈ row, 0 ≤ d ∧ d < (ts.length : Int)) ∧ row.length ≤ 1000 ∧
    (cntB oc row.length = false → Rz CF "at" cv H E) ∧ ∀ (cs : List Nat), oc = some (vns cs) → cs.length = row.length → ∀ H', Same H H' → Q (.int (ledC ts s (row.zip cs))) H'))
section
variable {P : Program} {w : World} {K : PySem.W.Frag} {mg : Str → Option Value} {base : Heap}
abbrev nCo : List Str := ["machine", "first", "deeds", "counts", "state", "row", "count", "deed"]
theorem scCo : FnScope nCo ["machine", "first", "deeds", "counts"] (defScope sCounts) := ⟨rfl, rfl, rfl, by decide +kernel, rfl, by decide +kernel, by decide +kernel⟩
theorem ok_counts {f fS fR fQ fN fT CS CR CF M cI : Addr} {fd fdS fdR fdQ fdN fdT : FuncData} {bm : List Value} {ql : Str} (D : Df K mg "led_counts" sCounts ["machine", "first", "deeds", "counts"] f fd) (DS : Df K mg "need_state" sNeedS ["machine", "state"] fS fdS) (DR : Df K mg "check_row" sRow ["machine", "value"] fR fdR)
    (DQ : Df K mg "is_sequence" sSeq ["value", "least", "most"] fQ fdQ) (DN : Df K mg "is_number" sNumb ["value"] fN fdN) (DT : Df K mg "led_times" sTimes ["machine", "state", "row", "times"] fT fdT) (B : Bt mg) (TX : LAt.Txt K mg "Refused" ql bm CF cI)
    (GS : FnOk P w K mg base (L2.CX P w) 3 fS fdS ["machine", "state"] (spNeed M CS "state" nS)) (GR : FnOk P w K mg base (L2.CX P w) 5 fR fdR ["machine", "value"] (spRow K M CR)) (GQ : FnOk P w K mg base CX0 1 fQ fdQ ["value", "least", "most"] (spSeq K)) (GN : FnOk P w K mg base CX0 2 fN fdN ["value"] (spNumb K))
    (GT : FnOk P w K mg base (L2.CX P w) 7 fT fdT ["machine", "state", "row", "times"] (spTimes K M CS CR CF)) :
    FnOk P w K mg base (L2.CX P w) 8 f fd ["machine", "first", "deeds", "counts"] (spCounts K M CS CR CF) := by
  refine D.F.okX scCo (fun vs H Q E h => ?_) (fun cdv A outer s H vs Q E hr h => ?_)
  · obtain ⟨m, ta, ts, v, rv, cv, oc, rfl, _⟩ := h
    rfl
  · obtain ⟨m, ta, ts, v, rv, cv, oc, rfl, hM, hW, ⟨o, kv⟩, hC, q1, q2⟩ := h
    have r2 := hr.mono (show 2 ≤ 7 by decide)
    refine ⟨_, pss_cons (ps_set (i := 4) scCo.nd rfl (.inl rfl) (pc DS GS (hr.mono (by decide)) (pass1 (takes_of rfl rfl rfl rfl)) (pa_cons (pv 0) (pa_cons (pv 1) pa_nil))))
      (pss_cons (ps_set (i := 5) scCo.nd rfl (.inl rfl) (pc DR GR (hr.mono (by decide)) (pass1 (takes_of rfl rfl rfl rfl)) (pa_cons (pv 0) (pa_cons (pv 2) pa_nil))))
      (pss_cons (ps_if (PW.pt (pw_or (pt_not (pt_val (pc DQ GQ (hr.mono (by decide)) pass0 (pa_cons (pv 3) (pa_cons (pe_callB call_len_seq (by rfl) B.len PySem.boot_len (pa_cons (pv 5) pa_nil)) (pa_cons (pe_callB call_len_seq (by rfl) B.len PySem.boot_len (pa_cons (pv 5) pa_nil)) pa_nil)))))) (pw_or1 (pt_not (pt_val (pe_callB (cr_all rfl) (by rfl) B.all (by decide +kernel) (pa_cons
          (pe_lc (own := [("count", 6)]) (g := gName 6) (tt := tYes) rfl scCo.nd (pi_seqA (pv 3)) (blkOk_by (N := nCo) (sc := defScope sCounts) (by decide +kernel)) (fun _ _ _ _ _ => pg_name (i := 6) scCo.nd rfl (Or.inl rfl)) (fun _ _ _ _ _ => pts_nil)
            (fun _ _ _ _ _ => pc DN GN r2 pass0 (pa_cons (pv 6) pa_nil))) pa_nil)))))))
        (pss_one (ps_raise_LAt rfl TX hr (takes_of rfl rfl rfl rfl) (pa_cons (pv 3) pa_nil))) pss_nil)
      (pss_cons (ps_for (passes_of rfl) rfl (ZM.pi_zipM (by rfl) B.zip (pa_cons (pv 5) (pa_cons (pv 3) pa_nil))) (pg_tup rfl (pgs_cons (pg_name (i := 7) scCo.nd rfl (.inl rfl)) (pgs_cons (pg_name (i := 6) scCo.nd rfl (.inl rfl)) pgs_nil)))
        (pss_one (ps_set (i := 4) scCo.nd rfl (.inl rfl) (pc DT GT hr (pass1 (takes_of rfl rfl rfl rfl)) (pa_cons (pv 0) (pa_cons (pv 4) (pa_cons (pe_tup (pa_cons (pv 7) pa_nil)) (pa_cons (pv 6) pa_nil))))))))
      (pss_one (ps_ret (pv 4)))))), ?_⟩
    refine ⟨_, rfl, _, rfl, m, ta, ts, v, rfl, hM, ⟨K, o, kv⟩, fun e => ?_, fun e => q1 e⟩
    obtain ⟨st, r, rfl, hrw, qr, q⟩ := q2 e
    have hst : 0 ≤ st ∧ st < (nS ts : Int) := by
      have z : (decide (0 ≤ st) && decide (st < (nS ts : Int))) = true := e
      simpa using z
    refine ⟨_, rfl, _, rfl, m, ta, ts, rv, r, rfl, hM, hrw, fun hne => qr hne, fun hn xs ex p H1 s1 hp => ?_⟩
    obtain ⟨row, rfl, hd, hl, qf, qt⟩ := q hn
    obtain rfl := Option.some.inj ex
    have hC1 := hC.same s1
    have hlen : (vrow row).length = row.length := List.length_map _
    refine ⟨_, rfl, _, rfl, p, _, rfl, .inr (SqT.of hp), _, rfl, p, _, rfl, .inr (SqT.of hp), cv, oc, _, _, rfl, hC1.kv, fun H2 s2 => ⟨_, rfl, ?_⟩⟩
    have hp2 := s2 _ _ hp
    have hC2 := hC1.same s2
    have s12 := s1.trans s2
    refine ifD (fun e1 => ?_) fun e1 => ?_
    · have hc : cntB oc row.length = false := by
        rw [Bool.not_eq_true'] at e1
        cases oc with
        | none => rfl
        | some cs =>
          have z : (decide (((vrow row).length : Int) ≤ (cs.length : Int)) && decide ((cs.length : Int) ≤ ((vrow row).length : Int))) = false := e1
          show (decide (cs.length = row.length) && _) = false
          have : ¬ cs.length = row.length := fun w => by
            rw [hlen, decide_eq_true (by omega), decide_eq_true (by omega)] at z
            cases z
          rw [decide_eq_false this, Bool.false_and]
      exact iteT ⟨_, rfl, _, rfl, fun d hd => (qf hc).same s12 d _ (same_new hd) hd upd_same⟩
    · rw [Bool.not_eq_false'] at e1
      obtain ⟨xs, rfl, hxl⟩ : ∃ xs, oc = some xs ∧ xs.length = row.length := by
        cases oc with
        | none => cases e1
        | some cs =>
          have z : (decide (((vrow row).length : Int) ≤ (cs.length : Int)) && decide ((cs.length : Int) ≤ ((vrow row).length : Int))) = true := e1
          rw [Bool.and_eq_true, decide_eq_true_iff, decide_eq_true_iff, hlen] at z
          exact ⟨cs, rfl, by omega⟩
      obtain ⟨a, rfl, hS⟩ := hC2.kv.seqA
      rcases hS with hh | hh
      · refine ⟨_, rfl, a, rfl, .inl ⟨xs, SqL.of hh, fun D0 hD0 => lc_list (K := K) (a := a) (xs := xs) (fun k H3 => Same H2 H3 ∧ H3 D0 = some (.lst ((xs.take k).map fun v => V.bl (numB v)))) ⟨same_new hD0, upd_same⟩ (fun k H3 _ ⟨s3, _⟩ => SqL.of (s3 _ _ hh)) ?_ ?_⟩⟩
        · rintro k z H3 hz ⟨s3, hD3⟩
          obtain ⟨oz, kz⟩ := hC2.ks xs rfl z (List.mem_of_getElem? hz)
          refine ⟨rfl, _, rfl, z, oz, rfl, kz.same s3, _, hD3, ?_, ?_, ?_⟩
          · rw [List.length_map, List.length_take, sizeLine_eq]; omega
          · exact fun c o e => by rw [upd_ne (fun z => by rw [z, hD0] at e; cases e)]; exact s3 _ _ e
          · rw [upd_same, take_succ hz, List.map_append]; rfl
        · rintro H3 ⟨s3, hD3⟩
          refine ⟨D0, xs.map numB, rfl, SqL.of ?_, _, rfl, ifD (fun e2 => ?_) fun e2 => ?_⟩
          · rw [hD3, List.take_length, List.map_map]; rfl
          · have hc : cntB (some xs) row.length = false := by
              show (decide (xs.length = row.length) && (xs.map numB).all id) = false
              rw [Bool.not_eq_true'] at e2
              rw [e2, Bool.and_false]
            exact ⟨_, rfl, _, rfl, fun d hd => (qf hc).same (s12.trans s3) d _ (same_new hd) hd upd_same⟩
          · have hc : cntB (some xs) row.length = true := by
              show (decide (xs.length = row.length) && (xs.map numB).all id) = true
              rw [Bool.not_eq_false'] at e2
              rw [e2, hxl, decide_eq_true rfl]; rfl
            obtain ⟨cs, ecs, hcs⟩ := cnt_nats hc
            obtain rfl := Option.some.inj ecs
            have s13 := s12.trans s3
            refine ⟨_, rfl, _, rfl, true, false, p, a, vrow row, vns cs, rfl, SqT.of (s3 _ _ hp2), SqL.of (s3 _ _ hh), ZM.for_zipM (K := K) (by rw [hlen, List.length_map]; exact hcs.symm) (fun i σ H' => ∃ v6 v7, σ = [some (.ref m), some (.int st), some rv, some (.ref a), some (.int (ledC ts st ((row.zip cs).take i))), some (.ref p), v6, v7] ∧ Same H H' ∧ H' p = some (.tup (vrow row)) ∧ H' a = some (.lst (vns cs)) ∧ 0 ≤ ledC ts st ((row.zip cs).take i) ∧ ledC ts st ((row.zip cs).take i) < (nS ts : Int))
              ⟨_, none, rfl, s13, s3 _ _ hp2, s3 _ _ hh, hst.1, hst.2⟩ (fun i σ H' ⟨_, _, _, _, k1, k2, _⟩ => ⟨SqT.of k1, SqL.of k2⟩) ?_ ?_⟩
            · rintro i x y T σ H' hx hy ⟨v6, v7, rfl, s4, k1, k2, r0, r1⟩ hT
              obtain ⟨d, hdx, rfl⟩ : ∃ d, row[i]? = some d ∧ x = V.int d := by
                rw [vrow, List.getElem?_map] at hx
                cases e : row[i]? with
                | none => rw [e] at hx; cases hx
                | some z => rw [e] at hx; exact ⟨z, rfl, (Option.some.inj hx).symm⟩
              obtain ⟨t, htx, rfl⟩ : ∃ t, cs[i]? = some t ∧ y = V.int (t : Int) := by
                rw [vns, List.getElem?_map] at hy
                cases e : cs[i]? with
                | none => rw [e] at hy; cases hy
                | some z => rw [e] at hy; exact ⟨z, rfl, (Option.some.inj hy).symm⟩
              have hd1 : ∀ e ∈ [d], 0 ≤ e ∧ e < (ts.length : Int) := fun e he => by rw [List.mem_singleton.mp he]; exact hd d (List.mem_of_getElem? hdx)
              have ez : (row.zip cs)[i]? = some (d, t) := by rw [List.getElem?_zip_eq_some]; exact ⟨hdx, htx⟩
              refine ⟨T, _, rfl, SqT.of upd_same, rfl, _, _, rfl, _, _, rfl, rfl, ?_⟩
              have s5 := s4.trans (same_new (o := HO.tup [V.int d, V.int (t : Int)]) hT)
              refine ⟨_, rfl, _, rfl, _, rfl, (by show 1 ≤ sizeLine; decide), fun T2 hT2 => ⟨_, rfl, ?_⟩⟩
              have s6 := s5.trans (same_new (o := HO.tup [V.int d]) hT2)
              refine ⟨m, ta, ts, _, _, _, rfl, hM.same s6, hW, ⟨none, .int _⟩, ⟨none, .int _⟩, fun e => (by rw [belowI ⟨r0, r1⟩] at e; cases e), fun _ => ⟨_, _, rfl, ⟨.tup upd_same, kindsR (row := [d])⟩, fun hne => absurd (rowF_ok (show [d].length ≤ 10000 by show 1 ≤ 10000; decide) hd1) hne, fun _ => ⟨[d], rfl, hd1, fun e => (by cases e), fun t' et H7 s7 => ?_⟩⟩⟩
              have et' : t = t' := by injection et with et; omega
              subst et'
              have ek : ledC ts st ((row.zip cs).take (i + 1)) = trail ts [d] (ledC ts st ((row.zip cs).take i)) t := by rw [take_succ ez, ledC_snoc]
              have hr7 := trail_rng hW hd1 ⟨r0, r1⟩ t
              refine ⟨_, _, by rw [ek]; rfl, s6.trans s7, ?_, ?_, by rw [ek]; exact hr7.1, by rw [ek]; exact hr7.2⟩
              · exact s7 _ _ ((same_new hT2) _ _ ((same_new hT) _ _ k1))
              · exact s7 _ _ ((same_new hT2) _ _ ((same_new hT) _ _ k2))
            · rintro σ H' ⟨v6, v7, rfl, s4, k1, k2, r0, r1⟩
              have ef : (row.zip cs).take (vrow row).length = row.zip cs := List.take_of_length_le (by rw [hlen, List.length_zip]; exact Nat.min_le_left _ _)
              rw [ef]
              exact ⟨_, rfl, qt cs rfl hcs _ s4⟩
      · refine ⟨_, rfl, a, rfl, .inr ⟨xs, SqT.of hh, fun D0 hD0 => lc_tup (K := K) (a := a) (xs := xs) (fun k H3 => Same H2 H3 ∧ H3 D0 = some (.lst ((xs.take k).map fun v => V.bl (numB v)))) ⟨same_new hD0, upd_same⟩ (fun k H3 _ ⟨s3, _⟩ => SqT.of (s3 _ _ hh)) ?_ ?_⟩⟩
        · rintro k z H3 hz ⟨s3, hD3⟩
          obtain ⟨oz, kz⟩ := hC2.ks xs rfl z (List.mem_of_getElem? hz)
          refine ⟨rfl, _, rfl, z, oz, rfl, kz.same s3, _, hD3, ?_, ?_, ?_⟩
          · rw [List.length_map, List.length_take, sizeLine_eq]; omega
          · exact fun c o e => by rw [upd_ne (fun z => by rw [z, hD0] at e; cases e)]; exact s3 _ _ e
          · rw [upd_same, take_succ hz, List.map_append]; rfl
        · rintro H3 ⟨s3, hD3⟩
          refine ⟨D0, xs.map numB, rfl, SqL.of ?_, _, rfl, ifD (fun e2 => ?_) fun e2 => ?_⟩
          · rw [hD3, List.take_length, List.map_map]; rfl
          · have hc : cntB (some xs) row.length = false := by
              show (decide (xs.length = row.length) && (xs.map numB).all id) = false
              rw [Bool.not_eq_true'] at e2
              rw [e2, Bool.and_false]
            exact ⟨_, rfl, _, rfl, fun d hd => (qf hc).same (s12.trans s3) d _ (same_new hd) hd upd_same⟩
          · have hc : cntB (some xs) row.length = true := by
              show (decide (xs.length = row.length) && (xs.map numB).all id) = true
              rw [Bool.not_eq_false'] at e2
              rw [e2, hxl, decide_eq_true rfl]; rfl
            obtain ⟨cs, ecs, hcs⟩ := cnt_nats hc
            obtain rfl := Option.some.inj ecs
            have s13 := s12.trans s3
            refine ⟨_, rfl, _, rfl, true, true, p, a, vrow row, vns cs, rfl, SqT.of (s3 _ _ hp2), SqT.of (s3 _ _ hh), ZM.for_zipM (K := K) (by rw [hlen, List.length_map]; exact hcs.symm) (fun i σ H' => ∃ v6 v7, σ = [some (.ref m), some (.int st), some rv, some (.ref a), some (.int (ledC ts st ((row.zip cs).take i))), some (.ref p), v6, v7] ∧ Same H H' ∧ H' p = some (.tup (vrow row)) ∧ H' a = some (.tup (vns cs)) ∧ 0 ≤ ledC ts st ((row.zip cs).take i) ∧ ledC ts st ((row.zip cs).take i) < (nS ts : Int))
              ⟨_, none, rfl, s13, s3 _ _ hp2, s3 _ _ hh, hst.1, hst.2⟩ (fun i σ H' ⟨_, _, _, _, k1, k2, _⟩ => ⟨SqT.of k1, SqT.of k2⟩) ?_ ?_⟩
            · rintro i x y T σ H' hx hy ⟨v6, v7, rfl, s4, k1, k2, r0, r1⟩ hT
              obtain ⟨d, hdx, rfl⟩ : ∃ d, row[i]? = some d ∧ x = V.int d := by
                rw [vrow, List.getElem?_map] at hx
                cases e : row[i]? with
                | none => rw [e] at hx; cases hx
                | some z => rw [e] at hx; exact ⟨z, rfl, (Option.some.inj hx).symm⟩
              obtain ⟨t, htx, rfl⟩ : ∃ t, cs[i]? = some t ∧ y = V.int (t : Int) := by
                rw [vns, List.getElem?_map] at hy
                cases e : cs[i]? with
                | none => rw [e] at hy; cases hy
                | some z => rw [e] at hy; exact ⟨z, rfl, (Option.some.inj hy).symm⟩
              have hd1 : ∀ e ∈ [d], 0 ≤ e ∧ e < (ts.length : Int) := fun e he => by rw [List.mem_singleton.mp he]; exact hd d (List.mem_of_getElem? hdx)
              have ez : (row.zip cs)[i]? = some (d, t) := by rw [List.getElem?_zip_eq_some]; exact ⟨hdx, htx⟩
              refine ⟨T, _, rfl, SqT.of upd_same, rfl, _, _, rfl, _, _, rfl, rfl, ?_⟩
              have s5 := s4.trans (same_new (o := HO.tup [V.int d, V.int (t : Int)]) hT)
              refine ⟨_, rfl, _, rfl, _, rfl, (by show 1 ≤ sizeLine; decide), fun T2 hT2 => ⟨_, rfl, ?_⟩⟩
              have s6 := s5.trans (same_new (o := HO.tup [V.int d]) hT2)
              refine ⟨m, ta, ts, _, _, _, rfl, hM.same s6, hW, ⟨none, .int _⟩, ⟨none, .int _⟩, fun e => (by rw [belowI ⟨r0, r1⟩] at e; cases e), fun _ => ⟨_, _, rfl, ⟨.tup upd_same, kindsR (row := [d])⟩, fun hne => absurd (rowF_ok (show [d].length ≤ 10000 by show 1 ≤ 10000; decide) hd1) hne, fun _ => ⟨[d], rfl, hd1, fun e => (by cases e), fun t' et H7 s7 => ?_⟩⟩⟩
              have et' : t = t' := by injection et with et; omega
              subst et'
              have ek : ledC ts st ((row.zip cs).take (i + 1)) = trail ts [d] (ledC ts st ((row.zip cs).take i)) t := by rw [take_succ ez, ledC_snoc]
              have hr7 := trail_rng hW hd1 ⟨r0, r1⟩ t
              refine ⟨_, _, by rw [ek]; rfl, s6.trans s7, ?_, ?_, by rw [ek]; exact hr7.1, by rw [ek]; exact hr7.2⟩
              · exact s7 _ _ ((same_new hT2) _ _ ((same_new hT) _ _ k1))
              · exact s7 _ _ ((same_new hT2) _ _ ((same_new hT) _ _ k2))
            · rintro σ H' ⟨v6, v7, rfl, s4, k1, k2, r0, r1⟩
              have ef : (row.zip cs).take (vrow row).length = row.zip cs := List.take_of_length_le (by rw [hlen, List.length_zip]; exact Nat.min_le_left _ _)
              rw [ef]
              exact ⟨_, rfl, qt cs rfl hcs _ s4⟩
end
end K1
namespace K1
open PySem PySem.Spec PyProof.Rows L2
def spHarm (K : PySem.W.Frag) (M CS CU : Addr) : Sp := fun vs H Q E => ∃ m ta ts v, vs = [.ref m, v] ∧ MachAt M H m ta (vts ts) ∧ Wf ts ∧ (∃ o, KV K H v o) ∧ (belowB v (nS ts : Int) = false → Rz CS "state" v H E) ∧
  (belowB v (nS ts : Int) = true → ∃ s, v = .int s ∧ ∀ (ns : List Int) r H', Same H H' → ns.Pairwise (· < ·) → (∀ x, x ∈ ns ↔ Reach ts s x) → PaperIs ts ns r → (r = none → ∀ (h : Nat) H'', Same H H'' → HarmIs ts s h → Q (.int (h : Int)) H'') ∧ ∀ x a b, r = some (x, a, b) → RzU CU x a b H' E)
section
variable {P : Program} {w : World} {K : PySem.W.Frag} {mg : Str → Option Value} {base : Heap}
abbrev nHa : List Str := ["machine", "first", "apart", "deed", "index", "period"]
theorem scHa : FnScope nHa ["machine", "first"] (defScope sHarm) := ⟨rfl, rfl, rfl, by decide +kernel, rfl, by decide +kernel, by decide +kernel⟩
theorem ok_harm {f fC fP CS CR CU M : Addr} {fd fdC fdP : FuncData} (D : Df K mg "harmless_period" sHarm ["machine", "first"] f fd) (DC : Df K mg "need_commuting" sNeedC ["machine", "state"] fC fdC) (DP : Df K mg "power_of" sPower ["machine", "state", "row"] fP fdP) (B : Bt mg) (T : McT K mg M)
    (GC : FnOk P w K mg base (L2.CX P w) 6 fC fdC ["machine", "state"] (spNeedC K M CS CU)) (GP : FnOk P w K mg base (L2.CX P w) 6 fP fdP ["machine", "state", "row"] (spPower K M CS CR)) :
    FnOk P w K mg base (L2.CX P w) 7 f fd ["machine", "first"] (spHarm K M CS CU) := by
  refine D.F.okX scHa (fun vs H Q E h => ?_) (fun cdv A outer s H vs Q E hr h => ?_)
  · obtain ⟨m, ta, ts, v, rfl, _⟩ := h
    rfl
  · obtain ⟨m, ta, ts, v, rfl, hM, hW, ⟨o, kv⟩, q1, q2⟩ := h
    refine ⟨_, pss_cons (ps_expr (pc DC GC hr (pass1 (takes_of rfl rfl rfl rfl)) (pa_cons (pv 0) (pa_cons (pv 1) pa_nil))))
      (pss_cons (ps_set (i := 2) scHa.nd rfl (.inl rfl) pe_int)
      (pss_cons (ps_for (passes_of rfl) rfl (pi_range1 (by rfl) B.range (pa_cons (pe_fld (pv 0) rfl) pa_nil)) (pg_name (i := 3) scHa.nd rfl (.inl rfl))
        (pss_cons (ps_asg (pc DP GP hr (pass1 (takes_of rfl rfl rfl rfl)) (pa_cons (pv 0) (pa_cons (pv 1) (pa_cons (pe_tup (pa_cons (pv 3) pa_nil)) pa_nil)))) (pg_tup rfl (pgs_cons (pg_name (i := 4) scHa.nd rfl (.inl rfl)) (pgs_cons (pg_name (i := 5) scHa.nd rfl (.inl rfl)) pgs_nil))))
        (pss_cons (ps_if (pt_cmpR op_gt (pv 4) pe_int (nomark _)) (pss_one (ps_ret pe_int)) pss_nil)
        (pss_one (ps_set (i := 2) scHa.nd rfl (.inl rfl) (pe_callBfun cr_lcm (by rfl) B.lcm (pa_cons (pv 2) (pa_cons (pv 5) pa_nil))))))))
      (pss_one (ps_ret (pv 2))))), ?_⟩
    refine ⟨_, rfl, _, rfl, m, ta, ts, v, rfl, hM, hW, ⟨o, kv⟩, q1, fun e => ?_⟩
    obtain ⟨st, rfl, q⟩ := q2 e
    have hst : 0 ≤ st ∧ st < (nS ts : Int) := by
      have z : (decide (0 ≤ st) && decide (st < (nS ts : Int))) = true := e
      simpa using z
    refine ⟨st, rfl, fun ns r H1 s1 asc mem pap => ?_⟩
    obtain ⟨qn, qs⟩ := q ns r H1 s1 asc mem pap
    refine ⟨fun er => ?_, qs⟩
    have qt := qn er
    obtain ⟨dx, hf⟩ := (hM.same s1).fs
    have h8 := hW.t8
    refine ⟨_, rfl, m, M, dx, _, _, rfl, hf, T.cl, T.nD, mf_d _ _ _, (ts.length : Int), rfl, by omega, by omega, for_range (fun k σ H' => ∃ (a : Nat) (v3 v4 v5 : Option V), σ = [some (.ref m), some (.int st), some (.int (a : Int)), v3, v4, v5] ∧ Same H H' ∧ HarmTo ts st k a) ⟨1, none, none, none, rfl, s1, harm_zero ts st⟩ ?_ ?_⟩
    · rintro k σ H2 hk ⟨a, v3, v4, v5, rfl, s2, ha⟩
      have hk8 : In8 ts (k : Int) := ⟨by omega, by omega⟩
      have hd1 : ∀ e ∈ [(k : Int)], 0 ≤ e ∧ e < (ts.length : Int) := fun e he => by rw [List.mem_singleton.mp he]; exact hk8
      refine ⟨_, rfl, _, rfl, _, rfl, (by show 1 ≤ sizeLine; decide), fun T2 hT2 => ?_⟩
      have s3 := s2.trans (same_new (o := HO.tup [V.int (0 + (k : Int))]) hT2)
      have e0 : (0 : Int) + (k : Int) = (k : Int) := Int.zero_add _
      refine ⟨m, ta, ts, _, _, rfl, hM.same s3, hW, ⟨none, .int _⟩, fun e => (by rw [belowI hst] at e; cases e), fun _ => ⟨_, _, rfl, ⟨.tup (by rw [upd_same, e0]; rfl), kindsR (row := [(k : Int)])⟩, fun hne => absurd (rowF_ok (show [(k : Int)].length ≤ 10000 by show 1 ≤ 10000; decide) hd1) hne, fun _ => ⟨[(k : Int)], rfl, hd1, fun i p pa H3 s4 hp hpa => ?_⟩⟩⟩
      refine ⟨pa, _, rfl, SqT.of hpa, rfl, _, _, rfl, _, _, rfl, rfl, ?_⟩
      have few : i + p ≤ nS ts := fresh_few hp.2.2 (trail_rng hW hd1 hst)
      have h12 := hW.s12
      refine ⟨_, rfl, _, _, rfl, rfl, _, rfl, ifD (fun e1 => ?_) fun e1 => ?_⟩
      · have hi : 1 < i := by have := of_decide_eq_true e1; omega
        exact qt 0 _ (s3.trans s4) (harm_none hk8 hp hi)
      · have hi : i ≤ 1 := by have := of_decide_eq_false e1; omega
        have hb : a < 2 ^ 32 := by
          have h1 := ha.2.1
          have h2 : 12 ^ k ≤ 12 ^ 8 := Nat.pow_le_pow_right (by decide) (by omega)
          have h3 : 12 ^ 8 < 2 ^ 32 := by decide
          omega
        exact ⟨_, rfl, _, rfl, a, p, rfl, hb, by omega, _, _, _, _, rfl, s3.trans s4, harm_succ ha hp hi (by omega)⟩
    · rintro σ H2 ⟨a, v3, v4, v5, rfl, s2, ha⟩
      exact ⟨_, rfl, qt a _ s2 (harm_done (by simpa using ha))⟩
end
end K1
/-! set(xs) of a list of whole numbers, sorted(set(xs)); a dict display with one tuple key; the keys of a dict walked and kept -/
namespace K1
open PySem PySem.Spec PyProof.Rows L2
section
variable {P : Program} {w : World} {A : Around} {E : Value → Shared → Prop} {s : Shared}
theorem call_set_lstI {l : Addr} {items : Array Value} (ns : List Int) {Q : Value → Shared → Prop} (hh : A.handled = none) (hl : s.heap.IsList l items) (hit : IntsAre items.toList ns) (hb : ns.length + 1 < scanBound)
    (h : ∀ (h' : Heap) (tk c : Nat), SetR w h' s.heap.objs.size (fun j => decide (j ∈ ns)) c → c ≤ ns.length → (∀ b o, s.heap.get? b = some o → h'.get? b = some o) → Q (.ref s.heap.objs.size) { s with heap := h', toks := tk }) :
    wpAny (model P w) A (call (.type "set") [.ref l]) Q E s := by
  have hisz : items.size = ns.length := by
    have q := IntsAre.length hit
    rw [Array.length_toList] at q
    exact q
  obtain ⟨c, tl, hmro⟩ := F.called_set.mro
  have hmade := F.called_set.made
  have hsub := F.called_set.sub
  refine wpAny_call (codeAny_of_tree ?_)
  show wpAny _ _ (callAny (.type "set") _) _ _ _
  refine wpAny_pure ⟨Code.quiet_builtin _ (by decide +kernel), codeAny_builtin F.entry_type_call ?_⟩
  rw [Around.under_plain (weight_type_call_type "set" [.ref l] []) rfl]
  have h1 := F.called_set.notType
  have h2 := F.called_set.canCreate
  have hct := F.typeCall_set_1 (.ref l)
  repeat (any_goals (first | assumption | wp_step))

  refine codeAny_mono (code_set_led1 (.ref l) (E := E) (Q₁ := fun obj s₁ => obj = .ref s.heap.objs.size ∧ s₁ = { s with heap := s.heap.push { cls := .type "set", dict := none, data := .set #[] 0 (.fresh 0 0 (!w.params.followText "set-order")) } }) ⟨rfl, rfl⟩) fun r s₁ hr => ?_
  cases r with
  | error e => exact hr
  | ok fl =>
    cases fl with
    | ret obj =>
      obtain ⟨rfl, rfl⟩ := hr
      have hS : (s.heap.push { cls := .type "set", dict := none, data := .set #[] 0 (.fresh 0 0 (!w.params.followText "set-order")) }).get? s.heap.objs.size = some { cls := .type "set", dict := none, data := .set #[] 0 (.fresh 0 0 (!w.params.followText "set-order")) } := Heap.get?_push_size _ rfl
      have hT : Shared.TypeIs { s with heap := s.heap.push { cls := .type "set", dict := none, data := .set #[] 0 (.fresh 0 0 (!w.params.followText "set-order")) } } (.ref s.heap.objs.size) "set" := ⟨_, hS, rfl⟩
      have hli := F.called_set.init.lookup
      have hbi := F.called_set.init.bind (.ref s.heap.objs.size)
      repeat (any_goals (first | assumption | wp_step))

      refine codeAny_mono (codeAny_call_builtin (R := wants (fun r s₂ => r = .none ∧ ∃ h' tk c, s₂ = { s with heap := h', toks := tk } ∧ SetR w h' s.heap.objs.size (fun j => decide (j ∈ ns)) c ∧ c ≤ ns.length ∧
          (∀ b o, s.heap.get? b = some o → h'.get? b = some o)) E) F.called_set.init.plain F.entry_set_init (check_set_init_1 hT ?_)) fun r₂ s₂ hr₂ => ?_
      · obtain ⟨ol, hol, hcl, nl, hdl⟩ := hl
        obtain ⟨ocls, odict, odata, oslots⟩ := ol
        simp only at hcl hdl
        subst hcl; subst hdl
        have hol' : (s.heap.push { cls := .type "set", dict := none, data := .set #[] 0 (.fresh 0 0 (!w.params.followText "set-order")) }).get? l = some { cls := .type "list", dict := odict, data := .seq items nl, slots := oslots } := Heap.get?_push_of_some _ hol
        have hsls := F.sub_list_set
        have hslf := F.sub_list_frozenset
        have hne : (Value.type "list" == Value.type "dict") = false := by decide
        have hl1 : (s.heap.push { cls := .type "set", dict := none, data := .set #[] 0 (.fresh 0 0 (!w.params.followText "set-order")) }).IsList l items := ⟨_, hol', rfl, nl, rfl⟩
        unfold Builtin.«set.__init__» noKeywords Builtin.Frozenset.updateFrom
        generalize hPI : pyIter = PI
        wp_walk
        subst hPI

        refine wpAny_pyIter_list hl1 ?_
        refine wpAny_bind (wpAny_runValue ?_)
        have hlS : l < s.heap.objs.size := Heap.lt_size hol
        have hh3 : A.in1.in1.in1.handled = none := by simp [hh]
        have hz1 : (s.heap.push { cls := .type "set", dict := none, data := .set #[] 0 (.fresh 0 0 (!w.params.followText "set-order")) }).objs.size = s.heap.objs.size + 1 := Heap.size_push ..
        have hneI : l ≠ (s.heap.push { cls := .type "set", dict := none, data := .set #[] 0 (.fresh 0 0 (!w.params.followText "set-order")) }).objs.size := by
          rw [Heap.size_push]; exact Nat.ne_of_lt (Nat.lt_succ_of_lt hlS)
        have hSf : s.heap.objs.size ∉ [(s.heap.push { cls := .type "set", dict := none, data := .set #[] 0 (.fresh 0 0 (!w.params.followText "set-order")) }).objs.size, l] := by
          rw [Heap.size_push]; simp only [List.mem_cons, List.mem_singleton, List.not_mem_nil, or_false, not_or]
          exact ⟨Nat.ne_of_lt (Nat.lt_succ_self _), Nat.ne_of_gt hlS⟩
        have hval : ∀ (i : Nat) (v : Value), items[i]? = some v → ∃ k t, ns[i]? = some k ∧ v = .int k t := fun i v hv => by
          have hi : i < ns.length := by rw [← hisz]; exact (Array.getElem?_eq_some_iff.mp hv).1
          obtain ⟨t, e⟩ := PyProof.Rows.IntsAre.int_at hit i v (by rw [Array.getElem?_toList]; exact hv)
          refine ⟨ns[i], t, List.getElem?_eq_getElem hi, ?_⟩
          rw [e, List.getD_eq_getElem?_getD, List.getElem?_eq_getElem hi] <;> rfl
        refine set_update_ints ((Walks.list hh3 _ l hneI items).toS) s.heap.objs.size
          hSf ns hisz hb hval (items.size - 0) 0 _ (by omega) (Nat.zero_le _)
          ⟨⟨_, Heap.get?_push_size _ rfl, rfl, rfl⟩, (hl1.push _)⟩ ?hS0 ?hR
        case hS0 =>
          have hget : ((s.heap.push { cls := .type "set", dict := none, data := .set #[] 0 (.fresh 0 0 (!w.params.followText "set-order")) }).push { cls := .type "list_iterator", data := .fields #[.ref l, .int 0 0] }).get? s.heap.objs.size
              = some { cls := .type "set", dict := none, data := .set #[] 0 (.fresh 0 0 (!w.params.followText "set-order")) } := Heap.get?_push_of_some _ hS
          exact ⟨0, Nat.le_refl 0, setR_new_at hget⟩
        case hR =>
          intro s' c' hm hc' hS'
          obtain ⟨h', g2, d', tk', os'⟩ := s'
          have eg : g2 = s.gens := hm.gens
          have ed : d' = s.drawn := hm.drawn
          have eo : os' = s.os := hm.os
          subst eg; subst ed; subst eo
          show wpAny _ _ _ _ _ _
          refine wpAny_pure ?_
          show wpAny _ _ (ret Value.none) _ _ _
          rw [hisz] at hc'
          refine wpAny_pure ⟨rfl, h', tk', c', rfl, hS', hc', fun b o e => ?_⟩
          have hb0 : b < s.heap.objs.size := Heap.lt_size e
          have hb1 : b ≠ s.heap.objs.size := Nat.ne_of_lt hb0
          have hb2 : b ≠ (s.heap.push { cls := .type "set", dict := none, data := .set #[] 0 (.fresh 0 0 (!w.params.followText "set-order")) }).objs.size := by
            rw [Heap.size_push]; exact Nat.ne_of_lt (Nat.lt_succ_of_lt hb0)
          exact hm.heap b o (by simp only [List.mem_cons, List.mem_singleton, List.not_mem_nil, or_false, not_or]; exact ⟨hb1, hb2⟩) (Heap.get?_push_of_some _ (Heap.get?_push_of_some _ e))

      · cases r₂ with
        | error e => exact hr₂
        | ok fl₂ =>
          cases fl₂ with
          | ret r =>
            obtain ⟨rfl, h', tk, c', rfl, hS', hc', hk'⟩ := hr₂
            repeat (any_goals (first | assumption | wp_step))
            exact h _ _ _ hS' hc' hk'
          | _ => exact hr₂.elim
    | _ => exact hr.elim

end
/-- set(xs), xs a list of whole numbers -/
def rSetI (K : PySem.W.Frag) (w : World) : List V → Hp → VK → Prop := fun xs H Q => ∃ (a : Addr) (ns : List Int), xs = [.ref a] ∧ SqL K H a (ns.map V.int) ∧ ns.length < 60 ∧
  ∀ p c, H p = none → c ≤ ns.length → Q (.ref p) (upd H p (SetO w p (fun j => decide (j ∈ ns)) c))
theorem cr_setI {X : Cx} (hc : X.calm = true) : CallR X (.type "set") (rSetI X.K X.w) := by
  intro pins s σ H xs us Q I r h
  obtain ⟨a, ns, rfl, hs, h60, q⟩ := h
  rw [Vals.ref1 r]
  obtain ⟨its, rv, pl, hz⟩ := I.list hs
  refine call_set_lstI ns (I.ok.hd hc) pl.isList (by simpa using rv.ints) (by unfold scanBound; omega) fun h' tk c R hcn k => ?_
  refine ⟨.ref _, upd H s.heap.objs.size (SetO X.w s.heap.objs.size (fun j => decide (j ∈ ns)) c), I.laid (t' := tk) k (Nat.le_refl _) (setO_new R), rfl, q _ c (I.hok.fresh (Nat.le_refl _)) hcn⟩
end K1
namespace K1
open PySem PySem.Spec PyProof.Rows L2
/-! ### the source of draws -/
def DealO (H : Hp) (b l : Addr) : Prop := l ≠ b ∧ ∃ (ns : List Int) (z : Int), ns.length ≤ 64 ∧ H b = some (.lst [.ref l, .int z]) ∧ H l = some (.lst (vrow ns))
/-- all but the source stands, which is one again -/
def Dl (b l : Addr) (H H' : Hp) : Prop := DealO H' b l ∧ ∀ c o, H c = some o → c ≠ b → c ≠ l → H' c = some o
theorem DealO.same {H H' : Hp} {b l : Addr} (h : DealO H b l) (s : Same H H') : DealO H' b l := let ⟨n, ns, z, h1, h2, h3⟩ := h; ⟨n, ns, z, h1, s _ _ h2, s _ _ h3⟩
theorem Dl.refl {b l : Addr} {H : Hp} (h : DealO H b l) : Dl b l H H := ⟨h, fun _ _ e _ _ => e⟩
theorem Dl.trans {b l : Addr} {H H1 H2 : Hp} (a : Dl b l H H1) (c : Dl b l H1 H2) : Dl b l H H2 := ⟨c.1, fun d o e n1 n2 => c.2 d o (a.2 d o e n1 n2) n1 n2⟩
theorem Dl.same {b l : Addr} {H H1 H2 : Hp} (a : Dl b l H H1) (s : Same H1 H2) : Dl b l H H2 := ⟨a.1.same s, fun d o e n1 n2 => s _ _ (a.2 d o e n1 n2)⟩
theorem Same.dl {b l : Addr} {H H1 H2 : Hp} (s : Same H H1) (a : Dl b l H1 H2) : Dl b l H H2 := ⟨a.1, fun d o e n1 n2 => a.2 d o (s _ _ e) n1 n2⟩
theorem Dl.new {b l c : Addr} {H H1 : Hp} {o : HO} (a : Dl b l H H1) (h : H1 c = none) : Dl b l H (upd H1 c o) := a.same (same_new h)
theorem DealO.nb {H : Hp} {b l c : Addr} (h : DealO H b l) (e : H c = none) : c ≠ b := fun z => by obtain ⟨_, _, _, _, h2, _⟩ := h; rw [z, h2] at e; cases e
theorem DealO.nl {H : Hp} {b l c : Addr} (h : DealO H b l) (e : H c = none) : c ≠ l := fun z => by obtain ⟨_, _, _, _, _, h3⟩ := h; rw [z, h3] at e; cases e
theorem neD {X : Cx} {K : PySem.W.Frag} (h : X.K = K) (hu : X.A.units + 64 < cLine) : OpR X (compareOp .NotEq) (rNeD K) := by
  subst h
  exact op_neD hu
theorem layA_ints : ∀ t : List Int, PyData.canLayAll0 (dI t) = true
  | [] => rfl
  | i :: r => by
    show (PyData.canLay0 (.int i) && PyData.canLayAll0 (dI r)) = true
    rw [layA_ints r]
    rfl
theorem depA_ints : ∀ t : List Int, PyData.depthAll (dI t) = 0
  | [] => rfl
  | i :: r => by
    show max (PyData.depth (.int i)) (PyData.depthAll (dI r)) = 0
    rw [depA_ints r]
    rfl
theorem shL_ints (t : List Int) : SeqAt.shaped (.list (dI t)) = true := by
  unfold SeqAt.shaped
  rw [show PyData.canLay0 (.list (dI t)) = true from layA_ints t, show PyData.depth (.list (dI t)) = 1 from by show PyData.depthAll (dI t) + 1 = 1; rw [depA_ints]]
  rfl
theorem eqv_nil (r : List Int) : PyData.eqv (.list (dI r)) (.list []) = decide (r = []) := by
  cases r with
  | nil => rfl
  | cons i r => rfl
theorem neNil {K : PySem.W.Frag} {H : Hp} {l e : Addr} {ns : List Int} {Q : VK} (hl : H l = some (.lst (vrow ns))) (he : H e = some (.lst [])) (q : Q (.bl (!decide (ns = []))) H) : rNeD K (.ref l) (.ref e) H Q :=
  ⟨.list (dI ns), .list [], .lst (SqL.of hl) (dp_ints ns), .lst (SqL.of he) .nil, shL_ints ns, shL_ints [], qbl (by rw [eqv_nil]) q⟩
theorem seqG {t u : TS} {D : Ends} {σ : L2.St} {H : Hp} (G : L2.St → Hp → Prop) (hu : ∀ σ H, G σ H → u D σ H) (ht : (∀ σ H, G σ H → u D σ H) → t { D with nx := u D } σ H) : tSeq t u D σ H := ht hu
def spAny : Sp := fun vs H Q _ => ∃ b l n, vs = [.ref b, .int n] ∧ DealO H b l ∧ 1 ≤ n ∧ n < 1073741824 ∧ ∀ r H', 0 ≤ r → r < n → Dl b l H H' → Q (.int r) H'
def spOf : Sp := fun vs H Q _ => ∃ (b l p : Addr) (xs : List V), vs = [.ref b, .ref p] ∧ DealO H b l ∧ H p = some (.lst xs) ∧ p ≠ b ∧ p ≠ l ∧ 1 ≤ xs.length ∧ xs.length ≤ 1000 ∧ ∀ (i : Nat) v H', xs[i]? = some v → Dl b l H H' → Q v H'
section
variable {P : Program} {w : World} {K : PySem.W.Frag} {mg : Str → Option Value} {base : Heap}
abbrev nAn : List Str := ["_law_deal", "_law_bound", "_law_rest"]
theorem scAn : FnScope nAn ["_law_deal", "_law_bound"] (defScope sAny) := ⟨rfl, rfl, rfl, by decide +kernel, rfl, by decide +kernel, by decide +kernel⟩
def lenAt (l : Addr) : L2.St → Hp → Nat := fun _ H => match H l with | some (.lst xs) => xs.length | _ => 0
theorem lenAt_of {l : Addr} {σ : L2.St} {H : Hp} {xs : List V} (h : H l = some (.lst xs)) : lenAt l σ H = xs.length := by
  unfold lenAt
  rw [h]
theorem ok_any {f : Addr} {fd : FuncData} (D : Df K mg "_law_any" sAny ["_law_deal", "_law_bound"] f fd) (B : Bt mg) : FnOk P w K mg base CX0 1 f fd ["_law_deal", "_law_bound"] spAny := by
  refine D.F.ok scAn (fun vs H Q E h => ?_) (fun cdv A outer s H vs Q E hr h => ?_)
  · obtain ⟨b, l, n, rfl, _⟩ := h
    rfl
  · obtain ⟨b, l, n, rfl, hD, h1, h2, q⟩ := h
    have hu := hr.units
    refine ⟨_, pss_cons (ps_while PassesOwn.never (PW.pt (pw_and (pt_cmpR (neD (K := K) rfl hu) (pe_ix ix_list (pv 0) pe_int (fun _ _ => rfl)) (pe_lst pa_nil) (nomark _)) (pw_and1 (pt_cmpR op_eq (pe_ix ix_list (pe_ix ix_list (pv 0) pe_int (fun _ _ => rfl)) (pe_un un_neg pe_int) (fun _ _ => rfl)) pe_int (nomark _)))))
        (pss_one (ps_expr (pe_bm0 PySem.F.plainAttrs_list PySem.F.slot_list_pop PySem.F.type_list_pop mt_pop (pe_ix ix_list (pv 0) pe_int (fun _ _ => rfl))))))
      (pss_cons (ps_if (pt_cmpR (neD (K := K) rfl hu) (pe_ix ix_list (pv 0) pe_int (fun _ _ => rfl)) (pe_lst pa_nil) (nomark _))
        (pss_cons (ps_set (i := 2) scAn.nd rfl (.inl rfl) (pe_callTy call_int1 (by rfl) B.int PyProof.Rows.boot_int (pa_cons (pe_bm0 PySem.F.plainAttrs_list PySem.F.slot_list_pop PySem.F.type_list_pop mt_pop (pe_ix ix_list (pv 0) pe_int (fun _ _ => rfl))) pa_nil)))
        (pss_cons (ps_expr (pe_bm PySem.F.plainAttrs_list PySem.F.slot_list_append PySem.F.type_list_append mt_append (pe_ix ix_list (pv 0) pe_int (fun _ _ => rfl)) (pa_cons (pe_op op_fdiv (pv 2) (pv 1)) pa_nil)))
        (pss_one (ps_ret (pe_op op_mod (pe_callTy call_int1 (by rfl) B.int PyProof.Rows.boot_int (pa_cons (pv 2) pa_nil)) (pv 1)))))) pss_nil)
      (pss_cons (ps_asg (pe_op op_mod (pe_callTy call_int1 (by rfl) B.int PyProof.Rows.boot_int (pa_cons (pe_op op_add (pe_op op_mul (pe_ix ix_list (pv 0) pe_int (fun _ _ => rfl)) pe_int) pe_int) pa_nil)) pe_int) (pg_sub (pv 0) pe_int set_list))
      (pss_one (ps_ret (pe_op op_mod (pe_callTy call_int1 (by rfl) B.int PyProof.Rows.boot_int (pa_cons (pe_op op_fdiv (pe_ix ix_list (pv 0) pe_int (fun _ _ => rfl)) pe_int) pa_nil)) (pv 1)))))), ?_⟩
    have hp : 0 < n := by omega
    have a0 : ∀ {u v : V}, atI [u, v] 0 = some u := fun {u v} => atI_nat (j := 0) rfl
    have a1 : ∀ {u v : V}, atI [u, v] 1 = some v := fun {u v} => atI_nat (j := 1) rfl
    refine seqG (fun σ H' => σ = [some (.ref b), some (.int n), none] ∧ Dl b l H H') ?_ (fun go => while_by (fun σ H' => σ = [some (.ref b), some (.int n), none] ∧ Dl b l H H') (lenAt l) ⟨rfl, .refl hD⟩ ?_ (fun σ H Q Q' hQ h => ?_))
    · rintro σ H1 ⟨rfl, dl⟩
      obtain ⟨nlb, ns, z, hn, hb, hl⟩ := id dl.1
      refine ⟨_, rfl, b, _, 0, .ref l, rfl, rfl, SqL.of hb, a0, (by show 0 ≤ sizeLine; decide), fun e he => neNil ((same_new he) _ _ hl) upd_same ⟨_, rfl, ?_⟩⟩
      have dl2 := dl.new (o := HO.lst []) he
      have hb2 := (same_new (o := HO.lst []) he) _ _ hb
      have hl2 := (same_new (o := HO.lst []) he) _ _ hl
      generalize upd H1 e (.lst []) = H2 at dl2 hb2 hl2 ⊢
      rcases List.eq_nil_or_concat ns with rfl | ⟨ms, y, rfl⟩
      · refine iteF ?_
        refine ⟨_, rfl, b, _, 1, .int z, rfl, rfl, SqL.of hb2, a1, _, _, rfl, rfl, .inr ⟨by decide, by decide⟩, _, _, rfl, rfl, .inl ⟨_, rfl, _, _, rfl, rfl, (by decide : (0 : Int) < 2147483647), _, rfl, b, _, 1, 1, rfl, rfl, hb2, rfl, ?_⟩⟩
        have hb3 : ∃ z', (upd H2 b (.lst [.ref l, .int z'])) b = some (.lst [.ref l, .int z']) := ⟨0, upd_same⟩
        refine ⟨_, rfl, b, _, 1, .int _, rfl, rfl, SqL.of upd_same, a1, _, _, rfl, rfl, ⟨by decide, by decide⟩, .inl ⟨_, rfl, _, rfl, _, _, rfl, rfl, hp, q _ _ (Int.emod_nonneg _ (by omega)) (Int.emod_lt_of_pos _ hp) ⟨⟨nlb, [], _, by decide, upd_same, by rw [upd_ne nlb]; exact hl2⟩, fun c o e n1 n2 => by rw [upd_ne n1]; exact dl2.2 c o e n1 n2⟩⟩⟩
      · rw [List.concat_eq_append] at hl2 hn
        have ev : vrow (ms ++ [y]) = vrow ms ++ [.int y] := by rw [vrow, List.map_append]; rfl
        rw [ev] at hl2
        refine iteE (by rw [List.concat_eq_append]; simp) ?_
        rw [List.length_append] at hn
        refine ⟨_, rfl, b, _, 0, .ref l, rfl, rfl, SqL.of hb2, a0, .inl ⟨rfl, _, SqL.of hl2⟩, l, _, .int y, rfl, rfl, hl2, ?_, .inl ⟨y, rfl, ?_⟩⟩
        · rw [List.length_append]
          show (vrow ms ++ [V.int y])[(vrow ms).length]? = _
          rw [List.getElem?_append_right (Nat.le_refl _), Nat.sub_self]; rfl
        have ed : (vrow ms ++ [V.int y]).dropLast = vrow ms := List.dropLast_concat
        rw [ed]
        have hb3 : (upd H2 l (.lst (vrow ms))) b = some (.lst [.ref l, .int z]) := by rw [upd_ne nlb.symm]; exact hb2
        have hl3 : (upd H2 l (.lst (vrow ms))) l = some (.lst (vrow ms)) := upd_same
        have k3 : ∀ c o, H c = some o → c ≠ b → c ≠ l → (upd H2 l (.lst (vrow ms))) c = some o := fun c o e n1 n2 => by rw [upd_ne n2]; exact dl2.2 c o e n1 n2
        generalize upd H2 l (.lst (vrow ms)) = H3 at hb3 hl3 k3 ⊢
        refine ⟨_, rfl, b, _, 0, .ref l, rfl, rfl, SqL.of hb3, a0, .inl ⟨rfl, _, SqL.of hl3⟩, _, rfl, _, rfl, _, _, rfl, rfl, ⟨by omega, h2⟩, l, _, _, rfl, rfl, hl3, by rw [vrow, List.length_map, sizeLine_eq]; simp only [List.length_cons, List.length_nil] at hn; omega, ?_⟩
        refine ⟨_, rfl, .inl ⟨_, rfl, _, rfl, _, _, rfl, rfl, hp, q _ _ (Int.emod_nonneg _ (by omega)) (Int.emod_lt_of_pos _ hp) ⟨⟨nlb, ms ++ [y / n], z, by rw [List.length_append]; exact hn, by rw [upd_ne nlb.symm]; exact hb3, by rw [upd_same, vrow, vrow, List.map_append]; rfl⟩, fun c o e n1 n2 => by rw [upd_ne n2]; exact k3 c o e n1 n2⟩⟩⟩
    · rintro σ H1 ⟨rfl, dl⟩
      obtain ⟨nlb, ns, z, hn, hb, hl⟩ := id dl.1
      refine ⟨_, rfl, b, _, 0, .ref l, rfl, rfl, SqL.of hb, a0, (by show 0 ≤ sizeLine; decide), fun e he => neNil ((same_new he) _ _ hl) upd_same ⟨_, rfl, ?_⟩⟩
      have dl2 := dl.new (o := HO.lst []) he
      have hb2 := (same_new (o := HO.lst []) he) _ _ hb
      have hl2 := (same_new (o := HO.lst []) he) _ _ hl
      generalize upd H1 e (.lst []) = H2 at dl2 hb2 hl2 ⊢
      rcases List.eq_nil_or_concat ns with rfl | ⟨ms, y, rfl⟩
      · exact iteF (iteF (go _ _ ⟨rfl, dl2⟩))
      · rw [List.concat_eq_append] at hl2 hn hl
        have ev : vrow (ms ++ [y]) = vrow ms ++ [.int y] := by rw [vrow, List.map_append]; rfl
        rw [ev] at hl2 hl
        refine iteE (by rw [List.concat_eq_append]; simp) ?_
        rw [List.length_append] at hn
        refine ⟨_, rfl, b, _, 0, .ref l, rfl, rfl, SqL.of hb2, a0, 1, rfl, l, _, -1, .int y, rfl, rfl, SqL.of hl2, atI_last _ _, rfl, _, rfl, ifD (fun e1 => ?_) fun e1 => go _ _ ⟨rfl, dl2⟩⟩
        refine ⟨_, rfl, b, _, 0, .ref l, rfl, rfl, SqL.of hb2, a0, .inl ⟨rfl, _, SqL.of hl2⟩, l, _, .int y, rfl, rfl, hl2, ?_, ?_⟩
        · rw [List.length_append]
          show (vrow ms ++ [V.int y])[(vrow ms).length]? = _
          rw [List.getElem?_append_right (Nat.le_refl _), Nat.sub_self]; rfl
        have ed : (vrow ms ++ [V.int y]).dropLast = vrow ms := List.dropLast_concat
        rw [ed]
        refine ⟨⟨rfl, ⟨nlb, ms, z, by omega, by rw [upd_ne nlb.symm]; exact hb2, upd_same⟩, fun c o e n1 n2 => by rw [upd_ne n2]; exact dl2.2 c o e n1 n2⟩, ?_⟩
        have q1 : (upd H2 l (.lst (vrow ms))) l = some (.lst (vrow ms)) := upd_same
        rw [lenAt_of q1, lenAt_of hl, List.length_append]
        exact Nat.lt_succ_self _
    · obtain ⟨v0, h0, a, xs, i, y, e1, e2, hS, hat, hlen, hh⟩ := h
      refine ⟨v0, h0, a, xs, i, y, e1, e2, hS, hat, hlen, fun p hp => ?_⟩
      obtain ⟨d1, d2, D1, D2, s1, s2, c, hc, h3⟩ := hh p hp
      refine ⟨d1, d2, D1, D2, s1, s2, c, hc, ?_⟩
      cases c with
      | false => exact hQ _ _ h3
      | true =>
        obtain ⟨v1, k0, a', xs', i', y', k1, k2, kS, kat, j, ej, a2, xs2, i2, y2, m1, m2, mS, mat, hx, c2, hc2, h4⟩ := h3
        exact ⟨v1, k0, a', xs', i', y', k1, k2, kS, kat, j, ej, a2, xs2, i2, y2, m1, m2, mS, mat, hx, c2, hc2, hQ _ _ h4⟩
end
end K1
namespace K1
open PySem PySem.Spec PyProof.Rows L2
def spDealt (K : PySem.W.Frag) : Sp := fun vs H Q _ => ∃ (a : Addr) (ns : List Int), vs = [.ref a] ∧ SqL K H a (ns.map V.int) ∧ ns.length ≤ 63 ∧ ∀ b l H', Same H H' → H b = none → H l = none → DealO H' b l → Q (.ref b) H'
theorem cut_ints (ns : List Int) (lo hi : Option Int) : ∃ ms : List Int, cutV (vrow ns) lo hi = vrow ms ∧ ms.length ≤ ns.length := by
  refine ⟨(ns.drop (HT.sIx (vrow ns).length 0 lo)).take (HT.sIx (vrow ns).length (vrow ns).length hi - HT.sIx (vrow ns).length 0 lo), ?_, ?_⟩
  · unfold cutV
    rw [vrow, vrow, List.map_take, List.map_drop]
  · rw [List.length_take, List.length_drop]
    omega
theorem sqL_same {K : PySem.W.Frag} {H H1 : Hp} {a : Addr} {xs : List V} (h : SqL K H a xs) (s : Same H H1) : SqL K H1 a xs := by
  rcases h with (h | ⟨ob, h⟩) | h
  · exact .inl (.inl (s _ _ h))
  · exact .inl (.inr ⟨ob, s _ _ h⟩)
  · exact .inr h
section
variable {P : Program} {w : World} {K : PySem.W.Frag} {mg : Str → Option Value} {base : Heap}
theorem scOf : FnScope ["_law_deal", "_law_some"] ["_law_deal", "_law_some"] (defScope sOf) := ⟨rfl, rfl, rfl, by decide +kernel, rfl, by decide +kernel, by decide +kernel⟩
theorem ok_of {f fT : Addr} {fd fdT : FuncData} (D : Df K mg "_law_of" sOf ["_law_deal", "_law_some"] f fd) (DT : Df K mg "_law_any" sAny ["_law_deal", "_law_bound"] fT fdT) (B : Bt mg) (GT : FnOk P w K mg base CX0 1 fT fdT ["_law_deal", "_law_bound"] spAny) :
    FnOk P w K mg base CX0 2 f fd ["_law_deal", "_law_some"] spOf := by
  refine D.F.ok scOf (fun vs H Q E h => ?_) (fun cdv A outer s H vs Q E hr h => ?_)
  · obtain ⟨b, l, p, xs, rfl, _⟩ := h
    rfl
  · obtain ⟨b, l, p, xs, rfl, hb, hl, n1, n2, h1, h2, q⟩ := h
    refine ⟨_, pss_one (ps_ret (pe_ix ix_list (pv 1) (pc DT GT hr pass0 (pa_cons (pv 0) (pa_cons (pe_callB call_len_seq (by rfl) B.len PySem.boot_len (pa_cons (pv 1) pa_nil)) pa_nil))) (fun _ _ => rfl))), ?_⟩
    refine ⟨_, rfl, _, rfl, _, rfl, p, xs, rfl, .inl (SqL.of hl), b, l, _, rfl, hb, by omega, by omega, fun r H' r0 r1 bx => ?_⟩
    have hi : r.toNat < xs.length := by omega
    refine ⟨p, xs, r, xs[r.toNat], rfl, rfl, SqL.of (bx.2 _ _ hl n1 n2), at_of (j := r.toNat) (by omega) (List.getElem?_eq_getElem hi), q r.toNat _ H' (List.getElem?_eq_getElem hi) bx⟩
abbrev nDe : List Str := ["_law_script", "_law_cell", "_law_cells", "_law_blend"]
theorem scDe : FnScope nDe ["_law_script"] (defScope sDealt) := ⟨rfl, rfl, rfl, by decide +kernel, rfl, by decide +kernel, by decide +kernel⟩
theorem ok_dealt {f : Addr} {fd : FuncData} (D : Df K mg "_law_dealt" sDealt ["_law_script"] f fd) (B : Bt mg) : FnOk P w K mg base CX0 1 f fd ["_law_script"] (spDealt K) := by
  refine D.F.ok scDe (fun vs H Q E h => ?_) (fun cdv A outer s H vs Q E hr h => ?_)
  · obtain ⟨a, ns, rfl, _⟩ := h
    rfl
  · obtain ⟨a, ns, rfl, hS, hl, q⟩ := h
    refine ⟨_, pss_cons (ps_setLc (i := 2) (own := [("_law_cell", 1)]) (g := gName 1) (tt := tYes) rfl scDe.nd rfl rfl (sw_true rfl rfl rfl rfl) (pi_list (pe_slice sl_list (pv 0) po_none (po_some pe_int))) (blkOk_by (N := nDe) (sc := defScope sDealt) (by decide +kernel)) (fun _ _ _ _ _ => pg_name (i := 1) scDe.nd rfl (Or.inl rfl)) (fun _ _ _ _ _ => pts_nil)
          (fun _ _ _ _ _ => pe_callB call_abs (by rfl) B.abs (by decide +kernel) (pa_cons (pe_callTy call_int1 (by rfl) B.int PyProof.Rows.boot_int (pa_cons (pv 1) pa_nil)) pa_nil)))
      (pss_cons (ps_set (i := 3) scDe.nd rfl (.inl rfl) pe_int)
      (pss_cons (ps_for PassesOwn.never rfl (pi_list (pv 2)) (pg_name (i := 1) scDe.nd rfl (.inl rfl)) (pss_one (ps_set (i := 3) scDe.nd rfl (.inl rfl) (pe_op op_mod (pe_callTy call_int1 (by rfl) B.int PyProof.Rows.boot_int (pa_cons (pe_op op_add (pe_op op_add (pe_op op_mul (pv 3) pe_int) (pe_op op_mod (pv 1) pe_int)) pe_int) pa_nil)) pe_int))))
      (pss_one (ps_ret (pe_lst (pa_cons (pe_revL (pe_lc (own := [("_law_cell", 1)]) (g := gName 1) rfl scDe.nd (pi_list (pv 2)) (blkOk_by (N := nDe) (sc := defScope sDealt) (by decide +kernel)) (fun _ _ _ _ _ => pg_name (i := 1) scDe.nd rfl (Or.inl rfl)) (fun _ _ _ _ _ => pts_one (pt_cmpR op_ge (pv 1) (pe_op op_pow pe_int pe_int) (nomark _)))
          (fun _ _ _ _ _ => pv 1))) (pa_cons (pv 3) pa_nil))))))), ?_⟩
    refine ⟨_, rfl, 48, rfl, a, _, rfl, hS, fun p hp => ?_⟩
    obtain ⟨ms, em, hm⟩ := cut_ints ns none (some 48)
    have s1 := same_new (o := HO.lst (cutV (ns.map V.int) none (some 48))) hp
    have hp1 : (upd H p (.lst (cutV (ns.map V.int) none (some 48)))) p = some (.lst (vrow ms)) := by rw [upd_same, ← em]; rfl
    generalize upd H p (.lst (cutV (ns.map V.int) none (some 48))) = H1 at s1 hp1 ⊢
    refine ⟨p, rfl, ⟨_, SqL.of hp1⟩, fun D0 hD0 => lc_list (K := K) (a := p) (xs := vrow ms) (fun k H3 => Same H1 H3 ∧ ∃ cs : List Int, cs.length = k ∧ H3 D0 = some (.lst (vrow cs))) ⟨same_new hD0, [], rfl, upd_same⟩ (fun k H3 _ ⟨s3, _⟩ => SqL.of (s3 _ _ hp1)) ?_ ?_⟩
    · rintro k z H3 hz ⟨s3, cs, hk, hD3⟩
      obtain ⟨i, _, rfl⟩ : ∃ i, i ∈ ms ∧ V.int i = z := List.mem_map.mp (List.mem_of_getElem? hz)
      have hkl := (List.getElem?_eq_some_iff.mp hz).1
      rw [vrow, List.length_map] at hkl
      refine ⟨rfl, _, rfl, .inl ⟨_, rfl, _, rfl, _, hD3, by rw [vrow, List.length_map, sizeLine_eq]; omega, fun c o e => by rw [upd_ne (ne_of_none e hD0)]; exact s3 _ _ e, cs ++ [if i < 0 then -i else i], by rw [List.length_append, hk]; rfl, by rw [upd_same, vrow, vrow, List.map_append]; rfl⟩⟩
    · rintro H3 ⟨s3, cs, hk, hD3⟩
      rw [vrow, List.length_map] at hk
      have s13 := s1.trans s3
      refine ⟨_, rfl, D0, rfl, ⟨_, SqL.of hD3⟩, for_list (K := K) (a := D0) (xs := vrow cs) (fun k σ H' => ∃ (v1 : Option V) (z : Int), σ = [some (.ref a), v1, some (.ref D0), some (.int z)] ∧ H' = H3) ⟨_, _, rfl, rfl⟩ (fun k σ H' _ ⟨_, _, _, e⟩ => by rw [e]; exact SqL.of hD3) ?_ ?_⟩
      · rintro k x σ H' hx ⟨v1, z, rfl, rfl⟩
        obtain ⟨i, _, rfl⟩ : ∃ i, i ∈ cs ∧ V.int i = x := List.mem_map.mp (List.mem_of_getElem? hx)
        exact ⟨_, rfl, _, _, rfl, rfl, .inr ⟨by decide, by decide⟩, _, rfl, _, _, rfl, rfl, (by decide : (0 : Int) < 2147483629), _, _, rfl, rfl, _, _, rfl, rfl, .inl ⟨_, rfl, _, _, rfl, rfl, (by decide : (0 : Int) < 2147483647), _, _, rfl, rfl⟩⟩
      · rintro σ H' ⟨v1, z, rfl, rfl⟩
        refine ⟨_, rfl, D0, rfl, ⟨_, SqL.of hD3⟩, fun D1 hD1 => lc_list (K := K) (a := D0) (xs := vrow cs) (fun k H4 => Same H' H4 ∧ ∃ es : List Int, es.length ≤ k ∧ H4 D1 = some (.lst (vrow es))) ⟨same_new hD1, [], Nat.le_refl _, upd_same⟩ (fun k H4 _ ⟨s4, _⟩ => SqL.of (s4 _ _ hD3)) ?_ ?_⟩
        · rintro k x H4 hx ⟨s4, es, he, hD4⟩
          obtain ⟨i, _, rfl⟩ : ∃ i, i ∈ cs ∧ V.int i = x := List.mem_map.mp (List.mem_of_getElem? hx)
          have hkl := (List.getElem?_eq_some_iff.mp hx).1
          rw [vrow, List.length_map] at hkl
          refine ⟨rfl, _, rfl, _, _, rfl, rfl, ⟨by decide, by decide, by decide⟩, _, _, rfl, rfl, _, rfl, ifD (fun e => ?_) fun e => ?_⟩
          · exact ⟨_, rfl, _, hD4, by rw [vrow, List.length_map, sizeLine_eq]; omega, fun c o e => by rw [upd_ne (ne_of_none e hD1)]; exact s4 _ _ e, es ++ [i], by rw [List.length_append]; exact Nat.succ_le_succ he, by rw [upd_same, vrow, vrow, List.map_append]; rfl⟩
          · exact ⟨s4, es, Nat.le_succ_of_le he, hD4⟩
        · rintro H4 ⟨s4, es, he, hD4⟩
          rw [vrow, List.length_map] at he
          refine ⟨D1, _, rfl, SqL.of hD4, fun l hl4 => ⟨_, rfl, (by show 2 ≤ sizeLine; decide), fun b hb => ?_⟩⟩
          have s5 := (s13.trans s4).trans (same_new (o := HO.lst (vrow es).reverse) hl4)
          have nlb : l ≠ b := fun z => by rw [← z, upd_same] at hb; cases hb
          refine q b l _ (s5.trans (same_new hb)) (s5.free hb) ((s13.trans s4).free hl4) ⟨nlb, es.reverse, z, by rw [List.length_reverse]; omega, upd_same, ?_⟩
          rw [upd_ne nlb, upd_same, vrow, vrow, List.map_reverse]
end
end K1
namespace K1
open PySem PySem.Spec PyProof.Rows L2
/-- a list of lists -/
def LL (H : Hp) (p : Addr) (as : List Addr) (ts : Ts) : Prop := H p = some (.lst (as.map V.ref)) ∧ as.length = ts.length ∧ ∀ (i : Nat) a t, as[i]? = some a → ts[i]? = some t → H a = some (.lst (vrow t))
/-- a list of lists, apart from the source -/
def LLo (b l : Addr) (H : Hp) (p : Addr) (ts : Ts) : Prop := ∃ as, LL H p as ts ∧ p ≠ b ∧ p ≠ l ∧ ∀ a ∈ as, a ≠ b ∧ a ≠ l
theorem LL.same {H H' : Hp} {p : Addr} {as : List Addr} {ts : Ts} (h : LL H p as ts) (s : Same H H') : LL H' p as ts := ⟨s _ _ h.1, h.2.1, fun i a t e1 e2 => s _ _ (h.2.2 i a t e1 e2)⟩
theorem LLo.same {b l : Addr} {H H' : Hp} {p : Addr} {ts : Ts} (h : LLo b l H p ts) (s : Same H H') : LLo b l H' p ts := let ⟨as, h1, h2⟩ := h; ⟨as, h1.same s, h2⟩
theorem LLo.dl {b l : Addr} {H H' : Hp} {p : Addr} {ts : Ts} (h : LLo b l H p ts) (d : Dl b l H H') : LLo b l H' p ts :=
  let ⟨as, h1, h2, h3, h4⟩ := h
  ⟨as, ⟨d.2 _ _ h1.1 h2 h3, h1.2.1, fun i a t e1 e2 => d.2 _ _ (h1.2.2 i a t e1 e2) (h4 a (List.mem_of_getElem? e1)).1 (h4 a (List.mem_of_getElem? e1)).2⟩, h2, h3, h4⟩
def nats (n : Nat) : List Int := (List.range n).map fun i : Nat => (i : Int)
theorem rgV_nats (n : Nat) : rgV 0 (n : Int) = vrow (nats n) := by
  unfold rgV vrow nats
  rw [List.map_map, show (((n : Int) - 0).toNat) = n by omega]
  refine List.map_congr_left fun i _ => ?_
  show V.int (0 + (i : Int)) = V.int (i : Int)
  rw [Int.zero_add]
theorem nats_len (n : Nat) : (nats n).length = n := by rw [nats, List.length_map, List.length_range]
theorem mem_nats {n : Nat} {x : Int} : x ∈ nats n ↔ 0 ≤ x ∧ x < (n : Int) := by
  unfold nats
  rw [List.mem_map]
  constructor
  · rintro ⟨i, hi, rfl⟩
    have := List.mem_range.mp hi
    omega
  · rintro ⟨h0, h1⟩
    exact ⟨x.toNat, List.mem_range.mpr (by omega), by omega⟩
theorem nodup_nats (n : Nat) : (nats n).Nodup := by
  unfold nats
  exact List.pairwise_map.mpr (List.nodup_range.imp fun h e => h (Int.ofNat.inj e))
theorem erase_map {α β : Type} (f : α → β) : ∀ (l : List α) (i : Nat), (l.map f).eraseIdx i = (l.eraseIdx i).map f
  | [], _ => rfl
  | _ :: _, 0 => rfl
  | a :: l, i + 1 => congrArg (f a :: ·) (erase_map f l i)
theorem erase_perm {α : Type} : ∀ (l : List α) (i : Nat) (h : i < l.length), (l[i] :: l.eraseIdx i).Perm l
  | a :: l, 0, _ => List.Perm.refl _
  | a :: l, i + 1, h => (List.Perm.swap a (l[i]'(Nat.lt_of_succ_lt_succ h)) (l.eraseIdx i)).trans (.cons a (erase_perm l i (Nat.lt_of_succ_lt_succ h)))
theorem seqI {i n : Nat} (h : i < n) : seqIndex? (i : Int) n = some i := (ixN_seq (by unfold ixN; rw [if_pos (by omega), if_pos (by omega)]; simp)).1
theorem ixN_of {i n : Nat} (h : i < n) : ixN n (i : Int) = some i := by unfold ixN; rw [if_pos (by omega), if_pos (by omega)]; simp
/-- the states called otherwise: cs a way to call them -/
def Perm (n : Nat) (cs : List Int) : Prop := cs.Perm (nats n)
theorem Perm.len {n : Nat} {cs : List Int} (h : Perm n cs) : cs.length = n := h.length_eq.trans (nats_len n)
theorem Perm.nd {n : Nat} {cs : List Int} (h : Perm n cs) : cs.Nodup := h.nodup_iff.mpr (nodup_nats n)
theorem Perm.rng {n : Nat} {cs : List Int} (h : Perm n cs) {x : Int} (hx : x ∈ cs) : 0 ≤ x ∧ x < (n : Int) := mem_nats.mp (h.mem_iff.mp hx)
/-- the table t under other names, ahead of k -/
def RowTo (n : Nat) (cs t u : List Int) (k : Nat) : Prop := u.length = n ∧ ∀ s : Nat, s < k → u[(cs.getD s 0).toNat]? = some (cs.getD (t.getD s 0).toNat 0)
structure Turned (n : Nat) (cs : List Int) (ts us : Ts) : Prop where
  len : us.length = ts.length
  row : ∀ (i : Nat) t u, ts[i]? = some t → us[i]? = some u → RowTo n cs t u n
theorem getD_at {l : List Int} {i : Nat} (h : i < l.length) : l[i]? = some (l.getD i 0) := by
  rw [List.getD_eq_getElem?_getD, List.getElem?_eq_getElem h]; rfl
theorem row_step {n k : Nat} {cs t u : List Int} (hp : Perm n cs) (hk : k < n) (h : RowTo n cs t u k) : RowTo n cs t (u.set (cs.getD k 0).toNat (cs.getD (t.getD k 0).toNat 0)) (k + 1) := by
  have hl := hp.len
  refine ⟨by rw [List.length_set]; exact h.1, fun s hs => ?_⟩
  have hks := hp.rng (List.mem_of_getElem? (getD_at (l := cs) (i := k) (by omega)))
  by_cases z : s = k
  · subst z
    rw [List.getElem?_set_self (by rw [h.1]; omega)]
  · have hss := hp.rng (List.mem_of_getElem? (getD_at (l := cs) (i := s) (by omega)))
    rw [List.getElem?_set_ne, h.2 s (by omega)]
    intro e
    have e2 : cs.getD k 0 = cs.getD s 0 := by omega
    have a1 := getD_at (l := cs) (i := k) (by omega)
    have a2 := getD_at (l := cs) (i := s) (by omega)
    rw [List.getElem?_eq_getElem (by omega)] at a1 a2
    exact List.pairwise_iff_getElem.mp hp.nd s k (by omega) (by omega) (by omega) (by rw [Option.some.inj a1, Option.some.inj a2, e2])
def spTurned : Sp := fun vs H Q _ => ∃ (b l p : Addr) (n : Nat) (ts : Ts), vs = [.ref b, .ref p, .int (n : Int)] ∧ DealO H b l ∧ LLo b l H p ts ∧ 1 ≤ n ∧ n ≤ 12 ∧ ts.length ≤ 8 ∧ (∀ t ∈ ts, t.length = n ∧ ∀ x ∈ t, 0 ≤ x ∧ x < (n : Int)) ∧
  ∀ (q f c : Addr) (cs : List Int) (us : Ts) (H' : Hp), Dl b l H H' → H' q = some (.tup [.ref f, .ref c]) → H' c = some (.lst (vrow cs)) → c ≠ b → c ≠ l → LLo b l H' f us → Perm n cs → Turned n cs ts us → Q (.ref q) H'
end K1
namespace K1
open PySem PySem.Spec PyProof.Rows L2
theorem flat_rep {α : Type} (x : α) : ∀ n : Nat, (List.replicate n [x]).flatten = List.replicate n x
  | 0 => rfl
  | n + 1 => by rw [List.replicate_succ, List.flatten_cons, flat_rep x n]; rfl
theorem rep_by {Q : VK} {H : Hp} {l : Addr} {x : V} (k : Nat) (h : H l = some (.lst [x])) (hk : k ≤ 100000) (q : ∀ p, H p = none → Q (.ref p) (upd H p (.lst (List.replicate k x)))) : rRep (.ref l) (.int (k : Int)) H Q :=
  ⟨l, k, [x], rfl, rfl, h, by omega, by omega, by rw [sizeLine_eq]; show 1 * (k : Int).toNat ≤ _; omega, fun p hp => by rw [flat_rep]; exact q p hp⟩
section
variable {P : Program} {w : World} {K : PySem.W.Frag} {mg : Str → Option Value} {base : Heap}
abbrev nTu : List Str := ["_law_deal", "_law_tables", "_law_many", "_law_pool", "_law_called", "_law_turn", "_law_found", "_law_table", "_law_row", "_law_state"]
theorem scTu : FnScope nTu ["_law_deal", "_law_tables", "_law_many"] (defScope sTurned) := ⟨rfl, rfl, rfl, by decide +kernel, rfl, by decide +kernel, by decide +kernel⟩
theorem ok_turned {f fT : Addr} {fd fdT : FuncData} (D : Df K mg "_law_turned" sTurned ["_law_deal", "_law_tables", "_law_many"] f fd) (DT : Df K mg "_law_any" sAny ["_law_deal", "_law_bound"] fT fdT) (B : Bt mg) (GT : FnOk P w K mg base CX0 1 fT fdT ["_law_deal", "_law_bound"] spAny) :
    FnOk P w K mg base CX0 2 f fd ["_law_deal", "_law_tables", "_law_many"] spTurned := by
  refine D.F.ok scTu (fun vs H Q E h => ?_) (fun cdv A outer s H vs Q E hr h => ?_)
  · obtain ⟨b, l, p, n, ts, rfl, _⟩ := h
    rfl
  · obtain ⟨b, l, p, n, ts, rfl, hb, hL, n1, n12, l8, hrow, q⟩ := h
    refine ⟨_, pss_cons (ps_par (i := 3) (j := 4) rfl scTu.nd rfl rfl (by decide) rfl rfl (pa_cons (pe_listRg rfl (by rfl) B.list (prg_1 (by rfl) B.range (pv 2))) (pa_cons (pe_lst pa_nil) pa_nil)) rfl)
      (pss_cons (ps_for PassesOwn.never rfl (pi_range1 (by rfl) B.range (pa_cons (pv 2) pa_nil)) (pg_name (i := 5) scTu.nd rfl (.inl rfl))
        (pss_one (ps_expr (pe_bm PySem.F.plainAttrs_list PySem.F.slot_list_append PySem.F.type_list_append mt_append (pv 4) (pa_cons (pe_bm PySem.F.plainAttrs_list PySem.F.slot_list_pop PySem.F.type_list_pop mt_popAt (pv 3) (pa_cons (pc DT GT hr pass0 (pa_cons (pv 0) (pa_cons (pe_callB call_len_seq (by rfl) B.len PySem.boot_len (pa_cons (pv 3) pa_nil)) pa_nil))) pa_nil)) pa_nil)))))
      (pss_cons (ps_set (i := 6) scTu.nd rfl (.inl rfl) (pe_lst pa_nil))
      (pss_cons (ps_for PassesOwn.never rfl (pi_list (pv 1)) (pg_name (i := 7) scTu.nd rfl (.inl rfl))
        (pss_cons (ps_set (i := 8) scTu.nd rfl (.inl rfl) (pe_op op_rep (pe_lst (pa_cons pe_int pa_nil)) (pv 2)))
        (pss_cons (ps_for PassesOwn.never rfl (pi_range1 (by rfl) B.range (pa_cons (pv 2) pa_nil)) (pg_name (i := 9) scTu.nd rfl (.inl rfl))
          (pss_one (ps_asg (pe_ix ix_list (pv 4) (pe_ix ix_list (pv 7) (pv 9) (fun _ _ => rfl)) (fun _ _ => rfl)) (pg_sub (pv 8) (pe_ix ix_list (pv 4) (pv 9) (fun _ _ => rfl)) set_list))))
        (pss_one (ps_expr (pe_bm PySem.F.plainAttrs_list PySem.F.slot_list_append PySem.F.type_list_append mt_append (pv 6) (pa_cons (pv 8) pa_nil)))))))
      (pss_one (ps_ret (pe_tup (pa_cons (pv 6) (pa_cons (pv 4) pa_nil)))))))), ?_⟩
    refine ⟨_, rfl, _, rfl, RgOk.of_le (by omega) (by omega) (by omega) (by omega), fun pl hpl => ⟨(by show 0 ≤ sizeLine; decide), fun c hc => ⟨_, _, rfl, ?_⟩⟩⟩
    have s0 := (same_new (o := HO.lst (rgV 0 (n : Int))) hpl).trans (same_new (o := HO.lst []) hc)
    have ncp : c ≠ pl := fun z => by rw [z, upd_same] at hc; cases hc
    have hc0 : H c = none := (same_new (o := HO.lst (rgV 0 (n : Int))) hpl).free hc
    have h1 : (upd (upd H pl (.lst (rgV 0 (n : Int)))) c (.lst [])) pl = some (.lst (vrow (nats n))) := by rw [upd_ne ncp.symm, upd_same, rgV_nats]
    have h2 : (upd (upd H pl (.lst (rgV 0 (n : Int)))) c (.lst [])) c = some (.lst []) := upd_same
    generalize upd (upd H pl (.lst (rgV 0 (n : Int)))) c (.lst []) = H1 at s0 h1 h2 ⊢
    have npb := hb.nb hpl
    have npl := hb.nl hpl
    have ncb := hb.nb hc0
    have ncl := hb.nl hc0
    refine ⟨_, rfl, (n : Int), rfl, by omega, by omega, for_range (fun k σ H' => ∃ (v5 : Option V) (left dn : List Int), σ = [some (.ref b), some (.ref p), some (.int (n : Int)), some (.ref pl), some (.ref c), v5, none, none, none, none] ∧ Dl b l H H' ∧ H' pl = some (.lst (vrow left)) ∧ H' c = some (.lst (vrow dn)) ∧ left.length + k = n ∧ (left ++ dn).Perm (nats n))
      ⟨none, nats n, [], rfl, (Dl.refl hb).same s0, h1, h2, nats_len n, by rw [List.append_nil]⟩ ?_ ?_⟩
    · rintro k σ H' hk ⟨v5, left, dn, rfl, dl, k3, k4, hn, pm⟩
      have h0l : 0 < left.length := by omega
      refine ⟨_, rfl, .inl ⟨rfl, _, SqL.of k4⟩, _, rfl, .inl ⟨rfl, _, SqL.of k3⟩, ?_⟩
      refine ⟨_, rfl, _, rfl, pl, _, rfl, .inl (SqL.of k3), b, l, _, rfl, dl.1, by rw [vrow, List.length_map]; omega, by rw [vrow, List.length_map]; omega, fun r H5 z0 z1 dl5 => ?_⟩
      rw [vrow, List.length_map] at z1
      have hk2 : r.toNat < left.length := by omega
      have ek : (r.toNat : Int) = r := by omega
      have at5 : (vrow left)[r.toNat]? = some (.int left[r.toNat]) := by rw [vrow, List.getElem?_map, List.getElem?_eq_getElem hk2]; rfl
      refine ⟨pl, vrow left, r, r.toNat, _, rfl, rfl, dl5.2 _ _ k3 npb npl, by omega, by omega, by rw [vrow, List.length_map, ← ek]; exact seqI hk2, at5, ?_⟩
      have k45 : upd H5 pl (.lst ((vrow left).eraseIdx r.toNat)) c = some (.lst (vrow dn)) := by rw [upd_ne ncp]; exact dl5.2 _ _ k4 ncb ncl
      have hpm := (pm.length_eq : (left ++ dn).length = (nats n).length)
      rw [List.length_append, nats_len] at hpm
      refine ⟨c, _, _, rfl, rfl, k45, by rw [vrow, List.length_map, sizeLine_eq]; omega, _, left.eraseIdx r.toNat, dn ++ [left[r.toNat]], rfl, ?_, ?_, ?_, ?_, ?_⟩
      · refine ⟨?_, fun d o e m1 m2 => ?_⟩
        · obtain ⟨q0, ns, z, q1, q2, q3⟩ := dl5.1
          exact ⟨q0, ns, z, q1, by rw [upd_ne (Ne.symm ncb), upd_ne (Ne.symm npb)]; exact q2, by rw [upd_ne (Ne.symm ncl), upd_ne (Ne.symm npl)]; exact q3⟩
        · rw [upd_ne (ne_of_none e hc0), upd_ne (ne_of_none e hpl)]
          exact (dl.trans dl5).2 d o e m1 m2
      · rw [upd_ne ncp.symm, upd_same, vrow, vrow, erase_map]
      · rw [upd_same, vrow, vrow, List.map_append]; rfl
      · rw [List.length_eraseIdx_of_lt hk2]; omega
      · rw [← List.append_assoc]
        exact (List.perm_append_singleton _ _).trans (((erase_perm left r.toNat hk2).append_right dn).trans pm)
    · rintro σ H' ⟨v5, left, dn, rfl, dl, k3, k4, hn, pm⟩
      obtain rfl : left = [] := List.eq_nil_of_length_eq_zero (by omega)
      rw [List.nil_append] at pm
      have hP : Perm n dn := pm
      have hcl := hP.len
      refine ⟨(by show 0 ≤ sizeLine; decide), fun fl hfl => ?_⟩
      obtain ⟨as, hL1, npb2, npl2, hL4⟩ := hL.dl dl
      have npf : p ≠ fl := ne_of_none hL1.1 hfl
      have naf : ∀ (i : Nat) a t, as[i]? = some a → ts[i]? = some t → a ≠ fl := fun i a t e1 e2 => ne_of_none (hL1.2.2 i a t e1 e2) hfl
      have sF := same_new (o := HO.lst []) hfl
      have dl2 := dl.same sF
      have hLL := hL1.same sF
      have k4' := sF _ _ k4
      have hf0 : (upd H' fl (.lst [])) fl = some (.lst []) := upd_same
      have nfb := dl.1.nb hfl
      have nfl := dl.1.nl hfl
      have ncf : c ≠ fl := ne_of_none k4 hfl
      generalize upd H' fl (.lst []) = H2 at sF dl2 hLL k4' hf0 ⊢
      refine ⟨_, rfl, p, rfl, ⟨_, SqL.of hLL.1⟩, for_list (K := K) (a := p) (xs := as.map V.ref) (fun i σ H3 => ∃ (v5 v7 v8 v9 : Option V) (rs : List Addr) (us : Ts), σ = [some (.ref b), some (.ref p), some (.int (n : Int)), some (.ref pl), some (.ref c), v5, some (.ref fl), v7, v8, v9] ∧ (∀ c o, H2 c = some o → c ≠ fl → H3 c = some o) ∧ H3 fl = some (.lst (rs.map V.ref)) ∧
        rs.length = i ∧ us.length = i ∧ (∀ a ∈ rs, H2 a = none ∧ a ≠ fl) ∧ (∀ (j : Nat) a u, rs[j]? = some a → us[j]? = some u → H3 a = some (.lst (vrow u))) ∧ ∀ (j : Nat) t u, ts[j]? = some t → us[j]? = some u → RowTo n dn t u n)
        ⟨_, _, _, _, [], [], rfl, fun _ _ e _ => e, hf0, rfl, rfl, fun a ha => (by cases ha), fun j a u e => (by cases e), fun j t u _ e => (by cases e)⟩ (fun i σ H3 _ ⟨_, _, _, _, _, _, _, kp, _⟩ => SqL.of (kp _ _ hLL.1 npf)) ?_ ?_⟩
      · rintro i x σ H3 hx ⟨v5', v7, v8, v9, rs, us, rfl, kp, kf, lr, lu, fr, ru, tu⟩
        have hi : i < ts.length := by
          have := (List.getElem?_eq_some_iff.mp hx).1
          rw [List.length_map, hLL.2.1] at this
          exact this
        obtain ⟨a, ha, rfl⟩ : ∃ a, as[i]? = some a ∧ x = V.ref a := by
          rw [List.getElem?_map] at hx
          cases e : as[i]? with
          | none => rw [e] at hx; cases hx
          | some z => rw [e] at hx; exact ⟨z, rfl, (Option.some.inj hx).symm⟩
        obtain ⟨t, ht⟩ : ∃ t, ts[i]? = some t := ⟨ts[i], List.getElem?_eq_getElem hi⟩
        obtain ⟨htl, htr⟩ := hrow t (List.mem_of_getElem? ht)
        have hat3 := kp _ _ (hLL.2.2 i a t ha ht) (naf i a t ha ht)
        refine ⟨(by show 1 ≤ sizeLine; decide), fun l1 hl1 => ⟨_, rfl, rep_by n upd_same (by omega) fun r hr => ?_⟩⟩
        have s34 := (same_new (o := HO.lst [V.int 0]) hl1).trans (same_new (o := HO.lst (List.replicate n (V.int 0))) hr)
        have hr3 : H3 r = none := (same_new (o := HO.lst [V.int 0]) hl1).free hr
        have hr4 : (upd (upd H3 l1 (.lst [V.int 0])) r (.lst (List.replicate n (V.int 0)))) r = some (.lst (vrow (List.replicate n 0))) := by rw [upd_same, vrow, List.map_replicate]
        generalize upd (upd H3 l1 (.lst [V.int 0])) r (.lst (List.replicate n (V.int 0))) = H4 at s34 hr4 ⊢
        have hr2 : H2 r = none := by
          cases e : H2 r with
          | none => rfl
          | some o =>
            by_cases z : r = fl
            · rw [z, kf] at hr3; cases hr3
            · rw [kp _ _ e z] at hr3; cases hr3
        have nrf : r ≠ fl := fun z => by rw [z, kf] at hr3; cases hr3
        have nra : a ≠ r := ne_of_none hat3 hr3
        have hc3 := kp _ _ k4' ncf
        have nrc : c ≠ r := ne_of_none hc3 hr3
        refine ⟨_, rfl, (n : Int), rfl, by omega, by omega, for_range (fun k σ H5 => ∃ (v9 : Option V) (u : List Int), σ = [some (.ref b), some (.ref p), some (.int (n : Int)), some (.ref pl), some (.ref c), v5', some (.ref fl), some (.ref a), some (.ref r), v9] ∧ (∀ c o, H4 c = some o → c ≠ r → H5 c = some o) ∧ H5 r = some (.lst (vrow u)) ∧ RowTo n dn t u k)
          ⟨_, List.replicate n 0, rfl, fun _ _ e _ => e, hr4, List.length_replicate, fun s hs => absurd hs (Nat.not_lt_zero _)⟩ ?_ ?_⟩
        · rintro k σ H5 hk ⟨v9', u, rfl, kp5, ku, rt⟩
          have hkn : k < n := by simpa using hk
          have e0 : (0 : Int) + (k : Int) = (k : Int) := Int.zero_add _
          rw [e0]
          have hat5 := kp5 _ _ (s34 _ _ hat3) nra
          have hc5 := kp5 _ _ (s34 _ _ hc3) nrc
          have vat : ∀ (w : List Int) (i : Nat), i < w.length → (vrow w)[i]? = some (.int (w.getD i 0)) := fun w i hw => by rw [vrow, List.getElem?_map, getD_at hw]; rfl
          have htk := htr _ (List.mem_of_getElem? (getD_at (l := t) (i := k) (by omega)))
          have hck := hP.rng (List.mem_of_getElem? (getD_at (l := dn) (i := k) (by omega)))
          refine ⟨_, rfl, _, rfl, _, rfl, a, _, _, _, rfl, rfl, SqL.of hat5, at_of (j := k) (by omega) (vat t k (by omega)), c, _, _, _, rfl, rfl, SqL.of hc5, at_of (j := (t.getD k 0).toNat) (by omega) (vat dn _ (by omega)), ?_⟩
          refine ⟨_, rfl, _, rfl, _, rfl, c, _, _, _, rfl, rfl, SqL.of hc5, at_of (j := k) (by omega) (vat dn k (by omega)), r, _, _, (dn.getD k 0).toNat, rfl, rfl, ku, ?_, ?_⟩
          · have z := ixN_of (n := (vrow u).length) (i := (dn.getD k 0).toNat) (by rw [vrow, List.length_map, rt.1]; omega)
            rw [Int.toNat_of_nonneg hck.1] at z
            exact z
          · exact ⟨_, _, rfl, fun c o e m => by rw [upd_ne m]; exact kp5 c o e m, by rw [upd_same, vrow, vrow, List.map_set], row_step hP hkn rt⟩
        · rintro σ H5 ⟨v9', u, rfl, kp5, ku, rt⟩
          have hf5 := kp5 _ _ (s34 _ _ kf) (Ne.symm nrf)
          refine ⟨_, rfl, .inl ⟨rfl, _, SqL.of hf5⟩, _, rfl, fl, _, _, rfl, rfl, hf5, by rw [List.length_map, sizeLine_eq]; omega, v5', _, _, _, rs ++ [r], us ++ [u], rfl, ?_, ?_, ?_, ?_, ?_, ?_, ?_⟩
          · intro c o e m
            rw [upd_ne m]
            exact kp5 _ _ (s34 _ _ (kp c o e m)) (ne_of_none e hr2)
          · rw [upd_same, List.map_append]; rfl
          · rw [List.length_append, lr]; rfl
          · rw [List.length_append, lu]; rfl
          · intro d hd
            rcases List.mem_append.mp hd with h | h
            · exact fr d h
            · rw [List.mem_singleton.mp h]; exact ⟨hr2, nrf⟩
          · intro j d w e1 e2
            by_cases z : j < i
            · rw [List.getElem?_append_left (by omega)] at e1 e2
              have m := (fr d (List.mem_of_getElem? e1)).2
              have g3 := ru j d w e1 e2
              rw [upd_ne m]
              exact kp5 _ _ (s34 _ _ g3) (ne_of_none g3 hr3)
            · rw [List.getElem?_append_right (by omega)] at e1 e2
              have : j - rs.length = 0 := by
                have := (List.getElem?_eq_some_iff.mp e1).1
                simp only [List.length_cons, List.length_nil] at this
                omega
              rw [this] at e1
              rw [show j - us.length = 0 by omega] at e2
              obtain rfl : r = d := Option.some.inj e1
              obtain rfl : u = w := Option.some.inj e2
              rw [upd_ne nrf]
              exact ku
          · intro j t' w e1 e2
            by_cases z : j < i
            · rw [List.getElem?_append_left (by omega)] at e2
              exact tu j t' w e1 e2
            · rw [List.getElem?_append_right (by omega)] at e2
              have : j - us.length = 0 := by
                have := (List.getElem?_eq_some_iff.mp e2).1
                simp only [List.length_cons, List.length_nil] at this
                omega
              rw [this] at e2
              obtain rfl : u = w := Option.some.inj e2
              obtain rfl : j = i := by omega
              rw [ht] at e1
              obtain rfl := Option.some.inj e1
              simpa using rt
      · rintro σ H3 ⟨v5', v7, v8, v9, rs, us, rfl, kp, kf, lr, lu, fr, ru, tu⟩
        refine ⟨_, rfl, _, rfl, (by show 2 ≤ sizeLine; decide), fun q0 hq0 => ?_⟩
        have sQ := same_new (o := HO.tup [V.ref fl, V.ref c]) hq0
        rw [List.length_map, hLL.2.1] at lr lu
        refine q q0 fl c dn us _ ?_ upd_same (sQ _ _ (kp _ _ k4' ncf)) ncb ncl ⟨rs, ⟨sQ _ _ kf, by rw [lr, lu], fun j a u e1 e2 => sQ _ _ (ru j a u e1 e2)⟩, nfb, nfl, fun a ha => ⟨dl2.1.nb (fr a ha).1, dl2.1.nl (fr a ha).1⟩⟩ hP ⟨lu, tu⟩
        refine ⟨?_, fun d o e m1 m2 => sQ _ _ (kp d o (sF _ _ (dl.2 d o e m1 m2)) (ne_of_none (dl.2 d o e m1 m2) hfl))⟩
        obtain ⟨w0, ns, z, w1, w2, w3⟩ := dl2.1
        exact ⟨w0, ns, z, w1, sQ _ _ (kp _ _ w2 (Ne.symm nfb)), sQ _ _ (kp _ _ w3 (Ne.symm nfl))⟩
end
end K1
namespace K1
open PySem PySem.Spec PyProof.Rows L2
/-! ### lines that come round, two side by side -/
def nx (m b h : Nat) : Nat := if h + 1 < m then h + 1 else b
def it (m b : Nat) : Nat → Nat → Nat
  | 0, h => h
  | k + 1, h => nx m b (it m b k h)
theorem nx_lt {m b h : Nat} (hb : b < m) : nx m b h < m := by
  unfold nx
  split <;> omega
theorem it_lt {m b : Nat} (hb : b < m) : ∀ k h, h < m → it m b k h < m
  | 0, _, h => h
  | k + 1, _, _ => nx_lt hb
theorem it_add (m b : Nat) (j h : Nat) : ∀ k, it m b (j + k) h = it m b k (it m b j h)
  | 0 => rfl
  | k + 1 => by show nx m b (it m b (j + k) h) = nx m b (it m b k (it m b j h)); rw [it_add m b j h k]
theorem it_comm (m b j k h : Nat) : it m b k (it m b j h) = it m b j (it m b k h) := by rw [← it_add, ← it_add, Nat.add_comm]
def co (m n b c k j s : Nat) : Nat := it m b k (s / n) * n + it n c j (s % n)
theorem co_div {m n b c k j s : Nat} (hn : 0 < n) (hc : c < n) : co m n b c k j s / n = it m b k (s / n) ∧ co m n b c k j s % n = it n c j (s % n) := by
  have h := it_lt hc j (s % n) (Nat.mod_lt _ hn)
  unfold co
  rw [Nat.mul_comm]
  exact ⟨by rw [Nat.mul_add_div hn, Nat.div_eq_of_lt h, Nat.add_zero], by rw [Nat.mul_add_mod, Nat.mod_eq_of_lt h]⟩
theorem co_lt {m n b c k j s : Nat} (hn : 0 < n) (hb : b < m) (hc : c < n) (hs : s < m * n) : co m n b c k j s < m * n := by
  have h1 := it_lt hc j (s % n) (Nat.mod_lt _ hn)
  have h2 := it_lt hb k (s / n) (Nat.div_lt_of_lt_mul (by rw [Nat.mul_comm]; exact hs))
  unfold co
  have : (it m b k (s / n) + 1) * n ≤ m * n := Nat.mul_le_mul_right n h2
  rw [Nat.succ_mul] at this
  omega
theorem co_comm {m n b c k j k' j' s : Nat} (hn : 0 < n) (hc : c < n) : co m n b c k j (co m n b c k' j' s) = co m n b c k' j' (co m n b c k j s) := by
  obtain ⟨a1, a2⟩ := co_div (m := m) (b := b) (k := k') (j := j') (s := s) hn hc
  obtain ⟨b1, b2⟩ := co_div (m := m) (b := b) (k := k) (j := j) (s := s) hn hc
  show it m b k (co m n b c k' j' s / n) * n + it n c j (co m n b c k' j' s % n) = it m b k' (co m n b c k j s / n) * n + it n c j' (co m n b c k j s % n)
  rw [a1, a2, b1, b2, it_comm m b k' k, it_comm n c j' j]
/-- a table of such steps, some more states behind -/
def ProdT (m n b c many : Nat) (t : List Int) : Prop := t.length = many ∧ (∀ x ∈ t, 0 ≤ x ∧ x < (many : Int)) ∧ ∃ k j, ∀ s : Nat, s < m * n → t.getD s 0 = (co m n b c k j s : Int)
structure Prod (m n b c many : Nat) (ts : Ts) : Prop where
  n0 : 0 < n
  hb : b < m
  hc : c < n
  le : m * n ≤ many
  t : ∀ t ∈ ts, ProdT m n b c many t
theorem turned_row {n : Nat} {cs t u : List Int} (hp : Perm n cs) (h : RowTo n cs t u n) (ht : ∀ x ∈ t, 0 ≤ x ∧ x < (n : Int)) (hl : t.length = n) : u.length = n ∧ ∀ x ∈ u, 0 ≤ x ∧ x < (n : Int) := by
  refine ⟨h.1, fun x hx => ?_⟩
  obtain ⟨i, hi, ei⟩ := List.mem_iff_getElem.mp hx
  have hin : (i : Int) ∈ cs := hp.mem_iff.mpr (mem_nats.mpr ⟨by omega, by rw [h.1] at hi; omega⟩)
  obtain ⟨s, hs, es⟩ := List.mem_iff_getElem.mp hin
  have hcl := hp.len
  have e1 : cs.getD s 0 = (i : Int) := by
    have := getD_at (l := cs) (i := s) hs
    rw [List.getElem?_eq_getElem hs, es] at this
    exact (Option.some.inj this).symm
  have e2 := h.2 s (by omega)
  rw [e1, Int.toNat_natCast, List.getElem?_eq_getElem hi, ei] at e2
  have hts := ht _ (List.mem_of_getElem? (getD_at (l := t) (i := s) (by omega)))
  rw [Option.some.inj e2]
  exact hp.rng (List.mem_of_getElem? (getD_at (l := cs) (i := (t.getD s 0).toNat) (by omega)))
section
variable {m n b c many : Nat} {cs : List Int} {ts us : Ts}
theorem prod_wf (hP : Prod m n b c many ts) (hc : Perm many cs) (h : Turned many cs ts us) (h1 : 1 ≤ ts.length) (h8 : ts.length ≤ 8) (m1 : 1 ≤ many) (m12 : many ≤ 12) : Wf us ∧ nS us = many := by
  have row : ∀ u ∈ us, u.length = many ∧ ∀ x ∈ u, 0 ≤ x ∧ x < (many : Int) := fun u hu => by
    obtain ⟨i, hi, ei⟩ := List.mem_iff_getElem.mp hu
    have hit : i < ts.length := by rw [← h.len]; exact hi
    obtain ⟨t1, t2, _⟩ := hP.t _ (List.getElem_mem hit)
    exact turned_row hc (h.row i _ u (List.getElem?_eq_getElem hit) (by rw [List.getElem?_eq_getElem hi, ei])) t2 t1
  have hl := h.len
  have e0 : us[0]? = some us[0] := List.getElem?_eq_getElem (by omega)
  have eS : nS us = many := by
    unfold nS
    rw [e0]
    exact (row _ (List.getElem_mem _)).1
  exact ⟨⟨by omega, by omega, by omega, by omega, fun u hu => by rw [eS]; exact row u hu⟩, eS⟩
theorem stp_cs (hP : Prod m n b c many ts) (hc : Perm many cs) (h : Turned many cs ts us) {d : Int} (hd : In8 us d) : ∃ k j, ∀ s : Nat, s < m * n → stp us (cs.getD s 0) d = cs.getD (co m n b c k j s) 0 := by
  have hdl : d.toNat < us.length := by have := hd.2; have := hd.1; omega
  have hdt : d.toNat < ts.length := by rw [← h.len]; exact hdl
  obtain ⟨t1, t2, k, j, t3⟩ := hP.t _ (List.getElem_mem hdt)
  have R := h.row d.toNat _ _ (List.getElem?_eq_getElem hdt) (List.getElem?_eq_getElem hdl)
  refine ⟨k, j, fun s hs => ?_⟩
  have hle := hP.le
  have e := R.2 s (by omega)
  unfold stp
  rw [List.getElem?_eq_getElem hdl]
  show ((us[d.toNat])[(cs.getD s 0).toNat]?).getD 0 = _
  rw [e, t3 s hs, Int.toNat_natCast]; rfl
theorem reach_cs (hP : Prod m n b c many ts) (hc : Perm many cs) (h : Turned many cs ts us) {s0 : Nat} (h0 : s0 < m * n) {x : Int} (hx : Reach us (cs.getD s0 0) x) : ∃ s, s < m * n ∧ x = cs.getD s 0 := by
  induction hx with
  | refl => exact ⟨s0, h0, rfl⟩
  | step _ h1 ih =>
    obtain ⟨s, hs, rfl⟩ := ih
    obtain ⟨k, j, e⟩ := stp_cs hP hc h h1
    exact ⟨_, co_lt hP.n0 hP.hb hP.hc hs, e s hs⟩
theorem prod_comm (hP : Prod m n b c many ts) (hc : Perm many cs) (h : Turned many cs ts us) {s0 : Nat} (h0 : s0 < m * n) : ∀ x, Reach us (cs.getD s0 0) x → ∀ d e, In8 us d → In8 us e → ¬ Bad us x d e := fun x hx d e hd he hb => by
  obtain ⟨s, hs, rfl⟩ := reach_cs hP hc h h0 hx
  obtain ⟨k, j, e1⟩ := stp_cs hP hc h hd
  obtain ⟨k', j', e2⟩ := stp_cs hP hc h he
  refine hb ?_
  rw [e1 s hs, e2 s hs, e2 _ (co_lt hP.n0 hP.hb hP.hc hs), e1 _ (co_lt hP.n0 hP.hb hP.hc hs), co_comm hP.n0 hP.hc]
end
end K1
namespace K1
open PySem PySem.Spec PyProof.Rows L2
def spMach : Sp := fun vs H Q _ => ∃ (b l : Addr), vs = [.ref b] ∧ DealO H b l ∧ ∀ (q p : Addr) (first : Int) (us : Ts) (H' : Hp), Dl b l H H' → H' q = some (.tup [.ref p, .int first]) → LLo b l H' p us → Wf us → us.length ≤ 3 → (0 ≤ first ∧ first < (nS us : Int)) →
  (∀ x, Reach us first x → ∀ d e, In8 us d → In8 us e → ¬ Bad us x d e) → Q (.ref q) H'
/-- the first states of a table in the making -/
def coL (m n b c k j : Nat) (s : Nat) : List Int := (List.range s).map fun i => ((co m n b c k j i : Nat) : Int)
theorem coL_succ (m n b c k j s : Nat) : coL m n b c k j (s + 1) = coL m n b c k j s ++ [((co m n b c k j s : Nat) : Int)] := by
  unfold coL
  rw [List.range_succ, List.map_append]; rfl
theorem coL_len (m n b c k j s : Nat) : (coL m n b c k j s).length = s := by unfold coL; rw [List.length_map, List.length_range]
theorem coL_prod {m n b c k j many : Nat} {xs : List Int} (hn : 0 < n) (hb : b < m) (hc : c < n) (hl : m * n + xs.length = many) (hx : ∀ x ∈ xs, 0 ≤ x ∧ x < (many : Int)) : ProdT m n b c many (coL m n b c k j (m * n) ++ xs) := by
  refine ⟨by rw [List.length_append, coL_len]; exact hl, fun x h => ?_, k, j, fun s hs => ?_⟩
  · rcases List.mem_append.mp h with h | h
    · obtain ⟨i, hi, rfl⟩ := List.mem_map.mp h
      have := co_lt (k := k) (j := j) hn hb hc (List.mem_range.mp hi)
      omega
    · exact hx x h
  · rw [List.getD_eq_getElem?_getD, List.getElem?_append_left (by rw [coL_len]; exact hs)]
    unfold coL
    rw [List.getElem?_map, List.getElem?_range hs]; rfl
theorem gn {i : Nat} {x : V} {σ : L2.St} {H : Hp} {Q : L2.St → Hp → Prop} (h : Q (σ.set i (some x)) H) : gName i x σ H Q := h
theorem Dl.put {b l D : Addr} {H H1 : Hp} {o : HO} (a : Dl b l H H1) (hD : H D = none) (n1 : D ≠ b) (n2 : D ≠ l) : Dl b l H (upd H1 D o) := ⟨by
  obtain ⟨w0, ns, z, w1, w2, w3⟩ := a.1
  exact ⟨w0, ns, z, w1, by rw [upd_ne n1.symm]; exact w2, by rw [upd_ne n2.symm]; exact w3⟩, fun c o e m1 m2 => by rw [upd_ne (ne_of_none e hD)]; exact a.2 c o e m1 m2⟩
structure MkT (b l lb TL : Addr) (m n bb cc many : Nat) (H H' : Hp) (as : List Addr) (ts : Ts) : Prop where
  dl : Dl b l H H'
  lb : H' lb = some (.lst [V.int (bb : Int), V.int (cc : Int)])
  ll : LL H' TL as ts
  off : ∀ a ∈ as, a ≠ b ∧ a ≠ l ∧ a ≠ TL
  pr : ∀ t ∈ ts, ProdT m n bb cc many t
section
variable {b l lb TL : Addr} {m n bb cc many : Nat} {H H1 H2 : Hp} {as : List Addr} {ts : Ts}
theorem MkT.same (M : MkT b l lb TL m n bb cc many H H1 as ts) (s : Same H1 H2) : MkT b l lb TL m n bb cc many H H2 as ts := ⟨M.dl.same s, s _ _ M.lb, M.ll.same s, M.off, M.pr⟩
theorem MkT.dls (M : MkT b l lb TL m n bb cc many H H1 as ts) (n1 : lb ≠ b) (n2 : lb ≠ l) (n3 : TL ≠ b) (n4 : TL ≠ l) (d : Dl b l H1 H2) : MkT b l lb TL m n bb cc many H H2 as ts :=
  ⟨M.dl.trans d, d.2 _ _ M.lb n1 n2, ⟨d.2 _ _ M.ll.1 n3 n4, M.ll.2.1, fun i a t e1 e2 => d.2 _ _ (M.ll.2.2 i a t e1 e2) (M.off a (List.mem_of_getElem? e1)).1 (M.off a (List.mem_of_getElem? e1)).2.1⟩, M.off, M.pr⟩
theorem MkT.push {a : Addr} {t : List Int} (M : MkT b l lb TL m n bb cc many H H1 as ts) (n1 : TL ≠ lb) (n3 : TL ≠ b) (n4 : TL ≠ l) (hT : H TL = none) (ha : H1 a = some (.lst (vrow t))) (na : a ≠ b ∧ a ≠ l ∧ a ≠ TL) (ht : ProdT m n bb cc many t) :
    MkT b l lb TL m n bb cc many H (upd H1 TL (.lst (as.map V.ref ++ [V.ref a]))) (as ++ [a]) (ts ++ [t]) := by
  refine ⟨⟨?_, fun d o e m1 m2 => by rw [upd_ne (ne_of_none e hT)]; exact M.dl.2 d o e m1 m2⟩, by rw [upd_ne n1.symm]; exact M.lb, ⟨by rw [upd_same, List.map_append]; rfl, by rw [List.length_append, List.length_append, M.ll.2.1]; rfl, fun i x u e1 e2 => ?_⟩, fun x hx => ?_, fun x hx => ?_⟩
  · obtain ⟨w0, ns, z, w1, w2, w3⟩ := M.dl.1
    exact ⟨w0, ns, z, w1, by rw [upd_ne n3.symm]; exact w2, by rw [upd_ne n4.symm]; exact w3⟩
  · have hl := M.ll.2.1
    by_cases z : i < as.length
    · rw [List.getElem?_append_left z] at e1
      rw [List.getElem?_append_left (by omega)] at e2
      rw [upd_ne (M.off x (List.mem_of_getElem? e1)).2.2]
      exact M.ll.2.2 i x u e1 e2
    · rw [List.getElem?_append_right (by omega)] at e1 e2
      have : i - as.length = 0 := by
        have := (List.getElem?_eq_some_iff.mp e1).1
        simp only [List.length_cons, List.length_nil] at this
        omega
      rw [this] at e1
      rw [show i - ts.length = 0 by omega] at e2
      obtain rfl : a = x := Option.some.inj e1
      obtain rfl : t = u := Option.some.inj e2
      rw [upd_ne na.2.2]
      exact ha
  · rcases List.mem_append.mp hx with h | h
    · exact M.off x h
    · rw [List.mem_singleton.mp h]; exact na
  · rcases List.mem_append.mp hx with h | h
    · exact M.pr x h
    · rw [List.mem_singleton.mp h]; exact ht
end
section
variable {P : Program} {w : World} {K : PySem.W.Frag} {mg : Str → Option Value} {base : Heap}
abbrev nMa : List Str := ["_law_deal", "_law_one", "_law_other", "_law_back", "_law_more", "_law_many", "_law_tables", "_law_deed", "_law_steps", "_law_row", "_law_state", "_law_here", "_law_there", "_law_turn", "_law_called"]
theorem scMa : FnScope nMa ["_law_deal"] (defScope sMach) := ⟨rfl, rfl, rfl, by decide +kernel, rfl, by decide +kernel, by decide +kernel⟩
theorem ok_mach {f fA fU : Addr} {fd fdA fdU : FuncData} (D : Df K mg "_law_machine" sMach ["_law_deal"] f fd) (DA : Df K mg "_law_any" sAny ["_law_deal", "_law_bound"] fA fdA) (DU : Df K mg "_law_turned" sTurned ["_law_deal", "_law_tables", "_law_many"] fU fdU) (B : Bt mg)
    (GA : FnOk P w K mg base CX0 1 fA fdA ["_law_deal", "_law_bound"] spAny) (GU : FnOk P w K mg base CX0 2 fU fdU ["_law_deal", "_law_tables", "_law_many"] spTurned) : FnOk P w K mg base CX0 3 f fd ["_law_deal"] spMach := by
  refine D.F.ok scMa (fun vs H Q E h => ?_) (fun cdv A outer s H vs Q E hr h => ?_)
  · obtain ⟨b, l, rfl, _⟩ := h
    rfl
  · obtain ⟨b, l, rfl, hb, q⟩ := h
    have r1 := hr.mono (show 1 ≤ 2 by decide)
    refine ⟨_, pss_cons (ps_par (i := 1) (j := 2) rfl scMa.nd rfl rfl (by decide) rfl rfl (pa_cons (pe_op op_add pe_int (pc DA GA r1 pass0 (pa_cons (pv 0) (pa_cons pe_int pa_nil)))) (pa_cons (pe_op op_add pe_int (pc DA GA r1 pass0 (pa_cons (pv 0) (pa_cons pe_int pa_nil)))) pa_nil)) rfl)
      (pss_cons (ps_set (i := 3) scMa.nd rfl (.inl rfl) (pe_lst (pa_cons (pc DA GA r1 pass0 (pa_cons (pv 0) (pa_cons (pv 1) pa_nil))) (pa_cons (pc DA GA r1 pass0 (pa_cons (pv 0) (pa_cons (pv 2) pa_nil))) pa_nil))))
      (pss_cons (ps_set (i := 4) scMa.nd rfl (.inl rfl) (pe_ifExp (pt_cmpR op_eq (pc DA GA r1 pass0 (pa_cons (pv 0) (pa_cons pe_int pa_nil))) pe_int (nomark _)) (pc DA GA r1 pass0 (pa_cons (pv 0) (pa_cons (pe_op op_sub pe_int (pe_op op_mul (pv 1) (pv 2))) pa_nil))) pe_int))
      (pss_cons (ps_asg (pe_tup (pa_cons (pe_op op_add (pe_op op_mul (pv 1) (pv 2)) (pe_callB (call_min2 rfl) (by rfl) B.min (by decide +kernel) (pa_cons (pv 4) (pa_cons pe_int pa_nil)))) (pa_cons (pe_lst pa_nil) pa_nil))) (pg_tup rfl (pgs_cons (pg_name (i := 5) scMa.nd rfl (.inr rfl)) (pgs_cons (pg_name (i := 6) scMa.nd rfl (.inl rfl)) pgs_nil))))
      (pss_cons (ps_for PassesOwn.never rfl (pi_range1 (by rfl) B.range (pa_cons (pe_op op_add pe_int (pc DA GA r1 pass0 (pa_cons (pv 0) (pa_cons pe_int pa_nil)))) pa_nil)) (pg_name (i := 7) scMa.nd rfl (.inl rfl))
        (pss_cons (ps_par (i := 8) (j := 9) rfl scMa.nd rfl rfl (by decide) rfl rfl (pa_cons (pe_lst (pa_cons (pc DA GA r1 pass0 (pa_cons (pv 0) (pa_cons pe_int pa_nil))) (pa_cons (pc DA GA r1 pass0 (pa_cons (pv 0) (pa_cons pe_int pa_nil))) pa_nil))) (pa_cons (pe_lst pa_nil) pa_nil)) rfl)
        (pss_cons (ps_for PassesOwn.never rfl (pi_range1 (by rfl) B.range (pa_cons (pe_op op_mul (pv 1) (pv 2)) pa_nil)) (pg_name (i := 10) scMa.nd rfl (.inl rfl))
          (pss_cons (ps_par (i := 11) (j := 12) rfl scMa.nd rfl rfl (by decide) rfl rfl (pa_cons (pe_op op_fdiv (pv 10) (pv 2)) (pa_cons (pe_op op_mod (pe_callTy call_int1 (by rfl) B.int PyProof.Rows.boot_int (pa_cons (pv 10) pa_nil)) (pv 2)) pa_nil)) rfl)
          (pss_cons (ps_for PassesOwn.never rfl (pi_range1 (by rfl) B.range (pa_cons (pe_ix ix_list (pv 8) pe_int (fun _ _ => rfl)) pa_nil)) (pg_name (i := 13) scMa.nd rfl (.inl rfl)) (pss_one (ps_set (i := 11) scMa.nd rfl (.inl rfl) (pe_ifExp (pt_cmpR op_lt (pe_op op_add (pv 11) pe_int) (pv 1) (nomark _)) (pe_op op_add (pv 11) pe_int) (pe_ix ix_list (pv 3) pe_int (fun _ _ => rfl))))))
          (pss_cons (ps_for PassesOwn.never rfl (pi_range1 (by rfl) B.range (pa_cons (pe_ix ix_list (pv 8) pe_int (fun _ _ => rfl)) pa_nil)) (pg_name (i := 13) scMa.nd rfl (.inl rfl)) (pss_one (ps_set (i := 12) scMa.nd rfl (.inl rfl) (pe_ifExp (pt_cmpR op_lt (pe_op op_add (pv 12) pe_int) (pv 2) (nomark _)) (pe_op op_add (pv 12) pe_int) (pe_ix ix_list (pv 3) pe_int (fun _ _ => rfl))))))
          (pss_one (ps_expr (pe_bm PySem.F.plainAttrs_list PySem.F.slot_list_append PySem.F.type_list_append mt_append (pv 9) (pa_cons (pe_op op_add (pe_op op_mul (pv 11) (pv 2)) (pv 12)) pa_nil))))))))
        (pss_one (ps_expr (pe_bm PySem.F.plainAttrs_list PySem.F.slot_list_append PySem.F.type_list_append mt_append (pv 6) (pa_cons (pe_op op_cat (pv 9) (pe_lc (own := [("_law_turn", 13)]) (g := gName 13) (tt := tYes) rfl scMa.nd (pi_range1 (by rfl) B.range (pa_cons (pe_op op_sub (pv 5) (pe_op op_mul (pv 1) (pv 2))) pa_nil)) (blkOk_by (N := nMa) (sc := defScope sMach) (by decide +kernel))
            (fun _ _ _ _ _ => pg_name (i := 13) scMa.nd rfl (Or.inl rfl)) (fun _ _ _ _ _ => pts_nil) (fun _ _ _ _ _ => pc DA GA r1 pass0 (pa_cons (pv 0) (pa_cons (pv 5) pa_nil))))) pa_nil)))))))
      (pss_cons (ps_asg (pc DU GU hr pass0 (pa_cons (pv 0) (pa_cons (pv 6) (pa_cons (pv 5) pa_nil)))) (pg_tup rfl (pgs_cons (pg_name (i := 6) scMa.nd rfl (.inl rfl)) (pgs_cons (pg_name (i := 14) scMa.nd rfl (.inl rfl)) pgs_nil))))
      (pss_one (ps_ret (pe_tup (pa_cons (pv 6) (pa_cons (pe_ix ix_list (pv 14) (pc DA GA r1 pass0 (pa_cons (pv 0) (pa_cons (pe_op op_mul (pv 1) (pv 2)) pa_nil))) (fun _ _ => rfl)) pa_nil)))))))))), ?_⟩
    refine ⟨_, rfl, b, l, 4, rfl, hb, by decide, by decide, fun m0 H1 a1 a2 dl1 => ⟨_, _, rfl, rfl, _, rfl, b, l, 3, rfl, dl1.1, by decide, by decide, fun n0 H2 a3 a4 dl2 => ⟨_, _, rfl, rfl, .int (1 + m0), .int (1 + n0), rfl, ?_⟩⟩⟩
    obtain ⟨m, em, m1, m4⟩ : ∃ m : Nat, 1 + m0 = (m : Int) ∧ 1 ≤ m ∧ m ≤ 4 := ⟨(1 + m0).toNat, by omega, by omega, by omega⟩
    obtain ⟨n, en, n1, n3⟩ : ∃ n : Nat, 1 + n0 = (n : Int) ∧ 1 ≤ n ∧ n ≤ 3 := ⟨(1 + n0).toNat, by omega, by omega, by omega⟩
    rw [em, en]
    have hmn : m * n ≤ 12 := Nat.le_trans (Nat.mul_le_mul m4 n3) (by decide)
    have hmn1 : 1 ≤ m * n := Nat.mul_pos m1 n1
    have eMN : (m : Int) * (n : Int) = ((m * n : Nat) : Int) := (Int.natCast_mul m n).symm
    have cm : CMul (m : Int) (n : Int) := .inl ⟨by omega, by omega⟩
    refine ⟨_, rfl, _, rfl, b, l, (m : Int), rfl, dl2.1, by omega, by omega, fun b0 H3 a5 a6 dl3 => ⟨_, rfl, _, rfl, b, l, (n : Int), rfl, dl3.1, by omega, by omega, fun c0 H4 a7 a8 dl4 => ⟨(by show 2 ≤ sizeLine; decide), fun lb hlb => ?_⟩⟩⟩
    obtain ⟨bb, rfl⟩ : ∃ x : Nat, b0 = (x : Int) := ⟨b0.toNat, by omega⟩
    obtain ⟨cc, rfl⟩ : ∃ x : Nat, c0 = (x : Int) := ⟨c0.toNat, by omega⟩
    have hbb : bb < m := by omega
    have hcc : cc < n := by omega
    have nlbb := dl4.1.nb hlb
    have nlbl := dl4.1.nl hlb
    have dl5 := (((dl1.trans dl2).trans dl3).trans dl4).new (o := HO.lst [V.int (bb : Int), V.int (cc : Int)]) hlb
    have hlb5 : (upd H4 lb (.lst [V.int (bb : Int), V.int (cc : Int)])) lb = some (.lst [V.int (bb : Int), V.int (cc : Int)]) := upd_same
    generalize upd H4 lb (.lst [V.int (bb : Int), V.int (cc : Int)]) = H5 at dl5 hlb5 ⊢
    refine gn ?_
    dsimp only
    refine seqG (fun σ H' => ∃ mo : Int, σ = [some (.ref b), some (.int (m : Int)), some (.int (n : Int)), some (.ref lb), some (.int mo), none, none, none, none, none, none, none, none, none, none] ∧ 0 ≤ mo ∧ mo + (m * n : Nat) ≤ 12 ∧ Dl b l H H' ∧ H' lb = some (.lst [V.int (bb : Int), V.int (cc : Int)])) ?_ (fun go => ?_)
    · rintro σ H6 ⟨mo, rfl, o0, o1, dl6, hlb6⟩
      refine ⟨_, rfl, _, rfl, _, _, rfl, rfl, cm, _, rfl, _, _, rfl, _, _, rfl, rfl, (by show 0 ≤ sizeLine; decide), fun TL hTL => ⟨(by show 2 ≤ sizeLine; decide), fun tp htp => ⟨tp, _, rfl, SqT.of upd_same, rfl, .int ((m : Int) * (n : Int) + (if (2 : Int) < mo then 2 else mo)), _, rfl, .ref TL, _, rfl, rfl, ?_⟩⟩⟩
      obtain ⟨many, eM, y1, y2⟩ : ∃ many : Nat, (m : Int) * (n : Int) + (if (2 : Int) < mo then 2 else mo) = (many : Int) ∧ m * n ≤ many ∧ many ≤ 12 := by
        refine ⟨((m : Int) * (n : Int) + (if (2 : Int) < mo then 2 else mo)).toNat, ?_, ?_, ?_⟩ <;> rw [eMN] <;> split <;> omega
      rw [eM]
      have sT := (same_new (o := HO.lst []) hTL).trans (same_new (o := HO.tup [V.int ((m : Int) * (n : Int) + (if (2 : Int) < mo then 2 else mo)), V.ref TL]) htp)
      have hTLe : (upd (upd H6 TL (.lst [])) tp (.tup [V.int ((m : Int) * (n : Int) + (if (2 : Int) < mo then 2 else mo)), V.ref TL])) TL = some (.lst []) := (same_new htp) _ _ upd_same
      have M0 : MkT b l lb TL m n bb cc many H (upd (upd H6 TL (.lst [])) tp (.tup [V.int ((m : Int) * (n : Int) + (if (2 : Int) < mo then 2 else mo)), V.ref TL])) [] [] := ⟨dl6.same sT, sT _ _ hlb6, ⟨hTLe, rfl, fun i a t e => (by cases e)⟩, fun a h => (by cases h), fun t h => (by cases h)⟩
      have nTb := dl6.1.nb hTL
      have nTl := dl6.1.nl hTL
      have nTlb : TL ≠ lb := fun z => by rw [z, hlb6] at hTL; cases hTL
      have hT0 : H TL = none := by
        cases e : H TL with
        | none => rfl
        | some o => rw [dl6.2 TL o e nTb nTl] at hTL; cases hTL
      have eML : (upd (upd H6 TL (.lst [])) tp (.tup [V.int (many : Int), V.ref TL])) = (upd (upd H6 TL (.lst [])) tp (.tup [V.int ((m : Int) * (n : Int) + (if (2 : Int) < mo then 2 else mo)), V.ref TL])) := by rw [eM]
      generalize (upd (upd H6 TL (.lst [])) tp (.tup [V.int ((m : Int) * (n : Int) + (if (2 : Int) < mo then 2 else mo)), V.ref TL])) = H7 at M0 eML ⊢
      try rw [eML]
      refine ⟨_, rfl, b, l, 3, rfl, M0.dl.1, by decide, by decide, fun dd H8 d0 d1 dl8 => ⟨_, _, rfl, rfl, 1 + dd, rfl, by omega, by omega, for_range (fun i σ H' => ∃ (v7 v8 v9 v10 v11 v12 v13 : Option V) (as : List Addr) (ts : Ts), σ = [some (.ref b), some (.int (m : Int)), some (.int (n : Int)), some (.ref lb), some (.int mo), some (.int (many : Int)), some (.ref TL), v7, v8, v9, v10, v11, v12, v13, none] ∧ MkT b l lb TL m n bb cc many H H' as ts ∧ ts.length = i)
        ⟨none, none, none, none, none, none, none, [], [], rfl, M0.dls nlbb nlbl nTb nTl dl8, rfl⟩ ?_ ?_⟩⟩
      · rintro i σ H' hi ⟨v7, v8, v9, v10, v11, v12, v13, as, ts, rfl, M, hli⟩
        have a0 : ∀ {u v : V}, atI [u, v] 0 = some u := fun {u v} => atI_nat (j := 0) rfl
        have a1 : ∀ {u v : V}, atI [u, v] 1 = some v := fun {u v} => atI_nat (j := 1) rfl
        refine ⟨_, rfl, b, l, 4, rfl, M.dl.1, by decide, by decide, fun k0 Ha f0 f1 dla => ⟨_, rfl, b, l, 3, rfl, dla.1, by decide, by decide, fun j0 Hb f2 f3 dlb => ⟨(by show 2 ≤ sizeLine; decide), fun sl hsl => ⟨(by show 0 ≤ sizeLine; decide), fun rl hrl => ⟨_, _, rfl, ?_⟩⟩⟩⟩⟩
        obtain ⟨k, rfl⟩ : ∃ x : Nat, k0 = (x : Int) := ⟨k0.toNat, by omega⟩
        obtain ⟨j, rfl⟩ : ∃ x : Nat, j0 = (x : Int) := ⟨j0.toNat, by omega⟩
        have Mc := (((M.dls nlbb nlbl nTb nTl dla).dls nlbb nlbl nTb nTl dlb).same (same_new (o := HO.lst [V.int (k : Int), V.int (j : Int)]) hsl))
        have hslc : (upd Hb sl (.lst [V.int (k : Int), V.int (j : Int)])) sl = some (.lst [V.int (k : Int), V.int (j : Int)]) := upd_same
        generalize upd Hb sl (.lst [V.int (k : Int), V.int (j : Int)]) = Hc at Mc hslc hrl ⊢
        have nrb := Mc.dl.1.nb hrl
        have nrl := Mc.dl.1.nl hrl
        refine ⟨_, rfl, _, rfl, _, _, rfl, rfl, cm, (m : Int) * (n : Int), rfl, by rw [eMN]; omega, by rw [eMN]; omega, for_range (fun s σ H5 => ∃ v10 v11 v12 v13 : Option V, σ = [some (.ref b), some (.int (m : Int)), some (.int (n : Int)), some (.ref lb), some (.int mo), some (.int (many : Int)), some (.ref TL), some (.int (0 + (i : Int))), some (.ref sl), some (.ref rl), v10, v11, v12, v13, none] ∧ Same Hc H5 ∧ H5 rl = some (.lst (vrow (coL m n bb cc k j s))))
          ⟨_, _, _, _, rfl, same_new hrl, upd_same⟩ ?_ ?_⟩
        · rintro s σ H5 hs ⟨v10, v11, v12, v13, rfl, s5, k5⟩
          rw [eMN, Int.toNat_natCast] at hs
          rw [Int.zero_add (s : Int)]
          refine ⟨_, rfl, _, rfl, _, _, rfl, rfl, ⟨by omega, by omega⟩, _, rfl, .inl ⟨_, rfl, _, rfl, _, _, rfl, rfl, by omega, .int ((s : Int) / (n : Int)), .int ((s : Int) % (n : Int)), rfl, ?_⟩⟩
          rw [show (s : Int) / (n : Int) = ((s / n : Nat) : Int) from (Int.natCast_ediv s n).symm, show (s : Int) % (n : Int) = ((s % n : Nat) : Int) from (Int.natCast_emod s n).symm]
          have hsn : s / n < m := Nat.div_lt_of_lt_mul (by rw [Nat.mul_comm]; exact hs)
          have hsm : s % n < n := Nat.mod_lt _ n1
          refine ⟨_, rfl, sl, _, 0, .int (k : Int), rfl, rfl, SqL.of (s5 _ _ hslc), a0, (k : Int), rfl, by omega, by omega, for_range (fun q σ H6 => ∃ v13 : Option V, σ = [some (.ref b), some (.int (m : Int)), some (.int (n : Int)), some (.ref lb), some (.int mo), some (.int (many : Int)), some (.ref TL), some (.int (0 + (i : Int))), some (.ref sl), some (.ref rl), some (.int (s : Int)), some (.int ((it m bb q (s / n) : Nat) : Int)), some (.int ((s % n : Nat) : Int)), v13, none] ∧ H6 = H5) ⟨_, rfl, rfl⟩ ?_ ?_⟩
          · rintro q1 σ H6 hq1 ⟨v13', rfl, rfl⟩
            refine ⟨_, rfl, _, _, rfl, rfl, _, rfl, _, _, rfl, rfl, _, rfl, ?_⟩
            by_cases z : it m bb q1 (s / n) + 1 < m
            · have en : ((it m bb (q1 + 1) (s / n) : Nat) : Int) = ((it m bb q1 (s / n) : Nat) : Int) + 1 := by
                show ((nx m bb (it m bb q1 (s / n)) : Nat) : Int) = _
                unfold nx
                rw [if_pos z]; rfl
              exact iteE (decide_eq_true (by omega)) ⟨_, rfl, _, _, rfl, rfl, _, by rw [en]; rfl, rfl⟩
            · have en : ((it m bb (q1 + 1) (s / n) : Nat) : Int) = (bb : Int) := by
                show ((nx m bb (it m bb q1 (s / n)) : Nat) : Int) = _
                unfold nx
                rw [if_neg z]
              exact iteN (decide_eq_false (by omega)) ⟨_, rfl, lb, _, 0, .int (bb : Int), rfl, rfl, SqL.of (s5 _ _ Mc.lb), a0, _, by rw [en]; rfl, rfl⟩
          · rintro σ H6 ⟨v13', rfl, rfl⟩
            refine ⟨_, rfl, sl, _, 1, .int (j : Int), rfl, rfl, SqL.of (s5 _ _ hslc), a1, (j : Int), rfl, by omega, by omega, for_range (fun q σ H7 => ∃ v13 : Option V, σ = [some (.ref b), some (.int (m : Int)), some (.int (n : Int)), some (.ref lb), some (.int mo), some (.int (many : Int)), some (.ref TL), some (.int (0 + (i : Int))), some (.ref sl), some (.ref rl), some (.int (s : Int)), some (.int ((it m bb k (s / n) : Nat) : Int)), some (.int ((it n cc q (s % n) : Nat) : Int)), v13, none] ∧ H7 = H6) ⟨v13', by simp only [Int.toNat_natCast]; rfl, rfl⟩ ?_ ?_⟩
            · rintro q1 σ H7 hq1 ⟨v13'', rfl, rfl⟩
              refine ⟨_, rfl, _, _, rfl, rfl, _, rfl, _, _, rfl, rfl, _, rfl, ?_⟩
              by_cases z : it n cc q1 (s % n) + 1 < n
              · have en : ((it n cc (q1 + 1) (s % n) : Nat) : Int) = ((it n cc q1 (s % n) : Nat) : Int) + 1 := by
                  show ((nx n cc (it n cc q1 (s % n)) : Nat) : Int) = _
                  unfold nx
                  rw [if_pos z]; rfl
                exact iteE (decide_eq_true (by omega)) ⟨_, rfl, _, _, rfl, rfl, _, by rw [en]; rfl, rfl⟩
              · have en : ((it n cc (q1 + 1) (s % n) : Nat) : Int) = (cc : Int) := by
                  show ((nx n cc (it n cc q1 (s % n)) : Nat) : Int) = _
                  unfold nx
                  rw [if_neg z]
                exact iteN (decide_eq_false (by omega)) ⟨_, rfl, lb, _, 1, .int (cc : Int), rfl, rfl, SqL.of (s5 _ _ Mc.lb), a1, _, by rw [en]; rfl, rfl⟩
            · rintro σ H7 ⟨v13'', rfl, rfl⟩
              have hik := it_lt hbb k (s / n) hsn
              have eco : ((co m n bb cc k j s : Nat) : Int) = ((it m bb k (s / n) : Nat) : Int) * (n : Int) + ((it n cc j (s % n) : Nat) : Int) := by
                unfold co
                rw [Int.natCast_add, Int.natCast_mul]
              refine ⟨_, rfl, .inl ⟨rfl, _, SqL.of k5⟩, _, rfl, _, rfl, _, _, rfl, rfl, .inl ⟨by omega, by omega⟩, _, rfl, _, _, rfl, rfl, rl, _, _, rfl, rfl, k5, by rw [vrow, List.length_map, coL_len, sizeLine_eq]; omega, _, _, _, _, rfl, fun c o e => by rw [upd_ne (ne_of_none e hrl)]; exact s5 _ _ e, ?_⟩
              rw [upd_same, coL_succ, vrow, vrow, List.map_append, eco]
              simp only [Int.toNat_natCast]
              rfl
        · rintro σ H5 ⟨v10, v11, v12, v13, rfl, s5, k5⟩
          rw [eMN, Int.toNat_natCast] at k5
          have M5 := Mc.same s5
          refine ⟨_, rfl, .inl ⟨rfl, _, SqL.of M5.ll.1⟩, _, rfl, _, rfl, _, rfl, _, rfl, _, _, rfl, rfl, cm, _, _, rfl, rfl, (many : Int) - (m : Int) * (n : Int), rfl, by rw [eMN]; omega, by rw [eMN]; omega, fun D0 hD0 => ?_⟩
          have nDb := M5.dl.1.nb hD0
          have nDl := M5.dl.1.nl hD0
          refine lc_range (fun q H6 => Dl b l H5 H6 ∧ ∃ xs : List Int, xs.length = q ∧ (∀ x ∈ xs, 0 ≤ x ∧ x < (many : Int)) ∧ H6 D0 = some (.lst (vrow xs))) ⟨(Dl.refl M5.dl.1).new hD0, [], rfl, fun x h => (by cases h), upd_same⟩ ?_ ?_
          · rintro q1 H6 hq1 ⟨dl6', xs, hxl, hxr, hxD⟩
            rw [eMN] at hq1
            refine ⟨rfl, _, rfl, _, rfl, b, l, (many : Int), rfl, dl6'.1, by omega, by omega, fun r H9 g0 g1 dl9 => ⟨_, dl9.2 _ _ hxD nDb nDl, by rw [vrow, List.length_map, sizeLine_eq]; omega, (dl6'.trans dl9).put hD0 nDb nDl, xs ++ [r], by rw [List.length_append, hxl]; rfl, fun x hx => ?_, by rw [upd_same, vrow, vrow, List.map_append]; rfl⟩⟩
            rcases List.mem_append.mp hx with h | h
            · exact hxr x h
            · rw [List.mem_singleton.mp h]; exact ⟨g0, g1⟩
          · rintro H6 ⟨dl6', xs, hxl, hxr, hxD⟩
            rw [eMN] at hxl
            have M6 := M5.dls nlbb nlbl nTb nTl dl6'
            have k6 := dl6'.2 _ _ k5 nrb nrl
            refine ⟨rl, D0, _, _, rfl, rfl, k6, hxD, by rw [vrow, vrow, List.length_map, List.length_map, coL_len, sizeLine_eq]; omega, fun a9 ha9 => ?_⟩
            have M7 := M6.same (same_new (o := HO.lst (vrow (coL m n bb cc k j (m * n)) ++ vrow xs)) ha9)
            refine ⟨TL, _, _, rfl, rfl, M7.ll.1, by rw [List.length_map, M7.ll.2.1, sizeLine_eq]; omega, _, _, _, _, _, _, _, as ++ [a9], ts ++ [coL m n bb cc k j (m * n) ++ xs], rfl, M7.push nTlb nTb nTl hT0 (by rw [upd_same, vrow, vrow, vrow, List.map_append]) ⟨M6.dl.1.nb ha9, M6.dl.1.nl ha9, (ne_of_none M6.ll.1 ha9).symm⟩ (coL_prod n1 hbb hcc (by omega) hxr), by rw [List.length_append, hli]; rfl⟩
      · rintro σ H' ⟨v7, v8, v9, v10, v11, v12, v13, as, ts, rfl, M, hli⟩
        have hP : Prod m n bb cc many ts := ⟨n1, hbb, hcc, y1, M.pr⟩
        have hl : ts.length = 1 + dd.toNat := by omega
        refine ⟨_, rfl, _, rfl, _, rfl, b, l, TL, many, ts, rfl, M.dl.1, ⟨as, M.ll, nTb, nTl, fun a ha => ⟨(M.off a ha).1, (M.off a ha).2.1⟩⟩, by omega, y2, by omega, fun t ht => ⟨(M.pr t ht).1, (M.pr t ht).2.1⟩, fun q0 f0 c1 cs us H9 dl9 hq0 hc1 ncb ncl hLL hPm hTu => ?_⟩
        obtain ⟨wf, eS⟩ := prod_wf hP hPm hTu (by omega) (by omega) (by omega) y2
        have hcl := hPm.len
        refine ⟨q0, _, rfl, SqT.of hq0, rfl, .ref f0, _, rfl, .ref c1, _, rfl, rfl, ?_⟩
        refine ⟨_, rfl, _, rfl, _, rfl, _, rfl, _, rfl, _, _, rfl, rfl, cm, b, l, (m : Int) * (n : Int), rfl, dl9.1, by rw [eMN]; omega, by rw [eMN]; omega, fun r H10 g0 g1 dl10 => ?_⟩
        rw [eMN] at g1
        have hrl : r.toNat < cs.length := by omega
        refine ⟨c1, _, r, _, rfl, rfl, SqL.of (dl10.2 _ _ hc1 ncb ncl), at_of (j := r.toNat) (by omega) (by rw [vrow, List.getElem?_map, getD_at hrl]; rfl), (by show 2 ≤ sizeLine; decide), fun q1 hq1 => ?_⟩
        have hfr := hPm.rng (List.mem_of_getElem? (getD_at hrl))
        refine q q1 f0 _ us _ (((M.dl.trans dl9).trans dl10).new hq1) upd_same ((hLL.dl dl10).same (same_new hq1)) wf (by rw [hTu.len]; omega) (by rw [eS]; exact hfr) (prod_comm hP hPm hTu (by omega))
    · refine ⟨_, rfl, b, l, 3, rfl, dl5.1, by decide, by decide, fun r H6 z0 z1 dl6 => ⟨rfl, _, rfl, ifD (fun e => ?_) fun e => ?_⟩⟩
      · refine ⟨_, rfl, _, rfl, _, rfl, _, _, rfl, rfl, cm, _, _, rfl, rfl, b, l, 13 - (m : Int) * (n : Int), rfl, dl6.1, by rw [eMN]; omega, by rw [eMN]; omega, fun r2 H7 y0 y1 dl7 => ?_⟩
        exact go _ _ ⟨r2, rfl, y0, by rw [eMN] at y1; omega, (dl5.trans dl6).trans dl7, dl7.2 _ _ (dl6.2 _ _ hlb5 nlbb nlbl) nlbb nlbl⟩
      · exact go _ _ ⟨0, rfl, by decide, by omega, dl5.trans dl6, dl6.2 _ _ hlb5 nlbb nlbl⟩
end
end K1
namespace K1
open PySem PySem.Spec PyProof.Rows L2
theorem in_ints (x : Int) : ∀ l : List Int, inV (.int x) (vrow l) = decide (x ∈ l)
  | [] => rfl
  | a :: l => by
    have e : inV (.int x) (vrow (a :: l)) = ((a == x) || inV (.int x) (vrow l)) := rfl
    rw [e, in_ints x l]
    by_cases z : x = a
    · subst z
      simp
    · have : ¬ a = x := fun w => z w.symm
      simp [z, this]
theorem flat_ints : ∀ l : List Int, (vrow l).all flatV = true
  | [] => rfl
  | a :: l => by
    show (flatV (.int a) && (vrow l).all flatV) = true
    rw [flat_ints l]; rfl
def SeqI (H : Hp) (r : Addr) (row : List Int) : Prop := H r = some (.tup (vrow row)) ∨ H r = some (.lst (vrow row))
theorem SeqI.same {H H' : Hp} {r : Addr} {row : List Int} (h : SeqI H r row) (s : Same H H') : SeqI H' r row := h.imp (fun e => s _ _ e) (fun e => s _ _ e)
def spLLed : Sp := fun vs H Q _ => ∃ (p r : Addr) (s : Int) (as : List Addr) (ts : Ts) (row : List Int), vs = [.ref p, .int s, .ref r] ∧ LL H p as ts ∧ Wf ts ∧ (0 ≤ s ∧ s < (nS ts : Int)) ∧ SeqI H r row ∧ (∀ d ∈ row, 0 ≤ d ∧ d < (ts.length : Int)) ∧ Q (.int (run ts s row)) H
def spFar : Sp := fun vs H Q _ => ∃ (p r : Addr) (s : Int) (t : Nat) (as : List Addr) (ts : Ts) (row : List Int), vs = [.ref p, .int s, .ref r, .int (t : Int)] ∧ LL H p as ts ∧ Wf ts ∧ (0 ≤ s ∧ s < (nS ts : Int)) ∧ SeqI H r row ∧ (∀ d ∈ row, 0 ≤ d ∧ d < (ts.length : Int)) ∧ ∀ H', Same H H' → Q (.int (trail ts row s t)) H'
def trL (T : Nat → Int) (k : Nat) : List Int := (List.range k).map T
theorem trL_succ (T : Nat → Int) (k : Nat) : trL T (k + 1) = trL T k ++ [T k] := by
  unfold trL
  rw [List.range_succ, List.map_append]; rfl
theorem trL_at {T : Nat → Int} {k i : Nat} (h : i < k) : (vrow (trL T k))[i]? = some (.int (T i)) := by
  unfold trL vrow
  rw [List.getElem?_map, List.getElem?_map, List.getElem?_range h]; rfl
theorem trL_len (T : Nat → Int) (k : Nat) : (trL T k).length = k := by
  unfold trL
  rw [List.length_map, List.length_range]
theorem mem_trL {T : Nat → Int} {k : Nat} {x : Int} : x ∈ trL T k ↔ ∃ i, i < k ∧ T i = x := by
  unfold trL
  rw [List.mem_map]
  exact ⟨fun ⟨i, h, e⟩ => ⟨i, List.mem_range.mp h, e⟩, fun ⟨i, h, e⟩ => ⟨i, List.mem_range.mpr h, e⟩⟩
section
variable {P : Program} {w : World} {K : PySem.W.Frag} {mg : Str → Option Value} {base : Heap}
theorem scLL : FnScope ["_law_tables", "_law_state", "_law_row", "_law_deed"] ["_law_tables", "_law_state", "_law_row"] (defScope sLLed) := ⟨rfl, rfl, rfl, by decide +kernel, rfl, by decide +kernel, by decide +kernel⟩
theorem ok_lled {f : Addr} {fd : FuncData} (D : Df K mg "_law_led" sLLed ["_law_tables", "_law_state", "_law_row"] f fd) : FnOk P w K mg base CX0 1 f fd ["_law_tables", "_law_state", "_law_row"] spLLed := by
  refine D.F.ok scLL (fun vs H Q E h => ?_) (fun cdv A outer s H vs Q E hr h => ?_)
  · obtain ⟨p, r, s, as, ts, row, rfl, _⟩ := h
    rfl
  · obtain ⟨p, r, s0, as, ts, row, rfl, hL, hW, hs, hq, hd, q⟩ := h
    refine ⟨_, pss_cons (ps_for PassesOwn.never rfl (pi_seqA (pv 2)) (pg_name (i := 3) scLL.nd rfl (.inl rfl)) (pss_one (ps_set (i := 1) scLL.nd rfl (.inl rfl) (pe_ix ix_list (pe_ix ix_list (pv 0) (pv 3) (fun _ _ => rfl)) (pv 1) (fun _ _ => rfl)))))
      (pss_one (ps_ret (pv 1))), ?_⟩
    have step : ∀ (i : Nat) (y : V) (σ : L2.St) (H' : Hp), (vrow row)[i]? = some y → (∃ v3 : Option V, σ = [some (.ref p), some (.int (run ts s0 (row.take i))), some (.ref r), v3] ∧ H' = H) →
        gName 3 y σ H' fun σ2 H2 => (tOp (rIxL K) (tOp (rIxL K) (tVar 0) (tVar 3)) (tVar 1)) σ2 H2 fun x H3 => ∃ v3 : Option V, σ2.set 1 (some x) = [some (.ref p), some (.int (run ts s0 (row.take (i + 1)))), some (.ref r), v3] ∧ H3 = H := by
      rintro i y σ H' hi ⟨v3, rfl, rfl⟩
      obtain ⟨d, ed, rfl⟩ : ∃ d, row[i]? = some d ∧ y = V.int d := by
        rw [vrow, List.getElem?_map] at hi
        cases e : row[i]? with
        | none => rw [e] at hi; cases hi
        | some z =>
          rw [e] at hi
          exact ⟨z, rfl, (Option.some.inj hi).symm⟩
      have hb := hd d (List.mem_of_getElem? ed)
      have hr' := hW.run (row.take i) s0 (fun e he => hd e (List.mem_of_mem_take he)) hs
      obtain ⟨t, h1, h2, h3⟩ := hW.at_ hb hr'
      have hla : d.toNat < as.length := by rw [hL.2.1]; omega
      have hA : as[d.toNat]? = some as[d.toNat] := List.getElem?_eq_getElem hla
      have hT := hL.2.2 d.toNat _ t hA h1
      refine ⟨_, rfl, _, rfl, p, _, d, _, rfl, rfl, SqL.of hL.1, at_of (j := d.toNat) (by omega) (by rw [List.getElem?_map, hA]; rfl), _, rfl, _, _, _, .int (stp ts (run ts s0 (row.take i)) d), rfl, rfl, SqL.of hT, at_of (j := (run ts s0 (row.take i)).toNat) (by omega) (by rw [vrow, List.getElem?_map, h2]; rfl), ?_⟩
      refine ⟨some (.int d), ?_, rfl⟩
      rw [take_succ ed, run_snoc]
      rfl
    have last : row.take (vrow row).length = row := by rw [vrow, List.length_map, List.take_length]
    rcases hq with hp | hp
    · refine ⟨_, rfl, r, rfl, .inr ⟨_, SqT.of hp, for_tup (K := K) (a := r) (xs := vrow row) (fun i σ H' => ∃ v3 : Option V, σ = [some (.ref p), some (.int (run ts s0 (row.take i))), some (.ref r), v3] ∧ H' = H)
        ⟨none, rfl, rfl⟩ (fun i σ H' _ ⟨_, _, e⟩ => by rw [e]; exact SqT.of hp) step ?_⟩⟩
      rintro σ H' ⟨v3, rfl, rfl⟩
      rw [last]
      exact ⟨_, rfl, q⟩
    · refine ⟨_, rfl, r, rfl, .inl ⟨_, SqL.of hp, for_list (K := K) (a := r) (xs := vrow row) (fun i σ H' => ∃ v3 : Option V, σ = [some (.ref p), some (.int (run ts s0 (row.take i))), some (.ref r), v3] ∧ H' = H)
        ⟨none, rfl, rfl⟩ (fun i σ H' _ ⟨_, _, e⟩ => by rw [e]; exact SqL.of hp) step ?_⟩⟩
      rintro σ H' ⟨v3, rfl, rfl⟩
      rw [last]
      exact ⟨_, rfl, q⟩
abbrev nFa : List Str := ["_law_tables", "_law_state", "_law_row", "_law_times", "_law_met", "_law_turn", "_law_after", "_law_back"]
theorem scFar : FnScope nFa ["_law_tables", "_law_state", "_law_row", "_law_times"] (defScope sFar) := ⟨rfl, rfl, rfl, by decide +kernel, rfl, by decide +kernel, by decide +kernel⟩
theorem ok_far {f fL : Addr} {fd fdL : FuncData} (D : Df K mg "_law_far" sFar ["_law_tables", "_law_state", "_law_row", "_law_times"] f fd) (DL : Df K mg "_law_led" sLLed ["_law_tables", "_law_state", "_law_row"] fL fdL) (B : Bt mg) (GL : FnOk P w K mg base CX0 1 fL fdL ["_law_tables", "_law_state", "_law_row"] spLLed) :
    FnOk P w K mg base CX0 2 f fd ["_law_tables", "_law_state", "_law_row", "_law_times"] spFar := by
  refine D.F.ok scFar (fun vs H Q E h => ?_) (fun cdv A outer s H vs Q E hr h => ?_)
  · obtain ⟨p, r, s, t, as, ts, row, rfl, _⟩ := h
    rfl
  · obtain ⟨p, r, st, t, as, ts, row, rfl, hL, hW, hst, hq, hd, q⟩ := h
    refine ⟨_, pss_cons (ps_set (i := 4) scFar.nd rfl (.inl rfl) (pe_lst (pa_cons (pv 1) pa_nil)))
      (pss_cons (ps_for PassesOwn.never rfl (pi_range1 (by rfl) B.range (pa_cons pe_int pa_nil)) (pg_name (i := 5) scFar.nd rfl (.inl rfl))
        (pss_cons (ps_set (i := 6) scFar.nd rfl (.inl rfl) (pc DL GL hr pass0 (pa_cons (pv 0) (pa_cons (pe_ix ix_list (pv 4) (pe_un un_neg pe_int) (fun _ _ => rfl)) (pa_cons (pv 2) pa_nil)))))
        (pss_cons (ps_if (pt_cmpR op_in_seq (pv 6) (pv 4) rfl)
          (pss_cons (ps_set (i := 7) scFar.nd rfl (.inl rfl) (pe_bm PySem.F.plainAttrs_list PySem.F.slot_list_index PySem.F.type_list_index mt_index (pv 4) (pa_cons (pv 6) pa_nil)))
          (pss_cons (ps_if (pt_cmpR op_lt (pv 3) (pe_callB call_len_seq (by rfl) B.len PySem.boot_len (pa_cons (pv 4) pa_nil)) (nomark _)) (pss_one (ps_ret (pe_ix ix_list (pv 4) (pv 3) (fun _ _ => rfl)))) pss_nil)
          (pss_one (ps_ret (pe_ix ix_list (pv 4) (pe_op op_add (pv 7) (pe_op op_mod (pe_callTy call_int1 (by rfl) B.int PyProof.Rows.boot_int (pa_cons (pe_op op_sub (pv 3) (pv 7)) pa_nil)) (pe_op op_sub (pe_callB call_len_seq (by rfl) B.len PySem.boot_len (pa_cons (pv 4) pa_nil)) (pv 7)))) (fun _ _ => rfl)))))) pss_nil)
        (pss_one (ps_expr (pe_bm PySem.F.plainAttrs_list PySem.F.slot_list_append PySem.F.type_list_append mt_append (pv 4) (pa_cons (pv 6) pa_nil)))))))
      (pss_one (ps_ret pe_non))), ?_⟩
    have hm12 := hW.s12
    refine ⟨_, rfl, (by show 1 ≤ sizeLine; decide), fun l hl0 => ?_⟩
    have sm0 := same_new (o := HO.lst [V.int st]) hl0
    refine ⟨13, rfl, by decide, by decide, for_range (fun k σ H' => ∃ v5 v6 : Option V, σ = [some (.ref p), some (.int st), some (.ref r), some (.int (t : Int)), some (.ref l), v5, v6, none] ∧ Same H H' ∧ H' l = some (.lst (vrow (trL (trail ts row st) (k + 1)))) ∧ Fresh (trail ts row st) (k + 1)) ⟨none, none, rfl, sm0, upd_same, fun a b h1 h2 => by omega⟩ ?_ ?_⟩
    · rintro k σ H1 hk ⟨v5, v6, rfl, s1, hl, fr⟩
      have hkf := fresh_few fr (trail_rng hW hd hst)
      have hl' := hl
      rw [trL_succ, vrow, List.map_append] at hl'
      refine ⟨_, rfl, _, rfl, 1, rfl, l, _, -1, _, rfl, rfl, SqL.of hl', atI_last _ _, _, rfl, p, r, trail ts row st k, as, ts, row, rfl, hL.same s1, hW, trail_rng hW hd hst k, hq.same s1, hd, ?_⟩
      refine ⟨_, rfl, _, rfl, l, _, rfl, .inl (SqL.of hl), rfl, flat_ints _, _, rfl, ?_⟩
      show if inV (.int (trail ts row st (k + 1))) (vrow (trL (trail ts row st) (k + 1))) = true then _ else _
      rw [in_ints]
      by_cases z : trail ts row st (k + 1) ∈ trL (trail ts row st) (k + 1)
      · rw [decide_eq_true z]
        obtain ⟨i, hi, ei⟩ := mem_trL.mp z
        have hp : PowIs (trail ts row st) i (k + 1 - i) := ⟨by omega, by rw [show i + (k + 1 - i) = k + 1 by omega, ei], by rw [show i + (k + 1 - i) = k + 1 by omega]; exact fr⟩
        have heq := pow_red hp t
        refine iteT ⟨_, rfl, .inl ⟨rfl, _, SqL.of hl⟩, _, rfl, l, _, _, i, .int (trail ts row st i), rfl, rfl, SqL.of hl, rfl, flat_ints _, trL_at hi, ?_, fun m z' hm hz => ?_, ?_⟩
        · show (trail ts row st i == trail ts row st (k + 1)) = true
          rw [ei]; simp
        · rw [trL_at (by omega)] at hz
          obtain rfl := Option.some.inj hz
          show (trail ts row st m == trail ts row st (k + 1)) = false
          rw [beq_eq_false_iff_ne, ← ei]
          exact fr m i hm (by omega)
        · refine ⟨_, rfl, _, rfl, l, _, rfl, .inl (SqL.of hl), _, _, rfl, rfl, _, rfl, ifD (fun e => ?_) fun e => ?_⟩
          · have ht : t < k + 1 := by
              have := of_decide_eq_true e
              rw [vrow, List.length_map, trL_len] at this
              omega
            exact ⟨_, rfl, _, rfl, l, _, _, _, rfl, rfl, SqL.of hl, at_of (j := t) (by omega) (trL_at ht), q _ s1⟩
          · have ht : ¬ t < k + 1 := by
              have := of_decide_eq_false e
              rw [vrow, List.length_map, trL_len] at this
              omega
            have er : (i : Int) + ((t : Int) - (i : Int)) % (((vrow (trL (trail ts row st) (k + 1))).length : Int) - (i : Int)) = ((red i (k + 1 - i) t : Nat) : Int) := by
              unfold red
              rw [if_neg (by omega), vrow, List.length_map, trL_len, show ((t : Int) - (i : Int)) = ((t - i : Nat) : Int) by omega, show (((k + 1 : Nat) : Int) - (i : Int)) = ((k + 1 - i : Nat) : Int) by omega]
              rfl
            have hlt := red_lt (i := i) hp.1 t
            refine ⟨_, rfl, _, rfl, _, rfl, _, rfl, _, _, rfl, rfl, .inl ⟨_, rfl, _, rfl, l, _, rfl, .inl (SqL.of hl), _, rfl, _, _, rfl, rfl, _, _, rfl, rfl, ?_, _, _, rfl, rfl, l, _, _, _, rfl, rfl, SqL.of hl, at_of (j := red i (k + 1 - i) t) er (trL_at (by omega)), ?_⟩⟩
            · rw [vrow, List.length_map, trL_len]; omega
            · rw [← heq]
              exact q _ s1
      · rw [decide_eq_false z]
        refine iteF ⟨_, rfl, .inl ⟨rfl, _, SqL.of hl⟩, _, rfl, l, _, _, rfl, rfl, hl, by rw [vrow, List.length_map, trL_len, sizeLine_eq]; omega, _, _, rfl, fun c o e => by rw [upd_ne (ne_of_none e hl0)]; exact s1 _ _ e, by rw [upd_same, trL_succ _ (k + 1), vrow, vrow, List.map_append]; rfl, fun a b hab hbk => ?_⟩
        by_cases zb : b = k + 1
        · subst zb
          exact fun w => z (mem_trL.mpr ⟨a, hab, w⟩)
        · exact fr a b hab (by omega)
    · rintro σ H1 ⟨v5, v6, rfl, s1, hl, fr⟩
      have := fresh_few fr (trail_rng hW hd hst)
      have h13 : (13 : Int).toNat + 1 ≤ nS ts := this
      have : (13 : Int).toNat = 13 := rfl
      omega
end
end K1
namespace K1
open PySem PySem.Spec PyProof.Rows L2
def RowsOk (ts : Ts) (s : Int) (rs : List (List Int)) : Prop := rs.length ≤ 12 ∧ (∀ r ∈ rs, ∀ d ∈ r, In8 ts d) ∧ ∀ d, In8 ts d → ∃ r ∈ rs, run ts s r = stp ts s d
/-- tuples in a list -/
def TL_ (H : Hp) (p : Addr) (as : List Addr) (rs : List (List Int)) : Prop := H p = some (.lst (as.map V.ref)) ∧ as.length = rs.length ∧ ∀ (i : Nat) a r, as[i]? = some a → rs[i]? = some r → H a = some (.tup (vrow r))
def spRows : Sp := fun vs H Q _ => ∃ (p : Addr) (s : Int) (as : List Addr) (ts : Ts), vs = [.ref p, .int s] ∧ LL H p as ts ∧ Wf ts ∧ (0 ≤ s ∧ s < (nS ts : Int)) ∧ ∀ (q : Addr) (ras : List Addr) (rs : List (List Int)) (H' : Hp), Same H H' → TL_ H' q ras rs → RowsOk ts s rs → Q (.ref q) H'
structure RIn (ts : Ts) (s : Int) (H0 H : Hp) (p2 p3 : Addr) (L : List Int) (as : List Addr) (rs : List (List Int)) : Prop where
  sm : Same H0 H
  l : H p2 = some (.lst (vrow L))
  r : TL_ H p3 as rs
  len : L.length = rs.length
  run : ∀ (i : Nat) r, rs[i]? = some r → L[i]? = some (run ts s r) ∧ (∀ d ∈ r, In8 ts d) ∧ r.length ≤ i
  nd : L.Nodup
  rg : ∀ x ∈ L, 0 ≤ x ∧ x < (nS ts : Int)
  z : L[0]? = some s
theorem catA_by {K : PySem.W.Frag} {H : Hp} {Q : VK} {a b : Addr} {xs ys : List V} (ha : H a = some (.tup xs)) (hb : H b = some (.tup ys)) (hl : xs.length + ys.length ≤ sizeLine) (q : ∀ p H', Same H H' → H' p = some (.tup (xs ++ ys)) → Q (.ref p) H') : rCatA K (.ref a) (.ref b) H Q := by
  refine ⟨a, b, xs, ys, rfl, rfl, SqT.of ha, SqT.of hb, hl, fun e => ?_, fun _ e => ?_, fun _ _ p hp => q p _ (same_new hp) upd_same⟩
  · subst e
    exact q b H (fun _ _ e => e) hb
  · subst e
    exact q a H (fun _ _ e => e) (by rw [List.append_nil]; exact ha)
theorem RIn.push {ts : Ts} {s : Int} {H0 H H5 : Hp} {p2 p3 np : Addr} {L : List Int} {as : List Addr} {rs : List (List Int)} {i : Nat} {x d : Int} {r : List Int} (R : RIn ts s H0 H p2 p3 L as rs) (n23 : p2 ≠ p3) (h2 : H0 p2 = none) (h3 : H0 p3 = none) (hx : L[i]? = some x) (hr : rs[i]? = some r) (hd : In8 ts d)
    (no : stp ts x d ∉ L) (rg : 0 ≤ stp ts x d ∧ stp ts x d < (nS ts : Int)) (s5 : Same (upd H p2 (.lst (vrow L ++ [V.int (stp ts x d)]))) H5) (hn : H5 np = some (.tup (vrow (r ++ [d])))) :
    RIn ts s H0 (upd H5 p3 (.lst (as.map V.ref ++ [V.ref np]))) p2 p3 (L ++ [stp ts x d]) (as ++ [np]) (rs ++ [r ++ [d]]) := by
  have k2 : H5 p2 = some (.lst (vrow (L ++ [stp ts x d]))) := s5 _ _ (by rw [upd_same, vrow, vrow, List.map_append]; rfl)
  have k3 : H5 p3 = some (.lst (as.map V.ref)) := s5 _ _ (by rw [upd_ne n23.symm]; exact R.r.1)
  have nnp : np ≠ p3 := fun w => by rw [w, k3] at hn; cases hn
  have hal := R.r.2.1
  refine ⟨fun c o e => ?_, by rw [upd_ne n23]; exact k2, ⟨by rw [upd_same, List.map_append]; rfl, by rw [List.length_append, List.length_append, hal]; rfl, fun j a u e1 e2 => ?_⟩, by rw [List.length_append, List.length_append, R.len]; rfl, fun j u e => ?_, ?_, fun y hy => ?_, by rw [List.getElem?_append_left (List.getElem?_eq_some_iff.mp R.z).1]; exact R.z⟩
  · rw [upd_ne (ne_of_none e h3)]
    exact s5 _ _ (by rw [upd_ne (ne_of_none e h2)]; exact R.sm _ _ e)
  · by_cases z : j < as.length
    · rw [List.getElem?_append_left z] at e1
      rw [List.getElem?_append_left (by omega)] at e2
      have g := R.r.2.2 j a u e1 e2
      have n2 : a ≠ p2 := fun w => by rw [w, R.l] at g; cases g
      have n3 : a ≠ p3 := fun w => by rw [w, R.r.1] at g; cases g
      rw [upd_ne n3]
      exact s5 _ _ (by rw [upd_ne n2]; exact g)
    · rw [List.getElem?_append_right (by omega)] at e1 e2
      have : j - as.length = 0 := by
        have := (List.getElem?_eq_some_iff.mp e1).1
        simp only [List.length_cons, List.length_nil] at this
        omega
      rw [this] at e1
      rw [show j - rs.length = 0 by omega] at e2
      obtain rfl : np = a := Option.some.inj e1
      obtain rfl : r ++ [d] = u := Option.some.inj e2
      rw [upd_ne nnp]
      exact hn
  · by_cases z : j < rs.length
    · rw [List.getElem?_append_left z] at e
      obtain ⟨w1, w2, w3⟩ := R.run j u e
      exact ⟨by rw [List.getElem?_append_left (by rw [R.len]; exact z)]; exact w1, w2, w3⟩
    · rw [List.getElem?_append_right (by omega)] at e
      have hj : j - rs.length = 0 := by
        have := (List.getElem?_eq_some_iff.mp e).1
        simp only [List.length_cons, List.length_nil] at this
        omega
      rw [hj] at e
      obtain rfl : r ++ [d] = u := Option.some.inj e
      obtain ⟨w1, w2, w3⟩ := R.run i r hr
      have hir : i < rs.length := (List.getElem?_eq_some_iff.mp hr).1
      have hjr : j = L.length := by rw [R.len]; omega
      refine ⟨?_, fun y hy => ?_, ?_⟩
      · rw [hjr, List.getElem?_append_right (Nat.le_refl _), Nat.sub_self, run_snoc, ← Option.some.inj (hx.symm.trans w1)]; rfl
      · rcases List.mem_append.mp hy with h | h
        · exact w2 y h
        · rw [List.mem_singleton.mp h]; exact hd
      · rw [List.length_append, hjr, R.len]
        show r.length + 1 ≤ _
        omega
  · exact List.nodup_append.mpr ⟨R.nd, by simp, fun a ha b hb => by rw [List.mem_singleton.mp hb]; exact fun w => no (w ▸ ha)⟩
  · rcases List.mem_append.mp hy with h | h
    · exact R.rg y h
    · rw [List.mem_singleton.mp h]; exact rg
section
variable {P : Program} {w : World} {K : PySem.W.Frag} {mg : Str → Option Value} {base : Heap}
abbrev nRw : List Str := ["_law_tables", "_law_first", "_law_states", "_law_rows_here", "_law_at", "_law_deed"]
theorem scRw : FnScope nRw ["_law_tables", "_law_first"] (defScope sRows) := ⟨rfl, rfl, rfl, by decide +kernel, rfl, by decide +kernel, by decide +kernel⟩
theorem ok_rows {f : Addr} {fd : FuncData} (D : Df K mg "_law_rows" sRows ["_law_tables", "_law_first"] f fd) (B : Bt mg) : FnOk P w K mg base CX0 1 f fd ["_law_tables", "_law_first"] spRows := by
  refine D.F.ok scRw (fun vs H Q E h => ?_) (fun cdv A outer s H vs Q E hr h => ?_)
  · obtain ⟨p, s, as, ts, rfl, _⟩ := h
    rfl
  · obtain ⟨p, st, as, ts, rfl, hL, hW, hst, q⟩ := h
    refine ⟨_, pss_cons (ps_par (i := 2) (j := 3) rfl scRw.nd rfl rfl (by decide) rfl rfl (pa_cons (pe_lst (pa_cons (pv 1) pa_nil)) (pa_cons (pe_lst (pa_cons (pe_tup pa_nil) pa_nil)) pa_nil)) rfl)
      (pss_cons (ps_for PassesOwn.never rfl (pi_range1 (by rfl) B.range (pa_cons pe_int pa_nil)) (pg_name (i := 4) scRw.nd rfl (.inl rfl))
        (pss_one (ps_if (pt_cmpR op_lt (pv 4) (pe_callB call_len_seq (by rfl) B.len PySem.boot_len (pa_cons (pv 2) pa_nil)) (nomark _))
          (pss_one (ps_for PassesOwn.never rfl (pi_range1 (by rfl) B.range (pa_cons (pe_callB call_len_seq (by rfl) B.len PySem.boot_len (pa_cons (pv 0) pa_nil)) pa_nil)) (pg_name (i := 5) scRw.nd rfl (.inl rfl))
            (pss_one (ps_if (pt_cmpR op_notIn_seq (pe_ix ix_list (pe_ix ix_list (pv 0) (pv 5) (fun _ _ => rfl)) (pe_ix ix_list (pv 2) (pv 4) (fun _ _ => rfl)) (fun _ _ => rfl)) (pv 2) rfl)
              (pss_cons (ps_expr (pe_bm PySem.F.plainAttrs_list PySem.F.slot_list_append PySem.F.type_list_append mt_append (pv 2) (pa_cons (pe_ix ix_list (pe_ix ix_list (pv 0) (pv 5) (fun _ _ => rfl)) (pe_ix ix_list (pv 2) (pv 4) (fun _ _ => rfl)) (fun _ _ => rfl)) pa_nil)))
              (pss_one (ps_expr (pe_bm PySem.F.plainAttrs_list PySem.F.slot_list_append PySem.F.type_list_append mt_append (pv 3) (pa_cons (pe_op op_catA (pe_ix ix_list (pv 3) (pv 4) (fun _ _ => rfl)) (pe_tup (pa_cons (pv 5) pa_nil))) pa_nil))))) pss_nil))))
          pss_nil)))
      (pss_one (ps_ret (pv 3)))), ?_⟩
    refine ⟨_, rfl, (by show 1 ≤ sizeLine; decide), fun p2 h2 => ⟨(by show 0 ≤ sizeLine; decide), fun e0 he0 => ⟨(by show 1 ≤ sizeLine; decide), fun p3 h3 => ⟨_, _, rfl, ?_⟩⟩⟩⟩
    have sA := (same_new (o := HO.lst [V.int st]) h2).trans (same_new (o := HO.tup []) he0)
    have s3 := same_new (o := HO.lst [V.ref e0]) h3
    have hp30 : H p3 = none := sA.free h3
    have e1 : (upd (upd (upd H p2 (.lst [V.int st])) e0 (.tup [])) p3 (.lst [V.ref e0])) p2 = some (.lst (vrow [st])) := s3 _ _ ((same_new (o := HO.tup []) he0) _ _ upd_same)
    have e2 : (upd (upd (upd H p2 (.lst [V.int st])) e0 (.tup [])) p3 (.lst [V.ref e0])) e0 = some (.tup (vrow [])) := s3 _ _ upd_same
    have e3 : (upd (upd (upd H p2 (.lst [V.int st])) e0 (.tup [])) p3 (.lst [V.ref e0])) p3 = some (.lst ([e0].map V.ref)) := upd_same
    have R0 : RIn ts st H (upd (upd (upd H p2 (.lst [V.int st])) e0 (.tup [])) p3 (.lst [V.ref e0])) p2 p3 [st] [e0] [[]] := by
      refine ⟨sA.trans s3, e1, ⟨e3, rfl, fun i a r h1 h2 => ?_⟩, rfl, fun i r h => ?_, by simp, fun x hx => by rw [List.mem_singleton.mp hx]; exact hst, rfl⟩
      · cases i with
        | zero =>
          obtain rfl : e0 = a := Option.some.inj h1
          obtain rfl : [] = r := Option.some.inj h2
          exact e2
        | succ i => cases h1
      · cases i with
        | zero =>
          obtain rfl : [] = r := Option.some.inj h
          exact ⟨rfl, fun d hd => (by cases hd), Nat.le_refl _⟩
        | succ i => cases h
    generalize upd (upd (upd H p2 (.lst [V.int st])) e0 (.tup [])) p3 (.lst [V.ref e0]) = H3 at R0
    have ht8 := hW.t8
    have hs12 := hW.s12
    refine ⟨12, rfl, by decide, by decide, for_range (fun i σ H' => ∃ (v4 v5 : Option V) (L : List Int) (as' : List Addr) (rs : List (List Int)), σ = [some (.ref p), some (.int st), some (.ref p2), some (.ref p3), v4, v5] ∧ RIn ts st H H' p2 p3 L as' rs ∧ (0 < i → ∀ d, In8 ts d → stp ts st d ∈ L)) ⟨none, none, _, _, _, rfl, R0, fun z => absurd z (Nat.lt_irrefl _)⟩ ?_ ?_⟩
    · rintro i σ H' hi ⟨v4, v5, L, as', rs, rfl, R, al⟩
      refine ⟨_, rfl, _, rfl, p2, _, rfl, .inl (SqL.of R.l), _, _, rfl, rfl, _, rfl, ifD (fun e => ?_) fun e => ?_⟩
      · have hiL : i < L.length := by
          have := of_decide_eq_true e
          rw [vrow, List.length_map] at this
          omega
        obtain ⟨x, hx⟩ : ∃ x, L[i]? = some x := ⟨L[i], List.getElem?_eq_getElem hiL⟩
        have hxr := R.rg x (List.mem_of_getElem? hx)
        obtain ⟨ri, hri⟩ : ∃ r, rs[i]? = some r := ⟨rs[i]'(by rw [← R.len]; exact hiL), List.getElem?_eq_getElem _⟩
        have hlen : ((as.map V.ref).length : Int) = (ts.length : Int) := by rw [List.length_map, hL.2.1]
        refine ⟨_, rfl, p, _, rfl, .inl (SqL.of (R.sm _ _ hL.1)), _, rfl, by rw [hlen]; omega, by rw [hlen]; omega, for_range (fun k σ H' => ∃ (v5 : Option V) (L' : List Int) (as' : List Addr) (rs' : List (List Int)), σ = [some (.ref p), some (.int st), some (.ref p2), some (.ref p3), some (.int (0 + (i : Int))), v5] ∧ RIn ts st H H' p2 p3 L' as' rs' ∧ (∀ y ∈ L, y ∈ L') ∧ L'[i]? = some x ∧ rs'[i]? = some ri ∧ ∀ d, In8 ts d → d < (k : Int) → stp ts x d ∈ L')
          ⟨_, _, _, _, rfl, R, fun _ h => h, hx, hri, fun d hd hk => by have := hd.1; omega⟩ ?_ ?_⟩
        · rintro k σ H4 hk ⟨v5', L', as1, rs', rfl, R4, sub, hx4, hr4, dn⟩
          rw [hlen, Int.toNat_natCast] at hk
          have e0' : (0 : Int) + (k : Int) = (k : Int) := Int.zero_add _
          have e0i : (0 : Int) + (i : Int) = (i : Int) := Int.zero_add _
          rw [e0', e0i]
          have hk8 : In8 ts (k : Int) := ⟨by omega, by omega⟩
          obtain ⟨t, t1, t2, t3⟩ := hW.at_ hk8 hxr
          have hla : (k : Int).toNat < as.length := by rw [hL.2.1]; exact (List.getElem?_eq_some_iff.mp t1).1
          have hA : as[(k : Int).toNat]? = some as[(k : Int).toNat] := List.getElem?_eq_getElem hla
          have hT := hL.2.2 (k : Int).toNat _ t hA t1
          have at1 : atI (as.map V.ref) (k : Int) = some (.ref as[(k : Int).toNat]) := at_of (j := (k : Int).toNat) (by omega) (by rw [List.getElem?_map, hA]; rfl)
          have at2 : atI (vrow L') (i : Int) = some (.int x) := at_of (j := i) (by omega) (by rw [vrow, List.getElem?_map, hx4]; rfl)
          have at3 : atI (vrow t) x = some (.int (stp ts x (k : Int))) := at_of (j := x.toNat) (by omega) (by rw [vrow, List.getElem?_map, t2]; rfl)
          have hL4 := nodup_le _ _ R4.nd R4.rg
          refine ⟨_, rfl, _, rfl, p, _, _, _, rfl, rfl, SqL.of (R4.sm _ _ hL.1), at1, _, rfl, _, rfl, p2, _, _, _, rfl, rfl, SqL.of R4.l, at2, _, _, _, _, rfl, rfl, SqL.of (R4.sm _ _ hT), at3, _, rfl, p2, _, rfl, .inl (SqL.of R4.l), rfl, flat_ints _, _, rfl, ?_⟩
          show if (!inV (.int (stp ts x (k : Int))) (vrow L')) = true then _ else _
          rw [in_ints]
          by_cases z : stp ts x (k : Int) ∈ L'
          · rw [decide_eq_true z]
            refine iteF ⟨_, _, _, _, rfl, R4, sub, hx4, hr4, fun d hd hlt => ?_⟩
            by_cases zd : d = (k : Int)
            · rw [zd]; exact z
            · exact dn d hd (by omega)
          · rw [decide_eq_false z]
            refine iteT ⟨_, rfl, .inl ⟨rfl, _, SqL.of R4.l⟩, _, rfl, _, rfl, p, _, _, _, rfl, rfl, SqL.of (R4.sm _ _ hL.1), at1, _, rfl, _, rfl, p2, _, _, _, rfl, rfl, SqL.of R4.l, at2, _, _, _, _, rfl, rfl, SqL.of (R4.sm _ _ hT), at3, p2, _, _, rfl, rfl, R4.l, by rw [vrow, List.length_map, sizeLine_eq]; omega, ?_⟩
            have n23 : p2 ≠ p3 := fun w => by
              have a1 := R0.l
              rw [w, R0.r.1] at a1
              cases a1
            have k3 : (upd H4 p2 (.lst (vrow L' ++ [V.int (stp ts x (k : Int))]))) p3 = some (.lst (as1.map V.ref)) := by rw [upd_ne n23.symm]; exact R4.r.1
            have hia : i < as1.length := by rw [R4.r.2.1]; exact (List.getElem?_eq_some_iff.mp hr4).1
            have hai : as1[i]? = some as1[i] := List.getElem?_eq_getElem hia
            have hti := R4.r.2.2 i _ ri hai hr4
            have nai : as1[i] ≠ p2 := fun w => by rw [w, R4.l] at hti; cases hti
            have hti4 : (upd H4 p2 (.lst (vrow L' ++ [V.int (stp ts x (k : Int))]))) as1[i] = some (.tup (vrow ri)) := by rw [upd_ne nai]; exact hti
            have hrl := (R4.run i ri hr4).2.2
            refine ⟨_, rfl, .inl ⟨rfl, _, SqL.of k3⟩, _, rfl, _, rfl, p3, _, (i : Int), .ref as1[i], rfl, rfl, SqL.of k3, at_of (j := i) (by omega) (by rw [List.getElem?_map, hai]; rfl), _, rfl, (by show 1 ≤ sizeLine; decide), fun tq htq => catA_by ((same_new htq) _ _ hti4) upd_same (by rw [vrow, List.length_map, sizeLine_eq]; simp only [List.length_cons, List.length_nil]; omega) fun np H6 s6 hnp => ?_⟩
            have s46 := (same_new (o := HO.tup [V.int (k : Int)]) htq).trans s6
            have k36 := s46 _ _ k3
            refine ⟨p3, _, _, rfl, rfl, k36, by rw [List.length_map, R4.r.2.1, ← R4.len, sizeLine_eq]; omega, _, _, _, _, rfl, R4.push n23 h2 hp30 hx4 hr4 hk8 z t3 s46 (by rw [hnp, vrow, vrow, List.map_append]; rfl), fun y hy => List.mem_append_left _ (sub y hy), by rw [List.getElem?_append_left (List.getElem?_eq_some_iff.mp hx4).1]; exact hx4, by rw [List.getElem?_append_left (List.getElem?_eq_some_iff.mp hr4).1]; exact hr4, fun d hd hlt => ?_⟩
            by_cases zd : d = (k : Int)
            · rw [zd]; exact List.mem_append_right _ List.mem_cons_self
            · exact List.mem_append_left _ (dn d hd (by omega))
        · rintro σ H4 ⟨v5', L', as1, rs', rfl, R4, sub, hx4, hr4, dn⟩
          refine ⟨_, _, _, _, _, rfl, R4, fun _ d hd => ?_⟩
          by_cases zi : i = 0
          · subst zi
            have : x = st := Option.some.inj (hx.symm.trans R.z)
            subst this
            exact dn d hd (by rw [hlen, Int.toNat_natCast]; exact hd.2)
          · exact sub _ (al (by omega) d hd)
      · have hiL : ¬ i < L.length := by
          have := of_decide_eq_false e
          rw [vrow, List.length_map] at this
          omega
        refine ⟨_, _, _, _, _, rfl, R, fun _ => ?_⟩
        by_cases zi : i = 0
        · subst zi
          exact absurd (List.getElem?_eq_some_iff.mp R.z).1 hiL
        · exact al (by omega)
    · rintro σ H' ⟨v4, v5, L, as', rs, rfl, R, al⟩
      have hL4 := nodup_le _ _ R.nd R.rg
      refine ⟨_, rfl, q p3 as' rs H' R.sm R.r ⟨by rw [← R.len]; omega, fun r hr d hd => ?_, fun d hd => ?_⟩⟩
      · obtain ⟨i, hi⟩ := List.mem_iff_getElem?.mp hr
        exact (R.run i r hi).2.1 d hd
      · obtain ⟨i, hi⟩ := List.mem_iff_getElem?.mp (al (by decide) d hd)
        have hir : i < rs.length := by rw [← R.len]; exact (List.getElem?_eq_some_iff.mp hi).1
        have hr := (R.run i rs[i] (List.getElem?_eq_getElem hir)).1
        exact ⟨rs[i], List.getElem_mem hir, Option.some.inj (hr.symm.trans hi)⟩
end
end K1
namespace K1
open PySem PySem.Spec PyProof.Rows L2
def cnts (n : Nat) : List Int := (List.range n).map fun i : Nat => 1 + (i : Int)
theorem cnts_succ (n : Nat) : cnts (n + 1) = cnts n ++ [1 + (n : Int)] := by
  unfold cnts
  rw [List.range_succ, List.map_append]; rfl
theorem cnts_len (n : Nat) : (cnts n).length = n := by unfold cnts; rw [List.length_map, List.length_range]
theorem mem_cnts {n i : Nat} (h : i < n) : (1 + (i : Int)) ∈ cnts n := List.mem_map.mpr ⟨i, List.mem_range.mpr h, rfl⟩
theorem rgV_cnts (n : Nat) : rgV 1 ((n : Int) + 1) = vrow (cnts n) := by
  unfold rgV vrow cnts
  rw [List.map_map, show (((n : Int) + 1 - 1).toNat) = n by omega]
  rfl
/-- so many times like once, by the rows rs -/
def hB (ts : Ts) (s : Int) (rs : List (List Int)) (c : Int) : Bool := decide (∀ r ∈ rs, trail ts r s c.toNat = run ts s r)
def spHless : Sp := fun vs H Q _ => ∃ (p : Addr) (s : Int) (n : Nat) (as : List Addr) (ts : Ts), vs = [.ref p, .int s, .int (n : Int)] ∧ LL H p as ts ∧ Wf ts ∧ (0 ≤ s ∧ s < (nS ts : Int)) ∧ n ≤ 100 ∧ ∀ (q : Addr) (rs : List (List Int)) (H' : Hp), Same H H' → RowsOk ts s rs → H' q = some (.lst (vrow ((cnts n).filter (hB ts s rs)))) → Q (.ref q) H'
theorem filter_one {α : Type} (p : α → Bool) (l : List α) (x : α) : (l ++ [x]).filter p = l.filter p ++ if p x = true then [x] else [] := by
  rw [List.filter_append, List.filter_cons]; rfl
section
variable {P : Program} {w : World} {K : PySem.W.Frag} {mg : Str → Option Value} {base : Heap}
abbrev nHl : List Str := ["_law_tables", "_law_first", "_law_most", "_law_found", "_law_row", "_law_state", "_law_once", "_law_left", "_law_count"]
theorem scHl : FnScope nHl ["_law_tables", "_law_first", "_law_most"] (defScope sHarmless) := ⟨rfl, rfl, rfl, by decide +kernel, rfl, by decide +kernel, by decide +kernel⟩
theorem ok_hless {f fR fL : Addr} {fd fdR fdL : FuncData} (D : Df K mg "_law_harmless" sHarmless ["_law_tables", "_law_first", "_law_most"] f fd) (DR : Df K mg "_law_rows" sRows ["_law_tables", "_law_first"] fR fdR) (DL : Df K mg "_law_led" sLLed ["_law_tables", "_law_state", "_law_row"] fL fdL) (B : Bt mg)
    (GR : FnOk P w K mg base CX0 1 fR fdR ["_law_tables", "_law_first"] spRows) (GL : FnOk P w K mg base CX0 1 fL fdL ["_law_tables", "_law_state", "_law_row"] spLLed) : FnOk P w K mg base CX0 2 f fd ["_law_tables", "_law_first", "_law_most"] spHless := by
  refine D.F.ok scHl (fun vs H Q E h => ?_) (fun cdv A outer s H vs Q E hr h => ?_)
  · obtain ⟨p, s, n, as, ts, rfl, _⟩ := h
    rfl
  · obtain ⟨p, st, n, as, ts, rfl, hL, hW, hst, hn, q⟩ := h
    refine ⟨_, pss_cons (ps_set (i := 3) scHl.nd rfl (.inl rfl) (pe_listRg rfl (by rfl) B.list (prg_2 (by rfl) B.range pe_int (pe_op op_add (pv 2) pe_int))))
      (pss_cons (ps_for PassesOwn.never rfl (pi_list (pc DR GR hr pass0 (pa_cons (pv 0) (pa_cons (pv 1) pa_nil)))) (pg_name (i := 4) scHl.nd rfl (.inl rfl))
        (pss_cons (ps_par3 (i := 5) (j := 6) (l := 7) rfl scHl.nd rfl rfl rfl (by decide) (by decide) (by decide) rfl rfl rfl (pa_cons (pv 1) (pa_cons (pc DL GL hr pass0 (pa_cons (pv 0) (pa_cons (pv 1) (pa_cons (pv 4) pa_nil)))) (pa_cons (pe_lst pa_nil) pa_nil))) rfl)
        (pss_cons (ps_for PassesOwn.never rfl (pi_range2 (by rfl) B.range (pa_cons pe_int (pa_cons (pe_op op_add (pv 2) pe_int) pa_nil))) (pg_name (i := 8) scHl.nd rfl (.inl rfl))
          (pss_cons (ps_set (i := 5) scHl.nd rfl (.inl rfl) (pc DL GL hr pass0 (pa_cons (pv 0) (pa_cons (pv 5) (pa_cons (pv 4) pa_nil)))))
          (pss_one (ps_if (PW.pt (pw_and (pt_cmpR op_eq (pv 5) (pv 6) (nomark _)) (pw_and1 (pt_cmpR op_in_seq (pv 8) (pv 3) rfl)))) (pss_one (ps_expr (pe_bm PySem.F.plainAttrs_list PySem.F.slot_list_append PySem.F.type_list_append mt_append (pv 7) (pa_cons (pv 8) pa_nil)))) pss_nil))))
        (pss_one (ps_set (i := 3) scHl.nd rfl (.inl rfl) (pv 7))))))
      (pss_one (ps_ret (pv 3)))), ?_⟩
    refine ⟨_, rfl, _, _, rfl, rfl, _, _, rfl, rfl, RgOk.of_le (by omega) (by omega) (by omega) (by omega), fun p0 h0 => ?_⟩
    have s0 := same_new (o := HO.lst (rgV 1 ((n : Int) + 1))) h0
    have hp0 : (upd H p0 (.lst (rgV 1 ((n : Int) + 1)))) p0 = some (.lst (vrow (cnts n))) := by rw [upd_same, rgV_cnts]
    generalize upd H p0 (.lst (rgV 1 ((n : Int) + 1))) = H1 at s0 hp0 ⊢
    refine ⟨_, rfl, _, rfl, p, st, as, ts, rfl, hL.same s0, hW, hst, fun qr ras rs H2 s2 hT hR => ⟨qr, rfl, ⟨_, SqL.of hT.1⟩, for_list (K := K) (a := qr) (xs := ras.map V.ref) (fun i σ H' => ∃ (v4 v5 v6 v7 v8 : Option V) (pf : Addr), σ = [some (.ref p), some (.int st), some (.int (n : Int)), some (.ref pf), v4, v5, v6, v7, v8] ∧ Same H2 H' ∧ H' pf = some (.lst (vrow ((cnts n).filter (hB ts st (rs.take i))))))
      ⟨_, _, _, _, _, p0, rfl, fun _ _ e => e, ?_⟩ (fun i σ H' _ ⟨_, _, _, _, _, _, _, sm, _⟩ => SqL.of (sm _ _ hT.1)) ?_ ?_⟩⟩
    · rw [s2 _ _ hp0]
      have : (cnts n).filter (hB ts st (rs.take 0)) = cnts n := List.filter_eq_self.mpr fun c _ => decide_eq_true fun r h => (by cases h)
      rw [this]
    · rintro i x σ H' hx ⟨v4, v5, v6, v7, v8, pf, rfl, sm, hf⟩
      obtain ⟨a, ha, rfl⟩ : ∃ a, ras[i]? = some a ∧ x = V.ref a := by
        rw [List.getElem?_map] at hx
        cases e : ras[i]? with
        | none => rw [e] at hx; cases hx
        | some z => rw [e] at hx; exact ⟨z, rfl, (Option.some.inj hx).symm⟩
      have hir : i < rs.length := by rw [← hT.2.1]; exact (List.getElem?_eq_some_iff.mp ha).1
      obtain ⟨r, hrr⟩ : ∃ r, rs[i]? = some r := ⟨rs[i], List.getElem?_eq_getElem hir⟩
      have hrd := hR.2.1 r (List.mem_of_getElem? hrr)
      have hat := sm _ _ (hT.2.2 i a r ha hrr)
      have sL := (s0.trans s2).trans sm
      refine ⟨_, rfl, _, rfl, _, rfl, _, rfl, p, a, st, as, ts, r, rfl, hL.same sL, hW, hst, .inl hat, hrd, (by show 0 ≤ sizeLine; decide), fun pl hpl => ⟨_, _, _, rfl, ?_⟩⟩
      have sP := same_new (o := HO.lst []) hpl
      have npf : pf ≠ pl := ne_of_none hf hpl
      refine ⟨_, rfl, _, _, rfl, rfl, 1, (n : Int) + 1, rfl, ⟨by decide, by decide, by omega, by omega⟩, for_range (fun k σ H3 => ∃ (v8 : Option V), σ = [some (.ref p), some (.int st), some (.int (n : Int)), some (.ref pf), some (.ref a), some (.int (trail ts r st k)), some (.int (run ts st r)), some (.ref pl), v8] ∧ Same H' H3 ∧ H3 pl = some (.lst (vrow ((cnts k).filter (hB ts st (rs.take (i + 1)))))))
        ⟨_, rfl, sP, upd_same⟩ ?_ ?_⟩
      · rintro k σ H3 hk ⟨v8', rfl, s3, hpl3⟩
        have hkn : k < n := by omega
        refine ⟨_, rfl, _, rfl, _, rfl, p, a, _, as, ts, r, rfl, hL.same (sL.trans s3), hW, trail_rng hW hrd hst k, .inl (s3 _ _ hat), hrd, ?_⟩
        have eP : hB ts st (rs.take (i + 1)) (1 + (k : Int)) = (decide (trail ts r st (k + 1) = run ts st r) && hB ts st (rs.take i) (1 + (k : Int))) := by
          unfold hB
          rw [show (1 + (k : Int)).toNat = k + 1 by omega, take_succ hrr, Bool.eq_iff_iff, Bool.and_eq_true, decide_eq_true_iff, decide_eq_true_iff, decide_eq_true_iff]
          constructor
          · intro h
            exact ⟨h r (List.mem_append_right _ List.mem_cons_self), fun u hu => h u (List.mem_append_left _ hu)⟩
          · rintro ⟨h1, h2⟩ u hu
            rcases List.mem_append.mp hu with h | h
            · exact h2 u h
            · rw [List.mem_singleton.mp h]; exact h1
        have eF : (cnts (k + 1)).filter (hB ts st (rs.take (i + 1))) = (cnts k).filter (hB ts st (rs.take (i + 1))) ++ if hB ts st (rs.take (i + 1)) (1 + (k : Int)) = true then [1 + (k : Int)] else [] := by rw [cnts_succ, filter_one]
        refine ⟨_, rfl, _, rfl, rfl, _, rfl, ifD (fun e => ?_) fun e => ?_⟩
        · have e1 : trail ts r st (k + 1) = run ts st r := by
            have := of_decide_eq_true e
            injection this
          refine ⟨_, rfl, _, rfl, pf, _, rfl, .inl (SqL.of (s3 _ _ hf)), rfl, flat_ints _, _, rfl, ?_⟩
          show if inV (.int (1 + (k : Int))) (vrow ((cnts n).filter (hB ts st (rs.take i)))) = true then _ else _
          rw [in_ints]
          have em : decide ((1 + (k : Int)) ∈ (cnts n).filter (hB ts st (rs.take i))) = hB ts st (rs.take i) (1 + (k : Int)) := by
            rw [Bool.eq_iff_iff, decide_eq_true_iff, List.mem_filter]
            exact ⟨fun h => h.2, fun h => ⟨mem_cnts hkn, h⟩⟩
          rw [em]
          cases hz : hB ts st (rs.take i) (1 + (k : Int)) with
          | true =>
            have hcl : ((cnts k).filter (hB ts st (rs.take (i + 1)))).length ≤ k := Nat.le_trans (List.length_filter_le _ _) (Nat.le_of_eq (cnts_len k))
            refine iteT ⟨_, rfl, .inl ⟨rfl, _, SqL.of hpl3⟩, _, rfl, pl, _, _, rfl, rfl, hpl3, by rw [vrow, List.length_map, sizeLine_eq]; omega, _, rfl, fun c o e => by rw [upd_ne (ne_of_none e hpl)]; exact s3 _ _ e, ?_⟩
            rw [upd_same, eF, eP, hz, decide_eq_true e1, vrow, vrow, List.map_append]; rfl
          | false =>
            refine iteF ⟨_, rfl, s3, ?_⟩
            rw [hpl3, eF, eP, hz, Bool.and_false, if_neg (by decide), List.append_nil]
        · have e1 : ¬ trail ts r st (k + 1) = run ts st r := fun z => of_decide_eq_false e (congrArg V.int z)
          refine iteF ⟨_, rfl, s3, ?_⟩
          rw [hpl3, eF, eP, decide_eq_false e1, Bool.false_and, if_neg (by decide), List.append_nil]
      · rintro σ H3 ⟨v8', rfl, s3, hpl3⟩
        refine ⟨_, rfl, _, _, _, _, _, pl, rfl, sm.trans s3, ?_⟩
        rw [hpl3, show ((n : Int) + 1 - 1).toNat = n by omega]
    · rintro σ H' ⟨v4, v5, v6, v7, v8, pf, rfl, sm, hf⟩
      rw [List.length_map, hT.2.1, List.take_length] at hf
      exact ⟨_, rfl, q pf rs H' ((s0.trans s2).trans sm) hR hf⟩
end
end K1
/-! several clauses 'except x as n', the same n -/
namespace K1
open PySem PySem.Spec PyProof.Rows L2
/-- what the clauses wish of an exception of the body, one after the other; slot i is the name's -/
def wAll (K : PySem.W.Frag) (i : Nat) (Wout : WX) (D : Ends) : List (Value × (Addr → Value → Option Addr → TS)) → WX
  | [] => Wout
  | (c, ts) :: r => fun cls d σ H => ∃ b, PySem.W.exmOne K cls c = some b ∧ (b = true → ∀ a, H a = none → ts a cls d { nx := fun σ' H' => D.nx (σ'.set i none) H', rt := D.rt, bk := fun σ' H' => D.bk (σ'.set i none) H', ct := fun σ' H' => D.ct (σ'.set i none) H' } (σ.set i (some (.ref a))) H) ∧
      (b = false → wAll K i Wout D r cls d σ H)
inductive HdsA (X : Cx) (n : Str) : List ExceptHandler → List (Value × (Addr → Value → Option Addr → TS)) → Prop
  | nil : HdsA X n [] []
  | cons {x : Str} {c : Value} {ts : Addr → Value → Option Addr → TS} {b₀ : Stmt} {suite : List Stmt} {np pos' : Pos} {hds : List ExceptHandler} {l : List (Value × (Addr → Value → Option Addr → TS))} (hc : Names X x c)
      (hsu : ∀ (a : Addr) (oe : Obj) (cls : Value) (d : Option Addr) (pn : List (Addr × Obj)), Zc cls d oe → (∃ vs, oe.data = .fields vs) → PSs (X.suite a ((a, oe) :: pn)) (b₀ :: suite) (ts a cls d)) (r : HdsA X n hds l) :
      HdsA X n (.ExceptHandler (some (.Name x np)) (some n) (b₀ :: suite) pos' :: hds) ((c, ts) :: l)
section
variable {X : Cx} {n : Str} {i : Nat} {body : List Stmt} {h₀ : ExceptHandler} {hds : List ExceptHandler} {l : List (Value × (Addr → Value → Option Addr → TS))} {pos : Pos} {tb : WX → TS} {Wout : WX}
theorem ps_try_all (hs : X.stack = X.env :: X.outer) (hf : X.env.frame = some X.env.locals) (hN : X.N.Nodup) (hi : X.N[i]? = some n) (hln : X.env.kindOf n = some .local) (tk : Takes X Wout)
    (hb : ∀ (W : WX) (pn : List (Addr × Obj)) (xe : Value → Shared → Prop), Takes (X.tr pn xe) W → PassesOwn (model X.prog X.w) X.A X.env xe → PSs (X.tr pn xe) body (tb W))
    (hh : HdsA X n (h₀ :: hds) l) : PS X (.Try body (h₀ :: hds) [] [] pos) (fun D σ H => tb (wAll X.K i Wout D l) D σ H) := by
  refine ⟨fun pins s σ H D I h => ?_⟩
  have ok := I.ok
  have hfr : X.A.frames = some (X.env :: X.outer) := by rw [ok.frames, hs]
  have hloc : Loc X.env.scope n := .inl hln
  refine wpAny_Try_except ?_
  refine wpAny_mono ((hb (wAll X.K i Wout D l) (X.pn ++ pins) (fun e s₁ => wpAny (model X.prog X.w) X.A (noteFrame e X.env) (fun _ s₂ => wpAny (model X.prog X.w) X.A (setFlight e none) (fun _ s₃ =>
    wpAny (model X.prog X.w) X.A (handleBy e X.env (h₀ :: hds)) (SP X pins D) X.xe s₃) X.xe s₂) X.xe s₁) (fun u s' xx => ?_) PassesOwn.looking).run [] s σ H D (I.toTry _) h) (fun f s1 hsp => ?_) (fun e s1 he => he)
  · -- the catch
    obtain ⟨a, B, sI, pins', σ', H', cls, d, rfl, J', nb, up, sky, na, os, ag, w⟩ := xx
    have J : Inv X pins σ' H' sI := J'.ofTry ok
    have sky' : Sky B (X.env :: X.outer) a (Zc cls d) X.env.locals s'.heap := by rw [← hs]; exact sky
    show wpAny (model X.prog X.w) X.A (noteFrame (.ref a) X.env) _ _ _
    refine Sky.land Zc.steady hfr hf sky' fun h3 fl3 up3 => ?_
    have J3 : Inv X pins σ' H' { s' with heap := h3 } := J.landed nb fl3.1 (up.trans up3) os ag
    obtain ⟨oe3, vs3, he3, hz3, hd3⟩ := fl3.there
    have notFr : ∀ {h : Heap} {o : Obj} {vs : Array Value}, h.FunFrames B (X.env :: X.outer) → h.get? a = some o → o.data = .fields vs → a ∉ frs (X.env :: X.outer) := fun {h o vs} ff e dd hm => by
      obtain ⟨_, o', e', hnf⟩ := ff.mem hm
      rw [e] at e'; cases e'
      exact hnf _ dd
    have nfr := notFr fl3.2.2.1 he3 hd3
    have nL : a ≠ X.env.locals := fun z => nfr (List.mem_filterMap.mpr ⟨X.env, List.mem_cons_self, by rw [hf, z]⟩)
    have nF : a ∉ X.fs := fun hm => by
      obtain ⟨e, he, q⟩ := List.mem_filterMap.mp hm
      exact nfr (List.mem_filterMap.mpr ⟨e, List.mem_cons_of_mem _ he, q⟩)
    have S3 := J3.suite he3 hd3 na nL nF
    have go : ∀ {hds' : List ExceptHandler} {l' : List (Value × (Addr → Value → Option Addr → TS))}, HdsA X n hds' l' → wAll X.K i Wout D l' cls d σ' H' →
        wpAny (model X.prog X.w) X.A (handleBy (.ref a) X.env hds') (SP X pins D) X.xe { s' with heap := h3 } := by
      intro hds' l' hk
      induction hk with
      | nil =>
        intro w
        refine wpAny_handleBy_nil ?_
        obtain ⟨k1, k2, k3, oe, vs, T, oT, ts', he, hz, hd, h1, hr⟩ := id fl3
        unfold PySem.passOn
        refine wpAny_bind (wpAny_field he hd h1 ?_)
        rw [if_neg (show ¬ ((Value.ref T == Value.none) = true) from by simp)]
        have fin : wpAny (model X.prog X.w) X.A (setFlight (.ref a) X.env.frame) (fun _ s4 => wpAny (model X.prog X.w) X.A (throw (.ref a) : Sem Flow) (SP X pins D) X.xe s4) X.xe { s' with heap := h3 } := by
          rw [hf]
          refine HandSPX.setFlight_upZ fl3 fun h4 hh4 up4 => wpAny_throw (tk _ _ ?_)
          exact ⟨a, B, sI, pins, σ', H', cls, d, rfl, J, nb, (up.trans up3).trans up4, .inr (.inr (by rw [hs]; exact hh4)), na, os, ag, w⟩
        first
          | exact wpAny_bind (wpAny_pure (wpAny_bind fin))
          | exact wpAny_bind fin
      | @cons x c ts b₀ suite np pos' hds2 l2 hc hsu r ih =>
        intro w
        obtain ⟨b, hb1, hyes, hno⟩ := w
        refine wpAny_handleBy_cons (codeAny_handlers_test ?_) (by intro q; cases q)
        have LT : PySem.W.Looks (model X.prog X.w) h3 (typeOf (.ref a)) cls := fun A Q E s k q => wpAny_typeOf_ref (k _ _ he3) (by rw [hz3.1]; exact q)
        have LM := PySem.W.exm_one (M := model X.prog X.w) (J3.kIn) LT hb1
        have test : ∀ {Q : Value → Shared → Prop} {E : Value → Shared → Prop}, Q c { s' with heap := h3 } → wpAny (model X.prog X.w) (X.A.mark (some (.ref a))) (eval (.Name x np) X.env) Q E { s' with heap := h3 } := fun {Q E} q => by
          obtain ⟨hg, hdbg, hm | ⟨hm, hv, hnn⟩⟩ := hc
          · exact ld_glob (X := X.suite a ((a, oe3) :: (X.pn ++ pins))) S3 hg hm q hdbg
          · exact ld_blt (X := X.suite a ((a, oe3) :: (X.pn ++ pins))) S3 hg hm hv q hnn hdbg
        refine test (LM.here ?_)
        cases b with
        | true =>
          refine codeAny_handlers_suite_as ?_
          refine HandSPX.lands_againZ fl3 fun h4 fl4 up4 => ?_
          have J4 : Inv X pins σ' H' { s' with heap := h4 } := J.landed nb fl4.1 ((up.trans up3).trans up4) os ag
          obtain ⟨oe4, vs4, he4, hz4, hd4⟩ := fl4.there
          have S4 := J4.suite he4 hd4 na nL nF
          refine store_ok (X := X.suite a ((a, oe4) :: (X.pn ++ pins))) (v := .ref a) S4 hN hi hloc rfl (fun s5 S5 => ?_) (.inr hln)
          refine wpAny_mono ((hsu a oe4 cls d (X.pn ++ pins) hz4 ⟨_, hd4⟩).run [] s5 _ H' _ S5 (hyes rfl a na)) (fun f s6 hsp => ?_) (fun _ _ z => False.elim z)
          have end_ : ∀ {σ6 : L2.St} {H6 : Hp} {Q : Shared → Prop}, Inv (X.suite a ((a, oe4) :: (X.pn ++ pins))) [] σ6 H6 s6 → (∀ s7, Inv X pins (σ6.set i none) H6 s7 → Q s7) →
              wpAny (model X.prog X.w) X.A (do bindName X.env n .none; unbindBehindTheSuite X.env n pos') (fun _ s7 => Q s7) X.xe s6 := fun {σ6 H6 Q} S6 hq => gone_ok (S6.unsuite ok) hN hi hln hq
          cases f with
          | next =>
            obtain ⟨σ6, H6, S6, q6⟩ := hsp
            exact end_ S6 fun s7 J7 => ⟨_, _, J7, q6⟩
          | brk =>
            obtain ⟨σ6, H6, S6, q6⟩ := hsp
            exact end_ S6 fun s7 J7 => ⟨_, _, J7, q6⟩
          | cont =>
            obtain ⟨σ6, H6, S6, q6⟩ := hsp
            exact end_ S6 fun s7 J7 => ⟨_, _, J7, q6⟩
          | ret u =>
            obtain ⟨v6, σ6, H6, S6, r6, q6⟩ := hsp
            exact end_ S6 fun s7 J7 => ⟨_, _, _, J7, r6, q6⟩
        | false =>
          show wpAny _ X.A (handleBy (.ref a) X.env hds2) _ _ _
          exact ih (hno rfl)
    exact go hh w
  · cases f with
    | next =>
      obtain ⟨σ', H', J', q⟩ := hsp
      exact wpAny_execs_nil ⟨σ', H', J'.ofTry ok, q⟩
    | brk =>
      obtain ⟨σ', H', J', q⟩ := hsp
      exact ⟨σ', H', J'.ofTry ok, q⟩
    | cont =>
      obtain ⟨σ', H', J', q⟩ := hsp
      exact ⟨σ', H', J'.ofTry ok, q⟩
    | ret u =>
      obtain ⟨v, σ', H', J', r, q⟩ := hsp
      exact ⟨v, σ', H', J'.ofTry ok, r, q⟩
end
end K1
namespace K1
open PySem PySem.Spec PyProof.Rows L2
theorem takes_len {X : Cx} {W : WX} (tk : Takes X W) : Takes X (fun cls d σ H => σ.length = X.N.length → W cls d σ H) := fun u s' ⟨a, B, sI, pins', σ', H', cls, d, e, J, nb, up, sky, na, os, ag, w⟩ =>
  tk u s' ⟨a, B, sI, pins', σ', H', cls, d, e, J, nb, up, sky, na, os, ag, w J.len⟩
/-- what tells the four classes apart -/
structure Exm (K : PySem.W.Frag) (CF CR CS CU : Addr) : Prop where
  ff : PySem.W.exmOne K (.ref CF) (.ref CF) = some true
  rf : PySem.W.exmOne K (.ref CR) (.ref CF) = some false
  rr : PySem.W.exmOne K (.ref CR) (.ref CR) = some true
  sf : PySem.W.exmOne K (.ref CS) (.ref CF) = some false
  sr : PySem.W.exmOne K (.ref CS) (.ref CR) = some false
  ss : PySem.W.exmOne K (.ref CS) (.ref CS) = some true
  uf : PySem.W.exmOne K (.ref CU) (.ref CF) = some false
  ur : PySem.W.exmOne K (.ref CU) (.ref CR) = some false
  us : PySem.W.exmOne K (.ref CU) (.ref CS) = some false
  uu : PySem.W.exmOne K (.ref CU) (.ref CU) = some true
/-- what the law hears of an error -/
def HE (CF CR CS CU : Addr) (Q : VK) : XK := fun cls d H => ∃ dd : Addr, d = some dd ∧
  ((cls = .ref CF ∧ ∃ v, H dd = some (.xd [("at", v)]) ∧ ∀ p H', Same H H' → H' p = some (.lst [.str "refused", v]) → Q (.ref p) H') ∨
   (cls = .ref CR ∧ ∃ v, H dd = some (.xd [("at", v)]) ∧ ∀ p H', Same H H' → H' p = some (.lst [.str "row", v]) → Q (.ref p) H') ∨
   (cls = .ref CS ∧ ∃ v, H dd = some (.xd [("state", v)]) ∧ ∀ p H', Same H H' → H' p = some (.lst [.str "state", v]) → Q (.ref p) H') ∨
   (cls = .ref CU ∧ ∃ x a b, H dd = some (.xd (uF x a b)) ∧ ∀ p H', Same H H' → H' p = some (.lst [.str "uncommuting", x, a, b]) → Q (.ref p) H'))
def TTh (CF CR CS CU : Addr) : (XK → Hp → VK → Prop) → Hp → VK → Prop := fun tl H Q => tl (HE CF CR CS CU Q) H fun _ H' => 0 ≤ sizeLine ∧ ∀ p, H' p = none → Q (.ref p) (upd H' p (.lst []))
theorem scHe : FnScope ["_law_work", "error"] ["_law_work"] (defScope sHeard) := ⟨rfl, rfl, rfl, by decide +kernel, rfl, by decide +kernel, by decide +kernel⟩
theorem heard_gives {X : Cx} {CF CR CS CU i1 i2 i3 g : Addr} {b1 b2 b3 : List Value} {q1 q2 q3 : Str} {cdg : Value} {q : Str} (B : Bt X.mg) (U : UnC X.K X.mg CU) (T1 : LAt.Txt X.K X.mg "Refused" q1 b1 CF i1) (T2 : LAt.Txt X.K X.mg "BadRow" q2 b2 CR i2)
    (T3 : LState.Txt X.K X.mg "NoState" q3 b3 CS i3) (ex : Exm X.K CF CR CS CU) (g1 : X.mg "Refused" = some (.ref CF)) (g2 : X.mg "BadRow" = some (.ref CR)) (g3 : X.mg "NoState" = some (.ref CS)) :
    LamX.GivesTo X ["_law_work", "error"] "_law_heard" (defScope sHeard) g cdg (defBody sHeard) "_law_work" q (TTh CF CR CS CU) := by
  intro f c' s H Q tl act hc h
  generalize hZ : (cxOf C8.CX0 X.prog X.w X.K X.mg X.base ["_law_work", "error"] "_law_heard" (defScope sHeard) g cdg X.A X.stack s H C8.E0) = Z at act ⊢
  subst hZ
  refine ⟨_, pss_cons (ps_try_all (n := "error") (i := 1) (tb := fun W D σ H => ∃ Ech : XK, (∀ cls d (σ' : L2.St) H', σ'.length = 2 → Ech cls d H' → W cls d σ' H') ∧ σ[0]? = some (some (.ref f)) ∧ H c' = some (LamX.CodeO c' q) ∧ tl Ech H fun _ H1 => D.nx σ H1)
      rfl rfl scHe.nd rfl rfl LamX.takes0 (fun W pn xe tk _ => ?_)
      (.cons (c := .ref CF) ⟨rfl, by decide, .inl g1⟩ (fun a oe cls d pn hz hf => pss_one (ps_ret (pe_lst (pa_cons pe_str (pa_cons (pe_by_LAt T1 hz hf (pv 1)) pa_nil)))))
      (.cons (c := .ref CR) ⟨rfl, by decide, .inl g2⟩ (fun a oe cls d pn hz hf => pss_one (ps_ret (pe_lst (pa_cons pe_str (pa_cons (pe_by_LAt T2 hz hf (pv 1)) pa_nil)))))
      (.cons (c := .ref CS) ⟨rfl, by decide, .inl g3⟩ (fun a oe cls d pn hz hf => pss_one (ps_ret (pe_lst (pa_cons pe_str (pa_cons (pe_by_LState T3 hz hf (pv 1)) pa_nil)))))
      (.cons (c := .ref CU) ⟨rfl, by decide, .inl U.g⟩ (fun a oe cls d pn hz hf => pss_one (ps_ret (pe_lst (pa_cons pe_str (pa_cons (pe_xf U.f U.n1 hz hf (pv 1)) (pa_cons (pe_xf U.f U.n2 hz hf (pv 1)) (pa_cons (pe_xf U.f U.n3 hz hf (pv 1)) pa_nil))))))) .nil)))))
    (pss_one (ps_ret (pe_lst pa_nil))), ?_⟩
  · refine ⟨fun pins s' σ H' D I h' => ?_⟩
    obtain ⟨Ech, hW, h1, h2, h3⟩ := h'
    have hp := fun p1 p2 => act (fun cls d σ H => σ.length = 2 → W cls d σ H) pn xe Ech p1 p2 (takes_len tk) (fun cls d σ' H' e hl => hW cls d σ' H' hl e)
    exact (pss_one (ps_expr (hp _ _))).run pins s' σ H' D I ⟨h1, h2, h3⟩
  · refine ⟨HE CF CR CS CU Q, fun cls d σ' H' hl he => ?_, rfl, hc, h⟩
    obtain ⟨dd, rfl, k⟩ := he
    obtain ⟨v0, v1, rfl⟩ : ∃ v0 v1, σ' = [v0, v1] := by
      match σ', hl with
      | [v0, v1], _ => exact ⟨v0, v1, rfl⟩
    rcases k with ⟨rfl, v, hx, k⟩ | ⟨rfl, v, hx, k⟩ | ⟨rfl, v, hx, k⟩ | ⟨rfl, x, a, b, hx, k⟩
    · refine ⟨true, ex.ff, fun _ e na => ?_, fun z => (by cases z)⟩
      exact ⟨_, rfl, rfl, rfl, dd, v, rfl, hx, (by show 2 ≤ sizeLine; decide), fun p hp => k p _ (same_new hp) upd_same⟩
    · refine ⟨false, ex.rf, fun z => (by cases z), fun _ => ⟨true, ex.rr, fun _ a na => ?_, fun z => (by cases z)⟩⟩
      exact ⟨_, rfl, rfl, rfl, dd, v, rfl, hx, (by show 2 ≤ sizeLine; decide), fun p hp => k p _ (same_new hp) upd_same⟩
    · refine ⟨false, ex.sf, fun z => (by cases z), fun _ => ⟨false, ex.sr, fun z => (by cases z), fun _ => ⟨true, ex.ss, fun _ a na => ?_, fun z => (by cases z)⟩⟩⟩
      exact ⟨_, rfl, rfl, rfl, dd, v, rfl, hx, (by show 2 ≤ sizeLine; decide), fun p hp => k p _ (same_new hp) upd_same⟩
    · refine ⟨false, ex.uf, fun z => (by cases z), fun _ => ⟨false, ex.ur, fun z => (by cases z), fun _ => ⟨false, ex.us, fun z => (by cases z), fun _ => ⟨true, ex.uu, fun _ e na => ?_, fun z => (by cases z)⟩⟩⟩⟩
      refine ⟨_, rfl, rfl, rfl, dd, _, x, rfl, hx, rfl, _, rfl, rfl, rfl, dd, _, a, rfl, hx, rfl, _, rfl, rfl, rfl, dd, _, b, rfl, hx, rfl, (by show 4 ≤ sizeLine; decide), fun p hp => k p _ (same_new hp) upd_same⟩
/-! ### a def whose code object is known -/
structure FunC (K : PySem.W.Frag) (x qual : Str) (st : Stmt) (f : Addr) (fd : FuncData) (cdv : Value) : Prop where
  ex : ∃ (oc : Value) (od : Option Addr) (kV doc pm : Value) (an : Option Addr) (ct : Value) (osl : Array (Option Value)),
    fd = PySem.W.fnOf x qual (defArgs st) (defBody st) (defScope st) .none kV doc pm an cdv ct ∧ K.lookup f = some ⟨oc, od, .func fd, osl⟩ ∧ PySem.W.codeIn K cdv qual = true
  kp : PySem.W.keepIn K (.ref f) = true
theorem FunC.fun {K : PySem.W.Frag} {x qual : Str} {st : Stmt} {f : Addr} {fd : FuncData} {cdv : Value} (F : FunC K x qual st f fd cdv) : Fun K x qual st f fd := by
  obtain ⟨⟨oc, od, kV, doc, pm, an, ct, osl, h1, h2, h3⟩, kp⟩ := F
  exact ⟨⟨oc, od, kV, doc, pm, an, cdv, ct, osl, h1, h2, h3⟩, kp⟩
section
variable {P : Program} {w : World} {K : PySem.W.Frag} {mg : Str → Option Value} {base : Heap}
theorem FunC.ok {x qual : Str} {st : Stmt} {f : Addr} {fd : FuncData} {cdv : Value} {N ps : List Str} {k : Nat} {sp : Sp} (F : FunC K x qual st f fd cdv) (S : FnScope N ps (defScope st)) (len : ∀ vs H Q E, sp vs H Q E → vs.length = ps.length)
    (hbody : ∀ (A : Around) (outer : List Env) (s : Shared) (H : Hp) (vs : List V) (Q : VK) (E : XK), Room k (A.deeper (envOfC qual (defScope st) s.heap.objs.size f cdv)) → sp vs H Q E →
      ∃ t, PSs (cxOf CX0 P w K mg base N qual (defScope st) f cdv A outer s H E).nox (defBody st) t ∧ t { nx := fun _ H' => Q .non H', rt := Q } (start N vs) H) : FnOk P w K mg base CX0 (k + 1) f fd ps sp := by
  obtain ⟨oc, od, kV, doc, pm, an, ct, osl, rfl, lk, hcd⟩ := F.ex
  refine fn_of lk hcd S len fun A outer s H vs Q E hr hsp => ?_
  obtain ⟨t, h, q⟩ := hbody A outer s H vs Q E hr hsp
  exact ⟨t, h.nox, q⟩
end
/-! ### the law's ear -/
structure Hd (K : PySem.W.Frag) (mg : Str → Option Value) (base : Heap) (c P : Addr) (CF CR CS CU : Addr) : Prop where
  B : Bt mg
  df : ∃ g fd, Df K mg "_law_heard" sHeard ["_law_work"] g fd
  u : UnC K mg CU
  t1 : ∃ q b i, LAt.Txt K mg "Refused" q b CF i
  t2 : ∃ q b i, LAt.Txt K mg "BadRow" q b CR i
  t3 : ∃ q b i, LState.Txt K mg "NoState" q b CS i
  ex : Exm K CF CR CS CU
  TB : LamX.TabB base mg c P
theorem pHeard {X : Cx} {c P CF CR CS CU : Addr} {k : Nat} {qn : Str} {params : Arguments} {body : Expr} {scope : Scope} {t : XK → TE} {p lpos pos : Pos} (hd : Hd X.K X.mg X.base c P CF CR CS CU) (hr : Room (k + 2) X.A) (hcode : X.env.code = .ref c)
    (hq : X.env.qual ++ "<lambda>" = qn) (hg : Gl X "_law_heard") (L : LamX.LamS X.env.scope scope) (hdef : defaultsOf params X.env = ([], []))
    (hbind : ∀ (q : Str) (cl : List (Str × Addr)) (pm cv ctv : Value), bindArgs (PySem.W.kla_fn "<lambda>" q params body scope cl pm cv ctv) ⟨[], []⟩ = pure [])
    (hbody : ∀ (A : Around) (outer : List Env) (s : Shared) (H : Hp) (E : XK) (f c' : Addr), Room k (A.deeper (LamX.lamEnv X scope s.heap.objs.size f c')) → PE (LamX.lamCx X A outer s H E scope f c') body (t E)) :
    PE X (.Call (.Name "_law_heard" p) [.Lambda params body scope lpos] [] pos) (LamX.tLam [(P, qn)] (TTh CF CR CS CU) t) := by
  obtain ⟨g, fd, D⟩ := hd.df
  obtain ⟨q1, b1, i1, T1⟩ := hd.t1
  obtain ⟨q2, b2, i2, T2⟩ := hd.t2
  obtain ⟨q3, b3, i3, T3⟩ := hd.t3
  have g1 := T1.gC
  have g2 := T2.gC
  have g3 := T3.gC
  have hb := D.b
  obtain ⟨oc, od, kV, doc, pm, an, cdv, ct, osl, rfl, lk, hcd⟩ := D.F.ex
  exact LamX.pe_lamcall (a := "_law_work") hg D.g D.F.kp lk hcd hb scHe rfl (.inl rfl) (heard_gives hd.B hd.u T1 T2 T3 hd.ex g1 g2 g3) hd.TB hcode (by rw [hq]; exact List.mem_cons_self) (fun p hp _ => by rw [List.mem_singleton.mp hp, hq]) hr L hdef hbind hbody
/-! ### defs told where nothing is being shown -/
section
variable {P : Program} {w : World} {K : PySem.W.Frag} {mg : Str → Option Value} {base : Heap}
theorem okG {x qual : Str} {st : Stmt} {f : Addr} {fd : FuncData} {N ps : List Str} {k : Nat} {sp : Sp} (F : Fun K x qual st f fd) (S : FnScope N ps (defScope st)) (len : ∀ vs H Q E, sp vs H Q E → vs.length = ps.length)
    (hbody : ∀ (cdv : Value) (A : Around) (outer : List Env) (s : Shared) (H : Hp) (vs : List V) (Q : VK) (E : XK), Room k (A.deeper (envOfC qual (defScope st) s.heap.objs.size f cdv)) → (A.deeper (envOfC qual (defScope st) s.heap.objs.size f cdv)).guards = some [] → sp vs H Q E →
      ∃ t, PSs (cxOf CX0 P w K mg base N qual (defScope st) f cdv A outer s H E).nox (defBody st) t ∧ t { nx := fun _ H' => Q .non H', rt := Q } (start N vs) H) : FnG P w K mg base (k + 1) f fd ps sp := by
  obtain ⟨oc, od, kV, doc, pm, an, cdv, ct, osl, rfl, lk, hcd⟩ := F.ex
  refine ⟨len, fun A outer s H args us vs Q E hr hgd e0 hb r hsp => ?_⟩
  refine LamX.run_ofS lk hcd S hr e0 hb r (len _ _ _ _ hsp) fun hr' => ?_
  obtain ⟨t, h, q⟩ := hbody cdv A outer s H vs Q E hr' hgd hsp
  exact ⟨t, h.nox, q⟩
end
section
variable {X : Cx} {k : Nat} {f : Addr} {fd : FuncData} {ps ks : List Str} {sp : Sp} {x : Str} {st : Stmt} {p pos : Pos} {e : Expr} {es : List Expr} {kws : List Keyword} {t tk : TA}
theorem pe_callG (D : Df X.K X.mg x st ps f fd) (G : FnG X.prog X.w X.K X.mg X.base k f fd ps sp) (hr : Room k X.A) (hgd : X.A.guards = some []) (ha : PA X (e :: es) t) (hg : Gl X x := by rfl)
    (hdb : (x == ("__debug__" : Str)) = false := by decide) (he : starEach (e :: es) X.env = (false, eval e X.env) :: starEach es X.env := by rfl) (hpl : (backTo pos (starEach es X.env)).any (·.1) = false := by rfl) :
    PE X (.Call (.Name x p) (e :: es) [] pos) (fun σ H Q => t σ H fun vs H1 => sp vs H1 Q fun _ _ _ => False) := by
  refine ⟨fun pins s σ H Q I h => ?_⟩
  refine wpAny_Call_Name_kw (ld_glob I hg D.g ?_ hdb)
  refine PySem.W.callWith_K (h₀ := X.base) I.ok.mod.kin D.F.kp (thn (ha.run pos pins s σ H _ I h) fun us s1 ⟨vs, H1, I1, r, q⟩ => ⟨I1.kIn, ?_⟩) he hpl
  have hl : us.length = ps.length := by rw [← r.length]; exact G.len _ _ _ _ q
  refine wpAny_call (codeAny_mono (G.run X.A X.stack s1 H1 ⟨us, []⟩ us vs Q (fun _ _ _ => False) hr hgd I1.env0 (by
    have z := D.b s1 us I1.kIn (by rw [List.append_nil]; exact hl)
    rw [List.append_nil] at z
    exact z) r q) fun r s' hq => ?_)
  cases r with
  | error e => exact (show False from hq).elim
  | ok fl =>
    cases fl with
    | ret u => exact I1.after hq
    | next => exact False.elim hq
    | brk => exact False.elim hq
    | cont => exact False.elim hq
/-! ### f(k = v, ..), every argument by its name -/
theorem pe_callW {CX : CXT} {E : XK} {g : List Value → List Value → List Value} {gV : List V → List V → List V} (D : Df X.K X.mg x st ps f fd) (G : FnOk X.prog X.w X.K X.mg X.base CX k f fd ps sp) (hr : Room k X.A) (hb : KBn X.K fd ps 0 ks g gV) (hx : Passes CX X E) (hkw : PK X kws tk) (hg : Gl X x := by rfl)
    (hall : (backToKw pos (keywordEach kws X.env)).all (·.1.isSome) = true := by rfl) (hks : (backToKw pos (keywordEach kws X.env)).filterMap (·.1) = ks := by rfl) (hdb : (x == ("__debug__" : Str)) = false := by decide)
    (hpl : ((backTo pos (starEach [] X.env)).any (·.1) || (backToKw pos (keywordEach kws X.env)).any (·.1.isNone)) = false := by rfl) :
    PE X (.Call (.Name x p) [] kws pos) (fun σ H Q => tk σ H fun zs H1 => zs.length = ks.length ∧ sp (gV [] zs) H1 Q E) := by
  refine ⟨fun pins s σ H Q I h => ?_⟩
  refine wpAny_Call_Name_kw (ld_glob I hg D.g ?_ hdb)
  refine PySem.W.callWith_KW0 (h₀ := X.base) I.ok.mod.kin D.F.kp hall ?_ hpl
  refine thn (hkw.run pos pins s σ H _ I h) fun ws s2 ⟨zs, H2, I2, rz, l2, q2⟩ => ⟨I2.kIn, ?_⟩
  rw [hks]
  exact run_fnN (us := []) (vs := []) G hr hb hx I2 .nil rz rfl l2 q2
end
section
variable {P : Program} {w : World} {K : PySem.W.Frag} {mg : Str → Option Value} {base : Heap}
theorem FunC.okG {x qual : Str} {st : Stmt} {f : Addr} {fd : FuncData} {cdv : Value} {N ps : List Str} {k : Nat} {sp : Sp} (F : FunC K x qual st f fd cdv) (S : FnScope N ps (defScope st)) (len : ∀ vs H Q E, sp vs H Q E → vs.length = ps.length)
    (hbody : ∀ (A : Around) (outer : List Env) (s : Shared) (H : Hp) (vs : List V) (Q : VK) (E : XK), Room k (A.deeper (envOfC qual (defScope st) s.heap.objs.size f cdv)) → (A.deeper (envOfC qual (defScope st) s.heap.objs.size f cdv)).guards = some [] → sp vs H Q E →
      ∃ t, PSs (cxOf CX0 P w K mg base N qual (defScope st) f cdv A outer s H E).nox (defBody st) t ∧ t { nx := fun _ H' => Q .non H', rt := Q } (start N vs) H) : FnG P w K mg base (k + 1) f fd ps sp := by
  obtain ⟨oc, od, kV, doc, pm, an, ct, osl, rfl, lk, hcd⟩ := F.ex
  refine ⟨len, fun A outer s H args us vs Q E hr hgd e0 hb r hsp => ?_⟩
  refine LamX.run_ofS lk hcd S hr e0 hb r (len _ _ _ _ hsp) fun hr' => ?_
  obtain ⟨t, h, q⟩ := hbody A outer s H vs Q E hr' hgd hsp
  exact ⟨t, h.nox, q⟩
end
abbrev gR : List Value → List Value → List Value := fun _ ws => ws.reverse
abbrev gRV : List V → List V → List V := fun _ zs => zs.reverse
/-! ### what stays -/
def RlD (b l : Addr) (T : List (Addr × Str)) (H H' : Hp) : Prop := DealO H' b l ∧ LamX.Tabs T H' ∧ ∀ c o, H c = some o → c ≠ b → c ≠ l → (∀ ps, o ≠ .tbl ps) → H' c = some o
section
variable {b l : Addr} {T : List (Addr × Str)} {H H1 H2 : Hp}
theorem RlD.refl (hb : DealO H b l) (t : LamX.Tabs T H) : RlD b l T H H := ⟨hb, t, fun _ _ e _ _ _ => e⟩
theorem RlD.trans (a : RlD b l T H H1) (c : RlD b l T H1 H2) : RlD b l T H H2 := ⟨c.1, c.2.1, fun d o e n1 n2 n3 => c.2.2 d o (a.2.2 d o e n1 n2 n3) n1 n2 n3⟩
theorem RlD.same (a : RlD b l T H H1) (s : Same H1 H2) : RlD b l T H H2 := ⟨a.1.same s, a.2.1.ext s, fun c o e n1 n2 n3 => s _ _ (a.2.2 c o e n1 n2 n3)⟩
theorem RlD.new {p : Addr} {o : HO} (a : RlD b l T H H1) (hp : H1 p = none) : RlD b l T H (upd H1 p o) := a.same (same_new hp)
theorem DealO.ne {c : Addr} {o : HO} (h : DealO H b l) (e : H c = some o) (ho : ∀ xs, o ≠ .lst xs) : c ≠ b ∧ c ≠ l := by
  obtain ⟨_, ns, z, _, h2, h3⟩ := h
  exact ⟨fun w => by rw [w, h2] at e; exact ho _ (Option.some.inj e).symm, fun w => by rw [w, h3] at e; exact ho _ (Option.some.inj e).symm⟩
theorem tabs_dl (t : LamX.Tabs T H1) (hb : DealO H1 b l) (x : Dl b l H1 H2) : LamX.Tabs T H2 := fun p hp => by
  obtain ⟨ps, h1, h2, h3⟩ := t p hp
  have n1 := hb.ne h1 fun xs => by intro z; cases z
  refine ⟨ps, x.2 _ _ h1 n1.1 n1.2, h2, fun pos cv hc => ?_⟩
  obtain ⟨c, e1, e2⟩ := h3 pos cv hc
  have n2 := hb.ne e2 fun xs => by intro z; unfold LamX.CodeO at z; cases z
  exact ⟨c, e1, x.2 _ _ e2 n2.1 n2.2⟩
theorem RlD.dl (a : RlD b l T H H1) (x : Dl b l H1 H2) : RlD b l T H H2 := ⟨x.1, tabs_dl a.2.1 a.1 x, fun c o e n1 n2 n3 => x.2 _ _ (a.2.2 c o e n1 n2 n3) n1 n2⟩
theorem RlD.ext (a : RlD b l T H H1) (e : LamX.ExtN H1 H2) (t : LamX.Tabs T H2) : RlD b l T H H2 := ⟨by
  obtain ⟨w0, ns, z, w1, w2, w3⟩ := a.1
  exact ⟨w0, ns, z, w1, e _ _ w2 (fun ps z => by cases z), e _ _ w3 (fun ps z => by cases z)⟩, t, fun c o q n1 n2 n3 => e _ _ (a.2.2 c o q n1 n2 n3) n3⟩
theorem RlD.tup {c : Addr} {xs : List V} (a : RlD b l T H H1) (hb : DealO H b l) (h : H c = some (.tup xs)) : H1 c = some (.tup xs) := by
  have n := hb.ne h fun xs => by intro z; cases z
  exact a.2.2 _ _ h n.1 n.2 (fun ps z => by cases z)
theorem RlD.lst {c : Addr} {xs : List V} (a : RlD b l T H H1) (n1 : c ≠ b) (n2 : c ≠ l) (h : H c = some (.lst xs)) : H1 c = some (.lst xs) := a.2.2 _ _ h n1 n2 (fun ps z => by cases z)
theorem RlD.ll {p : Addr} {ts : Ts} (a : RlD b l T H H1) (h : LLo b l H p ts) : LLo b l H1 p ts :=
  let ⟨as, h1, h2, h3, h4⟩ := h
  ⟨as, ⟨a.lst h2 h3 h1.1, h1.2.1, fun i x t e1 e2 => a.lst (h4 x (List.mem_of_getElem? e1)).1 (h4 x (List.mem_of_getElem? e1)).2 (h1.2.2 i x t e1 e2)⟩, h2, h3, h4⟩
theorem RlD.mach {M m ta : Addr} {ts : List (List V)} (a : RlD b l T H H1) (hb : DealO H b l) (h : MachAt M H m ta ts) : MachAt M H1 m ta ts := by
  obtain ⟨⟨dx, t0, h0, h1⟩, as, g1, g2, g3⟩ := h
  have n := hb.ne h1 fun xs => by intro z; cases z
  exact ⟨⟨dx, t0, h0, a.2.2 _ _ h1 n.1 n.2 (fun ps z => by cases z)⟩, as, a.tup hb g1, g2, fun i x t e1 e2 => a.tup hb (g3 i x t e1 e2)⟩
end
theorem reprP {K : PySem.W.Frag} {p : Addr} {d : PyData} {n w : Nat} {H : Hp} {Q : VK} (hd : Dp K H (.ref p) d) (pl : Pl d n w) (hn : n ≤ 40) (hw : w ≤ 100000) (q : Q (.str d.shown) H) : rRepr K [.ref p] H Q := ⟨p, d, rfl, hd, pl.sh, pl.nd, Nat.le_trans pl.dp hn, pl.short hw, q⟩
theorem pl_str {x : Str} (h1 : PyData.strOk x = true) (h2 : x.cps.size ≤ 100) (h3 : (x.cps.toList.all fun c => decide (c < 16 ^ 8)) = true) : Pl (.str x) 0 100 :=
  ⟨by simp only [PyData.canLay0]; exact h1, by simp only [PyData.showable], by simp only [PyData.hasDict], by simp only [PyData.depth]; omega, by simp only [PyData.weight]; exact h2, by simp only [PyData.leavesShort]; exact h3⟩
theorem neV {x : V} {Q : VK} {H : Hp} (hs : scal x x = true) (q : Q (.bl false) H) : rNe x x H Q := ⟨hs, qbl (by rw [decide_eq_true rfl]; rfl) q⟩
theorem nilP {σ : L2.St} {H : Hp} {Q : List V → Hp → Prop} (h : Q [] H) : tNil σ H Q := h
theorem passF {X : Cx} : Passes (L2.CX X.prog X.w) X (fun _ _ _ => False) := passes_call LamX.takes0 fun _ _ _ _ h => h
/-! ### a text times an int -/
def mulS (z : Str) (k : Int) : Str := if k = 1 then z else ⟨(List.replicate k.toNat z.cps).foldl (· ++ ·) #[]⟩
def rMulS : R2 := fun x y H Q => ∃ (z : Str) (k : Int), x = .str z ∧ y = .int k ∧ 1 ≤ k ∧ k ≤ 1000 ∧ z.length = 1 ∧ Q (.str (mulS z k)) H
theorem fold_size (xs : Array Nat) : ∀ (n : Nat) (acc : Array Nat), ((List.replicate n xs).foldl (· ++ ·) acc).size = acc.size + n * xs.size
  | 0, acc => by simp
  | n + 1, acc => by
    rw [List.replicate_succ, List.foldl_cons, fold_size xs n, Array.size_append, Nat.succ_mul]
    omega
theorem op_mulS {X : Cx} : OpR X (binaryOp .Mult) rMulS := by
  intro pins s σ H x y v u Q I rx ry h
  obtain ⟨z, k, rfl, rfl, h1, h2, hz, q⟩ := h
  obtain ⟨t, rfl⟩ := rx
  obtain ⟨t', rfl⟩ := ry
  refine PySem.P.mul_str (by rw [decide_eq_false (by omega), decide_eq_false (by omega)]; rfl) (fun _ e => ?_) (fun _ _ => ?_) ?_
  · rw [hz]
    simp only [Bool.or_eq_false_iff, beq_eq_false_iff_ne] at e
    have : (1 : Int) ≤ (2 ^ 63 - 1) / k := by
      have h3 : k * 1 ≤ 2 ^ 63 - 1 := by omega
      exact Int.le_ediv_of_mul_le (by omega) (by omega)
    omega
  · rw [hz]
    show decide (_ > sizeLine) = false
    exact decide_eq_false (by rw [sizeLine_eq]; omega)
  · rw [if_neg (by omega)]
    unfold mulS at q
    split
    · rename_i e
      rw [if_pos (by simpa [hz] using e)] at q
      exact ⟨.str z, H, I, ⟨_, rfl⟩, q⟩
    · rename_i e
      rw [if_neg (by simpa [hz] using e)] at q
      refine ⟨?_, .str _, H, I.tok _, ⟨_, rfl⟩, q⟩
      show ((List.replicate k.toNat z.cps).foldl (· ++ ·) #[]).size ≤ sizeLine
      rw [fold_size, sizeLine_eq]
      have hz' : z.cps.size = 1 := hz
      rw [hz']
      show 0 + k.toNat * 1 ≤ _
      omega
end K1
namespace K1
open PySem PySem.Spec PyProof.Rows L2
theorem eqD {X : Cx} {K : PySem.W.Frag} (h : X.K = K) (hu : X.A.units + 64 < cLine) : OpR X (compareOp .Eq) (rEqD K) := by
  subst h
  exact op_eqD hu
theorem isTab_row {t : List Int} {n : Nat} (hl : t.length = n) (h : ∀ i ∈ t, 0 ≤ i ∧ i < (n : Int)) : isTab (some (vrow t)) (n : Int) = true := by
  show (seqB (some (vrow t)) (n : Int) (n : Int) && decide (fnb (vrow t) (n : Int) = V.non)) = true
  have e1 : seqB (some (vrow t)) (n : Int) (n : Int) = true := by
    show (decide ((n : Int) ≤ ((vrow t).length : Int)) && decide (((vrow t).length : Int) ≤ (n : Int))) = true
    rw [vrow, List.length_map, hl]
    simp
  rw [e1, fnb_all fun x hx => ?_]; rfl
  obtain ⟨i, hi, rfl⟩ := List.mem_map.mp hx
  obtain ⟨h1, h2⟩ := h i hi
  show (decide (0 ≤ i) && decide (i < (n : Int))) = true
  rw [decide_eq_true h1, decide_eq_true h2]; rfl
theorem chk_wf {ts : Ts} (w : Wf ts) : chkAt (some ((vts ts).map some)) = none := by
  have h1 := w.t1; have h8 := w.t8; have s1 := w.s1; have s12 := w.s12
  have e0 : ((vts ts).map some)[0]? = some (some (vrow ts[0])) := by
    rw [vts, List.map_map, List.getElem?_map, List.getElem?_eq_getElem (by omega)]; rfl
  have el : (vrow ts[0]).length = nS ts := by
    rw [vrow, List.length_map]
    exact (w.row _ (List.getElem_mem _)).1
  show (if ((vts ts).map some).length < 1 ∨ 8 < ((vts ts).map some).length then some (-1) else _) = _
  rw [if_neg (by simp only [vts, List.length_map]; omega), e0]
  show (if (vrow ts[0]).length < 1 ∨ 12 < (vrow ts[0]).length then some 0 else _) = _
  rw [if_neg (by omega), find_none fun j y _ hy => ?_]; rfl
  rw [vts, List.map_map, List.getElem?_map] at hy
  cases e : ts[j]? with
  | none => rw [e] at hy; cases hy
  | some t =>
    rw [e] at hy
    obtain rfl : some (vrow t) = y := Option.some.inj hy
    obtain ⟨r1, r2⟩ := w.row t (List.mem_of_getElem? e)
    rw [el, isTab_row r1 r2]; rfl
theorem mkS {H H' : Hp} {m dx : Addr} {o1 o2 : HO} (hm : H m = none) (hd : H dx = none) (k : ∀ b u, (upd (upd H dx o1) m o2) b = some u → b ≠ m → H' b = some u) : Same H H' := fun c o e =>
  k c o (by rw [upd_ne (ne_of_none e hm), upd_ne (ne_of_none e hd)]; exact e) (ne_of_none e hm)
theorem map_some : ∀ {a b : List (List V)}, a.map some = b.map some → a = b
  | [], [], _ => rfl
  | [], _ :: _, h => by cases h
  | _ :: _, [], h => by cases h
  | x :: a, y :: b, h => by
    rw [List.map_cons, List.map_cons] at h
    injection h with h1 h2
    rw [Option.some.inj h1, map_some h2]
theorem LL.mv {K : PySem.W.Frag} {H : Hp} {p : Addr} {as : List Addr} {ts : Ts} (h : LL H p as ts) : Mv K H (.ref p) (some ((vts ts).map some)) := by
  obtain ⟨h1, h2, h3⟩ := h
  refine .yes (xs := as.map V.ref) (.lst h1) ⟨by rw [List.length_map, List.length_map, vts, List.length_map, h2], fun i x r e1 e2 => ?_⟩
  rw [List.getElem?_map] at e1
  rw [vts, List.map_map, List.getElem?_map] at e2
  cases ea : as[i]? with
  | none => rw [ea] at e1; cases e1
  | some a =>
    cases et : ts[i]? with
    | none => rw [et] at e2; cases e2
    | some t =>
      rw [ea] at e1
      rw [et] at e2
      obtain rfl : V.ref a = x := Option.some.inj e1
      obtain rfl : some (vrow t) = r := Option.some.inj e2
      exact ⟨.lst (h3 i a t ea et), kindsR⟩
/-- what stands but for the source and the tables of code -/
def Kp (b l : Addr) (H H' : Hp) : Prop := ∀ c o, H c = some o → c ≠ b → c ≠ l → (∀ ps, o ≠ .tbl ps) → H' c = some o
theorem Kp.trans {b l : Addr} {H H1 H2 : Hp} (a : Kp b l H H1) (c : Kp b l H1 H2) : Kp b l H H2 := fun d o e n1 n2 n3 => c d o (a d o e n1 n2 n3) n1 n2 n3
structure Val (K : PySem.W.Frag) (b l : Addr) (H : Hp) (v : V) (oc : Option (List V)) (d : PyData) : Prop where
  pl : Pl d 2 1000
  rd : ∀ H', Kp b l H H' → Dp K H' v d ∧ Rw K H' v oc
theorem Val.kp {K : PySem.W.Frag} {b l : Addr} {H H1 : Hp} {v : V} {oc : Option (List V)} {d : PyData} (h : Val K b l H v oc d) (k : Kp b l H H1) : Val K b l H1 v oc d := ⟨h.pl, fun H' k2 => h.rd H' (k.trans k2)⟩
theorem dpa_app {K : PySem.W.Frag} {H : Hp} {ys : List V} {es : List PyData} (h2 : DpAll K H ys es) : ∀ {xs : List V} {ds : List PyData}, DpAll K H xs ds → DpAll K H (xs ++ ys) (ds ++ es)
  | [], [], _ => h2
  | _ :: _, _ :: _, .cons a r => .cons a (dpa_app h2 r)
theorem dpa_ones {K : PySem.W.Frag} {H : Hp} (n : Nat) : DpAll K H (List.replicate n (V.int 1)) (dI (List.replicate n 1)) := by
  have := dp_ints (K := K) (H := H) (List.replicate n 1)
  rw [vrow, List.map_replicate] at this
  exact this
theorem pla_app {es : List PyData} {n v : Nat} (h2 : PlA es n v) : ∀ (ds : List PyData) (w : Nat), PlA ds n w → PlA (ds ++ es) n (w + v + ds.length)
  | [], w, _ => h2.mono (Nat.le_refl _) (by simp)
  | d :: ds, w, h => by
    have h1 := h.lay; have h3 := h.sh; have h4 := h.nd; have h5 := h.dp; have h6 := h.wt; have h7 := h.sr
    simp only [PyData.canLayAll0, Bool.and_eq_true] at h1
    simp only [PyData.showableAll, Bool.and_eq_true] at h3
    simp only [PyData.hasDictAll, Bool.or_eq_false_iff] at h4
    simp only [PyData.depthAll] at h5
    simp only [PyData.weightAll] at h6
    simp only [PyData.leavesShortAll, Bool.and_eq_true] at h7
    have r := pla_app h2 ds (PyData.weightAll ds) ⟨h1.2, h3.2, h4.2, by omega, Nat.le_refl _, h7.2⟩
    refine (PlA.cons (d := d) (n := n) (u := PyData.weight d) ⟨h1.1, h3.1, h4.1, by omega, Nat.le_refl _, h7.1⟩ r).mono (by omega) ?_
    simp only [List.length_cons]
    omega
theorem pla_ones (n : Nat) : PlA (dI (List.replicate n 1)) 0 (n * 65) := (pla_ints (List.replicate n 1) fun i hi => by rw [(List.mem_replicate.mp hi).2]; decide).mono (Nat.le_refl _) (Nat.le_of_eq (by rw [List.length_replicate]))
/-- what is no number of times -/
def OddA (K : PySem.W.Frag) (b l : Addr) (H : Hp) (v : V) (d : PyData) : Prop := (∃ oc, Val K b l H v oc d) ∧ Pl d 1 100 ∧ numB v = false ∧ ∀ n : Nat, belowB v (n : Int) = false
theorem pl_one : Pl (.str "1") 0 100 := pl_str (by decide +kernel) (by decide) (by decide +kernel)
theorem odd_of {K : PySem.W.Frag} {b l : Addr} {H : Hp} {v : V} {t : Addr} (hb : t ≠ b ∧ t ≠ l) (ht : H t = some (.tup [.int 1])) (h : v ∈ [V.int (-1), .non, .bl true, .str "1", .ref t]) : ∃ d, OddA K b l H v d := by
  have no : ∀ (H' : Hp) (v : V), KV K H' v none → Rw K H' v none := fun H' v k => ⟨k, fun ys e => (by cases e)⟩
  simp only [List.mem_cons, List.mem_nil_iff, or_false] at h
  rcases h with rfl | rfl | rfl | rfl | rfl
  · exact ⟨.int (-1), ⟨none, (Pl.int (by decide)).mono (by decide) (by decide), fun H' _ => ⟨.int _, no _ _ (.int _)⟩⟩, (Pl.int (by decide)).mono (by decide) (by decide), rfl, fun n => rfl⟩
  · exact ⟨.none, ⟨none, ⟨rfl, rfl, rfl, by show 0 ≤ 2; decide, by show _ ≤ 1000; decide +kernel, rfl⟩, fun H' _ => ⟨.non, no _ _ .non⟩⟩, ⟨rfl, rfl, rfl, by show 0 ≤ 1; decide, by show _ ≤ 100; decide +kernel, rfl⟩, rfl, fun n => rfl⟩
  · exact ⟨.bool true, ⟨none, (Pl.bl true).mono (by decide) (by decide), fun H' _ => ⟨.bl _, no _ _ (.bl _)⟩⟩, (Pl.bl true).mono (by decide) (by decide), rfl, fun n => rfl⟩
  · exact ⟨.str "1", ⟨none, pl_one.mono (by decide) (by decide), fun H' _ => ⟨.str _, no _ _ (.str _)⟩⟩, pl_one.mono (by decide) (by decide), rfl, fun n => rfl⟩
  · have p1 : Pl (.tuple (dI [1])) 1 65 := (Pl.tuple (pla_ints [1] fun i hi => by rw [List.mem_singleton.mp hi]; decide))
    refine ⟨.tuple (dI [1]), ⟨some (vrow [1]), p1.mono (by decide) (by decide), fun H' k => ?_⟩, p1.mono (by decide) (by decide), rfl, fun n => rfl⟩
    have h' := k t _ ht hb.1 hb.2 (fun ps z => by cases z)
    exact ⟨dp_tup (t := [1]) h', .tup h', kindsR⟩
theorem mul_one : ∀ n : Nat, 1 ≤ n → n ≤ 6 → Pl (.str (mulS "1" (n : Int))) 0 100
  | 1, _, _ => pl_str (by decide +kernel) (by decide +kernel) (by decide +kernel)
  | 2, _, _ => pl_str (by decide +kernel) (by decide +kernel) (by decide +kernel)
  | 3, _, _ => pl_str (by decide +kernel) (by decide +kernel) (by decide +kernel)
  | 4, _, _ => pl_str (by decide +kernel) (by decide +kernel) (by decide +kernel)
  | 5, _, _ => pl_str (by decide +kernel) (by decide +kernel) (by decide +kernel)
  | 6, _, _ => pl_str (by decide +kernel) (by decide +kernel) (by decide +kernel)
  | n + 7, _, h => absurd h (by omega)
/-- what are no counts of n deeds -/
def BadA (K : PySem.W.Frag) (b l : Addr) (H : Hp) (v : V) (n : Nat) (d : PyData) : Prop := ∃ oc, Val K b l H v oc d ∧ cntB oc n = false
theorem bad_lst {K : PySem.W.Frag} {b l a : Addr} {H : Hp} {xs : List V} {ds : List PyData} {n : Nat} (hb : a ≠ b ∧ a ≠ l) (ha : H a = some (.lst xs)) (hd : ∀ H', Kp b l H H' → DpAll K H' xs ds ∧ Kinds K H' xs) (pl : PlA ds 1 1000) (hc : cntB (some xs) n = false) : ∃ d, BadA K b l H (.ref a) n d :=
  ⟨.list ds, some xs, ⟨Pl.list pl, fun H' k => by
    have h' := k a _ ha hb.1 hb.2 (fun ps z => by cases z)
    obtain ⟨q1, q2⟩ := hd H' k
    exact ⟨.lst (SqL.of h') q1, .lst h', fun ys e => by obtain rfl := Option.some.inj e; exact q2⟩⟩, hc⟩
theorem bad_sc {K : PySem.W.Frag} {b l : Addr} {H : Hp} {v : V} {d : PyData} {n : Nat} (pl : Pl d 2 1000) (h : ∀ H', Dp K H' v d ∧ KV K H' v none) : ∃ d, BadA K b l H v n d :=
  ⟨d, none, ⟨pl, fun H' _ => ⟨(h H').1, (h H').2, fun ys e => (by cases e)⟩⟩, rfl⟩
theorem kinds_ones {K : PySem.W.Frag} {H : Hp} (n : Nat) : Kinds K H (List.replicate n (V.int 1)) := fun x hx => by
  rw [(List.mem_replicate.mp hx).2]
  exact ⟨_, .int 1⟩
theorem kinds_app {K : PySem.W.Frag} {H : Hp} {xs ys : List V} (h1 : Kinds K H xs) (h2 : Kinds K H ys) : Kinds K H (xs ++ ys) := fun x hx => (List.mem_append.mp hx).elim (h1 x) (h2 x)
theorem dp_pair {K : PySem.W.Frag} {H : Hp} {p : Addr} {w : Str} {v : V} {d : PyData} (h : H p = some (.lst [.str w, v])) (hv : Dp K H v d) : Dp K H (.ref p) (.list [.str w, d]) := .lst (SqL.of h) (.cons (.str w) (.cons hv .nil))
theorem pl_pair {w : Str} {d : PyData} (hw : Pl (.str w) 0 100) (hd : Pl d 2 1000) : Pl (.list [.str w, d]) 3 2000 := (Pl.list (PlA.cons hw (PlA.cons hd PlA.nil))).mono (by decide) (by decide)
theorem pl_ref : Pl (.str "refused") 0 100 := pl_str (by decide +kernel) (by decide) (by decide +kernel)
theorem pl_sta : Pl (.str "state") 0 100 := pl_str (by decide +kernel) (by decide) (by decide +kernel)
theorem pl_row : Pl (.str "row") 0 100 := pl_str (by decide +kernel) (by decide) (by decide +kernel)
theorem pl_unc : Pl (.str "uncommuting") 0 100 := pl_str (by decide +kernel) (by decide) (by decide +kernel)
theorem rep_byI {Q : VK} {H : Hp} {l : Addr} {x : V} {kI : Int} (k : Nat) (e : kI = (k : Int)) (h : H l = some (.lst [x])) (hk : k ≤ 100000) (q : ∀ p, H p = none → Q (.ref p) (upd H p (.lst (List.replicate k x)))) : rRep (.ref l) (.int kI) H Q := by
  subst e
  exact rep_by k h hk q
section
variable {CF CR CS CU : Addr} {Q : VK} {H : Hp} {v : V}
theorem heF (k : ∀ p H', Same H H' → H' p = some (.lst [.str "refused", v]) → Q (.ref p) H') : Rz CF "at" v H (HE CF CR CS CU Q) := fun d H' sm hd hx => ⟨d, rfl, .inl ⟨rfl, v, hx, fun p H'' s2 hp => k p H'' (sm.trans s2) hp⟩⟩
theorem heR (k : ∀ p H', Same H H' → H' p = some (.lst [.str "row", v]) → Q (.ref p) H') : Rz CR "at" v H (HE CF CR CS CU Q) := fun d H' sm hd hx => ⟨d, rfl, .inr (.inl ⟨rfl, v, hx, fun p H'' s2 hp => k p H'' (sm.trans s2) hp⟩)⟩
theorem heS (k : ∀ p H', Same H H' → H' p = some (.lst [.str "state", v]) → Q (.ref p) H') : Rz CS "state" v H (HE CF CR CS CU Q) := fun d H' sm hd hx => ⟨d, rfl, .inr (.inr (.inl ⟨rfl, v, hx, fun p H'' s2 hp => k p H'' (sm.trans s2) hp⟩))⟩
theorem heU {x a b : Int} (k : ∀ p H', Same H H' → H' p = some (.lst [.str "uncommuting", .int x, .int a, .int b]) → Q (.ref p) H') : RzU CU x a b H (HE CF CR CS CU Q) := fun d H' sm hd hx => ⟨d, rfl, .inr (.inr (.inr ⟨rfl, _, _, _, hx, fun p H'' s2 hp => k p H'' (sm.trans s2) hp⟩))⟩
end
/-! ### two deeds that clash -/
abbrev cts : Ts := [[0, 2, 2], [1, 1, 0]]
theorem cts_wf : Wf cts := ⟨by decide, by decide, by decide, by decide, by decide⟩
theorem cts_paper {ns : List Int} {r : Option (Int × Int × Int)} (asc : ns.Pairwise (· < ·)) (mem : ∀ x, x ∈ ns ↔ Reach cts 0 x) (p : PaperIs cts ns r) : r = some (0, 0, 1) := by
  have h0 : (0 : Int) ∈ ns := (mem 0).mpr .refl
  have lo : ∀ x ∈ ns, 0 ≤ x := fun x hx => (Reach.rng cts_wf (show 0 ≤ (0 : Int) ∧ (0 : Int) < (nS cts : Int) by decide) ((mem x).mp hx)).1
  have e0 : ns[0]? = some 0 := by
    cases ns with
    | nil => cases h0
    | cons a t =>
      rcases List.mem_cons.mp h0 with z | z
      · rw [← z]; rfl
      · have h1 := List.rel_of_pairwise_cons asc z
        have h2 := lo a List.mem_cons_self
        omega
  have i0 : In8 cts 0 := ⟨by decide, by decide⟩
  have i1 : In8 cts 1 := ⟨by decide, by decide⟩
  have bad : Bad cts 0 0 1 := by decide
  refine paper_one p (s := some (0, 0, 1)) ⟨0, e0, i0, i1, bad, fun j y hj => absurd hj (Nat.not_lt_zero _), fun c d hc _ hlt => absurd hc.1 (by omega), fun d hd hlt => ?_⟩
  have : d = 0 := by have := hd.1; omega
  subst this
  exact fun w => w rfl
end K1
namespace K1
open PySem PySem.Spec PyProof.Rows L2
theorem pe_fldK {X : Cx} {K : PySem.W.Frag} {e : Expr} {f : Str} {pos : Pos} {ta : TE} (h : X.K = K) (he : PE X e ta) (hb : attributeBase e f X.env (eval e X.env) = eval e X.env) : PE X (.Attribute e f pos) (tFld K ta f) := by
  subst h
  exact pe_fld he hb
theorem neSame {K : PySem.W.Frag} {H : Hp} {p p2 : Addr} {d : PyData} {n w : Nat} {Q : VK} (h1 : Dp K H (.ref p) d) (h2 : Dp K H (.ref p2) d) (pl : Pl d n w) (hn : n ≤ 40) (q : Q (.bl false) H) : rNeD K (.ref p) (.ref p2) H Q :=
  ⟨d, d, h1, h2, pl.shaped hn, pl.shaped hn, qbl (by rw [SeqAt.eqv_refl _ pl.lay]; rfl) q⟩
abbrev nOd : List Str := ["_law_deal", "_law_machine_here", "_law_first", "_law_row", "_law_bad", "_law_clash", "_law_odd"]
theorem scOd : FnScope nOd ["_law_deal", "_law_machine_here", "_law_first", "_law_row"] (defScope sOdd) := ⟨rfl, rfl, rfl, by decide +kernel, rfl, by decide +kernel, by decide +kernel⟩
def qOd : Str := (envOfC "_law_is_odd_told" (defScope sOdd) 0 0 Value.none).qual ++ "<lambda>"
def spOdd (M : Addr) (T : List (Addr × Str)) : Sp := fun vs H Q _ => ∃ (b l m ta rw : Addr) (ts : Ts) (s : Int) (row : List Int), vs = [.ref b, .ref m, .int s, .ref rw] ∧ DealO H b l ∧ LamX.Tabs T H ∧ MachAt M H m ta (vts ts) ∧ Wf ts ∧ (0 ≤ s ∧ s < (nS ts : Int)) ∧ H rw = some (.lst (vrow row)) ∧ rw ≠ b ∧ rw ≠ l ∧ (∀ d ∈ row, 0 ≤ d ∧ d < (ts.length : Int)) ∧ 1 ≤ row.length ∧ row.length ≤ 6 ∧
  ∀ H', RlD b l T H H' → Q (.bl true) H'
section
variable {P : Program} {w : World} {K : PySem.W.Frag} {mg : Str → Option Value} {base : Heap}
theorem ok_odd {f fO fT fC fH fI M CM CF CR CS CU c Pt : Addr} {fd fdO fdT fdC fdH fdI : FuncData} (F : FunC K "_law_is_odd_told" "_law_is_odd_told" sOdd f fd (.ref c)) (hd : Hd K mg base c Pt CF CR CS CU) (DO : Df K mg "_law_of" sOf ["_law_deal", "_law_some"] fO fdO) (DT : Df K mg "led_times" sTimes ["machine", "state", "row", "times"] fT fdT)
    (DC : Df K mg "led_counts" sCounts ["machine", "first", "deeds", "counts"] fC fdC) (DH : Df K mg "harmless_period" sHarm ["machine", "first"] fH fdH) (MI : Mk K M fI) (BI : Binds K fdI ["self", "tables"] []) (TM : McT K mg M)
    (GO : FnOk P w K mg base CX0 2 fO fdO ["_law_deal", "_law_some"] spOf) (GT : FnOk P w K mg base (L2.CX P w) 7 fT fdT ["machine", "state", "row", "times"] (spTimes K M CS CR CF)) (GC : FnOk P w K mg base (L2.CX P w) 8 fC fdC ["machine", "first", "deeds", "counts"] (spCounts K M CS CR CF))
    (GH : FnOk P w K mg base (L2.CX P w) 7 fH fdH ["machine", "first"] (spHarm K M CS CU)) (GI : FnOk P w K mg base (L2.CX P w) 6 fI fdI ["self", "tables"] (spMInit K CM M)) :
    FnG P w K mg base 11 f fd ["_law_deal", "_law_machine_here", "_law_first", "_law_row"] (spOdd M [(Pt, qOd)]) := by
  have B := hd.B
  refine F.okG scOd (fun vs H Q E h => ?_) (fun A outer s H vs Q E hr hgd h => ?_)
  · obtain ⟨b, l, m, ta, rw_, ts, st, row, rfl, _⟩ := h
    rfl
  · obtain ⟨b, l, m, ta, rw_, ts, st, row, rfl, hb, hTb, hM, hW, hst, hrw, nwb, nwl, hd8, hl1, hl6, q⟩ := h
    have hu := hr.units
    have r2 := hr.mono (show 2 ≤ 10 by decide)
    have r7 := hr.mono (show 7 ≤ 10 by decide)
    refine ⟨_, pss_cons (ps_set (i := 6) scOd.nd rfl (.inr rfl) (pc DO GO r2 pass0 (pa_cons (pv 0) (pa_cons (pe_lst (pa_cons (pe_un un_neg pe_int) (pa_cons pe_non (pa_cons pe_bl (pa_cons pe_str (pa_cons (pe_tup (pa_cons pe_int pa_nil)) pa_nil)))))) pa_nil))))
      (pss_cons (ps_if (pt_cmpR op_ne (pe_callB (call_repr hgd hu) (by rfl) B.repr (by decide +kernel) (pa_cons (pHeard (qn := qOd) hd hr rfl rfl rfl (LamX.lamS_by (by rfl)) rfl (fun _ _ _ _ _ => rfl) (fun A outer s H E f c' hr2 => pc DT GT (hr2.mono (show 7 ≤ 8 by decide)) (pass1 (E := E) (takes_of rfl rfl rfl rfl)) (pa_cons (pv 1) (pa_cons (pv 2) (pa_cons (pv 3) (pa_cons (pv 6) pa_nil)))))) pa_nil)) (pe_callB (call_repr hgd hu) (by rfl) B.repr (by decide +kernel) (pa_cons (pe_lst (pa_cons pe_str (pa_cons (pv 6) pa_nil))) pa_nil)) (nomark _)) (pss_one (ps_ret pe_bl)) pss_nil)
      (pss_cons (ps_if (pt_cmpR op_ne (pe_callB (call_repr hgd hu) (by rfl) B.repr (by decide +kernel) (pa_cons (pHeard (qn := qOd) hd hr rfl rfl rfl (LamX.lamS_by (by rfl)) rfl (fun _ _ _ _ _ => rfl) (fun A outer s H E f c' hr2 => pc DT GT (hr2.mono (show 7 ≤ 8 by decide)) (pass1 (E := E) (takes_of rfl rfl rfl rfl)) (pa_cons (pv 1) (pa_cons (pv 6) (pa_cons (pv 6) (pa_cons (pv 6) pa_nil)))))) pa_nil)) (pe_callB (call_repr hgd hu) (by rfl) B.repr (by decide +kernel) (pa_cons (pe_lst (pa_cons pe_str (pa_cons (pv 6) pa_nil))) pa_nil)) (nomark _)) (pss_one (ps_ret pe_bl)) pss_nil)
      (pss_cons (ps_if (pt_cmpR (neD (K := K) rfl hu) (pHeard (qn := qOd) hd hr rfl rfl rfl (LamX.lamS_by (by rfl)) rfl (fun _ _ _ _ _ => rfl) (fun A outer s H E f c' hr2 => pc DT GT (hr2.mono (show 7 ≤ 8 by decide)) (pass1 (E := E) (takes_of rfl rfl rfl rfl)) (pa_cons (pv 1) (pa_cons (pv 2) (pa_cons (pe_op op_cat (pv 3) (pe_lst (pa_cons (pe_fldK (K := K) rfl (pv 1) rfl) pa_nil))) (pa_cons (pv 6) pa_nil)))))) (pe_lst (pa_cons pe_str (pa_cons (pe_callB call_len_seq (by rfl) B.len PySem.boot_len (pa_cons (pv 3) pa_nil)) pa_nil))) (nomark _)) (pss_one (ps_ret pe_bl)) pss_nil)
      (pss_cons (ps_if (pt_cmpR op_ne (pe_callB (call_repr hgd hu) (by rfl) B.repr (by decide +kernel) (pa_cons (pHeard (qn := qOd) hd hr rfl rfl rfl (LamX.lamS_by (by rfl)) rfl (fun _ _ _ _ _ => rfl) (fun A outer s H E f c' hr2 => pc DH GH (hr2.mono (show 7 ≤ 8 by decide)) (pass1 (E := E) (takes_of rfl rfl rfl rfl)) (pa_cons (pv 1) (pa_cons (pv 6) pa_nil)))) pa_nil)) (pe_callB (call_repr hgd hu) (by rfl) B.repr (by decide +kernel) (pa_cons (pe_lst (pa_cons pe_str (pa_cons (pv 6) pa_nil))) pa_nil)) (nomark _)) (pss_one (ps_ret pe_bl)) pss_nil)
      (pss_cons (ps_set (i := 4) scOd.nd rfl (.inr rfl) (pc DO GO r2 pass0 (pa_cons (pv 0) (pa_cons (pe_lst (pa_cons pe_non (pa_cons pe_int (pa_cons (pe_op op_rep (pe_lst (pa_cons pe_int pa_nil)) (pe_op op_add (pe_callB call_len_seq (by rfl) B.len PySem.boot_len (pa_cons (pv 3) pa_nil)) pe_int)) (pa_cons (pe_op op_cat (pe_op op_rep (pe_lst (pa_cons pe_int pa_nil)) (pe_callB call_len_seq (by rfl) B.len PySem.boot_len (pa_cons (pv 3) pa_nil))) (pe_lst (pa_cons pe_non pa_nil))) (pa_cons (pe_op op_mulS pe_str (pe_callB call_len_seq (by rfl) B.len PySem.boot_len (pa_cons (pv 3) pa_nil))) (pa_cons (pe_op op_cat (pe_lst (pa_cons (pv 6) pa_nil)) (pe_op op_rep (pe_lst (pa_cons pe_int pa_nil)) (pe_op op_sub (pe_callB call_len_seq (by rfl) B.len PySem.boot_len (pa_cons (pv 3) pa_nil)) pe_int))) pa_nil))))))) pa_nil))))
      (pss_cons (ps_if (pt_cmpR op_ne (pe_callB (call_repr hgd hu) (by rfl) B.repr (by decide +kernel) (pa_cons (pHeard (qn := qOd) hd hr rfl rfl rfl (LamX.lamS_by (by rfl)) rfl (fun _ _ _ _ _ => rfl) (fun A outer s H E f c' hr2 => pc DC GC hr2 (pass1 (E := E) (takes_of rfl rfl rfl rfl)) (pa_cons (pv 1) (pa_cons (pv 2) (pa_cons (pv 3) (pa_cons (pv 4) pa_nil)))))) pa_nil)) (pe_callB (call_repr hgd hu) (by rfl) B.repr (by decide +kernel) (pa_cons (pe_lst (pa_cons pe_str (pa_cons (pv 4) pa_nil))) pa_nil)) (nomark _)) (pss_one (ps_ret pe_bl)) pss_nil)
      (pss_cons (ps_if (pt_cmpR (neD (K := K) rfl hu) (pHeard (qn := qOd) hd hr rfl rfl rfl (LamX.lamS_by (by rfl)) rfl (fun _ _ _ _ _ => rfl) (fun A outer s H E f c' hr2 => pc DC GC hr2 (pass1 (E := E) (takes_of rfl rfl rfl rfl)) (pa_cons (pv 1) (pa_cons (pv 2) (pa_cons (pe_lst (pa_cons (pe_fldK (K := K) rfl (pv 1) rfl) pa_nil)) (pa_cons (pv 4) pa_nil)))))) (pe_lst (pa_cons pe_str (pa_cons pe_int pa_nil))) (nomark _)) (pss_one (ps_ret pe_bl)) pss_nil)
      (pss_cons (ps_set (i := 5) scOd.nd rfl (.inr rfl) (pe_make MI GI r7 rfl TM.g BI .nil passF (pa_cons (pe_lst (pa_cons (pe_lst (pa_cons pe_int (pa_cons pe_int (pa_cons pe_int pa_nil)))) (pa_cons (pe_lst (pa_cons pe_int (pa_cons pe_int (pa_cons pe_int pa_nil)))) pa_nil))) pa_nil)))
      (pss_one (ps_ret (pe_cmpR (eqD (K := K) rfl hu) (pHeard (qn := qOd) hd hr rfl rfl rfl (LamX.lamS_by (by rfl)) rfl (fun _ _ _ _ _ => rfl) (fun A outer s H E f c' hr2 => pc DH GH (hr2.mono (show 7 ≤ 8 by decide)) (pass1 (E := E) (takes_of rfl rfl rfl rfl)) (pa_cons (pv 5) (pa_cons pe_int pa_nil)))) (pe_lst (pa_cons pe_str (pa_cons pe_int (pa_cons pe_int (pa_cons pe_int pa_nil))))) (nomark _)))))))))))), ?_⟩
    have hrok := rowF_ok (n := ts.length) (row := row) (by omega) hd8
    have TT := hTb
    refine ⟨_, rfl, 1, rfl, (by show 1 ≤ sizeLine; decide), fun t ht => ⟨(by show 5 ≤ sizeLine; decide), fun pl hpl => ?_⟩⟩
    have RA := ((RlD.refl hb hTb).new (o := HO.tup [V.int 1]) ht).new (o := HO.lst [V.int (-1), .non, .bl true, .str "1", .ref t]) hpl
    have htb := hb.nb ht
    have htl := hb.nl ht
    have hplb := ((RlD.refl hb hTb).new (o := HO.tup [V.int 1]) ht).1.nb hpl
    have hpll := ((RlD.refl hb hTb).new (o := HO.tup [V.int 1]) ht).1.nl hpl
    have htt := (same_new (o := HO.lst [V.int (-1), .non, .bl true, .str "1", .ref t]) hpl) _ _ (upd_same : (upd H t (.tup [V.int 1])) t = _)
    refine ⟨b, l, pl, _, rfl, RA.1, upd_same, hplb, hpll, by show 1 ≤ 5; decide, by show 5 ≤ 1000; decide, fun iv v H1 hv dl1 => ?_⟩
    have RB := RA.dl dl1
    have hM1 := RB.mach hb hM
    have hrw1 := RB.lst nwb nwl hrw
    obtain ⟨d, ⟨ov, vd⟩, pld, onum, obel⟩ := odd_of (K := K) (H := H1) ⟨htb, htl⟩ (dl1.2 _ _ htt htb htl) (List.mem_of_getElem? hv)
    have hb1 := RB.1
    have R1 : RlD b l [(Pt, qOd)] H1 H1 := RlD.refl RB.1 RB.2.1
    clear hv htt dl1 RA
    -- times that are none
    refine ⟨R1.2.1, fun G1 eN t1 => ?_⟩
    have R2 := R1.ext eN t1
    refine ⟨_, rfl, _, rfl, _, rfl, _, rfl, m, ta, ts, .int st, .ref rw_, v, rfl, R2.mach hb1 hM1, hW, ⟨_, .int st⟩, ⟨_, (vd.rd _ R2.2.2).2.kv⟩, fun e => (by rw [belowI hst] at e; cases e), fun _ => ⟨st, some (vrow row), rfl, ⟨.lst (R2.lst nwb nwl hrw1), kindsR⟩, fun hne => absurd hrok hne, fun _ => ⟨row, rfl, hd8, fun _ => heF fun p G2 s2 hp => ?_, fun t' et => absurd onum (by rw [et]; simp [numB])⟩⟩⟩
    refine nilP (reprP (dp_pair hp (vd.rd _ (R2.same s2).2.2).1) (pl_pair pl_ref vd.pl) (by decide) (by decide) ⟨_, rfl, (by show 2 ≤ sizeLine; decide), fun p2 hp2 => nilP (reprP (dp_pair upd_same (vd.rd _ ((R2.same s2).new hp2).2.2).1) (pl_pair pl_ref vd.pl) (by decide) (by decide) (neV rfl ⟨_, rfl, iteF ?_⟩))⟩)
    replace R2 := (R2.same s2).new (o := HO.lst [V.str "refused", v]) hp2
    generalize upd G2 p2 (.lst [V.str "refused", v]) = J2 at R2 ⊢
    clear hp hp2 s2 eN t1
    -- a state that is none
    refine ⟨R2.2.1, fun G3 eN t1 => ?_⟩
    have R3 := R2.ext eN t1
    refine ⟨_, rfl, _, rfl, _, rfl, _, rfl, m, ta, ts, v, v, v, rfl, R3.mach hb1 hM1, hW, ⟨_, (vd.rd _ R3.2.2).2.kv⟩, ⟨_, (vd.rd _ R3.2.2).2.kv⟩, fun _ => heS fun p G2 s2 hp => ?_, fun e => (by rw [obel] at e; cases e)⟩
    refine nilP (reprP (dp_pair hp (vd.rd _ (R3.same s2).2.2).1) (pl_pair pl_sta vd.pl) (by decide) (by decide) ⟨_, rfl, (by show 2 ≤ sizeLine; decide), fun p2 hp2 => nilP (reprP (dp_pair upd_same (vd.rd _ ((R3.same s2).new hp2).2.2).1) (pl_pair pl_sta vd.pl) (by decide) (by decide) (neV rfl ⟨_, rfl, iteF ?_⟩))⟩)
    replace R3 := (R3.same s2).new (o := HO.lst [V.str "state", v]) hp2
    generalize upd G2 p2 (.lst [V.str "state", v]) = J3 at R3 ⊢
    clear hp hp2 s2 eN t1
    -- a row that is none
    refine ⟨R3.2.1, fun G4 eN t1 => ?_⟩
    have R4 := R3.ext eN t1
    obtain ⟨dx4, hf4⟩ := (R4.mach hb1 hM1).fs
    have hrw4 := R4.lst nwb nwl hrw1
    refine ⟨_, rfl, _, rfl, _, rfl, _, rfl, m, M, dx4, _, _, rfl, hf4, TM.cl, TM.nD, mf_d _ _ _, (by show 1 ≤ sizeLine; decide), fun x1 hx1 => ⟨rw_, x1, _, _, rfl, rfl, (same_new hx1) _ _ hrw4, upd_same, by rw [vrow, List.length_map, sizeLine_eq]; simp only [List.length_cons, List.length_nil]; omega, fun x2 hx2 => ?_⟩⟩
    have R5 := (R4.new (o := HO.lst [V.int (ts.length : Int)]) hx1).new (o := HO.lst (vrow row ++ [V.int (ts.length : Int)])) hx2
    have hx25 : (upd (upd G4 x1 (.lst [V.int (ts.length : Int)])) x2 (.lst (vrow row ++ [V.int (ts.length : Int)]))) x2 = some (.lst (vrow (row ++ [(ts.length : Int)]))) := by rw [upd_same, vrow, vrow, List.map_append]; rfl
    generalize upd (upd G4 x1 (.lst [V.int (ts.length : Int)])) x2 (.lst (vrow row ++ [V.int (ts.length : Int)])) = J4 at R5 hx25 ⊢
    have efb : rowF (some (vrow (row ++ [(ts.length : Int)]))) (ts.length : Int) = .int (row.length : Int) := by
      unfold rowF
      rw [if_pos (by
        show (decide ((0 : Int) ≤ ((vrow (row ++ [(ts.length : Int)])).length : Int)) && decide (((vrow (row ++ [(ts.length : Int)])).length : Int) ≤ 10000)) = true
        rw [vrow, List.length_map, List.length_append, decide_eq_true (by omega), decide_eq_true (by simp only [List.length_cons, List.length_nil]; omega)]; rfl)]
      show fnb (vrow (row ++ [(ts.length : Int)])) (ts.length : Int) = _
      refine fnb_at (i := row.length) (x := .int (ts.length : Int)) ?_ ?_ fun j y hj hy => ?_
      · rw [vrow, List.getElem?_map, List.getElem?_append_right (Nat.le_refl _), Nat.sub_self]; rfl
      · show (decide (0 ≤ (ts.length : Int)) && decide ((ts.length : Int) < (ts.length : Int))) = false
        rw [decide_eq_false (Int.lt_irrefl _), Bool.and_false]
      · rw [vrow, List.getElem?_map, List.getElem?_append_left hj, List.getElem?_eq_getElem hj] at hy
        obtain rfl := Option.some.inj hy
        exact belowI (hd8 _ (List.getElem_mem hj))
    have plr : Pl (.list [.str "row", .int (row.length : Int)]) 3 2000 := pl_pair pl_row ((Pl.int (by omega)).mono (by decide) (by decide))
    refine ⟨_, rfl, m, ta, ts, .int st, .ref x2, v, rfl, R5.mach hb1 hM1, hW, ⟨_, .int st⟩, ⟨_, (vd.rd _ R5.2.2).2.kv⟩, fun e => (by rw [belowI hst] at e; cases e), fun _ => ⟨st, some (vrow (row ++ [(ts.length : Int)])), rfl, ⟨.lst hx25, kindsR⟩, fun _ => ?_, fun hn => (by rw [efb] at hn; cases hn)⟩⟩
    rw [efb]
    refine heR fun p G2 s2 hp => ?_
    have hrw5 := (R5.same s2).lst nwb nwl hrw1
    refine ⟨_, rfl, rw_, _, rfl, .inl (SqL.of hrw5), (by show 2 ≤ sizeLine; decide), fun p2 hp2 => neSame (dp_pair ((same_new hp2) _ _ hp) (.int _)) (dp_pair (d := .int (row.length : Int)) (by rw [upd_same, vrow, List.length_map]) (.int _)) plr (by decide) ⟨_, rfl, iteF ?_⟩⟩
    replace R5 := (R5.same s2).new (o := HO.lst [V.str "row", .int ((vrow row).length : Int)]) hp2
    generalize upd G2 p2 (.lst [V.str "row", .int ((vrow row).length : Int)]) = J5 at R5 ⊢
    clear hp hp2 s2 eN t1 hx25 hrw5 hrw4 hf4
    -- no state for the period
    refine ⟨R5.2.1, fun G6 eN t1 => ?_⟩
    have R6 := R5.ext eN t1
    refine ⟨_, rfl, _, rfl, m, ta, ts, v, rfl, R6.mach hb1 hM1, hW, ⟨_, (vd.rd _ R6.2.2).2.kv⟩, fun _ => heS fun p G2 s2 hp => ?_, fun e => (by rw [obel] at e; cases e)⟩
    refine nilP (reprP (dp_pair hp (vd.rd _ (R6.same s2).2.2).1) (pl_pair pl_sta vd.pl) (by decide) (by decide) ⟨_, rfl, (by show 2 ≤ sizeLine; decide), fun p2 hp2 => nilP (reprP (dp_pair upd_same (vd.rd _ ((R6.same s2).new hp2).2.2).1) (pl_pair pl_sta vd.pl) (by decide) (by decide) (neV rfl ⟨_, rfl, iteF ?_⟩))⟩)
    replace R6 := (R6.same s2).new (o := HO.lst [V.str "state", v]) hp2
    generalize upd G2 p2 (.lst [V.str "state", v]) = J6 at R6 ⊢
    clear hp hp2 s2 eN t1
    have hvl : (vrow row).length = row.length := by rw [vrow, List.length_map]
    -- what are no counts
    have hw6 := R6.lst nwb nwl hrw1
    refine ⟨_, rfl, (by show 1 ≤ sizeLine; decide), fun y1 g1 => ⟨_, rfl, rw_, _, rfl, .inl (SqL.of ((same_new g1) _ _ hw6)), _, _, rfl, rfl, rep_byI (row.length + 1) (by rw [hvl]; omega) upd_same (by omega) fun y2 g2 => ?_⟩⟩
    have Ra := ((RlD.refl R6.1 R6.2.1).new (o := HO.lst [V.int 1]) g1).new (o := HO.lst (List.replicate (row.length + 1) (V.int 1))) g2
    have o2 : y2 ≠ b ∧ y2 ≠ l := ⟨((RlD.refl R6.1 R6.2.1).new (o := HO.lst [V.int 1]) g1).1.nb g2, ((RlD.refl R6.1 R6.2.1).new (o := HO.lst [V.int 1]) g1).1.nl g2⟩
    have k2 : (upd (upd J6 y1 (.lst [V.int 1])) y2 (.lst (List.replicate (row.length + 1) (V.int 1)))) y2 = some (.lst (List.replicate (row.length + 1) (V.int 1))) := upd_same
    generalize upd (upd J6 y1 (.lst [V.int 1])) y2 (.lst (List.replicate (row.length + 1) (V.int 1))) = K2 at Ra k2 ⊢
    have B2 : ∃ d, BadA K b l K2 (.ref y2) row.length d := bad_lst o2 k2 (fun H' _ => ⟨dpa_ones _, kinds_ones _⟩) ((pla_ones (row.length + 1)).mono (by decide) (by omega)) (by
      show (decide ((List.replicate (row.length + 1) (V.int 1)).length = row.length) && _) = false
      rw [List.length_replicate, decide_eq_false (by omega), Bool.false_and])
    have hw2 := Ra.lst nwb nwl hw6
    refine ⟨(by show 1 ≤ sizeLine; decide), fun y3 g3 => ⟨_, rfl, rw_, _, rfl, .inl (SqL.of ((same_new g3) _ _ hw2)), rep_byI row.length (by rw [hvl]) upd_same (by omega) fun y4 g4 => ⟨(by show 1 ≤ sizeLine; decide), fun y5 g5 => ⟨y4, y5, _, _, rfl, rfl, (same_new g5) _ _ upd_same, upd_same, by rw [List.length_replicate, sizeLine_eq]; simp only [List.length_cons, List.length_nil]; omega, fun y6 g6 => ?_⟩⟩⟩⟩
    have Rb0 := (((RlD.refl Ra.1 Ra.2.1).new (o := HO.lst [V.int 1]) g3).new (o := HO.lst (List.replicate row.length (V.int 1))) g4).new (o := HO.lst [V.non]) g5
    have Rb := Rb0.new (o := HO.lst (List.replicate row.length (V.int 1) ++ [V.non])) g6
    have o6 : y6 ≠ b ∧ y6 ≠ l := ⟨Rb0.1.nb g6, Rb0.1.nl g6⟩
    have k6 : (upd (upd (upd (upd K2 y3 (.lst [V.int 1])) y4 (.lst (List.replicate row.length (V.int 1)))) y5 (.lst [V.non])) y6 (.lst (List.replicate row.length (V.int 1) ++ [V.non]))) y6 = some (.lst (List.replicate row.length (V.int 1) ++ [V.non])) := upd_same
    generalize upd (upd (upd (upd K2 y3 (.lst [V.int 1])) y4 (.lst (List.replicate row.length (V.int 1)))) y5 (.lst [V.non])) y6 (.lst (List.replicate row.length (V.int 1) ++ [V.non])) = K6 at Rb k6 ⊢
    have pn : Pl .none 0 100 := ⟨rfl, rfl, rfl, by show 0 ≤ 0; decide, by show _ ≤ 100; decide +kernel, rfl⟩
    have B6 : ∃ d, BadA K b l K6 (.ref y6) row.length d := bad_lst o6 k6 (fun H' _ => ⟨dpa_app (.cons .non .nil) (dpa_ones _), kinds_app (kinds_ones _) fun x hx => (by rw [List.mem_singleton.mp hx]; exact ⟨_, .non⟩)⟩)
      ((pla_app (n := 1) (v := 101) ((PlA.cons pn PlA.nil).mono (by decide) (by decide)) _ _ ((pla_ones row.length).mono (by decide) (Nat.le_refl _))).mono (Nat.le_refl _) (by rw [dI, List.length_map, List.length_replicate]; omega)) (by
      show (decide ((List.replicate row.length (V.int 1) ++ [V.non]).length = row.length) && _) = false
      rw [List.length_append, List.length_replicate, decide_eq_false (by simp only [List.length_cons, List.length_nil]; omega), Bool.false_and])
    have kpB : ∀ {Ka Kb : Hp} {v : V}, Kp b l Ka Kb → (∃ d, BadA K b l Ka v row.length d) → ∃ d, BadA K b l Kb v row.length d := fun k ⟨d, oc, h, hc⟩ => ⟨d, oc, h.kp k, hc⟩
    replace B2 := kpB Rb.2.2 B2
    have hw6' := Rb.lst nwb nwl hw2
    refine ⟨_, rfl, rw_, _, rfl, .inl (SqL.of hw6'), "1", _, rfl, rfl, by rw [hvl]; omega, by rw [hvl]; omega, rfl, ?_⟩
    have R6c := ((R6.trans Ra).trans Rb)
    refine ⟨_, rfl, (by show 1 ≤ sizeLine; decide), fun y7 g7 => ⟨(by show 1 ≤ sizeLine; decide), fun y8 g8 => ⟨_, rfl, rw_, _, rfl, .inl (SqL.of ((same_new g8) _ _ ((same_new g7) _ _ hw6'))), _, _, rfl, rfl, rep_byI (row.length - 1) (by rw [hvl]; omega) upd_same (by omega) fun y9 g9 => ⟨y7, y9, _, _, rfl, rfl, (same_new g9) _ _ ((same_new g8) _ _ upd_same), upd_same, by rw [List.length_replicate, sizeLine_eq]; simp only [List.length_cons, List.length_nil]; omega, fun y10 g10 => ?_⟩⟩⟩⟩
    have Rc0 := (((RlD.refl Rb.1 Rb.2.1).new (o := HO.lst [v]) g7).new (o := HO.lst [V.int 1]) g8).new (o := HO.lst (List.replicate (row.length - 1) (V.int 1))) g9
    have Rc := Rc0.new (o := HO.lst ([v] ++ List.replicate (row.length - 1) (V.int 1))) g10
    have o10 : y10 ≠ b ∧ y10 ≠ l := ⟨Rc0.1.nb g10, Rc0.1.nl g10⟩
    have k10 : (upd (upd (upd (upd K6 y7 (.lst [v])) y8 (.lst [V.int 1])) y9 (.lst (List.replicate (row.length - 1) (V.int 1)))) y10 (.lst ([v] ++ List.replicate (row.length - 1) (V.int 1)))) y10 = some (.lst ([v] ++ List.replicate (row.length - 1) (V.int 1))) := upd_same
    generalize upd (upd (upd (upd K6 y7 (.lst [v])) y8 (.lst [V.int 1])) y9 (.lst (List.replicate (row.length - 1) (V.int 1)))) y10 (.lst ([v] ++ List.replicate (row.length - 1) (V.int 1))) = K10 at Rc k10 ⊢
    have R10c := R6c.trans Rc
    have B10 : ∃ d, BadA K b l K10 (.ref y10) row.length d := bad_lst o10 k10 (fun H' k => ⟨dpa_app (dpa_ones _) (.cons (vd.rd H' (Kp.trans R10c.2.2 k)).1 .nil), kinds_app (fun x hx => (by rw [List.mem_singleton.mp hx]; exact ⟨_, (vd.rd H' (Kp.trans R10c.2.2 k)).2.kv⟩)) (kinds_ones _)⟩)
      ((pla_app (n := 1) (v := (row.length - 1) * 65) ((pla_ones (row.length - 1)).mono (by decide) (Nat.le_refl _)) _ _ ((PlA.cons pld PlA.nil).mono (by decide) (Nat.le_refl _))).mono (Nat.le_refl _) (by simp only [List.length_cons, List.length_nil]; omega)) (by
      show (_ && ((([v] ++ List.replicate (row.length - 1) (V.int 1)).map numB).all id)) = false
      rw [List.singleton_append, List.map_cons, List.all_cons, onum]
      show (_ && (false && _)) = false
      rw [Bool.false_and, Bool.and_false])
    replace B2 := kpB Rc.2.2 B2
    replace B6 := kpB Rc.2.2 B6
    refine ⟨(by show 6 ≤ sizeLine; decide), fun y11 g11 => ?_⟩
    have Rd := (RlD.refl Rc.1 Rc.2.1).new (o := HO.lst [V.non, .int 3, .ref y2, .ref y6, .str (mulS "1" ((vrow row).length : Int)), .ref y10]) g11
    refine ⟨b, l, y11, _, rfl, Rd.1, upd_same, Rc.1.nb g11, Rc.1.nl g11, by show 1 ≤ 6; decide, by show 6 ≤ 1000; decide, fun iv2 v2 H7 hv2 dl7 => ?_⟩
    have Re := Rd.dl dl7
    replace B2 := kpB Re.2.2 B2
    replace B6 := kpB Re.2.2 B6
    replace B10 := kpB Re.2.2 B10
    have R17 := R10c.trans Re
    have BV : ∃ d, BadA K b l H7 v2 row.length d := by
      have hm := List.mem_of_getElem? hv2
      simp only [List.mem_cons, List.mem_nil_iff, or_false] at hm
      rcases hm with rfl | rfl | rfl | rfl | rfl | rfl
      · exact bad_sc (pn.mono (by decide) (by decide)) fun H' => ⟨.non, .non⟩
      · exact bad_sc ((Pl.int (i := 3) (by decide)).mono (by decide) (by decide)) fun H' => ⟨.int _, .int _⟩
      · exact B2
      · exact B6
      · rw [hvl]
        exact bad_sc ((mul_one row.length hl1 hl6).mono (by decide) (by decide)) fun H' => ⟨.str _, .str _⟩
      · exact B10
    clear B2 B6 B10 hv2 dl7 Rd Rc Rb Ra R6c R10c kpB hw6 hw2 hw6' k2 k6 k10 o2 o6 o10 Rb0 Rc0
    obtain ⟨d2, oc, vb, hcb⟩ := BV
    have hM7 := R17.mach hb1 hM1
    have hrw7 := R17.lst nwb nwl hrw1
    have hb7 := R17.1
    have R7 : RlD b l [(Pt, qOd)] H7 H7 := RlD.refl R17.1 R17.2.1
    refine ⟨R7.2.1, fun G7 eN t1 => ?_⟩
    have R8 := R7.ext eN t1
    refine ⟨_, rfl, _, rfl, _, rfl, _, rfl, m, ta, ts, .int st, .ref rw_, v2, oc, rfl, R8.mach hb7 hM7, hW, ⟨_, .int st⟩, (vb.rd _ R8.2.2).2, fun e => (by rw [belowI hst] at e; cases e), fun _ => ⟨st, some (vrow row), rfl, ⟨.lst (R8.lst nwb nwl hrw7), kindsR⟩, fun hne => absurd hrok hne, fun _ => ⟨row, rfl, hd8, by omega, fun _ => heF fun p G2 s2 hp => ?_, fun cs ecs hcs => ?_⟩⟩⟩
    · refine nilP (reprP (dp_pair hp (vb.rd _ (R8.same s2).2.2).1) (pl_pair pl_ref vb.pl) (by decide) (by decide) ⟨_, rfl, (by show 2 ≤ sizeLine; decide), fun p2 hp2 => nilP (reprP (dp_pair upd_same (vb.rd _ ((R8.same s2).new hp2).2.2).1) (pl_pair pl_ref vb.pl) (by decide) (by decide) (neV rfl ⟨_, rfl, iteF ?_⟩))⟩)
      replace R8 := (R8.same s2).new (o := HO.lst [V.str "refused", v2]) hp2
      generalize upd G2 p2 (.lst [V.str "refused", v2]) = J8 at R8 ⊢
      clear hp hp2 s2 eN t1
      -- a row that is none, ahead of the counts
      refine ⟨R8.2.1, fun G9 eN t1 => ?_⟩
      have R9 := R8.ext eN t1
      obtain ⟨dx9, hf9⟩ := (R9.mach hb7 hM7).fs
      refine ⟨_, rfl, _, rfl, _, rfl, m, M, dx9, _, _, rfl, hf9, TM.cl, TM.nD, mf_d _ _ _, (by show 1 ≤ sizeLine; decide), fun x1 hx1 => ?_⟩
      have R9' := R9.new (o := HO.lst [V.int (ts.length : Int)]) hx1
      have hx19 : (upd G9 x1 (.lst [V.int (ts.length : Int)])) x1 = some (.lst (vrow [(ts.length : Int)])) := upd_same
      generalize upd G9 x1 (.lst [V.int (ts.length : Int)]) = J9 at R9' hx19 ⊢
      have efb : rowF (some (vrow [(ts.length : Int)])) (ts.length : Int) = .int 0 := by
        unfold rowF
        rw [if_pos (by rfl)]
        refine fnb_at (i := 0) (x := .int (ts.length : Int)) rfl ?_ fun j y hj hy => absurd hj (Nat.not_lt_zero _)
        show (decide (0 ≤ (ts.length : Int)) && decide ((ts.length : Int) < (ts.length : Int))) = false
        rw [decide_eq_false (Int.lt_irrefl _), Bool.and_false]
      have plr0 : Pl (.list [.str "row", .int 0]) 3 2000 := pl_pair pl_row ((Pl.int (by decide)).mono (by decide) (by decide))
      refine ⟨_, rfl, m, ta, ts, .int st, .ref x1, v2, oc, rfl, R9'.mach hb7 hM7, hW, ⟨_, .int st⟩, (vb.rd _ R9'.2.2).2, fun e => (by rw [belowI hst] at e; cases e), fun _ => ⟨st, some (vrow [(ts.length : Int)]), rfl, ⟨.lst hx19, kindsR⟩, fun _ => ?_, fun hn => (by rw [efb] at hn; cases hn)⟩⟩
      rw [efb]
      refine heR fun p G2 s2 hp => ?_
      refine ⟨(by show 2 ≤ sizeLine; decide), fun p2 hp2 => neSame (dp_pair ((same_new hp2) _ _ hp) (.int _)) (dp_pair upd_same (.int _)) plr0 (by decide) ⟨_, rfl, iteF ?_⟩⟩
      replace R9' := (R9'.same s2).new (o := HO.lst [V.str "row", .int 0]) hp2
      generalize upd G2 p2 (.lst [V.str "row", .int 0]) = J10 at R9' ⊢
      clear hp hp2 s2 eN t1 hx19 hf9
      -- deeds that clash
      refine ⟨(by show 3 ≤ sizeLine; decide), fun c1 q1 => ⟨(by show 3 ≤ sizeLine; decide), fun c2 q2 => ⟨(by show 2 ≤ sizeLine; decide), fun c3 q3 => ?_⟩⟩⟩
      have sC := (same_new (o := HO.lst [V.int 0, .int 2, .int 2]) q1).trans ((same_new (o := HO.lst [V.int 1, .int 1, .int 0]) q2).trans (same_new (o := HO.lst [V.ref c1, .ref c2]) q3))
      have L3 : LL (upd (upd (upd J10 c1 (.lst [V.int 0, .int 2, .int 2])) c2 (.lst [V.int 1, .int 1, .int 0])) c3 (.lst [V.ref c1, .ref c2])) c3 [c1, c2] cts := by
        refine ⟨upd_same, rfl, fun j a t e1 e2 => ?_⟩
        match j, e1, e2 with
        | 0, e1, e2 =>
          obtain rfl : c1 = a := Option.some.inj e1
          obtain rfl : [0, 2, 2] = t := Option.some.inj e2
          exact (same_new q3) _ _ ((same_new q2) _ _ upd_same)
        | 1, e1, e2 =>
          obtain rfl : c2 = a := Option.some.inj e1
          obtain rfl : [1, 1, 0] = t := Option.some.inj e2
          exact (same_new q3) _ _ upd_same
        | j + 2, e1, _ => cases e1
      generalize upd (upd (upd J10 c1 (.lst [V.int 0, .int 2, .int 2])) c2 (.lst [V.int 1, .int 1, .int 0])) c3 (.lst [V.ref c1, .ref c2]) = K3 at sC L3 ⊢
      refine fun m2 dx2 hm2 hdx2 ne2 => ?_
      have s5 : Same K3 (upd (upd K3 dx2 (.own m2)) m2 (.ins M dx2 [])) := (same_new hdx2).trans (same_new (by rw [upd_ne ne2.symm]; exact hm2))
      refine ⟨m2, dx2, _, _, rfl, upd_same, (L3.same s5).mv, fun z hz => (by rw [chk_wf cts_wf] at hz; cases hz), fun _ ts' ets ta2 H12 k12 hM12 => ⟨rfl, ?_⟩⟩
      obtain rfl : vts cts = ts' := map_some (Option.some.inj ets)
      have R12 := (R9'.same sC).same (mkS hm2 hdx2 k12)
      refine ⟨R12.2.1, fun G13 eN t1 => ?_⟩
      have R13 := R12.ext eN t1
      have Rm := (RlD.refl R12.1 R12.2.1).ext eN t1
      refine ⟨_, rfl, m2, ta2, cts, .int 0, rfl, Rm.mach R12.1 hM12, cts_wf, ⟨_, .int 0⟩, fun e => (by cases e), fun _ => ⟨0, rfl, fun ns r H' s' asc mem pap => ?_⟩⟩
      have er := cts_paper asc mem pap
      refine ⟨fun e => (by rw [er] at e; cases e), fun x a b' e => ?_⟩
      rw [er] at e
      cases e
      refine heU fun p G2 s2 hp => ⟨(by show 4 ≤ sizeLine; decide), fun p2 hp2 => ?_⟩
      have plu : Pl (.list [.str "uncommuting", .int 0, .int 0, .int 1]) 3 2000 := (Pl.list (PlA.cons pl_unc (PlA.cons (Pl.int (by decide)) (PlA.cons (Pl.int (by decide)) (PlA.cons (Pl.int (by decide)) PlA.nil))))).mono (by decide) (by decide)
      have dpu : ∀ {H : Hp} {p : Addr}, H p = some (.lst [V.str "uncommuting", .int 0, .int 0, .int 1]) → Dp K H (.ref p) (.list [.str "uncommuting", .int 0, .int 0, .int 1]) := fun h => .lst (SqL.of h) (.cons (.str _) (.cons (.int _) (.cons (.int _) (.cons (.int _) .nil))))
      refine ⟨_, _, dpu ((same_new hp2) _ _ hp), dpu upd_same, plu.shaped (by decide), plu.shaped (by decide), qbl (SeqAt.eqv_refl _ plu.lay) (q _ ?_)⟩
      exact (RB.trans R17).trans (((R13.same s').same s2).new hp2)
    · have : cntB oc row.length = true := by
        rw [ecs]
        show (decide ((vns cs).length = row.length) && ((vns cs).map numB).all id) = true
        rw [List.length_map, decide_eq_true hcs, Bool.true_and, List.map_map]
        refine List.all_eq_true.mpr fun x hx => ?_
        obtain ⟨t', _, rfl⟩ := List.mem_map.mp hx
        show decide ((0 : Int) ≤ (t' : Int)) = true
        exact decide_eq_true (by omega)
      rw [this] at hcb
      cases hcb
end
end K1
namespace K1
open PySem PySem.Spec PyProof.Rows L2
theorem reach_run {ts : Ts} {s : Int} : ∀ (r : List Int) (x : Int), Reach ts s x → (∀ d ∈ r, In8 ts d) → Reach ts s (run ts x r)
  | [], x, h, _ => h
  | d :: r, x, h, hd => reach_run r (stp ts x d) (.step h (hd d List.mem_cons_self)) fun e he => hd e (List.mem_cons_of_mem _ he)
theorem run_perm {ts : Ts} {s : Int} (hc : ∀ x, Reach ts s x → ∀ a b, In8 ts a → In8 ts b → ¬ Bad ts x a b) {r u : List Int} (p : r.Perm u) : (∀ d ∈ r, In8 ts d) → ∀ x, Reach ts s x → run ts x r = run ts x u := by
  induction p with
  | nil => intro _ x _; rfl
  | cons d p ih =>
    intro hd x hx
    exact ih (fun e he => hd e (List.mem_cons_of_mem _ he)) (stp ts x d) (.step hx (hd d List.mem_cons_self))
  | swap a b l =>
    intro hd x hx
    have ha := hd b List.mem_cons_self
    have hb := hd a (List.mem_cons_of_mem _ List.mem_cons_self)
    have := hc x hx b a ha hb
    unfold Bad at this
    show run ts (stp ts (stp ts x b) a) l = run ts (stp ts (stp ts x a) b) l
    rw [Classical.not_not.mp this]
  | trans p q ih1 ih2 =>
    intro hd x hx
    rw [ih1 hd x hx, ih2 (fun e he => hd e (p.mem_iff.mpr he)) x hx]
theorem run_app (ts : Ts) (s : Int) (a b : List Int) : run ts s (a ++ b) = run ts (run ts s a) b := by
  unfold run
  rw [List.foldl_append]
/-- a row, n times -/
def rep (r : List Int) : Nat → List Int
  | 0 => []
  | n + 1 => rep r n ++ r
theorem trail_rep (ts : Ts) (r : List Int) (s : Int) : ∀ n, trail ts r s n = run ts s (rep r n)
  | 0 => rfl
  | n + 1 => by show run ts (trail ts r s n) r = run ts s (rep r n ++ r); rw [trail_rep ts r s n, run_app]
theorem mem_rep {r : List Int} {x : Int} : ∀ n, x ∈ rep r n → x ∈ r
  | 0, h => by cases h
  | n + 1, h => (List.mem_append.mp h).elim (mem_rep n) id
theorem rep_nil : ∀ n, rep [] n = []
  | 0 => rfl
  | n + 1 => by show rep [] n ++ [] = []; rw [rep_nil n]; rfl
theorem rep_perm (d : Int) (r : List Int) : ∀ n, (rep (d :: r) n).Perm (rep [d] n ++ rep r n)
  | 0 => List.Perm.refl _
  | n + 1 => by
    show (rep (d :: r) n ++ (d :: r)).Perm ((rep [d] n ++ [d]) ++ (rep r n ++ r))
    refine ((rep_perm d r n).append_right _).trans (List.perm_iff_count.mpr fun a => ?_)
    simp only [List.count_append, List.count_cons, List.count_nil]
    omega
section
variable {ts : Ts} {s : Int} (hc : ∀ x, Reach ts s x → ∀ a b, In8 ts a → In8 ts b → ¬ Bad ts x a b)
theorem rep_same (hc : ∀ x, Reach ts s x → ∀ a b, In8 ts a → In8 ts b → ¬ Bad ts x a b) {r u : List Int} (hr : ∀ d ∈ r, In8 ts d) (hu : ∀ d ∈ u, In8 ts d) (e : run ts s r = run ts s u) : ∀ n, run ts s (rep r n) = run ts s (rep u n)
  | 0 => rfl
  | n + 1 => by
    have ih := rep_same hc hr hu e n
    have hrn : ∀ d ∈ rep r n ++ r, In8 ts d := fun d h => (List.mem_append.mp h).elim (fun z => hr d (mem_rep n z)) (hr d)
    have hun : ∀ d ∈ u ++ rep u n, In8 ts d := fun d h => (List.mem_append.mp h).elim (hu d) (fun z => hu d (mem_rep n z))
    have hmx : ∀ d ∈ rep u n ++ r, In8 ts d := fun d h => (List.mem_append.mp h).elim (fun z => hu d (mem_rep n z)) (hr d)
    show run ts s (rep r n ++ r) = run ts s (rep u n ++ u)
    rw [run_app, ih, ← run_app, run_perm hc List.perm_append_comm hmx s .refl, run_app, e, ← run_app, run_perm hc List.perm_append_comm hun s .refl]
theorem rep_step (hc : ∀ x, Reach ts s x → ∀ a b, In8 ts a → In8 ts b → ¬ Bad ts x a b) {n : Nat} (he : ∀ d, In8 ts d → run ts s (rep [d] n) = stp ts s d) : ∀ (r u : List Int), (∀ d ∈ r, In8 ts d) → (∀ d ∈ u, In8 ts d) → run ts s (u ++ rep r n) = run ts s (u ++ r)
  | [], u, _, _ => by rw [rep_nil]
  | d :: r, u, hr, hu => by
    have hd := hr d List.mem_cons_self
    have hr' : ∀ e ∈ r, In8 ts e := fun e h => hr e (List.mem_cons_of_mem _ h)
    have h1 : ∀ e ∈ u ++ rep (d :: r) n, In8 ts e := fun e h => (List.mem_append.mp h).elim (hu e) (fun z => hr e (mem_rep n z))
    have p1 : (u ++ rep (d :: r) n).Perm (rep [d] n ++ (u ++ rep r n)) := ((rep_perm d r n).append_left u).trans (List.perm_iff_count.mpr fun a => by simp only [List.count_append]; omega)
    have h2 : ∀ e ∈ [d] ++ (u ++ rep r n), In8 ts e := fun e h => by
      rcases List.mem_append.mp h with z | z
      · rw [List.mem_singleton.mp z]; exact hd
      · exact (List.mem_append.mp z).elim (hu e) (fun z => hr' e (mem_rep n z))
    have p2 : ([d] ++ (u ++ rep r n)).Perm ((u ++ [d]) ++ rep r n) := List.perm_iff_count.mpr fun a => by simp only [List.count_append]; omega
    rw [run_perm hc p1 h1 s .refl, run_app, he d hd, show stp ts s d = run ts s [d] from rfl, ← run_app, run_perm hc p2 h2 s .refl, rep_step hc he r (u ++ [d]) hr' fun e h => (List.mem_append.mp h).elim (hu e) (fun z => by rw [List.mem_singleton.mp z]; exact hd), List.append_assoc]
    rfl
/-- which times the law expects -/
def dueB (h : Nat) (c : Int) : Bool := decide (c = 1) || (decide ((h : Int) > 0) && decide ((c - 1) % (if (1 : Int) > (h : Int) then 1 else (h : Int)) = 0))
theorem due_one (h k : Nat) : dueB h (1 + (k : Int)) = decide (k = 0 ∨ (0 < h ∧ h ∣ k)) := by
  unfold dueB
  rw [Bool.eq_iff_iff, Bool.or_eq_true, Bool.and_eq_true, decide_eq_true_iff, decide_eq_true_iff, decide_eq_true_iff, decide_eq_true_iff]
  have e1 : (1 + (k : Int)) - 1 = (k : Int) := by omega
  rw [e1]
  constructor
  · rintro (z | ⟨z1, z2⟩)
    · exact .inl (by omega)
    · refine .inr ⟨by omega, ?_⟩
      rw [if_neg (by omega)] at z2
      exact Int.natCast_dvd_natCast.mp (Int.dvd_of_emod_eq_zero z2)
  · rintro (z | ⟨z1, z2⟩)
    · exact .inl (by omega)
    · refine .inr ⟨by omega, ?_⟩
      rw [if_neg (by omega)]
      exact Int.emod_eq_zero_of_dvd (Int.natCast_dvd_natCast.mpr z2)
theorem hB_due (hc : ∀ x, Reach ts s x → ∀ a b, In8 ts a → In8 ts b → ¬ Bad ts x a b) {rs : List (List Int)} {h : Nat} (hR : RowsOk ts s rs) (hH : HarmIs ts s h) (k : Nat) : hB ts s rs (1 + (k : Int)) = dueB h (1 + (k : Int)) := by
  rw [due_one]
  unfold hB
  rw [Bool.eq_iff_iff, decide_eq_true_iff, decide_eq_true_iff, ← hH k, show (1 + (k : Int)).toNat = k + 1 by omega]
  have one : ∀ d, trail ts [d] s 1 = stp ts s d := fun d => rfl
  constructor
  · intro H d hd
    obtain ⟨r, hr, er⟩ := hR.2.2 d hd
    have h1 : ∀ e ∈ [d], In8 ts e := fun e he => by rw [List.mem_singleton.mp he]; exact hd
    have := rep_same hc (hR.2.1 r hr) h1 (show run ts s r = run ts s [d] from er) (k + 1)
    rw [one, trail_rep, ← this, ← trail_rep, H r hr, er]
  · intro H r hr
    have := rep_step hc (n := k + 1) (fun d hd => by rw [← trail_rep, H d hd, one]) r [] (hR.2.1 r hr) (fun d h => by cases h)
    rw [trail_rep]
    exact this
theorem less_due (hc : ∀ x, Reach ts s x → ∀ a b, In8 ts a → In8 ts b → ¬ Bad ts x a b) {rs : List (List Int)} {h n : Nat} (hR : RowsOk ts s rs) (hH : HarmIs ts s h) : (cnts n).filter (hB ts s rs) = (cnts n).filter (dueB h) :=
  List.filter_congr fun c hcn => by
    obtain ⟨k, _, rfl⟩ := List.mem_map.mp hcn
    exact hB_due hc hR hH k
end
end K1
namespace K1
open PySem PySem.Spec PyProof.Rows L2
section
variable {K : PySem.W.Frag} {f : Addr} {fd : FuncData}
theorem kb_harm (F : Fun K "harmless_period" "harmless_period" sHarm f fd) : KBn K fd ["machine", "first"] 0 ["first", "machine"] gR gRV := by
  obtain ⟨oc, od, kV, doc, pm, an, cdv, ct, osl, rfl, lk, hcd⟩ := F.ex
  refine ⟨fun s us ws _ h0 h1 => .of_eq ?_, fun _ r => r.reverse⟩
  match us, ws, h0, h1 with
  | [], [_, _], _, _ => rfl
theorem kb_times (F : Fun K "led_times" "led_times" sTimes f fd) : KBn K fd ["machine", "state", "row", "times"] 0 ["times", "row", "state", "machine"] gR gRV := by
  obtain ⟨oc, od, kV, doc, pm, an, cdv, ct, osl, rfl, lk, hcd⟩ := F.ex
  refine ⟨fun s us ws _ h0 h1 => .of_eq ?_, fun _ r => r.reverse⟩
  match us, ws, h0, h1 with
  | [], [_, _, _, _], _, _ => rfl
theorem kb_counts (F : Fun K "led_counts" "led_counts" sCounts f fd) : KBn K fd ["machine", "first", "deeds", "counts"] 0 ["counts", "deeds", "first", "machine"] gR gRV := by
  obtain ⟨oc, od, kV, doc, pm, an, cdv, ct, osl, rfl, lk, hcd⟩ := F.ex
  refine ⟨fun s us ws _ h0 h1 => .of_eq ?_, fun _ r => r.reverse⟩
  match us, ws, h0, h1 with
  | [], [_, _, _, _], _, _ => rfl
end
def rLenK (K : PySem.W.Frag) : List V → Hp → VK → Prop := fun xs H Q => ∃ p ys, xs = [.ref p] ∧ (SqL K H p ys ∨ SqT K H p ys) ∧ Q (.int (ys.length : Int)) H
theorem clen {X : Cx} {K : PySem.W.Frag} (h : X.K = K) : CallR X (.builtin "len") (rLenK K) := by
  subst h
  exact call_len_seq
theorem neL {K : PySem.W.Frag} {H : Hp} {p p2 : Addr} {cs : List Int} {Q : VK} (h1 : H p = some (.lst (vrow cs))) (h2 : H p2 = some (.lst (vrow cs))) (q : Q (.bl false) H) : rNeD K (.ref p) (.ref p2) H Q :=
  ⟨.list (dI cs), .list (dI cs), .lst (SqL.of h1) (dp_ints cs), .lst (SqL.of h2) (dp_ints cs), shL_ints cs, shL_ints cs, qbl (by rw [SeqAt.eqv_refl _ (show PyData.canLay0 (.list (dI cs)) = true from layA_ints cs)]; rfl) q⟩
theorem log_sm {i : Int} (h0 : 0 ≤ i) (h1 : i ≤ 1000) : i.natAbs.log2 < 1920 := by
  by_cases z : i.natAbs = 0
  · rw [z]; decide
  · have : i.natAbs.log2 < 10 := (Nat.log2_lt z).mpr (by omega)
    omega
/-- the defs that the law calls -/
structure Dn (P : Program) (w : World) (K : PySem.W.Frag) (mg : Str → Option Value) (base : Heap) (M CM CF CR CS CU : Addr) (T : List (Addr × Str)) : Prop where
  B : Bt mg
  dealt : ∃ f fd, Df K mg "_law_dealt" sDealt ["_law_script"] f fd ∧ FnOk P w K mg base CX0 1 f fd ["_law_script"] (spDealt K)
  any : ∃ f fd, Df K mg "_law_any" sAny ["_law_deal", "_law_bound"] f fd ∧ FnOk P w K mg base CX0 1 f fd ["_law_deal", "_law_bound"] spAny
  of : ∃ f fd, Df K mg "_law_of" sOf ["_law_deal", "_law_some"] f fd ∧ FnOk P w K mg base CX0 2 f fd ["_law_deal", "_law_some"] spOf
  mach : ∃ f fd, Df K mg "_law_machine" sMach ["_law_deal"] f fd ∧ FnOk P w K mg base CX0 3 f fd ["_law_deal"] spMach
  hless : ∃ f fd, Df K mg "_law_harmless" sHarmless ["_law_tables", "_law_first", "_law_most"] f fd ∧ FnOk P w K mg base CX0 2 f fd ["_law_tables", "_law_first", "_law_most"] spHless
  far : ∃ f fd, Df K mg "_law_far" sFar ["_law_tables", "_law_state", "_law_row", "_law_times"] f fd ∧ FnOk P w K mg base CX0 2 f fd ["_law_tables", "_law_state", "_law_row", "_law_times"] spFar
  times : ∃ f fd, Df K mg "led_times" sTimes ["machine", "state", "row", "times"] f fd ∧ FnOk P w K mg base (L2.CX P w) 7 f fd ["machine", "state", "row", "times"] (spTimes K M CS CR CF)
  counts : ∃ f fd, Df K mg "led_counts" sCounts ["machine", "first", "deeds", "counts"] f fd ∧ FnOk P w K mg base (L2.CX P w) 8 f fd ["machine", "first", "deeds", "counts"] (spCounts K M CS CR CF)
  harm : ∃ f fd, Df K mg "harmless_period" sHarm ["machine", "first"] f fd ∧ FnOk P w K mg base (L2.CX P w) 7 f fd ["machine", "first"] (spHarm K M CS CU)
  odd : ∃ f fd, Df K mg "_law_is_odd_told" sOdd ["_law_deal", "_law_machine_here", "_law_first", "_law_row"] f fd ∧ FnG P w K mg base 11 f fd ["_law_deal", "_law_machine_here", "_law_first", "_law_row"] (spOdd M T)
  init : ∃ f fd, Mk K M f ∧ Binds K fd ["self", "tables"] [] ∧ FnOk P w K mg base (L2.CX P w) 6 f fd ["self", "tables"] (spMInit K CM M)
  T : McT K mg M
abbrev nLa : List Str := ["_law_script", "_law_deal", "_law_turn", "_law_tables", "_law_first", "_law_machine_here", "_law_told", "_law_count", "_law_due", "_law_deed", "_law_row", "_law_times", "_law_start", "_law_counts", "_law_state"]
theorem scLa : FnScope nLa ["_law_script"] (defScope sLaw) := ⟨rfl, rfl, rfl, by decide +kernel, rfl, by decide +kernel, by decide +kernel⟩
def spLaw (K : PySem.W.Frag) (T : List (Addr × Str)) : Sp := fun vs H Q _ => ∃ (a : Addr) (ns : List Int), vs = [.ref a] ∧ SqL K H a (ns.map V.int) ∧ ns.length ≤ 63 ∧ LamX.Tabs T H ∧ ∀ H', Q (.bl true) H'
section
variable {P : Program} {w : World} {K : PySem.W.Frag} {mg : Str → Option Value} {base : Heap}
theorem ok_law {f M CM CF CR CS CU : Addr} {fd : FuncData} {T : List (Addr × Str)} (F : Fun K "law" "law" sLaw f fd) (dn : Dn P w K mg base M CM CF CR CS CU T) : FnG P w K mg base 12 f fd ["_law_script"] (spLaw K T) := by
  have B := dn.B
  have TM := dn.T
  obtain ⟨fD, fdD, DD, GD⟩ := dn.dealt
  obtain ⟨fA, fdA, DA, GA⟩ := dn.any
  obtain ⟨fO, fdO, DO, GO⟩ := dn.of
  obtain ⟨fM, fdM, DM, GM_⟩ := dn.mach
  obtain ⟨fL, fdL, DL, GL⟩ := dn.hless
  obtain ⟨fF, fdF, DF, GF⟩ := dn.far
  obtain ⟨fT, fdT, DT, GT⟩ := dn.times
  obtain ⟨fC, fdC, DC, GC⟩ := dn.counts
  obtain ⟨fH, fdH, DH, GH⟩ := dn.harm
  obtain ⟨fQ, fdQ, DOd, GOd⟩ := dn.odd
  obtain ⟨fI, fdI, MI, BI, GI⟩ := dn.init
  refine okG F scLa (fun vs H Q E h => ?_) (fun cdv A outer s H vs Q E hr hgd h => ?_)
  · obtain ⟨a, ns, rfl, _⟩ := h
    rfl
  · obtain ⟨a, ns, rfl, hS, hn, hT, q⟩ := h
    have hu := hr.units
    have r1 := hr.mono (show 1 ≤ 11 by decide)
    have r2 := hr.mono (show 2 ≤ 11 by decide)
    have r7 := hr.mono (show 7 ≤ 11 by decide)
    have r8 := hr.mono (show 8 ≤ 11 by decide)
    refine ⟨_, pss_cons (ps_set (i := 1) scLa.nd rfl (.inr rfl) (pc DD GD r1 pass0 (pa_cons (pv 0) pa_nil)))
      (pss_cons (ps_for PassesOwn.never rfl (pi_range1 (by rfl) B.range (pa_cons pe_int pa_nil)) (pg_name (i := 2) scLa.nd rfl (.inl rfl))
        (pss_cons (ps_asg (pc DM GM_ (hr.mono (by decide)) pass0 (pa_cons (pv 1) pa_nil)) (pg_tup rfl (pgs_cons (pg_name (i := 3) scLa.nd rfl (.inr rfl)) (pgs_cons (pg_name (i := 4) scLa.nd rfl (.inl rfl)) pgs_nil))))
        (pss_cons (ps_set (i := 5) scLa.nd rfl (.inl rfl) (pe_make MI GI r7 rfl TM.g BI .nil passF (pa_cons (pv 3) pa_nil)))
        (pss_cons (ps_set (i := 6) scLa.nd rfl (.inr rfl) (pe_ifExp (pt_cmpR op_eq (pv 2) pe_int (nomark _)) (pc DH GH r7 passF (pa_cons (pv 5) (pa_cons (pv 4) pa_nil))) (pe_callW DH GH r7 (kb_harm DH.F) passF (pk_cons (pv 4) (pk_cons (pv 5) pk_nil)))))
        (pss_cons (ps_setLc (i := 8) (own := [("_law_count", 7)]) (g := gName 7) rfl scLa.nd rfl rfl (sw_true rfl rfl rfl rfl) (pi_range2 (by rfl) B.range (pa_cons pe_int (pa_cons pe_int pa_nil))) (blkOk_by (N := nLa) (sc := defScope sLaw) (by decide +kernel)) (fun _ _ _ _ _ => pg_name (i := 7) scLa.nd rfl (Or.inl rfl)) (fun _ _ _ _ _ => pts_one (PW.pt (pw_or (pt_cmpR op_eq (pv 7) pe_int (nomark _)) (pw_or1 (PW.pt (pw_and (pt_cmpR op_gt (pv 6) pe_int (nomark _)) (pw_and1 (pt_cmpR op_eq (pe_op op_mod (pe_callTy call_int1 (by rfl) B.int PyProof.Rows.boot_int (pa_cons (pe_op op_sub (pv 7) pe_int) pa_nil)) (pe_callB (call_max2 rfl) (by rfl) B.max (by decide +kernel) (pa_cons (pv 6) (pa_cons pe_int pa_nil)))) pe_int (nomark _))))))))) (fun _ _ _ _ _ => pv 7))
        (pss_cons (ps_if (PW.pt (pw_or (pt_not (pt_val (pe_callB call_isi (by rfl) B.isinstance (by decide +kernel) (pa_cons (pv 6) (pa_cons (pe_bltn (v := .ty "int") (by rfl) B.int PyProof.Rows.boot_int rfl) pa_nil))))) (pw_or (pt_val (pe_callB call_isi (by rfl) B.isinstance (by decide +kernel) (pa_cons (pv 6) (pa_cons (pe_bltn (v := .ty "bool") (by rfl) B.bool PyProof.Rows.boot_bool rfl) pa_nil)))) (pw_or (pt_cmpR op_lt (pv 6) pe_int (nomark _)) (pw_or1 (pt_cmpR (neD (K := K) rfl hu) (pc DL GL r2 pass0 (pa_cons (pv 3) (pa_cons (pv 4) (pa_cons pe_int pa_nil)))) (pv 8) (nomark _))))))) (pss_one (ps_ret pe_bl)) pss_nil)
        (pss_cons (ps_setLc (i := 10) (own := [("_law_deed", 9)]) (g := gName 9) (tt := tYes) rfl scLa.nd rfl rfl (sw_true rfl rfl rfl rfl) (pi_range1 (by rfl) B.range (pa_cons (pc DA GA r1 pass0 (pa_cons (pv 1) (pa_cons pe_int pa_nil))) pa_nil)) (blkOk_by (N := nLa) (sc := defScope sLaw) (by decide +kernel)) (fun _ _ _ _ _ => pg_name (i := 9) scLa.nd rfl (Or.inl rfl)) (fun _ _ _ _ _ => pts_nil) (fun _ _ _ _ _ => (pc DA GA r1 pass0 (pa_cons (pv 1) (pa_cons (pe_callB (clen (K := K) rfl) (by rfl) B.len PySem.boot_len (pa_cons (pv 3) pa_nil)) pa_nil)))))
        (pss_cons (ps_set (i := 11) scLa.nd rfl (.inl rfl) (pc DO GO r2 pass0 (pa_cons (pv 1) (pa_cons (pe_lst (pa_cons (pc DA GA r1 pass0 (pa_cons (pv 1) (pa_cons pe_int pa_nil))) (pa_cons (pe_op op_add (pe_op op_pow pe_int pe_int) (pc DA GA r1 pass0 (pa_cons (pv 1) (pa_cons pe_int pa_nil)))) (pa_cons (pe_op op_add (pe_op op_pow pe_int pe_int) (pc DA GA r1 pass0 (pa_cons (pv 1) (pa_cons pe_int pa_nil)))) pa_nil)))) pa_nil))))
        (pss_cons (ps_set (i := 12) scLa.nd rfl (.inl rfl) (pc DA GA r1 pass0 (pa_cons (pv 1) (pa_cons (pe_callB call_len_seq (by rfl) B.len PySem.boot_len (pa_cons (pe_ix ix_list (pv 3) pe_int (fun _ _ => rfl)) pa_nil)) pa_nil))))
        (pss_cons (ps_if (pt_cmpR op_ne (pe_callB call_reprS (by rfl) B.repr (by decide +kernel) (pa_cons (pc DT GT r7 passF (pa_cons (pv 5) (pa_cons (pv 12) (pa_cons (pv 10) (pa_cons (pv 11) pa_nil))))) pa_nil)) (pe_callB call_reprS (by rfl) B.repr (by decide +kernel) (pa_cons (pc DF GF r2 pass0 (pa_cons (pv 3) (pa_cons (pv 12) (pa_cons (pv 10) (pa_cons (pv 11) pa_nil))))) pa_nil)) (nomark _)) (pss_one (ps_ret pe_bl)) pss_nil)
        (pss_cons (ps_if (pt_cmpR op_ne (pe_callW DT GT r7 (kb_times DT.F) passF (pk_cons (pv 11) (pk_cons (pe_callTy call_tuple_of (by rfl) B.tuple PyProof.Rows.boot_tuple (pa_cons (pv 10) pa_nil)) (pk_cons (pv 12) (pk_cons (pv 5) pk_nil))))) (pc DT GT r7 passF (pa_cons (pv 5) (pa_cons (pv 12) (pa_cons (pv 10) (pa_cons (pv 11) pa_nil))))) (nomark _)) (pss_one (ps_ret pe_bl)) pss_nil)
        (pss_cons (ps_setLc (i := 13) (own := [("_law_deed", 9)]) (g := gName 9) (tt := tYes) rfl scLa.nd rfl rfl (sw_true rfl rfl rfl rfl) (pi_list (pv 10)) (blkOk_by (N := nLa) (sc := defScope sLaw) (by decide +kernel)) (fun _ _ _ _ _ => pg_name (i := 9) scLa.nd rfl (Or.inl rfl)) (fun _ _ _ _ _ => pts_nil) (fun _ _ _ _ _ => (pc DO GO r2 pass0 (pa_cons (pv 1) (pa_cons (pe_lst (pa_cons (pc DA GA r1 pass0 (pa_cons (pv 1) (pa_cons pe_int pa_nil))) (pa_cons pe_int (pa_cons pe_int (pa_cons (pe_op op_add (pe_op op_pow pe_int pe_int) (pc DA GA r1 pass0 (pa_cons (pv 1) (pa_cons pe_int pa_nil)))) pa_nil))))) pa_nil)))))
        (pss_cons (ps_set (i := 14) scLa.nd rfl (.inl rfl) (pv 4))
        (pss_cons (ps_for PassesOwn.never rfl (ZM.pi_zipM (by rfl) B.zip (pa_cons (pv 10) (pa_cons (pv 13) pa_nil))) (pg_tup rfl (pgs_cons (pg_name (i := 9) scLa.nd rfl (.inl rfl)) (pgs_cons (pg_name (i := 7) scLa.nd rfl (.inl rfl)) pgs_nil))) (pss_one (ps_set (i := 14) scLa.nd rfl (.inl rfl) (pc DF GF r2 pass0 (pa_cons (pv 3) (pa_cons (pv 14) (pa_cons (pe_lst (pa_cons (pv 9) pa_nil)) (pa_cons (pv 7) pa_nil))))))))
        (pss_cons (ps_if (pt_cmpR op_ne (pe_callB call_reprS (by rfl) B.repr (by decide +kernel) (pa_cons (pc DC GC r8 passF (pa_cons (pv 5) (pa_cons (pv 4) (pa_cons (pv 10) (pa_cons (pv 13) pa_nil))))) pa_nil)) (pe_callB call_reprS (by rfl) B.repr (by decide +kernel) (pa_cons (pv 14) pa_nil)) (nomark _)) (pss_one (ps_ret pe_bl)) pss_nil)
        (pss_cons (ps_if (pt_cmpR op_ne (pe_callW DC GC r8 (kb_counts DC.F) passF (pk_cons (pe_callTy call_tuple_of (by rfl) B.tuple PyProof.Rows.boot_tuple (pa_cons (pv 13) pa_nil)) (pk_cons (pe_callTy call_tuple_of (by rfl) B.tuple PyProof.Rows.boot_tuple (pa_cons (pv 10) pa_nil)) (pk_cons (pv 4) (pk_cons (pv 5) pk_nil))))) (pv 14) (nomark _)) (pss_one (ps_ret pe_bl)) pss_nil)
        (pss_one (ps_if (pt_not (pt_val (pe_callG DOd GOd hr hgd (pa_cons (pv 1) (pa_cons (pv 5) (pa_cons (pv 4) (pa_cons (pe_op op_cat (pv 10) (pe_lst (pa_cons pe_int pa_nil))) pa_nil))))))) (pss_one (ps_ret pe_bl)) pss_nil))))))))))))))))))
      (pss_one (ps_ret pe_bl))), ?_⟩
    refine ⟨_, rfl, a, ns, rfl, hS, hn, fun b l H1 s1 hb0 hl0 hD => ?_⟩
    refine ⟨2, rfl, by decide, by decide, for_range (fun i σ H' => ∃ (v2 v3 v4 v5 v6 v7 v8 v9 v10 v11 v12 v13 v14 : Option V), σ = [some (.ref a), some (.ref b), v2, v3, v4, v5, v6, v7, v8, v9, v10, v11, v12, v13, v14] ∧ DealO H' b l ∧ LamX.Tabs T H') ⟨none, none, none, none, none, none, none, none, none, none, none, none, none, rfl, hD, hT.ext s1⟩ ?_ ?_⟩
    · rintro i σ H2 hi ⟨v2, v3, v4, v5, v6, v7, v8, v9, v10, v11, v12, v13, v14, rfl, hb2, hT2⟩
      refine ⟨_, rfl, b, l, rfl, hb2, fun qm p first us H3 dl3 hqm hLL hW hl3 hfr hcm => ⟨qm, _, rfl, SqT.of hqm, rfl, .ref p, _, rfl, .int first, _, rfl, rfl, ?_⟩⟩
      have R3 := (RlD.refl hb2 hT2).dl dl3
      obtain ⟨as, L1, n1, n2, n3⟩ := id hLL
      refine ⟨_, rfl, fun m dx hm hdx ne => ?_⟩
      have s0 : Same H3 (upd (upd H3 dx (.own m)) m (.ins M dx [])) := (same_new hdx).trans (same_new (by rw [upd_ne ne.symm]; exact hm))
      refine ⟨m, dx, _, _, rfl, upd_same, (L1.same s0).mv, fun z hz => (by rw [chk_wf hW] at hz; cases hz), fun _ ts' ets ta H4 k4 hM => ⟨rfl, ?_⟩⟩
      obtain rfl : vts us = ts' := map_some (Option.some.inj ets)
      have s4 := mkS hm hdx k4
      have hb4 := R3.1.same s4
      have R4 : RlD b l T H4 H4 := RlD.refl hb4 (R3.2.1.ext s4)
      have hL4 := hLL.same s4
      clear k4 s0 hm hdx hqm L1 n3
      refine gn ?_
      dsimp only
      have h8 := hW.t8
      have h12 := hW.s12
      have h1u := hW.t1
      refine seqG (fun σ H' => ∃ h : Nat, σ = [some (.ref a), some (.ref b), some (.int (0 + (i : Int))), some (.ref p), some (.int first), some (.ref m), some (.int (h : Int)), v7, v8, v9, v10, v11, v12, v13, v14] ∧ Same H4 H' ∧ HarmIs us first h) ?_ (fun go => ?_)
      · rintro σ H5 ⟨h, rfl, s5, hH⟩
        have R5 := R4.same s5
        refine ⟨1, 41, rfl, ⟨by decide, by decide, by decide, by decide⟩, fun D0 hD0 => lc_range (fun k H' => Same H5 H' ∧ H' D0 = some (.lst (vrow ((cnts k).filter (dueB h))))) ⟨same_new hD0, upd_same⟩ ?_ ?_⟩
        · rintro k H6 hk ⟨s6, hD6⟩
          have hk40 : k < 40 := hk
          have hlen : ((cnts k).filter (dueB h)).length < sizeLine := by
            have := Nat.le_trans (List.length_filter_le (dueB h) (cnts k)) (Nat.le_of_eq (cnts_len k))
            rw [sizeLine_eq]; omega
          have eF : (cnts (k + 1)).filter (dueB h) = (cnts k).filter (dueB h) ++ if dueB h (1 + (k : Int)) = true then [1 + (k : Int)] else [] := by rw [cnts_succ, filter_one]
          have yes : dueB h (1 + (k : Int)) = true → Same H5 (upd H6 D0 (.lst (vrow ((cnts k).filter (dueB h)) ++ [V.int (1 + (k : Int))]))) ∧ (upd H6 D0 (.lst (vrow ((cnts k).filter (dueB h)) ++ [V.int (1 + (k : Int))]))) D0 = some (.lst (vrow ((cnts (k + 1)).filter (dueB h)))) := fun hd => ⟨fun c o e => by rw [upd_ne (ne_of_none e hD0)]; exact s6 _ _ e, by rw [upd_same, eF, if_pos hd, vrow, vrow, List.map_append]; rfl⟩
          have no : dueB h (1 + (k : Int)) = false → Same H5 H6 ∧ H6 D0 = some (.lst (vrow ((cnts (k + 1)).filter (dueB h)))) := fun hd => ⟨s6, by rw [hD6, eF, hd, if_neg (by decide), List.append_nil]⟩
          have hvl : (vrow ((cnts k).filter (dueB h))).length < sizeLine := by rw [vrow, List.length_map]; exact hlen
          refine ⟨rfl, _, rfl, rfl, _, rfl, ifD (fun e => ?_) fun e => ?_⟩
          · have ec : (1 + (k : Int)) = 1 := by
              have := of_decide_eq_true e
              injection this
            exact iteT ⟨_, rfl, _, hD6, hvl, yes (by unfold dueB; rw [decide_eq_true ec]; rfl)⟩
          · have ec : ¬ (1 + (k : Int)) = 1 := fun z => of_decide_eq_false e (congrArg V.int z)
            refine ⟨_, rfl, _, _, rfl, rfl, _, rfl, ifD (fun e2 => ?_) fun e2 => ?_⟩
            · have ep : (h : Int) > 0 := of_decide_eq_true e2
              refine ⟨_, rfl, _, _, rfl, rfl, .inl ⟨_, rfl, _, rfl, _, _, rfl, _, _, rfl, rfl, ?_, rfl, _, rfl, ifD (fun e3 => ?_) fun e3 => ?_⟩⟩
              · show (0 : Int) < (if (1 : Int) > (h : Int) then 1 else (h : Int))
                rw [if_neg (by omega)]; exact ep
              · have em : ((1 + (k : Int)) - 1) % (if (1 : Int) > (h : Int) then 1 else (h : Int)) = 0 := by
                  have := of_decide_eq_true e3
                  injection this
                exact ⟨_, rfl, _, hD6, hvl, yes (by unfold dueB; rw [decide_eq_true ep, decide_eq_true em, decide_eq_false ec]; rfl)⟩
              · have em : ¬ ((1 + (k : Int)) - 1) % (if (1 : Int) > (h : Int) then 1 else (h : Int)) = 0 := fun z => of_decide_eq_false e3 (congrArg V.int z)
                exact no (by unfold dueB; rw [decide_eq_true ep, decide_eq_false em, decide_eq_false ec]; rfl)
            · have ep : ¬ (h : Int) > 0 := of_decide_eq_false e2
              exact iteF (no (by unfold dueB; rw [decide_eq_false ep, decide_eq_false ec]; rfl))
        · rintro H6 ⟨s6, hD6⟩
          have hD6 : H6 D0 = some (.lst (vrow ((cnts 40).filter (dueB h)))) := hD6
          have R6 := R5.same s6
          obtain ⟨as, L6, n1, n2, n3⟩ := R6.ll hL4
          refine ⟨_, rfl, _, _, _, _, _, rfl, .ty _, .base (.int _), kit_I K .i, _, rfl, iteF ?_⟩
          refine ⟨_, rfl, _, _, _, _, _, rfl, .ty _, .base (.int _), kit_B K .i, _, rfl, iteF ?_⟩
          refine ⟨_, rfl, _, _, rfl, rfl, _, rfl, iteN (decide_eq_false (by omega)) ?_⟩
          refine ⟨_, rfl, _, rfl, p, first, 40, as, us, rfl, L6, hW, hfr, by decide, fun qh rs H8 s8 hR hqh => ?_⟩
          rw [less_due hcm hR hH] at hqh
          refine ⟨_, rfl, neL hqh (s8 _ _ hD6) ⟨_, rfl, iteF ?_⟩⟩
          have R8 := R6.same s8
          clear hqh hD6 hR
          -- the row
          refine ⟨_, rfl, b, l, 5, rfl, R8.1, by decide, by decide, fun r5 H9 z0 z1 dl9 => ⟨r5, rfl, by omega, by omega, fun D1 hD1 => ?_⟩⟩
          have R9 := R8.dl dl9
          have nDb := R9.1.nb hD1
          have nDl := R9.1.nl hD1
          refine lc_range (fun k H' => Dl b l H9 H' ∧ ∃ row : List Int, row.length = k ∧ (∀ d ∈ row, 0 ≤ d ∧ d < (us.length : Int)) ∧ H' D1 = some (.lst (vrow row))) ⟨(Dl.refl R9.1).new hD1, [], rfl, fun d hd => (by cases hd), upd_same⟩ ?_ ?_
          · rintro k H10 hk ⟨dl10, row, hrl, hrr, hrD⟩
            obtain ⟨as', L10, _⟩ := (R9.dl dl10).ll hL4
            have hlen : ((as'.map V.ref).length : Int) = (us.length : Int) := by rw [List.length_map, L10.2.1]
            refine ⟨rfl, _, rfl, _, rfl, p, _, rfl, .inl (SqL.of L10.1), b, l, _, rfl, dl10.1, by rw [hlen]; omega, by rw [hlen]; omega, fun r H11 y0 y1 dl11 => ⟨_, dl11.2 _ _ hrD nDb nDl, by rw [vrow, List.length_map, sizeLine_eq]; omega, (dl10.trans dl11).put hD1 nDb nDl, row ++ [r], by rw [List.length_append, hrl]; rfl, fun d hd => ?_, by rw [upd_same, vrow, vrow, List.map_append]; rfl⟩⟩
            rcases List.mem_append.mp hd with z | z
            · exact hrr d z
            · rw [List.mem_singleton.mp z]; rw [hlen] at y1; exact ⟨y0, y1⟩
          · rintro H10 ⟨dl10, row, hrl, hrr, hrD⟩
            have R10 := R9.dl dl10
            have hrl4 : row.length ≤ 4 := by omega
            refine ⟨_, rfl, _, rfl, b, l, 14, rfl, R10.1, by decide, by decide, fun ra Ha a0 a1 dla => ⟨_, _, rfl, rfl, ⟨by decide, by decide, by decide⟩, _, rfl, b, l, 100, rfl, dla.1, by decide, by decide, fun rb Hb b0 b1 dlb => ⟨_, _, rfl, rfl, _, _, rfl, rfl, ⟨by decide, by decide, by decide⟩, _, rfl, b, l, 1000, rfl, dlb.1, by decide, by decide, fun rc Hc c0 c1 dlc => ⟨_, _, rfl, rfl, (by show 3 ≤ sizeLine; decide), fun pt hpt => ?_⟩⟩⟩⟩
            have R11 := ((R10.dl dla).dl dlb).dl dlc
            have D11 := ((dl10.trans dla).trans dlb).trans dlc
            have hrD11 := dlc.2 _ _ (dlb.2 _ _ (dla.2 _ _ hrD nDb nDl) nDb nDl) nDb nDl
            refine ⟨b, l, pt, _, rfl, (R11.new hpt).1, upd_same, R11.1.nb hpt, R11.1.nl hpt, by show 1 ≤ 3; decide, by show 3 ≤ 1000; decide, fun iv tv H12 htv dl12 => ?_⟩
            have R12 := (R11.new hpt).dl dl12
            have hrD12 := dl12.2 _ _ ((same_new hpt) _ _ hrD11) nDb nDl
            obtain ⟨t, rfl⟩ : ∃ t : Nat, tv = .int (t : Int) := by
              have hm := List.mem_of_getElem? htv
              simp only [List.mem_cons, List.mem_nil_iff, or_false] at hm
              rcases hm with rfl | rfl | rfl
              · exact ⟨ra.toNat, congrArg V.int (Int.toNat_of_nonneg a0).symm⟩
              · exact ⟨((10 : Int) ^ (9 : Int).toNat + rb).toNat, congrArg V.int (Int.toNat_of_nonneg (Int.add_nonneg (by decide +kernel) b0)).symm⟩
              · exact ⟨((10 : Int) ^ (40 : Int).toNat + rc).toNat, congrArg V.int (Int.toNat_of_nonneg (Int.add_nonneg (by decide +kernel) c0)).symm⟩
            obtain ⟨as1, L12, _⟩ := R12.ll hL4
            obtain ⟨t0, et0⟩ : ∃ t0, us[0]? = some t0 := ⟨us[0], List.getElem?_eq_getElem (by omega)⟩
            have ht0 : t0.length = nS us := by unfold nS; rw [et0]; rfl
            obtain ⟨a00, ha0⟩ : ∃ x, as1[0]? = some x := ⟨as1[0]'(by rw [L12.2.1]; omega), List.getElem?_eq_getElem _⟩
            have hrow0 := L12.2.2 0 _ t0 ha0 et0
            refine ⟨_, rfl, _, rfl, p, _, 0, .ref a00, rfl, rfl, SqL.of L12.1, at_of (j := 0) (by omega) (by rw [List.getElem?_map, ha0]; rfl), a00, _, rfl, .inl (SqL.of hrow0), b, l, _, rfl, R12.1, by rw [vrow, List.length_map, ht0]; omega, by rw [vrow, List.length_map, ht0]; omega, fun sst H13 f0 f1 dl13 => ?_⟩
            rw [vrow, List.length_map, ht0] at f1
            have R13 := R12.dl dl13
            have hrD13 := dl13.2 _ _ hrD12 nDb nDl
            obtain ⟨as2, L13, _⟩ := R13.ll hL4
            have hM13 := R13.mach hb4 hM
            have hrok := rowF_ok (n := us.length) (row := row) (by omega) hrr
            have tr := trail_rng hW hrr ⟨f0, f1⟩ t
            have lg : (trail us row sst t).natAbs.log2 < 1920 := log_sm tr.1 (by omega)
            have nB : numB (.int (t : Int)) = false → False := fun e => by
              have : numB (.int (t : Int)) = true := by
                show decide ((0 : Int) ≤ (t : Int)) = true
                exact decide_eq_true (by omega)
              rw [this] at e; cases e
            refine ⟨_, rfl, _, rfl, _, rfl, _, rfl, m, ta, us, .int sst, .ref D1, .int (t : Int), rfl, hM13, hW, ⟨_, .int _⟩, ⟨_, .int _⟩, fun e => (by rw [belowI ⟨f0, f1⟩] at e; cases e), fun _ => ⟨sst, some (vrow row), rfl, ⟨.lst hrD13, kindsR⟩, fun hne => absurd hrok hne, fun _ => ⟨row, rfl, hrr, fun e => (nB e).elim, fun t' et H14 s14 => ?_⟩⟩⟩
            obtain rfl : t = t' := by injection et with et; omega
            refine nilP ⟨_, rfl, .inr (.inr (.inl ⟨_, rfl, lg, ?_⟩))⟩
            refine ⟨_, rfl, _, rfl, _, rfl, _, rfl, p, D1, sst, t, as2, us, row, rfl, L13.same s14, hW, ⟨f0, f1⟩, .inr (s14 _ _ hrD13), hrr, fun H15 s15 => nilP ⟨_, rfl, .inr (.inr (.inl ⟨_, rfl, lg, neV rfl ⟨_, rfl, iteF ?_⟩⟩))⟩⟩
            have s1415 := s14.trans s15
            have hrD15 := s1415 _ _ hrD13
            refine ⟨_, rfl, _, rfl, D1, _, rfl, .inl ⟨SqL.of hrD15, fun lt hlt => ?_⟩⟩
            have s16 := s1415.trans (same_new (o := HO.tup (vrow row)) hlt)
            refine ⟨_, rfl, _, rfl, rfl, m, ta, us, .int sst, .ref lt, .int (t : Int), rfl, hM13.same s16, hW, ⟨_, .int _⟩, ⟨_, .int _⟩, fun e => (by rw [belowI ⟨f0, f1⟩] at e; cases e), fun _ => ⟨sst, some (vrow row), rfl, ⟨.tup upd_same, kindsR⟩, fun hne => absurd hrok hne, fun _ => ⟨row, rfl, hrr, fun e => (nB e).elim, fun t' et H17 s17 => ?_⟩⟩⟩
            obtain rfl : t = t' := by injection et with et; omega
            have s17' := s16.trans s17
            refine ⟨_, rfl, _, rfl, _, rfl, _, rfl, m, ta, us, .int sst, .ref D1, .int (t : Int), rfl, hM13.same s17', hW, ⟨_, .int _⟩, ⟨_, .int _⟩, fun e => (by rw [belowI ⟨f0, f1⟩] at e; cases e), fun _ => ⟨sst, some (vrow row), rfl, ⟨.lst (s17' _ _ hrD13), kindsR⟩, fun hne => absurd hrok hne, fun _ => ⟨row, rfl, hrr, fun e => (nB e).elim, fun t' et H18 s18 => ?_⟩⟩⟩
            obtain rfl : t = t' := by injection et with et; omega
            refine neV rfl ⟨_, rfl, iteF ?_⟩
            have R18 := R13.same (s17'.trans s18)
            have hrD18 := (s17'.trans s18) _ _ hrD13
            refine ⟨_, rfl, D1, rfl, ⟨_, SqL.of hrD18⟩, fun D2 hD2 => ?_⟩
            have m1 := R18.1.nb hD2
            have m2 := R18.1.nl hD2
            refine lc_list (K := K) (a := D1) (xs := vrow row) (fun k H' => Dl b l H18 H' ∧ ∃ cs : List Nat, cs.length = k ∧ H' D2 = some (.lst (vns cs))) ⟨(Dl.refl R18.1).new hD2, [], rfl, upd_same⟩ (fun k H' _ ⟨dl, _⟩ => SqL.of (dl.2 _ _ hrD18 nDb nDl)) ?_ ?_
            · rintro k z H19 hz ⟨dl19, cs, hcl, hcD⟩
              have hkl := (List.getElem?_eq_some_iff.mp hz).1
              rw [vrow, List.length_map] at hkl
              refine ⟨rfl, _, rfl, _, rfl, b, l, 5, rfl, dl19.1, by decide, by decide, fun rx Hx x0 x1 dlx => ⟨_, _, rfl, rfl, ⟨by decide, by decide, by decide⟩, _, rfl, b, l, 60, rfl, dlx.1, by decide, by decide, fun ry Hy y0 y1 dly => ⟨_, _, rfl, rfl, (by show 4 ≤ sizeLine; decide), fun pz hpz => ?_⟩⟩⟩
              have dlz := (dl19.trans dlx).trans dly
              refine ⟨b, l, pz, _, rfl, (dlz.new hpz).1, upd_same, dlz.1.nb hpz, dlz.1.nl hpz, by show 1 ≤ 4; decide, by show 4 ≤ 1000; decide, fun iv cv H20 hcv dlc => ?_⟩
              obtain ⟨c, rfl⟩ : ∃ c : Nat, cv = .int (c : Int) := by
                have hm := List.mem_of_getElem? hcv
                simp only [List.mem_cons, List.mem_nil_iff, or_false] at hm
                rcases hm with rfl | rfl | rfl | rfl
                · exact ⟨rx.toNat, congrArg V.int (Int.toNat_of_nonneg x0).symm⟩
                · exact ⟨1, rfl⟩
                · exact ⟨0, rfl⟩
                · exact ⟨((10 : Int) ^ (20 : Int).toNat + ry).toNat, congrArg V.int (Int.toNat_of_nonneg (Int.add_nonneg (by decide +kernel) y0)).symm⟩
              have e2 := dlc.2 _ _ ((same_new hpz) _ _ (dly.2 _ _ (dlx.2 _ _ hcD m1 m2) m1 m2)) m1 m2
              exact ⟨_, e2, by rw [List.length_map, sizeLine_eq]; omega, ((dlz.new hpz).trans dlc).put hD2 m1 m2, cs ++ [c], by rw [List.length_append, hcl]; rfl, by rw [upd_same, vns, vns, List.map_append]; rfl⟩
            · rintro H19 ⟨dl19, cs, hcl, hcD⟩
              rw [vrow, List.length_map] at hcl
              have R19 := R18.dl dl19
              have hrD19 := dl19.2 _ _ hrD18 nDb nDl
              obtain ⟨as3, L19, _⟩ := R19.ll hL4
              have hM19 := R19.mach hb4 hM
              have hlen : (vrow row).length = row.length := List.length_map _
              refine ⟨_, rfl, _, rfl, _, rfl, false, false, D1, D2, vrow row, vns cs, rfl, SqL.of hrD19, SqL.of hcD, ZM.for_zipM (K := K) (by rw [hlen, List.length_map]; exact hcl.symm) (fun j σ H' => ∃ w7 w9 : Option V, σ = [some (.ref a), some (.ref b), some (.int (0 + (i : Int))), some (.ref p), some (.int first), some (.ref m), some (.int (h : Int)), w7, some (.ref D0), w9, some (.ref D1), some (.int (t : Int)), some (.int sst), some (.ref D2), some (.int (ledC us first ((row.zip cs).take j)))] ∧ Same H19 H' ∧ 0 ≤ ledC us first ((row.zip cs).take j) ∧ ledC us first ((row.zip cs).take j) < (nS us : Int))
                ⟨_, _, rfl, fun _ _ e => e, hfr.1, hfr.2⟩ (fun j σ H' ⟨_, _, _, sm, _⟩ => ⟨SqL.of (sm _ _ hrD19), SqL.of (sm _ _ hcD)⟩) ?_ ?_⟩
              · rintro j x y T' σ H' hx hy ⟨w7, w9, rfl, s4', g0, g1⟩ hT'
                obtain ⟨d, hdx, rfl⟩ : ∃ d, row[j]? = some d ∧ x = V.int d := by
                  rw [vrow, List.getElem?_map] at hx
                  cases e : row[j]? with
                  | none => rw [e] at hx; cases hx
                  | some z => rw [e] at hx; exact ⟨z, rfl, (Option.some.inj hx).symm⟩
                obtain ⟨c, hcx, rfl⟩ : ∃ c, cs[j]? = some c ∧ y = V.int (c : Int) := by
                  rw [vns, List.getElem?_map] at hy
                  cases e : cs[j]? with
                  | none => rw [e] at hy; cases hy
                  | some z => rw [e] at hy; exact ⟨z, rfl, (Option.some.inj hy).symm⟩
                have hd1 : ∀ e ∈ [d], 0 ≤ e ∧ e < (us.length : Int) := fun e he => by rw [List.mem_singleton.mp he]; exact hrr d (List.mem_of_getElem? hdx)
                have ez : (row.zip cs)[j]? = some (d, c) := by rw [List.getElem?_zip_eq_some]; exact ⟨hdx, hcx⟩
                refine ⟨T', _, rfl, SqT.of upd_same, rfl, _, _, rfl, _, _, rfl, rfl, ?_⟩
                have s5' := s4'.trans (same_new (o := HO.tup [V.int d, V.int (c : Int)]) hT')
                refine ⟨_, rfl, _, rfl, _, rfl, (by show 1 ≤ sizeLine; decide), fun x1 hx1 => ⟨_, rfl, p, x1, _, c, as3, us, [d], rfl, (L19.same s5').same (same_new hx1), hW, ⟨g0, g1⟩, .inr upd_same, hd1, fun H7 s7 => ?_⟩⟩
                have ek : ledC us first ((row.zip cs).take (j + 1)) = trail us [d] (ledC us first ((row.zip cs).take j)) c := by rw [take_succ ez, ledC_snoc]
                have hr7 := trail_rng hW hd1 ⟨g0, g1⟩ c
                exact ⟨_, _, by rw [ek]; rfl, (s5'.trans (same_new hx1)).trans s7, by rw [ek]; exact hr7.1, by rw [ek]; exact hr7.2⟩
              · rintro σ H' ⟨w7, w9, rfl, s4', g0, g1⟩
                have ef : (row.zip cs).take (vrow row).length = row.zip cs := List.take_of_length_le (by rw [hlen, List.length_zip]; exact Nat.min_le_left _ _)
                rw [ef] at g0 g1 ⊢
                have lg2 : (ledC us first (row.zip cs)).natAbs.log2 < 1920 := log_sm g0 (by omega)
                have kvn : ∀ {H : Hp} ys, some (vns cs) = some ys → Kinds K H ys := fun ys e y hy => by
                  obtain rfl := Option.some.inj e
                  obtain ⟨c, _, rfl⟩ := List.mem_map.mp hy
                  exact ⟨_, .int _⟩
                have cnt : cntB (some (vns cs)) row.length = true := by
                  show (decide ((vns cs).length = row.length) && ((vns cs).map numB).all id) = true
                  rw [List.length_map, decide_eq_true hcl, Bool.true_and, List.map_map]
                  refine List.all_eq_true.mpr fun x hx => ?_
                  obtain ⟨t', _, rfl⟩ := List.mem_map.mp hx
                  show decide ((0 : Int) ≤ (t' : Int)) = true
                  exact decide_eq_true (by omega)
                have vinj : ∀ cs' : List Nat, some (vns cs) = some (vns cs') → cs = cs' := fun cs' e => (List.map_inj_right (fun x y h => by injection h with h; omega)).mp (Option.some.inj e)
                have R20 := R19.same s4'
                refine ⟨_, rfl, _, rfl, _, rfl, _, rfl, m, ta, us, .int first, .ref D1, .ref D2, some (vns cs), rfl, hM19.same s4', hW, ⟨_, .int _⟩, ⟨.lst (s4' _ _ hcD), kvn⟩, fun e => (by rw [belowI hfr] at e; cases e), fun _ => ⟨first, some (vrow row), rfl, ⟨.lst (s4' _ _ hrD19), kindsR⟩, fun hne => absurd hrok hne, fun _ => ⟨row, rfl, hrr, by omega, fun e => (by rw [cnt] at e; cases e), fun cs' ecs _ H21 s21 => ?_⟩⟩⟩
                obtain rfl := vinj cs' ecs
                refine nilP ⟨_, rfl, .inr (.inr (.inl ⟨_, rfl, lg2, ⟨_, rfl, nilP ⟨_, rfl, .inr (.inr (.inl ⟨_, rfl, lg2, neV rfl ⟨_, rfl, iteF ?_⟩⟩))⟩⟩⟩))⟩
                have s21' := s4'.trans s21
                refine ⟨_, rfl, D2, _, rfl, .inl ⟨SqL.of (s21' _ _ hcD), fun l2 hl2 => ⟨_, rfl, D1, _, rfl, .inl ⟨SqL.of ((same_new hl2) _ _ (s21' _ _ hrD19)), fun l3 hl3' => ?_⟩⟩⟩⟩
                have s22 := s21'.trans ((same_new (o := HO.tup (vns cs)) hl2).trans (same_new (o := HO.tup (vrow row)) hl3'))
                refine ⟨_, rfl, _, rfl, rfl, m, ta, us, .int first, .ref l3, .ref l2, some (vns cs), rfl, hM19.same s22, hW, ⟨_, .int _⟩, ⟨.tup ((same_new hl3') _ _ upd_same), kvn⟩, fun e => (by rw [belowI hfr] at e; cases e), fun _ => ⟨first, some (vrow row), rfl, ⟨.tup upd_same, kindsR⟩, fun hne => absurd hrok hne, fun _ => ⟨row, rfl, hrr, by omega, fun e => (by rw [cnt] at e; cases e), fun cs' ecs _ H23 s23 => ?_⟩⟩⟩
                obtain rfl := vinj cs' ecs
                refine ⟨_, rfl, neV rfl ⟨_, rfl, iteF ?_⟩⟩
                have R23 := R19.same (s22.trans s23)
                have hrD23 := (s22.trans s23) _ _ hrD19
                refine ⟨_, rfl, _, rfl, _, rfl, _, rfl, (by show 1 ≤ sizeLine; decide), fun x1 hx1 => ⟨D1, x1, _, _, rfl, rfl, (same_new hx1) _ _ hrD23, upd_same, by rw [vrow, List.length_map, sizeLine_eq]; simp only [List.length_cons, List.length_nil]; omega, fun x2 hx2 => ?_⟩⟩
                have R24 := (R23.new (o := HO.lst [V.int 0]) hx1).new (o := HO.lst (vrow row ++ [V.int 0])) hx2
                have R23' := R23.new (o := HO.lst [V.int 0]) hx1
                refine ⟨b, l, m, ta, x2, us, first, row ++ [0], rfl, R24.1, R24.2.1, R24.mach hb4 hM, hW, hfr, by rw [upd_same, vrow, vrow, List.map_append]; rfl, R23'.1.nb hx2, R23'.1.nl hx2, fun d hd => ?_, by rw [List.length_append]; exact Nat.le_add_left 1 _, by rw [List.length_append]; simp only [List.length_cons, List.length_nil]; omega, fun H25 r25 => ⟨true, rfl, iteF ?_⟩⟩
                · rcases List.mem_append.mp hd with z | z
                  · exact hrr d z
                  · rw [List.mem_singleton.mp z]; exact ⟨by decide, by omega⟩
                · exact ⟨_, _, _, _, _, _, _, _, _, _, _, _, _, rfl, r25.1, r25.2.1⟩
      · have told : ∀ (ns : List Int) (r : Option (Int × Int × Int)), (∀ x, x ∈ ns ↔ Reach us first x) → PaperIs us ns r → r = none := fun ns r mem pap => by
          cases r with
          | none => rfl
          | some t =>
            obtain ⟨x, a', b'⟩ := t
            obtain ⟨j, hx, ha', hb', bad, _⟩ := pap
            exact absurd bad (hcm x ((mem x).mp (List.mem_of_getElem? hx)) a' b' ha' hb')
        refine ⟨_, rfl, rfl, _, rfl, ifD (fun e => ?_) fun e => ?_⟩
        · refine ⟨_, rfl, _, rfl, m, ta, us, .int first, rfl, hM, hW, ⟨_, .int first⟩, fun e => (by rw [belowI hfr] at e; cases e), fun _ => ⟨first, rfl, fun ns r H' s' asc mem pap => ⟨fun er h H'' s'' hh => go _ _ ⟨h, rfl, s'', hh⟩, fun x a' b' er => (by rw [told ns r mem pap] at er; cases er)⟩⟩⟩
        · refine ⟨_, rfl, _, rfl, rfl, m, ta, us, .int first, rfl, hM, hW, ⟨_, .int first⟩, fun e => (by rw [belowI hfr] at e; cases e), fun _ => ⟨first, rfl, fun ns r H' s' asc mem pap => ⟨fun er h H'' s'' hh => go _ _ ⟨h, rfl, s'', hh⟩, fun x a' b' er => (by rw [told ns r mem pap] at er; cases er)⟩⟩⟩
    · rintro σ H2 ⟨v2, v3, v4, v5, v6, v7, v8, v9, v10, v11, v12, v13, v14, rfl, hb2, hT2⟩
      exact q _
end
end K1
namespace K1
open PySem PySem.Spec PyProof.Rows L2
/-- the caller's call of a law that is told where nothing is being shown; one table of code objects stands by -/
theorem call_law {P : Program} {w : World} {K : PySem.W.Frag} {mg mb : Str → Option Value} {k : Nat} {fa a c Pt : Addr} {fd : FuncData} {x : Str} {sp : Sp} {s : Shared} {vs : List Value} {ns : List Int}
    (KX : K.In s.heap) (hmg : s.heap.Ns mainGlobals mg) (hmb : s.heap.Ns builtinsNs mb) (hbb : ∀ x : Str, x ≠ "__name__" → mb x = bootBuiltins x) (hlim : s.heap.NoLimit) (hg : s.gens = #[])
    (hT : s.heap.get? Pt = some { cls := .none, data := .fields #[] }) (nT : K.lookup Pt = none) (hC : PySem.W.CodeHd s.heap c Pt)
    (hbm : ∃ (bm : Addr) (ob : Obj), mg "__builtins__" = some (.ref bm) ∧ bm ≠ builtinsNs ∧ s.heap.get? bm = some ob ∧ ob.cls = .type "module" ∧ ob.dict = some builtinsNs ∧ ob.data = .plain)
    (ha : s.heap.get? a = some { cls := .type "list", data := .seq vs.toArray }) (hi : IntsAre vs ns) (hl : ns.length ≤ sizeLine) (hr : Room k callerA)
    (F : ∀ base : Heap, K.In base → base.Ns mainGlobals mg → LamX.TabB base mg c Pt → FnG P w K mg base k fa fd [x] sp) (hbind : ∀ (s : Shared) (u : Value), BindsTo s fd ⟨[u], []⟩ [(x, u)])
    (hsp : ∀ H : Hp, H Pt = some (.tbl #[]) → SqL K H a (ns.map V.int) → sp [.ref a] H (fun v _ => v = .bl true) fun _ _ _ => False) :
    codeAny (model P w) callerA (.call (.ref fa) ⟨[.ref a], []⟩) (fun r s' => r = .ok (.ret (.bool true)) ∧ OldK s.heap s'.heap ∧ s'.os = s.os ∧ AllBare s'.gens) s := by
  have nPa : Pt ≠ a := fun z => by
    rw [z, ha] at hT
    cases Option.some.inj hT
  -- told of any way to follow the script
  have told : ∀ H : Hp, H Pt = some (.tbl #[]) → (∀ b, b ≠ Pt → H b = none ∨ (b = a ∧ K.lookup a = none ∧ ∃ o xs, H a = some (.frz o (.lst xs)))) → SqL K H a (ns.map V.int) → HOk P w H s.heap →
      codeAny (model P w) callerA (.call (.ref fa) ⟨[.ref a], []⟩) (fun r s' => r = .ok (.ret (.bool true)) ∧ OldK s.heap s'.heap ∧ s'.os = s.os ∧ AllBare s'.gens) s := by
    intro H hP hO hS hok
    have out : ∀ {b : Addr} {o : Obj}, s.heap.get? b = some o → b ≠ Pt → b ≠ a → (hidT s.heap H).get? b = some o := fun {b o} e n1 n2 => hidT_get e ((hO b n1).resolve_right fun z => n2 z.1)
    have neD : ∀ {b : Addr} {o : Obj}, s.heap.get? b = some o → (∀ v n, o.data ≠ .seq v n) → (o.data ≠ .fields #[]) → b ≠ Pt ∧ b ≠ a := fun {b o} e h1 h2 => ⟨fun z => by
      rw [z, hT] at e
      cases Option.some.inj e
      exact h2 rfl, fun z => by
      rw [z, ha] at e
      cases Option.some.inj e
      exact h1 _ _ rfl⟩
    have ns_ : ∀ {b : Addr} {m : Str → Option Value}, s.heap.Ns b m → (hidT s.heap H).Ns b m := fun {b m} ⟨o, es, ep, e, d, r⟩ => by
      have n := neD e (fun v n z => by rw [d] at z; cases z) (fun z => by rw [d] at z; cases z)
      exact ⟨o, es, ep, out e n.1 n.2, d, r⟩
    have kin : K.In (hidT s.heap H) := fun b o e => by
      refine hidT_get (KX b o e) ?_
      by_cases z : b = Pt
      · rw [z, nT] at e; cases e
      · refine (hO b z).resolve_right fun ⟨z1, z2, _⟩ => ?_
        rw [z1, z2] at e
        cases e
    have hM : L2.Mod K mg (hidT s.heap H) := ⟨kin, ns_ hmg, ⟨mb, ns_ hmb, hbb⟩, let ⟨mc, h1, h2⟩ := hlim; ⟨mc, ns_ h1, h2⟩⟩
    have TB : LamX.TabB (hidT s.heap H) mg c Pt := by
      refine ⟨?_, ?_, fun z => ?_⟩
      · obtain ⟨o, us, file, tf, flags, tg, inF, text, tt, e, e2, e3, r⟩ := hC
        have n := neD e (fun v n z => by rw [e3] at z; cases z) (fun z => by
          rw [e3] at z
          cases z
          have := r.1
          simp at this)
        exact ⟨o, us, file, tf, flags, tg, inF, text, tt, out e n.1 n.2, e2, e3, r⟩
      · obtain ⟨bm, ob, b1, b2, b3, b4, b5, b6⟩ := hbm
        have n := neD b3 (fun v n z => by rw [b6] at z; cases z) (fun z => by rw [b6] at z; cases z)
        refine ⟨bm, ob, b1, b2, fun z => ?_, n.1, out b3 n.1 n.2, b4, b5, b6⟩
        obtain ⟨o, es, ep, e, d, _⟩ := hmg
        rw [z, e] at b3
        cases Option.some.inj b3
        rw [d] at b6
        cases b6
      · obtain ⟨o, es, ep, e, d, _⟩ := hmg
        rw [z, hT] at e
        cases Option.some.inj e
        cases d
    have e0 : Env0 P w K mg (hidT s.heap H) callerA [] s H := ⟨rfl, hM, fun b o e => of_hidT e, Nat.le_of_eq (hidT_size _ _), trivial, fun b hb => absurd (show b ∈ ([] : List Addr) from hb) (by simp), hok, .of_eq hg⟩
    refine codeAny_mono ((F _ kin (ns_ hmg) TB).run callerA [] s H ⟨[.ref a], []⟩ [.ref a] [.ref a] _ _ hr rfl e0 (hbind s (.ref a)) (.cons rfl .nil) (hsp H hP hS)) fun r s' h => ?_
    cases r with
    | error e => exact (show False from h).elim
    | ok fl =>
      cases fl with
      | next => exact False.elim h
      | brk => exact False.elim h
      | cont => exact False.elim h
      | ret u =>
        obtain ⟨v, H', os, bare, un, hok', r', q⟩ := h
        obtain rfl : v = V.bl true := q
        obtain rfl : u = Value.bool true := r'
        obtain ⟨more, hm⟩ := un.tbls Pt #[] hP
        have hm' : s'.heap.get? Pt = some { cls := .none, data := .fields more } := by
          have z := hok' Pt _ hm
          rw [Array.empty_append] at z
          exact z
        have rest : ∀ b o, b ≠ Pt → s.heap.get? b = some o → s'.heap.get? b = some o := fun b o n e => by
          rcases hO b n with z | ⟨z, _, ob, xs, hf⟩
          · exact un.keep b o e z (fun w => absurd (show b ∈ ([] : List Addr) from w) (by simp)) (by simp)
          · rw [z] at e ⊢
            have e1 := (hok a _ hf).1
            rw [e] at e1
            rw [Option.some.inj e1]
            exact (hok' a _ (un.frzs a ob _ hf)).1
        refine ⟨rfl, ⟨fun b o e => ?_, fun b o e => ?_⟩, os, bare⟩
        · by_cases z : b = Pt
          · rw [z] at e ⊢
            rw [hT] at e
            cases Option.some.inj e
            exact .inr (.inl ⟨(hC.tab hT).isCodeTable, rfl, #[], more, rfl, by rw [Array.empty_append]; exact hm'⟩)
          · exact .inl (rest b o z e)
        · by_cases z : b = Pt
          · rw [z]; exact ⟨_, hm'⟩
          · exact ⟨o, rest b o z e⟩
  have rv := vals_ints hi
  cases hk : K.lookup a with
  | some o =>
    have e := KX a o hk
    rw [ha] at e
    cases Option.some.inj e
    refine told (fun b => if b = Pt then some (.tbl #[]) else none) (if_pos rfl) (fun b n => .inl (if_neg n)) (.inr ⟨_, vs.toArray, _, hk, rfl, rfl, rfl, by rw [List.size_toArray, hi.length]; exact hl, by simpa using rv⟩) fun b u z => ?_
    by_cases n : b = Pt
    · have z' : some (HO.tbl #[]) = some u := (if_pos n).symm.trans z
      cases z'
      rw [n]
      exact hT
    · have z' : (none : Option HO) = some u := (if_neg n).symm.trans z
      cases z'
  | none =>
    refine told (fun b => if b = Pt then some (.tbl #[]) else if b = a then some (.frz { cls := .type "list", data := .seq vs.toArray } (.lst (ns.map V.int))) else none) (if_pos rfl) (fun b n => ?_) (.inl (.inr ⟨_, (if_neg nPa.symm).trans (if_pos rfl)⟩)) fun b u z => ?_
    · by_cases n2 : b = a
      · exact .inr ⟨n2, hk, _, _, (if_neg nPa.symm).trans (if_pos rfl)⟩
      · exact .inl ((if_neg n).trans (if_neg n2))
    · by_cases n : b = Pt
      · have z' : some (HO.tbl #[]) = some u := (if_pos n).symm.trans z
        cases z'
        rw [n]
        exact hT
      · by_cases n2 : b = a
        · have z' := ((if_neg n).trans (if_pos n2)).symm.trans z
          cases z'
          rw [n2]
          exact ⟨ha, by rw [List.length_map]; exact hl, vs, _, rv, ha⟩
        · have z' := ((if_neg n).trans (if_neg n2)).symm.trans z
          cases z'
end K1
namespace K1
open PySem PySem.Spec PyProof.Rows L2
/-- what the top has left -/
structure Tp (K : PySem.W.Frag) (mg : Str → Option Value) (M CM CF CR CS CU c Pt fa : Addr) (fd : FuncData) : Prop where
  B : Bt mg
  ct : Ct mg
  whole : ∃ f fd, Df K mg "is_whole" sWhole ["value"] f fd
  numb : ∃ f fd, Df K mg "is_number" sNumb ["value"] f fd
  below : ∃ f fd, Df K mg "is_below" sBelow ["value", "limit"] f fd
  seq : ∃ f fd, Df K mg "is_sequence" sSeq ["value", "least", "most"] f fd
  fnb : ∃ f fd, Df K mg "first_not_below" sFnb ["items", "limit"] f fd
  istab : ∃ f fd, Df K mg "is_table" sIsTab ["value", "states"] f fd
  chk : ∃ f fd, Df K mg "checked_tables" sChk ["value"] f fd
  needS : ∃ f fd, Df K mg "need_state" sNeedS ["machine", "state"] f fd
  fault : ∃ f fd, Df K mg "row_fault" sFault ["machine", "value"] f fd
  row : ∃ f fd, Df K mg "check_row" sRow ["machine", "value"] f fd
  moved : ∃ f fd, Df K mg "moved" sMoved ["machine", "state", "row"] f fd
  first : ∃ f fd, DfF K mg f fd
  orbit : ∃ f fd, Df K mg "orbit" sOrbit ["machine", "state"] f fd
  cpaper : ∃ f fd, Df K mg "commuting_paper" sCPaper ["machine", "state"] f fd
  needC : ∃ f fd, Df K mg "need_commuting" sNeedC ["machine", "state"] f fd
  power : ∃ f fd, Df K mg "power_of" sPower ["machine", "state", "row"] f fd
  times : ∃ f fd, Df K mg "led_times" sTimes ["machine", "state", "row", "times"] f fd
  counts : ∃ f fd, Df K mg "led_counts" sCounts ["machine", "first", "deeds", "counts"] f fd
  harm : ∃ f fd, Df K mg "harmless_period" sHarm ["machine", "first"] f fd
  dealt : ∃ f fd, Df K mg "_law_dealt" sDealt ["_law_script"] f fd
  any : ∃ f fd, Df K mg "_law_any" sAny ["_law_deal", "_law_bound"] f fd
  of : ∃ f fd, Df K mg "_law_of" sOf ["_law_deal", "_law_some"] f fd
  turned : ∃ f fd, Df K mg "_law_turned" sTurned ["_law_deal", "_law_tables", "_law_many"] f fd
  mach : ∃ f fd, Df K mg "_law_machine" sMach ["_law_deal"] f fd
  lled : ∃ f fd, Df K mg "_law_led" sLLed ["_law_tables", "_law_state", "_law_row"] f fd
  rows : ∃ f fd, Df K mg "_law_rows" sRows ["_law_tables", "_law_first"] f fd
  hless : ∃ f fd, Df K mg "_law_harmless" sHarmless ["_law_tables", "_law_first", "_law_most"] f fd
  far : ∃ f fd, Df K mg "_law_far" sFar ["_law_tables", "_law_state", "_law_row", "_law_times"] f fd
  heard : ∃ f fd, Df K mg "_law_heard" sHeard ["_law_work"] f fd
  odd : ∃ f fd, Df K mg "_law_is_odd_told" sOdd ["_law_deal", "_law_machine_here", "_law_first", "_law_row"] f fd ∧ FunC K "_law_is_odd_told" "_law_is_odd_told" sOdd f fd (.ref c)
  law : Fun K "law" "law" sLaw fa fd
  lawb : ∀ (s : Shared) (u : Value), BindsTo s fd ⟨[u], []⟩ [("_law_script", u)]
  init : ∃ f fd, Fun K "__init__" "Machine.__init__" sMInit f fd ∧ Mk K M f ∧ Binds K fd ["self", "tables"] []
  T : McT K mg M
  t0 : ∃ q b i, LAt.Txt K mg "BadMachine" q b CM i
  t1 : ∃ q b i, LAt.Txt K mg "Refused" q b CF i
  t2 : ∃ q b i, LAt.Txt K mg "BadRow" q b CR i
  t3 : ∃ q b i, LState.Txt K mg "NoState" q b CS i
  u : UnC K mg CU
  ui : ∃ f fd, Fun K "__init__" "Uncommuting.__init__" sUInit f fd ∧ PySem.W.findIn K (.ref CU) "__init__" = some (some (.ref f)) ∧ PySem.W.typeIn K (.ref f) = some (.type "function") ∧ Binds K fd ["self", "state", "one", "other"] []
  ex : Exm K CF CR CS CU
  tab : PySem.W.tabIn K "_law_is_odd_told" = some (c, Pt)
  nP : K.lookup Pt = Option.none
section
variable {P : Program} {w : World} {K : PySem.W.Frag} {mg : Str → Option Value} {base : Heap}
theorem asm {M CM CF CR CS CU c Pt fa : Addr} {fd : FuncData} (t : Tp K mg M CM CF CR CS CU c Pt fa fd) (TB : LamX.TabB base mg c Pt) : FnG P w K mg base 12 fa fd ["_law_script"] (spLaw K [(Pt, qOd)]) := by
  have B := t.B
  have ct := t.ct
  have T := t.T
  obtain ⟨_, _, dWhole⟩ := t.whole
  obtain ⟨_, _, dNumb⟩ := t.numb
  obtain ⟨_, _, dBelow⟩ := t.below
  obtain ⟨_, _, dSeq⟩ := t.seq
  obtain ⟨_, _, dFnb⟩ := t.fnb
  obtain ⟨_, _, dIstab⟩ := t.istab
  obtain ⟨_, _, dChk⟩ := t.chk
  obtain ⟨_, _, dNeedS⟩ := t.needS
  obtain ⟨_, _, dFault⟩ := t.fault
  obtain ⟨_, _, dRow⟩ := t.row
  obtain ⟨_, _, dMoved⟩ := t.moved
  obtain ⟨_, _, dFirst⟩ := t.first
  obtain ⟨_, _, dOrbit⟩ := t.orbit
  obtain ⟨_, _, dCpaper⟩ := t.cpaper
  obtain ⟨_, _, dNeedC⟩ := t.needC
  obtain ⟨_, _, dPower⟩ := t.power
  obtain ⟨_, _, dTimes⟩ := t.times
  obtain ⟨_, _, dCounts⟩ := t.counts
  obtain ⟨_, _, dHarm⟩ := t.harm
  obtain ⟨_, _, dDealt⟩ := t.dealt
  obtain ⟨_, _, dAny⟩ := t.any
  obtain ⟨_, _, dOf⟩ := t.of
  obtain ⟨_, _, dTurned⟩ := t.turned
  obtain ⟨_, _, dMach⟩ := t.mach
  obtain ⟨_, _, dLled⟩ := t.lled
  obtain ⟨_, _, dRows⟩ := t.rows
  obtain ⟨_, _, dHless⟩ := t.hless
  obtain ⟨_, _, dFar⟩ := t.far
  obtain ⟨_, _, dOdd, fOdd⟩ := t.odd
  obtain ⟨_, _, fInit, mk, bInit⟩ := t.init
  obtain ⟨_, _, fUi, iC, tI, bUi⟩ := t.ui
  obtain ⟨_, _, _, x0⟩ := id t.t0
  obtain ⟨_, _, _, x1⟩ := id t.t1
  obtain ⟨_, _, _, x2⟩ := id t.t2
  obtain ⟨_, _, _, x3⟩ := id t.t3
  have gWhole := ok_whole (P := P) (w := w) (base := base) dWhole B
  have gNumb := ok_numb (P := P) (w := w) (base := base) dNumb dWhole B
  have gBelow := ok_below (P := P) (w := w) (base := base) dBelow dWhole B
  have gSeq := ok_seq (P := P) (w := w) (base := base) dSeq B
  have gFnb := ok_fnb (P := P) (w := w) (base := base) dFnb dBelow B gBelow
  have gIsTab := ok_istab (P := P) (w := w) (base := base) dIstab dSeq dFnb gSeq gFnb
  have gChk := ok_chk (P := P) (w := w) (base := base) dChk dSeq dIstab B ct x0 gSeq gIsTab
  have gInit := ok_minit (P := P) (w := w) (base := base) fInit dChk B T gChk
  have gNeedS := ok_needS (P := P) (w := w) (base := base) dNeedS dBelow T x3 gBelow
  have gFault := ok_fault (P := P) (w := w) (base := base) dFault dSeq dFnb ct T gSeq gFnb
  have gRow := ok_row (P := P) (w := w) (base := base) dRow dFault B x2 gFault
  have gMoved := ok_moved (P := P) (w := w) (base := base) dMoved T
  have gMovedA := ok_movedA (P := P) (w := w) (base := base) dMoved T
  have gFirst := ok_first (P := P) (w := w) (base := base) dFirst B T
  have gOrbit := ok_orbit (P := P) (w := w) (base := base) dOrbit dNeedS dFirst B gNeedS gFirst
  have gCPaper := ok_cpaper (P := P) (w := w) (base := base) dCpaper dOrbit dMoved B T gOrbit gMoved
  have gUi := ok_uinit (P := P) (w := w) (base := base) fUi t.u
  have gNeedC := ok_needC (P := P) (w := w) (base := base) dNeedC dCpaper t.u iC tI bUi gUi gCPaper
  have gPower := ok_power (P := P) (w := w) (base := base) dPower dNeedS dRow dMoved B gNeedS gRow gMoved
  have gTimes := ok_times (P := P) (w := w) (base := base) dTimes dPower dNumb dMoved B x1 gPower gNumb gMovedA
  have gCounts := ok_counts (P := P) (w := w) (base := base) dCounts dNeedS dRow dSeq dNumb dTimes B x1 gNeedS gRow gSeq gNumb gTimes
  have gHarm := ok_harm (P := P) (w := w) (base := base) dHarm dNeedC dPower B T gNeedC gPower
  have gDealt := ok_dealt (P := P) (w := w) (base := base) dDealt B
  have gAny := ok_any (P := P) (w := w) (base := base) dAny B
  have gOf := ok_of (P := P) (w := w) (base := base) dOf dAny B gAny
  have gTurned := ok_turned (P := P) (w := w) (base := base) dTurned dAny B gAny
  have gMach := ok_mach (P := P) (w := w) (base := base) dMach dAny dTurned B gAny gTurned
  have gLled := ok_lled (P := P) (w := w) (base := base) dLled
  have gRows := ok_rows (P := P) (w := w) (base := base) dRows B
  have gHless := ok_hless (P := P) (w := w) (base := base) dHless dRows dLled B gRows gLled
  have gFar := ok_far (P := P) (w := w) (base := base) dFar dLled B gLled
  have hd : Hd K mg base c Pt CF CR CS CU := ⟨B, t.heard, t.u, t.t1, t.t2, t.t3, t.ex, TB⟩
  have gOdd := ok_odd (P := P) (w := w) (base := base) fOdd hd dOf dTimes dCounts dHarm mk bInit T gOf gTimes gCounts gHarm gInit
  exact ok_law t.law ⟨B, ⟨_, _, dDealt, gDealt⟩, ⟨_, _, dAny, gAny⟩, ⟨_, _, dOf, gOf⟩, ⟨_, _, dMach, gMach⟩, ⟨_, _, dHless, gHless⟩, ⟨_, _, dFar, gFar⟩, ⟨_, _, dTimes, gTimes⟩, ⟨_, _, dCounts, gCounts⟩, ⟨_, _, dHarm, gHarm⟩, ⟨_, _, dOdd, gOdd⟩, ⟨_, _, mk, bInit, gInit⟩, T⟩
end
/-- the end: from what the top has left -/
theorem walkK {l : PySem.W.OpenLaw} {q : Program} {loose : List Str} {XP : (Str → Option Value) → Heap → Prop} {YP : World → Heap → Prop} {d : DefRec} {K : Params → PySem.W.Frag} (hn : l.most = some 63) (hdf : d.params.defaults = []) (hY : ∀ (w : World) (h : Heap), YP w h → (K w.params).In h)
    (hr : ∃ d', (recsOf q).find? (fun e => e.name == ("_law_is_odd_told" : Str)) = some d')
    (F : ∀ (w : World) (mg : Str → Option Value) (fa : Addr) (h : Heap), (K w.params).In h → h.Ns mainGlobals mg → mg d.name = some (.ref fa) → ∃ (M CM CF CR CS CU c Pt : Addr) (fd : FuncData), Tp (K w.params) mg M CM CF CR CS CU c Pt fa fd) :
    PySem.W.WalkO q loose XP YP l.row.toRowW d [] (fun f vs => PySem.call f vs) := by
  refine Att.attach_callB hn hdf fun w s₀ s₁ mg mb fa o pm cd doc a vs ns G Y ho hd hcd hmg hobj hints hlen hbits hg => ?_
  have KX := hY w _ Y
  obtain ⟨M, CM, CF, CR, CS, CU, c, Pt, fd, t⟩ := F w mg fa _ KX G.T.g hmg
  obtain ⟨d', hr⟩ := hr
  obtain ⟨C, hT⟩ := PySem.W.tab_of G.T KX hr t.tab
  exact call_law (k := 12) (x := "_law_script") (sp := spLaw (K w.params) [(Pt, qOd)]) KX G.T.g G.T.b G.T.builtins G.T.nolimit hg hT t.nP C G.T.bmain hobj hints (Nat.le_trans hlen (by decide)) ⟨rfl, by decide, by decide⟩ (fun base _ _ TB => asm t TB) t.lawb
    fun H hP hS => ⟨a, ns, rfl, hS, hlen, fun p hp => by rw [List.mem_singleton.mp hp]; exact .nil hP, fun _ => rfl⟩
end K1
namespace K1
open PySem PySem.Spec PyProof.Rows L2
section
variable {K : PySem.W.Frag} {h : Heap} {mg : Str → Option Value} {x qual : Str} {st : Stmt} {ps : List Str} {f C : Addr} {oc kV doc pm cdv ct : Value} {od an : Option Addr} {osl : Array (Option Value)}
theorem df_of (X : K.In h) (G : h.Ns mainGlobals mg) (a : PySem.W.nsIn K mainGlobals x = some (some (.ref f))) (l : K.lookup f = some ⟨oc, od, .func (PySem.W.fnOf x x (defArgs st) (defBody st) (defScope st) .none kV doc pm an cdv ct), osl⟩)
    (c : PySem.W.codeIn K cdv x = true) (k : PySem.W.keepIn K (.ref f) = true)
    (b : ∀ (kV doc pm : Value) (an : Option Addr) (cdv ct : Value) (us : List Value), us.length = ps.length → bindArgs (PySem.W.fnOf x x (defArgs st) (defBody st) (defScope st) .none kV doc pm an cdv ct) ⟨us, []⟩ = pure (ps.zip us)) : ∃ f fd, Df K mg x st ps f fd :=
  ⟨f, _, ⟨fun_mk l c k, PySem.W.mg_of X G a, (fun_mk l c k).binds b⟩⟩
theorem dfc_of {cc : Addr} (X : K.In h) (G : h.Ns mainGlobals mg) (a : PySem.W.nsIn K mainGlobals x = some (some (.ref f))) (l : K.lookup f = some ⟨oc, od, .func (PySem.W.fnOf x x (defArgs st) (defBody st) (defScope st) .none kV doc pm an (.ref cc) ct), osl⟩)
    (c : PySem.W.codeIn K (.ref cc) x = true) (k : PySem.W.keepIn K (.ref f) = true)
    (b : ∀ (kV doc pm : Value) (an : Option Addr) (cdv ct : Value) (us : List Value), us.length = ps.length → bindArgs (PySem.W.fnOf x x (defArgs st) (defBody st) (defScope st) .none kV doc pm an cdv ct) ⟨us, []⟩ = pure (ps.zip us)) : ∃ f fd, Df K mg x st ps f fd ∧ FunC K x x st f fd (.ref cc) :=
  ⟨f, _, ⟨fun_mk l c k, PySem.W.mg_of X G a, (fun_mk l c k).binds b⟩, ⟨oc, od, kV, doc, pm, an, ct, osl, rfl, l, c⟩, k⟩
theorem dfF_of {T : Addr} {o1 : Value} {o2 : Option Addr} {n : Nat} {o4 : Array (Option Value)} (X : K.In h) (G : h.Ns mainGlobals mg) (a : PySem.W.nsIn K mainGlobals "first_rows" = some (some (.ref f)))
    (l : K.lookup f = some ⟨oc, od, .func (PySem.W.fnOf "first_rows" "first_rows" (defArgs sFirst) (defBody sFirst) (defScope sFirst) (.ref T) kV doc pm an cdv ct), osl⟩)
    (c : PySem.W.codeIn K cdv "first_rows" = true) (k : PySem.W.keepIn K (.ref f) = true) (lT : K.lookup T = some ⟨o1, o2, .seq #[.none, .none] n, o4⟩) : ∃ f fd, DfF K mg f fd :=
  ⟨f, _, ⟨⟨⟨oc, od, .ref T, kV, doc, pm, an, cdv, ct, osl, rfl, l, c, .inr ⟨by simp, T, _, [.none, .none], n, rfl, lT, rfl, .cons rfl (.cons rfl .nil)⟩, .inl rfl⟩, k⟩, PySem.W.mg_of X G a⟩⟩
theorem law_of {fa : Addr} (X : K.In h) (G : h.Ns mainGlobals mg) (e : mg "law" = some (.ref fa)) (a : PySem.W.nsIn K mainGlobals "law" = some (some (.ref f))) (l : K.lookup f = some ⟨oc, od, .func (PySem.W.fnOf "law" "law" (defArgs sLaw) (defBody sLaw) (defScope sLaw) .none kV doc pm an cdv ct), osl⟩)
    (c : PySem.W.codeIn K cdv "law" = true) (k : PySem.W.keepIn K (.ref f) = true) : ∃ fd, Fun K "law" "law" sLaw fa fd ∧ ∀ (s : Shared) (u : Value), BindsTo s fd ⟨[u], []⟩ [("_law_script", u)] := by
  have z := e.symm.trans (PySem.W.mg_of X G a)
  cases Option.some.inj z
  exact ⟨_, fun_mk l c k, fun s u => .of_eq rfl⟩
theorem init_of {M : Addr} (a : PySem.W.findIn K (.ref M) "__init__" = some (some (.ref f))) (i : PySem.W.isFn K (.ref f) = true) (m : PySem.W.makesIn K M = true) (kM : PySem.W.keepIn K (.ref M) = true)
    (l : K.lookup f = some ⟨oc, od, .func (PySem.W.fnOf "__init__" "Machine.__init__" (defArgs sMInit) (defBody sMInit) (defScope sMInit) .none kV doc pm an cdv ct), osl⟩) (c : PySem.W.codeIn K cdv "Machine.__init__" = true) (k : PySem.W.keepIn K (.ref f) = true) :
    ∃ f fd, Fun K "__init__" "Machine.__init__" sMInit f fd ∧ Mk K M f ∧ Binds K fd ["self", "tables"] [] :=
  ⟨f, _, fun_mk l c k, ⟨m, a, i, kM⟩, (fun_mk l c k).binds fun _ _ _ _ _ _ us hl => match us, hl with | [_, _], _ => rfl⟩
theorem ui_of {CU : Addr} (a : PySem.W.findIn K (.ref CU) "__init__" = some (some (.ref f))) (i : PySem.W.typeIn K (.ref f) = some (.type "function"))
    (l : K.lookup f = some ⟨oc, od, .func (PySem.W.fnOf "__init__" "Uncommuting.__init__" (defArgs sUInit) (defBody sUInit) (defScope sUInit) .none kV doc pm an cdv ct), osl⟩) (c : PySem.W.codeIn K cdv "Uncommuting.__init__" = true) (k : PySem.W.keepIn K (.ref f) = true) :
    ∃ f fd, Fun K "__init__" "Uncommuting.__init__" sUInit f fd ∧ PySem.W.findIn K (.ref CU) "__init__" = some (some (.ref f)) ∧ PySem.W.typeIn K (.ref f) = some (.type "function") ∧ Binds K fd ["self", "state", "one", "other"] [] :=
  ⟨f, _, fun_mk l c k, a, i, (fun_mk l c k).binds fun _ _ _ _ _ _ us hl => match us, hl with | [_, _, _, _], _ => rfl⟩
end
section
variable {K : PySem.W.Frag} {h : Heap} {mg : Str → Option Value} {cn ql nm q : Str} {C N0 N fI : Addr} {bs sub : List Value} {sn : List Str} {ab : Bool} {col : Option Bool} {dd : Option Addr} {k0 k1 k2 k3 k5 : Option Value} {oc doc pm cdv ct : Value} {od an : Option Addr} {osl : Array (Option Value)} {p1 p2 q1 q2 q3 q4 : Pos}
theorem at_of_ (X : K.In h) (G : h.Ns mainGlobals mg) (a : PySem.W.nsIn K mainGlobals cn = some (some (.ref C))) (xl : K.lookup C = some (excClassObj nm q C N bs (.ref N0 :: veT) true sn sub ab col dd k0 k1 k2 k3 k5 "ValueError.__new__"))
    (sa : PySem.W.findIn K (.ref C) "__setattr__" = some (some (.builtin "object.__setattr__"))) (ga : PySem.W.findIn K (.ref C) "__getattribute__" = some (some (.builtin "BaseException.__getattribute__"))) (gg : PySem.W.findIn K (.ref C) "__getattr__" = some none) (no : PySem.W.findIn K (.ref C) "at" = some none)
    (ic : PySem.W.findIn K (.ref C) "__init__" = some (some (.ref fI))) (tc : PySem.W.typeIn K (.ref fI) = some (.type "function")) (kc : PySem.W.keepIn K (.ref C) = true) (ec : PySem.W.subIn K (.ref C) (.type "BaseException") = some true) (ty : PySem.W.typeIn K (.ref C) = some (.type "type")) (hc : PySem.W.hasDictIn K C = true)
    (l : K.lookup fI = some ⟨oc, od, .func (PySem.W.fnOf "__init__" ql (LAt.iA p1 p2) (LAt.iB q1 q2 q3 q4) LAt.iS .none .none doc pm an cdv ct), osl⟩) (c : PySem.W.codeIn K cdv ql = true) : ∃ q b i, LAt.Txt K mg cn q b C i :=
  ⟨ql, _, fI, ⟨PySem.W.mg_of X G a, ⟨nm, q, N, bs, sn, sub, ab, col, dd, k0, k1, k2, k3, k5, xl⟩, mro_ve N0, sa, ga, gg, no, ic, tc, kc, ec, ty, hc, ⟨oc, od, doc, pm, an, cdv, ct, osl, p1, p2, q1, q2, q3, q4, l, c⟩⟩⟩
theorem state_of_ (X : K.In h) (G : h.Ns mainGlobals mg) (a : PySem.W.nsIn K mainGlobals cn = some (some (.ref C))) (xl : K.lookup C = some (excClassObj nm q C N bs keT true sn sub ab col dd k0 k1 k2 k3 k5 "LookupError.__new__"))
    (sa : PySem.W.findIn K (.ref C) "__setattr__" = some (some (.builtin "object.__setattr__"))) (ga : PySem.W.findIn K (.ref C) "__getattribute__" = some (some (.builtin "BaseException.__getattribute__"))) (gg : PySem.W.findIn K (.ref C) "__getattr__" = some none) (no : PySem.W.findIn K (.ref C) "state" = some none)
    (ic : PySem.W.findIn K (.ref C) "__init__" = some (some (.ref fI))) (tc : PySem.W.typeIn K (.ref fI) = some (.type "function")) (kc : PySem.W.keepIn K (.ref C) = true) (ec : PySem.W.subIn K (.ref C) (.type "BaseException") = some true) (ty : PySem.W.typeIn K (.ref C) = some (.type "type")) (hc : PySem.W.hasDictIn K C = true)
    (l : K.lookup fI = some ⟨oc, od, .func (PySem.W.fnOf "__init__" ql (LState.iA p1 p2) (LState.iB q1 q2 q3 q4) LState.iS .none .none doc pm an cdv ct), osl⟩) (c : PySem.W.codeIn K cdv ql = true) : ∃ q b i, LState.Txt K mg cn q b C i :=
  ⟨ql, _, fI, ⟨PySem.W.mg_of X G a, ⟨nm, q, N, bs, sn, sub, ab, col, dd, k0, k1, k2, k3, k5, xl⟩, mro_ke, sa, ga, gg, no, ic, tc, kc, ec, ty, hc, ⟨oc, od, doc, pm, an, cdv, ct, osl, p1, p2, q1, q2, q3, q4, l, c⟩⟩⟩
theorem un_of (X : K.In h) (G : h.Ns mainGlobals mg) (a : PySem.W.nsIn K mainGlobals "Uncommuting" = some (some (.ref C))) (xl : K.lookup C = some (excClassObj nm q C N bs (.ref N0 :: veT) true sn sub ab col dd k0 k1 k2 k3 k5 "ValueError.__new__")) (rv : PySem.HandSPX.refsVE (.ref N0 :: veT) = true)
    (sa : PySem.W.findIn K (.ref C) "__setattr__" = some (some (.builtin "object.__setattr__"))) (ga : PySem.W.findIn K (.ref C) "__getattribute__" = some (some (.builtin "BaseException.__getattribute__"))) (gg : PySem.W.findIn K (.ref C) "__getattr__" = some none)
    (n1 : PySem.W.findIn K (.ref C) "state" = some none) (n2 : PySem.W.findIn K (.ref C) "one" = some none) (n3 : PySem.W.findIn K (.ref C) "other" = some none)
    (kc : PySem.W.keepIn K (.ref C) = true) (ec : PySem.W.subIn K (.ref C) (.type "BaseException") = some true) (ty : PySem.W.typeIn K (.ref C) = some (.type "type")) (hc : PySem.W.hasDictIn K C = true) : UnC K mg C :=
  ⟨⟨⟨nm, q, N, bs, _, sn, sub, ab, col, dd, k0, k1, k2, k3, k5, xl, rv⟩, sa, ec, ty, kc⟩, n1, n2, n3, ⟨ga, gg, ec, hc⟩, PySem.W.mg_of X G a⟩
end
theorem ct_of {K : PySem.W.Frag} {h : Heap} {mg : Str → Option Value} {t1 t2 t3 : Tok} (X : K.In h) (G : h.Ns mainGlobals mg) (a : PySem.W.nsIn K mainGlobals "MOST_TABLES" = some (some (.int 8 t1))) (b : PySem.W.nsIn K mainGlobals "MOST_STATES" = some (some (.int 12 t2))) (c : PySem.W.nsIn K mainGlobals "MOST_ROW" = some (some (.int 10000 t3))) : Ct mg :=
  ⟨⟨_, PySem.W.mg_of X G a⟩, ⟨_, PySem.W.mg_of X G b⟩, ⟨_, PySem.W.mg_of X G c⟩⟩
theorem bt_of {K : PySem.W.Frag} {h : Heap} {mg : Str → Option Value} (X : K.In h) (G : h.Ns mainGlobals mg) (z : ∀ x ∈ ([("isinstance" : Str), "int", "bool", "list", "tuple", "len", "enumerate", "range", "sorted", "set", "repr", "abs", "min", "max", "all", "zip"]), PySem.W.nsIn K mainGlobals x = some none) (l : PySem.W.nsIn K mainGlobals "lcm" = some (some (.builtin "math.lcm"))) : Bt mg := by
  have n := fun x hx => PySem.W.mg_none_of X G (z x hx)
  exact ⟨n _ (by decide), n _ (by decide), n _ (by decide), n _ (by decide), n _ (by decide), n _ (by decide), n _ (by decide), n _ (by decide), n _ (by decide), n _ (by decide), n _ (by decide), n _ (by decide), n _ (by decide), n _ (by decide), n _ (by decide), n _ (by decide), PySem.W.mg_of X G l⟩
theorem tab_mk {K : PySem.W.Frag} {x : Str} {f c Pt : Addr} {oc o1 : Value} {od o2 : Option Addr} {fd : FuncData} {osl o4 : Array (Option Value)} {vs : Array Value} (a : PySem.W.nsIn K mainGlobals x = some (some (.ref f))) (l : K.lookup f = some ⟨oc, od, .func fd, osl⟩) (hc : fd.code = .ref c)
    (lc : K.lookup c = some ⟨o1, o2, .fields vs, o4⟩) (hv : (vs[11]? : Option Value) = some (.ref Pt)) : PySem.W.tabIn K x = some (c, Pt) := by
  unfold PySem.W.tabIn
  rw [a]
  dsimp only
  rw [l]
  dsimp only
  rw [hc]
  dsimp only
  rw [lc]
  dsimp only
  rw [hv]
/-- the facts of the head, by the words that k_is answers -/
theorem tp_of {K : PySem.W.Frag} {h : Heap} {mg : Str → Option Value} {fa M CM CF CR CS CU c Pt fN : Addr} {oc kV doc pm ct o1 : Value} {od an o2 : Option Addr} {osl o4 : Array (Option Value)} {vs : Array Value} (X : K.In h) (G : h.Ns mainGlobals mg)
    (B : Bt mg) (c_ : Ct mg)
    (whole : ∃ f fd, Df K mg "is_whole" sWhole ["value"] f fd)
    (numb : ∃ f fd, Df K mg "is_number" sNumb ["value"] f fd)
    (below : ∃ f fd, Df K mg "is_below" sBelow ["value", "limit"] f fd)
    (seq : ∃ f fd, Df K mg "is_sequence" sSeq ["value", "least", "most"] f fd)
    (fnb : ∃ f fd, Df K mg "first_not_below" sFnb ["items", "limit"] f fd)
    (istab : ∃ f fd, Df K mg "is_table" sIsTab ["value", "states"] f fd)
    (chk : ∃ f fd, Df K mg "checked_tables" sChk ["value"] f fd)
    (needS : ∃ f fd, Df K mg "need_state" sNeedS ["machine", "state"] f fd)
    (fault : ∃ f fd, Df K mg "row_fault" sFault ["machine", "value"] f fd)
    (row : ∃ f fd, Df K mg "check_row" sRow ["machine", "value"] f fd)
    (moved : ∃ f fd, Df K mg "moved" sMoved ["machine", "state", "row"] f fd)
    (first : ∃ f fd, DfF K mg f fd)
    (orbit : ∃ f fd, Df K mg "orbit" sOrbit ["machine", "state"] f fd)
    (cpaper : ∃ f fd, Df K mg "commuting_paper" sCPaper ["machine", "state"] f fd)
    (needC : ∃ f fd, Df K mg "need_commuting" sNeedC ["machine", "state"] f fd)
    (power : ∃ f fd, Df K mg "power_of" sPower ["machine", "state", "row"] f fd)
    (times : ∃ f fd, Df K mg "led_times" sTimes ["machine", "state", "row", "times"] f fd)
    (counts : ∃ f fd, Df K mg "led_counts" sCounts ["machine", "first", "deeds", "counts"] f fd)
    (harm : ∃ f fd, Df K mg "harmless_period" sHarm ["machine", "first"] f fd)
    (dealt : ∃ f fd, Df K mg "_law_dealt" sDealt ["_law_script"] f fd)
    (any : ∃ f fd, Df K mg "_law_any" sAny ["_law_deal", "_law_bound"] f fd)
    (of : ∃ f fd, Df K mg "_law_of" sOf ["_law_deal", "_law_some"] f fd)
    (turned : ∃ f fd, Df K mg "_law_turned" sTurned ["_law_deal", "_law_tables", "_law_many"] f fd)
    (mach : ∃ f fd, Df K mg "_law_machine" sMach ["_law_deal"] f fd)
    (lled : ∃ f fd, Df K mg "_law_led" sLLed ["_law_tables", "_law_state", "_law_row"] f fd)
    (rows : ∃ f fd, Df K mg "_law_rows" sRows ["_law_tables", "_law_first"] f fd)
    (hless : ∃ f fd, Df K mg "_law_harmless" sHarmless ["_law_tables", "_law_first", "_law_most"] f fd)
    (far : ∃ f fd, Df K mg "_law_far" sFar ["_law_tables", "_law_state", "_law_row", "_law_times"] f fd)
    (heard : ∃ f fd, Df K mg "_law_heard" sHeard ["_law_work"] f fd)
    (law : ∃ fd, Fun K "law" "law" sLaw fa fd ∧ ∀ (s : Shared) (u : Value), BindsTo s fd ⟨[u], []⟩ [("_law_script", u)])
    (aN : PySem.W.nsIn K mainGlobals "_law_is_odd_told" = some (some (.ref fN))) (lN : K.lookup fN = some ⟨oc, od, .func (PySem.W.fnOf "_law_is_odd_told" "_law_is_odd_told" (defArgs sOdd) (defBody sOdd) (defScope sOdd) .none kV doc pm an (.ref c) ct), osl⟩)
    (cN : PySem.W.codeIn K (.ref c) "_law_is_odd_told" = true) (kN : PySem.W.keepIn K (.ref fN) = true) (lc : K.lookup c = some ⟨o1, o2, .fields vs, o4⟩) (hv : (vs[11]? : Option Value) = some (.ref Pt)) (nP : K.lookup Pt = Option.none)
    (aM : PySem.W.nsIn K mainGlobals "Machine" = some (some (.ref M))) (pg : PySem.W.plainGet K M Str.empty = true) (hd : PySem.W.hasDictIn K M = true) (po : PySem.W.plainOver K M = true) (sa : PySem.W.findIn K (.ref M) "__setattr__" = some (some (.builtin "object.__setattr__")))
    (n1 : PySem.W.findIn K (.ref M) "tables" = some Option.none) (n2 : PySem.W.findIn K (.ref M) "deeds" = some Option.none) (n3 : PySem.W.findIn K (.ref M) "states" = some Option.none)
    (ca : PySem.W.findIn K (.ref M) "__class__" = some (some (.builtin "object.__class__"))) (sp : PySem.W.specialIn K (.builtin "object.__class__") "__get__" = some (some (.builtin "getset_descriptor.__get__"))) (tk : PySem.W.takesIn K (.builtin "object.__class__") = some true) (mo : PySem.W.mroIn K M (.type "object") = some true)
    (init : ∃ f fd, Fun K "__init__" "Machine.__init__" sMInit f fd ∧ Mk K M f ∧ Binds K fd ["self", "tables"] [])
    (aCM : PySem.W.nsIn K mainGlobals "BadMachine" = some (some (.ref CM))) (aCF : PySem.W.nsIn K mainGlobals "Refused" = some (some (.ref CF))) (aCR : PySem.W.nsIn K mainGlobals "BadRow" = some (some (.ref CR))) (aCS : PySem.W.nsIn K mainGlobals "NoState" = some (some (.ref CS))) (aCU : PySem.W.nsIn K mainGlobals "Uncommuting" = some (some (.ref CU)))
    (t0 : ∃ q b i, LAt.Txt K mg "BadMachine" q b CM i) (t1 : ∃ q b i, LAt.Txt K mg "Refused" q b CF i) (t2 : ∃ q b i, LAt.Txt K mg "BadRow" q b CR i) (t3 : ∃ q b i, LState.Txt K mg "NoState" q b CS i) (u : UnC K mg CU)
    (ui : ∃ f fd, Fun K "__init__" "Uncommuting.__init__" sUInit f fd ∧ PySem.W.findIn K (.ref CU) "__init__" = some (some (.ref f)) ∧ PySem.W.typeIn K (.ref f) = some (.type "function") ∧ Binds K fd ["self", "state", "one", "other"] [])
    (ex : Exm K CF CR CS CU) : ∃ (M CM CF CR CS CU c Pt : Addr) (fd : FuncData), Tp K mg M CM CF CR CS CU c Pt fa fd := by
  obtain ⟨fd, l1, l2⟩ := law
  refine ⟨M, CM, CF, CR, CS, CU, c, Pt, fd, ⟨B, c_, whole, numb, below, seq, fnb, istab, chk, needS, fault, row, moved, first, orbit, cpaper, needC, power, times, counts, harm, dealt, any, of, turned, mach, lled, rows, hless, far, heard, ?_, l1, l2, init, ⟨⟨pg, hd, po, sa⟩, n1, n2, n3, PySem.W.mg_of X G aM, ca, sp, tk, mo⟩, t0, t1, t2, t3, u, ui, ex, tab_mk aN lN rfl lc hv, nP⟩⟩
  exact dfc_of X G aN lN cN kN fun _ _ _ _ _ _ us hl => match us, hl with | [_, _, _, _], _ => rfl
end K1
open PySem PySem.W PyProof.Rows
set_option maxRecDepth 100000 in
set_option maxHeartbeats 0 in
theorem PySem.Challenge.cw_houseslessties_k19_counts_that_do_no_har_holds : PySem.Challenge.rw_houseslessties_k19_counts_that_do_no_har.Holds := by
  w_on; o_law; k_head; (case hw => w_witness2)
  k_fill
  refine K1.walkK (l := PySem.Challenge.rw_houseslessties_k19_counts_that_do_no_har) rfl rfl (fun w h Y => PySem.W.km_in_of Y) ?hr ?F
  case hr => exact ⟨_, rfl⟩
  case F =>
    intro w mg fa h KX G hmg
    refine' K1.tp_of KX G ?B ?c_ ?zwhole ?znumb ?zbelow ?zseq ?zfnb ?zistab ?zchk ?zneedS ?zfault ?zrow ?zmoved ?zfirst ?zorbit ?zcpaper ?zneedC ?zpower ?ztimes ?zcounts ?zharm ?zdealt ?zany ?zof ?zturned ?zmach ?zlled ?zrows ?zhless ?zfar ?zheard ?law ?aN ?lN ?cN ?kN ?lc ?hv ?nP ?aM ?pg ?hd ?po ?sa ?n1 ?n2 ?n3 ?ca ?sp ?tk ?mo ?init ?aCM ?aCF ?aCR ?aCS ?aCU ?t0 ?t1 ?t2 ?t3 ?u ?ui ?ex
    case B =>
      refine K1.bt_of KX G (fun x hx => ?_) ?lc_
      · simp only [List.mem_cons, List.mem_nil_iff, or_false] at hx
        rcases hx with rfl | rfl | rfl | rfl | rfl | rfl | rfl | rfl | rfl | rfl | rfl | rfl | rfl | rfl | rfl | rfl <;> k_is
      · k_is
    case c_ => refine' K1.ct_of KX G ?a_1 ?b_1 ?c_1; (case a_1 => k_is); (case b_1 => k_is); (case c_1 => k_is)
    case zwhole =>
      (refine' K1.df_of (by assumption) (by assumption) ?a_2 ?l_2 ?c_2 ?k_2 ?b_2; (case a_2 => k_is); (case l_2 => k_is); (case c_2 => k_is); (case k_2 => k_is))
      case b_2 => exact fun _ _ _ _ _ _ us hl => match us, hl with | [_], _ => rfl
    case znumb =>
      (refine' K1.df_of (by assumption) (by assumption) ?a_3 ?l_3 ?c_3 ?k_3 ?b_3; (case a_3 => k_is); (case l_3 => k_is); (case c_3 => k_is); (case k_3 => k_is))
      case b_3 => exact fun _ _ _ _ _ _ us hl => match us, hl with | [_], _ => rfl
    case zbelow =>
      (refine' K1.df_of (by assumption) (by assumption) ?a_4 ?l_4 ?c_4 ?k_4 ?b_4; (case a_4 => k_is); (case l_4 => k_is); (case c_4 => k_is); (case k_4 => k_is))
      case b_4 => exact fun _ _ _ _ _ _ us hl => match us, hl with | [_, _], _ => rfl
    case zseq =>
      (refine' K1.df_of (by assumption) (by assumption) ?a_5 ?l_5 ?c_5 ?k_5 ?b_5; (case a_5 => k_is); (case l_5 => k_is); (case c_5 => k_is); (case k_5 => k_is))
      case b_5 => exact fun _ _ _ _ _ _ us hl => match us, hl with | [_, _, _], _ => rfl
    case zfnb =>
      (refine' K1.df_of (by assumption) (by assumption) ?a_6 ?l_6 ?c_6 ?k_6 ?b_6; (case a_6 => k_is); (case l_6 => k_is); (case c_6 => k_is); (case k_6 => k_is))
      case b_6 => exact fun _ _ _ _ _ _ us hl => match us, hl with | [_, _], _ => rfl
    case zistab =>
      (refine' K1.df_of (by assumption) (by assumption) ?a_7 ?l_7 ?c_7 ?k_7 ?b_7; (case a_7 => k_is); (case l_7 => k_is); (case c_7 => k_is); (case k_7 => k_is))
      case b_7 => exact fun _ _ _ _ _ _ us hl => match us, hl with | [_, _], _ => rfl
    case zchk =>
      (refine' K1.df_of (by assumption) (by assumption) ?a_8 ?l_8 ?c_8 ?k_8 ?b_8; (case a_8 => k_is); (case l_8 => k_is); (case c_8 => k_is); (case k_8 => k_is))
      case b_8 => exact fun _ _ _ _ _ _ us hl => match us, hl with | [_], _ => rfl
    case zneedS =>
      (refine' K1.df_of (by assumption) (by assumption) ?a_9 ?l_9 ?c_9 ?k_9 ?b_9; (case a_9 => k_is); (case l_9 => k_is); (case c_9 => k_is); (case k_9 => k_is))
      case b_9 => exact fun _ _ _ _ _ _ us hl => match us, hl with | [_, _], _ => rfl
    case zfault =>
      (refine' K1.df_of (by assumption) (by assumption) ?a_10 ?l_10 ?c_10 ?k_10 ?b_10; (case a_10 => k_is); (case l_10 => k_is); (case c_10 => k_is); (case k_10 => k_is))
      case b_10 => exact fun _ _ _ _ _ _ us hl => match us, hl with | [_, _], _ => rfl
    case zrow =>
      (refine' K1.df_of (by assumption) (by assumption) ?a_11 ?l_11 ?c_11 ?k_11 ?b_11; (case a_11 => k_is); (case l_11 => k_is); (case c_11 => k_is); (case k_11 => k_is))
      case b_11 => exact fun _ _ _ _ _ _ us hl => match us, hl with | [_, _], _ => rfl
    case zmoved =>
      (refine' K1.df_of (by assumption) (by assumption) ?a_12 ?l_12 ?c_12 ?k_12 ?b_12; (case a_12 => k_is); (case l_12 => k_is); (case c_12 => k_is); (case k_12 => k_is))
      case b_12 => exact fun _ _ _ _ _ _ us hl => match us, hl with | [_, _, _], _ => rfl
    case zfirst =>
      (refine' K1.dfF_of (by assumption) (by assumption) ?a_13 ?l_13 ?c_13 ?k_13 ?lT_13; (case a_13 => k_is); (case l_13 => k_is); (case c_13 => k_is); (case k_13 => k_is); (case lT_13 => k_is))
    case zorbit =>
      (refine' K1.df_of (by assumption) (by assumption) ?a_14 ?l_14 ?c_14 ?k_14 ?b_14; (case a_14 => k_is); (case l_14 => k_is); (case c_14 => k_is); (case k_14 => k_is))
      case b_14 => exact fun _ _ _ _ _ _ us hl => match us, hl with | [_, _], _ => rfl
    case zcpaper =>
      (refine' K1.df_of (by assumption) (by assumption) ?a_15 ?l_15 ?c_15 ?k_15 ?b_15; (case a_15 => k_is); (case l_15 => k_is); (case c_15 => k_is); (case k_15 => k_is))
      case b_15 => exact fun _ _ _ _ _ _ us hl => match us, hl with | [_, _], _ => rfl
    case zneedC =>
      (refine' K1.df_of (by assumption) (by assumption) ?a_16 ?l_16 ?c_16 ?k_16 ?b_16; (case a_16 => k_is); (case l_16 => k_is); (case c_16 => k_is); (case k_16 => k_is))
      case b_16 => exact fun _ _ _ _ _ _ us hl => match us, hl with | [_, _], _ => rfl
    case zpower =>
      (refine' K1.df_of (by assumption) (by assumption) ?a_17 ?l_17 ?c_17 ?k_17 ?b_17; (case a_17 => k_is); (case l_17 => k_is); (case c_17 => k_is); (case k_17 => k_is))
      case b_17 => exact fun _ _ _ _ _ _ us hl => match us, hl with | [_, _, _], _ => rfl
    case ztimes =>
      (refine' K1.df_of (by assumption) (by assumption) ?a_18 ?l_18 ?c_18 ?k_18 ?b_18; (case a_18 => k_is); (case l_18 => k_is); (case c_18 => k_is); (case k_18 => k_is))
      case b_18 => exact fun _ _ _ _ _ _ us hl => match us, hl with | [_, _, _, _], _ => rfl
    case zcounts =>
      (refine' K1.df_of (by assumption) (by assumption) ?a_19 ?l_19 ?c_19 ?k_19 ?b_19; (case a_19 => k_is); (case l_19 => k_is); (case c_19 => k_is); (case k_19 => k_is))
      case b_19 => exact fun _ _ _ _ _ _ us hl => match us, hl with | [_, _, _, _], _ => rfl
    case zharm =>
      (refine' K1.df_of (by assumption) (by assumption) ?a_20 ?l_20 ?c_20 ?k_20 ?b_20; (case a_20 => k_is); (case l_20 => k_is); (case c_20 => k_is); (case k_20 => k_is))
      case b_20 => exact fun _ _ _ _ _ _ us hl => match us, hl with | [_, _], _ => rfl
    case zdealt =>
      (refine' K1.df_of (by assumption) (by assumption) ?a_21 ?l_21 ?c_21 ?k_21 ?b_21; (case a_21 => k_is); (case l_21 => k_is); (case c_21 => k_is); (case k_21 => k_is))
      case b_21 => exact fun _ _ _ _ _ _ us hl => match us, hl with | [_], _ => rfl
    case zany =>
      (refine' K1.df_of (by assumption) (by assumption) ?a_22 ?l_22 ?c_22 ?k_22 ?b_22; (case a_22 => k_is); (case l_22 => k_is); (case c_22 => k_is); (case k_22 => k_is))
      case b_22 => exact fun _ _ _ _ _ _ us hl => match us, hl with | [_, _], _ => rfl
    case zof =>
      (refine' K1.df_of (by assumption) (by assumption) ?a_23 ?l_23 ?c_23 ?k_23 ?b_23; (case a_23 => k_is); (case l_23 => k_is); (case c_23 => k_is); (case k_23 => k_is))
      case b_23 => exact fun _ _ _ _ _ _ us hl => match us, hl with | [_, _], _ => rfl
    case zturned =>
      (refine' K1.df_of (by assumption) (by assumption) ?a_24 ?l_24 ?c_24 ?k_24 ?b_24; (case a_24 => k_is); (case l_24 => k_is); (case c_24 => k_is); (case k_24 => k_is))
      case b_24 => exact fun _ _ _ _ _ _ us hl => match us, hl with | [_, _, _], _ => rfl
    case zmach =>
      (refine' K1.df_of (by assumption) (by assumption) ?a_25 ?l_25 ?c_25 ?k_25 ?b_25; (case a_25 => k_is); (case l_25 => k_is); (case c_25 => k_is); (case k_25 => k_is))
      case b_25 => exact fun _ _ _ _ _ _ us hl => match us, hl with | [_], _ => rfl
    case zlled =>
      (refine' K1.df_of (by assumption) (by assumption) ?a_26 ?l_26 ?c_26 ?k_26 ?b_26; (case a_26 => k_is); (case l_26 => k_is); (case c_26 => k_is); (case k_26 => k_is))
      case b_26 => exact fun _ _ _ _ _ _ us hl => match us, hl with | [_, _, _], _ => rfl
    case zrows =>
      (refine' K1.df_of (by assumption) (by assumption) ?a_27 ?l_27 ?c_27 ?k_27 ?b_27; (case a_27 => k_is); (case l_27 => k_is); (case c_27 => k_is); (case k_27 => k_is))
      case b_27 => exact fun _ _ _ _ _ _ us hl => match us, hl with | [_, _], _ => rfl
    case zhless =>
      (refine' K1.df_of (by assumption) (by assumption) ?a_28 ?l_28 ?c_28 ?k_28 ?b_28; (case a_28 => k_is); (case l_28 => k_is); (case c_28 => k_is); (case k_28 => k_is))
      case b_28 => exact fun _ _ _ _ _ _ us hl => match us, hl with | [_, _, _], _ => rfl
    case zfar =>
      (refine' K1.df_of (by assumption) (by assumption) ?a_29 ?l_29 ?c_29 ?k_29 ?b_29; (case a_29 => k_is); (case l_29 => k_is); (case c_29 => k_is); (case k_29 => k_is))
      case b_29 => exact fun _ _ _ _ _ _ us hl => match us, hl with | [_, _, _, _], _ => rfl
    case zheard =>
      (refine' K1.df_of (by assumption) (by assumption) ?a_30 ?l_30 ?c_30 ?k_30 ?b_30; (case a_30 => k_is); (case l_30 => k_is); (case c_30 => k_is); (case k_30 => k_is))
      case b_30 => exact fun _ _ _ _ _ _ us hl => match us, hl with | [_], _ => rfl
    case law => refine' K1.law_of KX G hmg ?a_64 ?l_64 ?c_64 ?k_64; (case a_64 => k_is); (case l_64 => k_is); (case c_64 => k_is); (case k_64 => k_is)
    (case aN => k_is); (case lN => k_is); (case cN => k_is); (case kN => k_is); (case lc => k_is); (case hv => rfl); (case nP => kernel_rfl)
    (case aM => k_is); (case pg => k_is); (case hd => k_is); (case po => k_is); (case sa => k_is); (case n1 => k_is); (case n2 => k_is); (case n3 => k_is); (case ca => k_is); (case sp => k_is); (case tk => k_is); (case mo => k_is)
    case init => refine' K1.init_of ?a_65 ?i_65 ?m_65 ?kM_65 ?l_65 ?c_65 ?k_65; (case a_65 => k_is); (case i_65 => k_is); (case m_65 => k_is); (case kM_65 => k_is); (case l_65 => k_is); (case c_65 => k_is); (case k_65 => k_is)
    (case aCM => k_is); (case aCF => k_is); (case aCR => k_is); (case aCS => k_is); (case aCU => k_is)
    case t0 => (refine' K1.at_of_ (by assumption) (by assumption) ?a_66 ?xl_66 ?sa_66 ?ga_66 ?gg_66 ?no_66 ?ic_66 ?tc_66 ?kc_66 ?ec_66 ?ty_66 ?hc_66 ?l_66 ?c_66; (case a_66 => k_is); (case xl_66 => k_is); (case sa_66 => k_is); (case ga_66 => k_is); (case gg_66 => k_is); (case no_66 => k_is); (case ic_66 => k_is); (case tc_66 => k_is); (case kc_66 => k_is); (case ec_66 => k_is); (case ty_66 => k_is); (case hc_66 => k_is); (case l_66 => k_is); (case c_66 => k_is))
    case t1 => (refine' K1.at_of_ (by assumption) (by assumption) ?a_67 ?xl_67 ?sa_67 ?ga_67 ?gg_67 ?no_67 ?ic_67 ?tc_67 ?kc_67 ?ec_67 ?ty_67 ?hc_67 ?l_67 ?c_67; (case a_67 => k_is); (case xl_67 => k_is); (case sa_67 => k_is); (case ga_67 => k_is); (case gg_67 => k_is); (case no_67 => k_is); (case ic_67 => k_is); (case tc_67 => k_is); (case kc_67 => k_is); (case ec_67 => k_is); (case ty_67 => k_is); (case hc_67 => k_is); (case l_67 => k_is); (case c_67 => k_is))
    case t2 => (refine' K1.at_of_ (by assumption) (by assumption) ?a_68 ?xl_68 ?sa_68 ?ga_68 ?gg_68 ?no_68 ?ic_68 ?tc_68 ?kc_68 ?ec_68 ?ty_68 ?hc_68 ?l_68 ?c_68; (case a_68 => k_is); (case xl_68 => k_is); (case sa_68 => k_is); (case ga_68 => k_is); (case gg_68 => k_is); (case no_68 => k_is); (case ic_68 => k_is); (case tc_68 => k_is); (case kc_68 => k_is); (case ec_68 => k_is); (case ty_68 => k_is); (case hc_68 => k_is); (case l_68 => k_is); (case c_68 => k_is))
    case t3 => (refine' K1.state_of_ (by assumption) (by assumption) ?a_69 ?xl_69 ?sa_69 ?ga_69 ?gg_69 ?no_69 ?ic_69 ?tc_69 ?kc_69 ?ec_69 ?ty_69 ?hc_69 ?l_69 ?c_69; (case a_69 => k_is); (case xl_69 => k_is); (case sa_69 => k_is); (case ga_69 => k_is); (case gg_69 => k_is); (case no_69 => k_is); (case ic_69 => k_is); (case tc_69 => k_is); (case kc_69 => k_is); (case ec_69 => k_is); (case ty_69 => k_is); (case hc_69 => k_is); (case l_69 => k_is); (case c_69 => k_is))
    case u => (refine' K1.un_of (by assumption) (by assumption) ?a_70 ?xl_70 ?rv_70 ?sa_70 ?ga_70 ?gg_70 ?n1_70 ?n2_70 ?n3_70 ?kc_70 ?ec_70 ?ty_70 ?hc_70; (case a_70 => k_is); (case xl_70 => k_is); (case rv_70 => rfl); (case sa_70 => k_is); (case ga_70 => k_is); (case gg_70 => k_is); (case n1_70 => k_is); (case n2_70 => k_is); (case n3_70 => k_is); (case kc_70 => k_is); (case ec_70 => k_is); (case ty_70 => k_is); (case hc_70 => k_is))
    case ui => refine' K1.ui_of ?a_71 ?i_71 ?l_71 ?c_71 ?k_71; (case a_71 => k_is); (case i_71 => k_is); (case l_71 => k_is); (case c_71 => k_is); (case k_71 => k_is)
    case ex =>
      refine' ⟨?e1, ?e2, ?e3, ?e4, ?e5, ?e6, ?e7, ?e8, ?e9, ?e10⟩
      all_goals first | k_is | kernel_rfl
